/- Widths that are asked for, and the greater one and the lesser one of two numbers: contracts. No conditions beyond the ranges of the kinds. -/
import Derived.Test.YtkajcofpdlicaaaRwf
set_option linter.unusedSimpArgs false
set_option linter.unusedVariables false
namespace Go.Proofs.Ytkajcofpdlicaaa
open Go.Sx Go.RowKit

noncomputable def ILg  : List (FuncId × Func × (Nat → LM)) := [
  ]
theorem ILg_ok  : InlsOk Try.prog ILg := trivial
theorem x_areWidths (m n : Nat) (l : List Int) (cap : Int) (h1 : n ≤ 1048576) (h3 : n ≤ m) (h4 : l.length = m) : Fex true TT (inlN true TT C0 (lookI ILg) 4) C0 (fun _ => .inv (lmIn 7 1 200 n l)) Try.f131 [.a (.c (.slc 0 0 0 1 n cap))] [.cells false 2 [.run [.i64] m l]] (fun lv _ => leL lv (.a (.c (.bool (inB 1 200 n l))))) := by
  refine Go.Sx.by_eq (q := True ∧ True ∧ True ∧ True ∧ (∃ (x : Nat), (x ≤ n ∧ ∀ (i : Nat), i < x → (1 : Int) ≤ List.getD l i (0 : Int) ∧ List.getD l i (0 : Int) ≤ (200 : Int)) ∧ (Go.Sx.Cel.slc (0 : Nat) (0 : Nat) (0 : Int) (1 : Nat) (↑n : Int) cap = Go.Sx.Cel.slc (0 : Nat) (0 : Nat) (0 : Int) (1 : Nat) (↑n : Int) cap ∧ Go.Sx.Cel.val Go.undef = Go.Sx.Cel.val Go.undef ∧ True ∧ Go.Sx.Cel.val Go.undef = Go.Sx.Cel.val Go.undef ∧ True ∧ Go.Sx.Cel.slc (0 : Nat) (0 : Nat) (0 : Int) (1 : Nat) (↑n : Int) cap = Go.Sx.Cel.slc (0 : Nat) (0 : Nat) (0 : Int) (1 : Nat) (↑n : Int) cap ∧ (Go.IntKind.i64 = Go.IntKind.i64 ∧ (↑n : Int) = (↑n : Int)) ∧ (Go.IntKind.i64 = Go.IntKind.i64 ∧ (0 : Int) = (↑x : Int)) ∧ True ∧ True ∧ True ∧ True ∧ True ∧ True ∧ True ∧ True ∧ True ∧ True ∧ True) ∧ (Bool.false = Bool.false ∧ (2 : Nat) = (2 : Nat) ∧ ([Go.Sx.EK.i64] = [Go.Sx.EK.i64] ∧ m = m ∧ l = l) ∧ True) ∧ True) ∧ ∀ (x : Nat), (x ≤ n ∧ ∀ (i : Nat), i < x → (1 : Int) ≤ List.getD l i (0 : Int) ∧ List.getD l i (0 : Int) ≤ (200 : Int)) → True ∧ (Decidable.decide ((↑x : Int) < (↑n : Int)) = Bool.true → ((0 : Int) ≤ (↑x : Int) ∧ (↑x : Int) < (↑n : Int)) ∧ ((0 : Int) ≤ (0 : Int) + (↑x : Int) ∧ Int.toNat ((0 : Int) + (↑x : Int)) < m) ∧ True ∧ True ∧ True ∧ True ∧ (Decidable.decide (List.getD l (Int.toNat ((0 : Int) + (↑x : Int))) (0 : Int) < (1 : Int)) = Bool.false → True ∧ True ∧ True ∧ (Decidable.decide ((200 : Int) < List.getD l (Int.toNat ((0 : Int) + (↑x : Int))) (0 : Int)) = Bool.true → True ∧ inB (1 : Int) (200 : Int) n l = Bool.false) ∧ (Decidable.decide ((200 : Int) < List.getD l (Int.toNat ((0 : Int) + (↑x : Int))) (0 : Int)) = Bool.false → ((-9223372036854775808 : Int) ≤ (↑x : Int) + (1 : Int) ∧ (↑x : Int) + (1 : Int) ≤ (9223372036854775807 : Int)) ∧ True ∧ ∃ (y : Nat), (y ≤ n ∧ ∀ (i : Nat), i < y → (1 : Int) ≤ List.getD l i (0 : Int) ∧ List.getD l i (0 : Int) ≤ (200 : Int)) ∧ n - y < n - x ∧ (Go.Sx.Cel.slc (0 : Nat) (0 : Nat) (0 : Int) (1 : Nat) (↑n : Int) cap = Go.Sx.Cel.slc (0 : Nat) (0 : Nat) (0 : Int) (1 : Nat) (↑n : Int) cap ∧ Go.Sx.Cel.val Go.undef = Go.Sx.Cel.val Go.undef ∧ True ∧ Go.Sx.Cel.val Go.undef = Go.Sx.Cel.val Go.undef ∧ True ∧ Go.Sx.Cel.slc (0 : Nat) (0 : Nat) (0 : Int) (1 : Nat) (↑n : Int) cap = Go.Sx.Cel.slc (0 : Nat) (0 : Nat) (0 : Int) (1 : Nat) (↑n : Int) cap ∧ (Go.IntKind.i64 = Go.IntKind.i64 ∧ (↑n : Int) = (↑n : Int)) ∧ (Go.IntKind.i64 = Go.IntKind.i64 ∧ (↑x : Int) + (1 : Int) = (↑y : Int)) ∧ True ∧ True ∧ True ∧ True ∧ True ∧ True ∧ True ∧ True ∧ True ∧ True ∧ True) ∧ (Bool.false = Bool.false ∧ (2 : Nat) = (2 : Nat) ∧ ([Go.Sx.EK.i64] = [Go.Sx.EK.i64] ∧ m = m ∧ l = l) ∧ True) ∧ True)) ∧ (Decidable.decide (List.getD l (Int.toNat ((0 : Int) + (↑x : Int))) (0 : Int) < (1 : Int)) = !Bool.false → True ∧ True ∧ inB (1 : Int) (200 : Int) n l = Bool.false)) ∧ (Decidable.decide ((↑x : Int) < (↑n : Int)) = Bool.false → True ∧ inB (1 : Int) (200 : Int) n l = Bool.true)) (by kernel_rfl) ?_
  simp only [true_and, and_true, and_self, decide_eq_true_eq, decide_eq_false_iff_not, Bool.not_eq_true', Bool.not_eq_false', Bool.not_true, Bool.not_false, beq_iff_eq, beq_eq_false_iff_ne, bne_iff_ne, bne_eq_false_iff_eq, ne_eq, not_true_eq_false, not_false_eq_true, false_implies, true_implies, implies_true, forall_const, exists_const, ↓reduceIte, Int.reduceEq, Int.toNat_natCast, Bool.false_eq_true, Bool.true_eq_false, reduceCtorEq, Int.zero_add, Nat.add_zero, Int.ofNat_eq_natCast, Int.toNat_natCast, Nat.mul_one]
  refine ⟨⟨0, ⟨by omega, fun i hi => by omega⟩, rfl⟩, ?_⟩
  rintro k ⟨hk, hp⟩
  refine ⟨fun hlt => ?_, fun hge => inB_t.2 ⟨fun i hi => hp i (by omega)⟩⟩
  have bad : ¬ (1 ≤ l.getD k 0 ∧ l.getD k 0 ≤ 200) → inB 1 200 n l = false := fun h => inB_f.2 fun q => h (q.ok k (by omega))
  have stp := fun h => in_step (n := n) (show k < n by omega) hp h
  repeat' (first | omega | exact bad (by omega) | exact stp (by omega) | apply And.intro | intro _)
noncomputable def gAw : Entry := fun args H => match args with
  | [.a (.c (.slc id b z s len _))] => match getB H id with
    | .cells _ t [.run ks n l] => some ((t = 2 ∧ b = 0 ∧ z = 0 ∧ s = 1 ∧ ks = [.i64]) ∧ 0 ≤ len ∧ len ≤ 1048576 ∧ len.toNat ≤ n ∧ l.length = n, .a (.c (.bool (inB 1 200 len.toNat l))))
    | _ => none
  | _ => none
theorem gAw_inv {args : List LV} {H : List Blk} {p : Prop} {r : LV} (he : gAw args H = some (p, r)) (hp : p) : ∃ (id m n : Nat) (o : Bool) (l : List Int) (cap : Int),
    args = [.a (.c (.slc id 0 0 1 n cap))] ∧ getB H id = .cells o 2 [.run [.i64] m l] ∧ r = .a (.c (.bool (inB 1 200 n l))) ∧ n ≤ 1048576 ∧ n ≤ m ∧ l.length = m := by
  unfold gAw at he
  split at he
  · split at he
    · rename_i id b z s len cap _ o t ks m l hg
      simp only [Option.some.injEq, Prod.mk.injEq] at he
      obtain ⟨rfl, rfl⟩ := he
      obtain ⟨⟨rfl, rfl, rfl, rfl, rfl⟩, h1, h2, h3, h4⟩ := hp
      obtain ⟨n, rfl⟩ := Int.eq_ofNat_of_zero_le h1
      exact ⟨id, m, n, o, l, cap, rfl, hg, rfl, by omega, by simpa using h3, h4⟩
    · simp at he
  · simp at he
theorem e_areWidths : EntryOk Try.prog TT 131 gAw := by
  refine ⟨fnOk Try.func131 (by kernel_rfl) rfl, ?_⟩
  intro args H p r he hp n0 w0 β w vals hG hH hA
  obtain ⟨id, m, n, o, l, cap, rfl, hg, rfl, h1, h2, h3⟩ := gAw_inv he hp
  exact entry_view tt_ok (inlN_ok tt_ok C0_ok mixed (ILg_ok).ok 4) C0_ok mixed Try.func131 [id] (x_areWidths m n l cap h1 h2 h3) rfl rfl ⟨.inr (by rw [hg]; rfl), trivial⟩ hG hH hA

theorem aw1 {a : Int} : inB 1 200 1 [a] = decide (1 ≤ a ∧ a ≤ 200) := by
  rw [Bool.eq_iff_iff, inB_t, decide_eq_true_eq]
  exact ⟨fun h => h.ok 0 (by omega), fun h => ⟨fun i hi => by obtain rfl : i = 0 := by omega
                                                              exact h⟩⟩
theorem aw2 {a b : Int} : inB 1 200 2 [a, b] = decide ((1 ≤ a ∧ a ≤ 200) ∧ 1 ≤ b ∧ b ≤ 200) := by
  rw [Bool.eq_iff_iff, inB_t, decide_eq_true_eq]
  exact ⟨fun h => ⟨h.ok 0 (by omega), h.ok 1 (by omega)⟩, fun h => ⟨fun i hi => by
    rcases (show i = 0 ∨ i = 1 by omega) with rfl | rfl
    · exact h.1
    · exact h.2⟩⟩
theorem aw3 {a b c : Int} : inB 1 200 3 [a, b, c] = decide ((1 ≤ a ∧ a ≤ 200) ∧ (1 ≤ b ∧ b ≤ 200) ∧ 1 ≤ c ∧ c ≤ 200) := by
  rw [Bool.eq_iff_iff, inB_t, decide_eq_true_eq]
  exact ⟨fun h => ⟨h.ok 0 (by omega), h.ok 1 (by omega), h.ok 2 (by omega)⟩, fun h => ⟨fun i hi => by
    rcases (show i = 0 ∨ i = 1 ∨ i = 2 by omega) with rfl | rfl | rfl
    · exact h.1
    · exact h.2.1
    · exact h.2.2⟩⟩
theorem x_l00Max (a b : Int) : Fex true TT (inlN true TT C0 (lookI ILg) 4) C0 U0 Try.f101 [.a (.c (.int .i64 a)), .a (.c (.int .i64 b))] [] (fun lv _ => leL lv (.a (.c (.int .i64 (max a b))))) := by
  refine Go.Sx.by_eq (q := True ∧ True ∧ True ∧ True ∧ (Decidable.decide (b < a) = Bool.true → True ∧ True ∧ Go.IntKind.i64 = Go.IntKind.i64 ∧ a = Max.max a b) ∧ (Decidable.decide (b < a) = Bool.false → True ∧ True ∧ Go.IntKind.i64 = Go.IntKind.i64 ∧ b = Max.max a b)) (by kernel_rfl) ?_
  simp only [true_and, and_true, and_self, decide_eq_true_eq, decide_eq_false_iff_not, Bool.not_eq_true', Bool.not_eq_false', Bool.not_true, Bool.not_false, beq_iff_eq, beq_eq_false_iff_ne, bne_iff_ne, bne_eq_false_iff_eq, ne_eq, not_true_eq_false, not_false_eq_true, false_implies, true_implies, implies_true, forall_const, exists_const, ↓reduceIte, Int.reduceEq, Int.toNat_natCast, Bool.false_eq_true, Bool.true_eq_false, reduceCtorEq]
  omega
theorem x_l00Min (a b : Int) : Fex true TT (inlN true TT C0 (lookI ILg) 4) C0 U0 Try.f102 [.a (.c (.int .i64 a)), .a (.c (.int .i64 b))] [] (fun lv _ => leL lv (.a (.c (.int .i64 (min a b))))) := by
  refine Go.Sx.by_eq (q := True ∧ True ∧ True ∧ True ∧ (Decidable.decide (a < b) = Bool.true → True ∧ True ∧ Go.IntKind.i64 = Go.IntKind.i64 ∧ a = Min.min a b) ∧ (Decidable.decide (a < b) = Bool.false → True ∧ True ∧ Go.IntKind.i64 = Go.IntKind.i64 ∧ b = Min.min a b)) (by kernel_rfl) ?_
  simp only [true_and, and_true, and_self, decide_eq_true_eq, decide_eq_false_iff_not, Bool.not_eq_true', Bool.not_eq_false', Bool.not_true, Bool.not_false, beq_iff_eq, beq_eq_false_iff_ne, bne_iff_ne, bne_eq_false_iff_eq, ne_eq, not_true_eq_false, not_false_eq_true, false_implies, true_implies, implies_true, forall_const, exists_const, ↓reduceIte, Int.reduceEq, Int.toNat_natCast, Bool.false_eq_true, Bool.true_eq_false, reduceCtorEq]
  omega
def gMx : Entry := fun args _ => match args with
  | [.a (.c (.int .i64 a)), .a (.c (.int .i64 b))] => some (True, .a (.c (.int .i64 (max a b))))
  | [.a (.c (.lit .i64 a)), .a (.c (.int .i64 b))] => some (True, .a (.c (.int .i64 (max a b))))
  | _ => none
def gMn : Entry := fun args _ => match args with
  | [.a (.c (.int .i64 a)), .a (.c (.int .i64 b))] => some (True, .a (.c (.int .i64 (min a b))))
  | [.a (.c (.int .i64 a)), .a (.c (.lit .i64 b))] => some (True, .a (.c (.int .i64 (min a b))))
  | _ => none
theorem e_l00Max : EntryOk Try.prog TT 101 gMx := by
  refine ⟨fnOk Try.func101 (by kernel_rfl) rfl, ?_⟩
  intro args H p r he hp n0 w0 β w vals hG hH hA
  unfold gMx at he
  split at he
  · simp only [Option.some.injEq, Prod.mk.injEq] at he
    obtain ⟨rfl, rfl⟩ := he
    exact entry_bare tt_ok (inlN_ok tt_ok C0_ok mixed ILg_ok.ok 4) C0_ok mixed Try.func101 (x_l00Max _ _) rfl rfl hG hH hA
  · simp only [Option.some.injEq, Prod.mk.injEq] at he
    obtain ⟨rfl, rfl⟩ := he
    exact entry_bare tt_ok (inlN_ok tt_ok C0_ok mixed ILg_ok.ok 4) C0_ok mixed Try.func101 (x_l00Max _ _) rfl rfl hG hH hA
  · simp at he
theorem e_l00Min : EntryOk Try.prog TT 102 gMn := by
  refine ⟨fnOk Try.func102 (by kernel_rfl) rfl, ?_⟩
  intro args H p r he hp n0 w0 β w vals hG hH hA
  unfold gMn at he
  split at he
  · simp only [Option.some.injEq, Prod.mk.injEq] at he
    obtain ⟨rfl, rfl⟩ := he
    exact entry_bare tt_ok (inlN_ok tt_ok C0_ok mixed ILg_ok.ok 4) C0_ok mixed Try.func102 (x_l00Min _ _) rfl rfl hG hH hA
  · simp only [Option.some.injEq, Prod.mk.injEq] at he
    obtain ⟨rfl, rfl⟩ := he
    exact entry_bare tt_ok (inlN_ok tt_ok C0_ok mixed ILg_ok.ok 4) C0_ok mixed Try.func102 (x_l00Min _ _) rfl rfl hG hH hA
  · simp at he
noncomputable def Erg : List (FuncId × Entry) := (131, gAw) :: (101, gMx) :: (102, gMn) :: Er0
theorem Erg_ok : EntriesOk Try.prog TT Erg := ⟨e_areWidths, e_l00Max, e_l00Min, Er0_ok⟩
noncomputable abbrev Crg : Ctr := ctrOfM Erg Mr0
theorem Crg_ok : CtrOk Try.prog TT Crg := ctrOfM_ok Erg_ok Mr0_ok

end Go.Proofs.Ytkajcofpdlicaaa
