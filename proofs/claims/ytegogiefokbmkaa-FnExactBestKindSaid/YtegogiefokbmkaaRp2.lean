/- Partners: both sides. No conditions beyond the ranges of the kinds. -/
import Derived.Test.YtegogiefokbmkaaRp1
set_option linter.unusedSimpArgs false
set_option linter.unusedVariables false
namespace Go.Proofs.Ytegogiefokbmkaa
open Go.Sx Go.RowKit

def ptX (w k c : Int) : Int := if k = 1 then c.tmod 12 else w - 1 - c.tmod 12
def ptY (h k c : Int) : Int := if k = 0 then c.tdiv 12 else h - 1 - c.tdiv 12
def ptn (w h k c : Int) : Int := ptX w k c + 12 * ptY h k c

set_option maxRecDepth 100000 in
theorem x_l06Partner (w h : Int) (l : List Int) (r : Rg w h l) (k c : Int) (hc : 0 ≤ c ∧ c ≤ 143) : Fex true TT (inlN true TT (ctrOf E11) (lookI ILz) 4) (ctrOf E11) U0 Try.f61 [.a (.c (.ptr 0 0)), .a (.c (.int .i64 k)), .a (.c (.int .i64 c))] [.cells false 27 (picB w h l)] (fun lv _ => leL lv (.a (.c (.int .i64 (ptn w h k c))))) := by
  refine Go.Sx.by_eq (q := True ∧ True ∧ (12 : Int) ≠ (0 : Int) ∧ True ∧ True ∧ ((12 : Int) ≠ (0 : Int) ∧ (-9223372036854775808 : Int) ≤ Int.tdiv c (12 : Int) ∧ Int.tdiv c (12 : Int) ≤ (9223372036854775807 : Int)) ∧ True ∧ True ∧ True ∧ ((k != (1 : Int)) = Bool.true → True ∧ True ∧ True ∧ True ∧ ((-9223372036854775808 : Int) ≤ w ∧ w ≤ (9223372036854775807 : Int)) ∧ ((-9223372036854775808 : Int) ≤ w - (1 : Int) ∧ w - (1 : Int) ≤ (9223372036854775807 : Int)) ∧ True ∧ ((-9223372036854775808 : Int) ≤ w - (1 : Int) - Int.tmod c (12 : Int) ∧ w - (1 : Int) - Int.tmod c (12 : Int) ≤ (9223372036854775807 : Int)) ∧ True ∧ True ∧ True ∧ ((k != (0 : Int)) = Bool.true → True ∧ True ∧ True ∧ True ∧ ((-9223372036854775808 : Int) ≤ h ∧ h ≤ (9223372036854775807 : Int)) ∧ ((-9223372036854775808 : Int) ≤ h - (1 : Int) ∧ h - (1 : Int) ≤ (9223372036854775807 : Int)) ∧ True ∧ ((-9223372036854775808 : Int) ≤ h - (1 : Int) - Int.tdiv c (12 : Int) ∧ h - (1 : Int) - Int.tdiv c (12 : Int) ≤ (9223372036854775807 : Int)) ∧ True ∧ True ∧ True ∧ ((-9223372036854775808 : Int) ≤ (12 : Int) * (h - (1 : Int) - Int.tdiv c (12 : Int)) ∧ (12 : Int) * (h - (1 : Int) - Int.tdiv c (12 : Int)) ≤ (9223372036854775807 : Int)) ∧ ((-9223372036854775808 : Int) ≤ w - (1 : Int) - Int.tmod c (12 : Int) + (12 : Int) * (h - (1 : Int) - Int.tdiv c (12 : Int)) ∧ w - (1 : Int) - Int.tmod c (12 : Int) + (12 : Int) * (h - (1 : Int) - Int.tdiv c (12 : Int)) ≤ (9223372036854775807 : Int)) ∧ True ∧ Go.IntKind.i64 = Go.IntKind.i64 ∧ w - (1 : Int) - Int.tmod c (12 : Int) + (12 : Int) * (h - (1 : Int) - Int.tdiv c (12 : Int)) = ptn w h k c) ∧ ((k != (0 : Int)) = Bool.false → True ∧ True ∧ ((-9223372036854775808 : Int) ≤ (12 : Int) * Int.tdiv c (12 : Int) ∧ (12 : Int) * Int.tdiv c (12 : Int) ≤ (9223372036854775807 : Int)) ∧ ((-9223372036854775808 : Int) ≤ w - (1 : Int) - Int.tmod c (12 : Int) + (12 : Int) * Int.tdiv c (12 : Int) ∧ w - (1 : Int) - Int.tmod c (12 : Int) + (12 : Int) * Int.tdiv c (12 : Int) ≤ (9223372036854775807 : Int)) ∧ True ∧ Go.IntKind.i64 = Go.IntKind.i64 ∧ w - (1 : Int) - Int.tmod c (12 : Int) + (12 : Int) * Int.tdiv c (12 : Int) = ptn w h k c)) ∧ ((k != (1 : Int)) = Bool.false → True ∧ True ∧ ((k != (0 : Int)) = Bool.true → True ∧ True ∧ True ∧ True ∧ ((-9223372036854775808 : Int) ≤ h ∧ h ≤ (9223372036854775807 : Int)) ∧ ((-9223372036854775808 : Int) ≤ h - (1 : Int) ∧ h - (1 : Int) ≤ (9223372036854775807 : Int)) ∧ True ∧ ((-9223372036854775808 : Int) ≤ h - (1 : Int) - Int.tdiv c (12 : Int) ∧ h - (1 : Int) - Int.tdiv c (12 : Int) ≤ (9223372036854775807 : Int)) ∧ True ∧ True ∧ True ∧ ((-9223372036854775808 : Int) ≤ (12 : Int) * (h - (1 : Int) - Int.tdiv c (12 : Int)) ∧ (12 : Int) * (h - (1 : Int) - Int.tdiv c (12 : Int)) ≤ (9223372036854775807 : Int)) ∧ ((-9223372036854775808 : Int) ≤ Int.tmod c (12 : Int) + (12 : Int) * (h - (1 : Int) - Int.tdiv c (12 : Int)) ∧ Int.tmod c (12 : Int) + (12 : Int) * (h - (1 : Int) - Int.tdiv c (12 : Int)) ≤ (9223372036854775807 : Int)) ∧ True ∧ Go.IntKind.i64 = Go.IntKind.i64 ∧ Int.tmod c (12 : Int) + (12 : Int) * (h - (1 : Int) - Int.tdiv c (12 : Int)) = ptn w h k c) ∧ ((k != (0 : Int)) = Bool.false → True ∧ True ∧ ((-9223372036854775808 : Int) ≤ (12 : Int) * Int.tdiv c (12 : Int) ∧ (12 : Int) * Int.tdiv c (12 : Int) ≤ (9223372036854775807 : Int)) ∧ ((-9223372036854775808 : Int) ≤ Int.tmod c (12 : Int) + (12 : Int) * Int.tdiv c (12 : Int) ∧ Int.tmod c (12 : Int) + (12 : Int) * Int.tdiv c (12 : Int) ≤ (9223372036854775807 : Int)) ∧ True ∧ Go.IntKind.i64 = Go.IntKind.i64 ∧ Int.tmod c (12 : Int) + (12 : Int) * Int.tdiv c (12 : Int) = ptn w h k c))) (by kernel_rfl) ?_
  have rw1 := r.w1; have rw2 := r.w2; have rh1 := r.h1; have rh2 := r.h2
  obtain ⟨hc1, hc2⟩ := hc
  obtain ⟨n, rfl⟩ := Int.eq_ofNat_of_zero_le hc1
  simp only [true_and, and_true, and_self, decide_eq_true_eq, decide_eq_false_iff_not, Bool.not_eq_true', Bool.not_eq_false', Bool.not_true, Bool.not_false, beq_iff_eq, beq_eq_false_iff_ne, bne_iff_ne, bne_eq_false_iff_eq, ne_eq, not_true_eq_false, not_false_eq_true, false_implies, true_implies, implies_true, forall_const, exists_const, ↓reduceIte, Int.reduceEq, tm12, td12, Int.toNat_natCast, Bool.false_eq_true, Bool.true_eq_false, reduceCtorEq, Int.ofNat_eq_natCast, ptn, ptX, ptY]
  by_cases e1 : k = 1 <;> by_cases e0 : k = 0 <;> simp only [e1, e0] <;> repeat' (first | trivial | omega | apply And.intro | intro _)
def gPtP : Entry := fun args H => match args with
  | [.a (.c (.ptr id 0)), .a (.c (.int .i64 k)), .a (.c (.int .i64 c))] => match getB H id with
    | .cells _ 27 [.int .i8 w, .int .i8 h, .run [.u8] 144 l] => some (Rg w h l ∧ 0 ≤ c ∧ c ≤ 143, .a (.c (.int .i64 (ptn w h k c))))
    | _ => none
  | _ => none
theorem e_l06Partner : EntryOk Try.prog TT 61 gPtP := by
  refine ⟨fnOk Try.func61 (by kernel_rfl) rfl, ?_⟩
  intro args H p r he hp n0 w0 β w vals hG hH hA
  unfold gPtP at he
  split at he
  · rename_i id k c
    split at he
    · rename_i own wd hg l hb
      simp only [Option.some.injEq, Prod.mk.injEq] at he
      obtain ⟨rfl, rfl⟩ := he
      exact entry_ptr tt_ok (inlN_ok tt_ok (ctrOf_ok E11_ok) mixed (ILz_ok).ok 4) (ctrOf_ok E11_ok) mixed Try.func61 (x_l06Partner wd hg l hp.1 k c hp.2) rfl rfl rfl hG hH hb hA
    · simp at he
  · simp at he


/-! ### The table of rules -/
theorem x_partnerTable : Fex true TT (inlN true TT C0 (lookI ILz) 4) C0 U0 Try.f93 [] [] (fun lv _ => leL lv (.a (.agg [.fn (.func 102) [], .fn (.func 103) [], .fn (.func 104) []]))) := by
  refine Go.Sx.by_eq (q := True ∧ True ∧ True ∧ Go.Sx.Cel.fn (Go.Fn.func (102 : Nat)) [] = Go.Sx.Cel.fn (Go.Fn.func (102 : Go.FuncId)) [] ∧ Go.Sx.Cel.fn (Go.Fn.func (103 : Nat)) [] = Go.Sx.Cel.fn (Go.Fn.func (103 : Go.FuncId)) [] ∧ Go.Sx.Cel.fn (Go.Fn.func (104 : Nat)) [] = Go.Sx.Cel.fn (Go.Fn.func (104 : Go.FuncId)) [] ∧ True) (by kernel_rfl) ?_
  trivial
def gTbl : Entry := fun args _ => match args with
  | [] => some (True, .a (.agg [.fn (.func 102) [], .fn (.func 103) [], .fn (.func 104) []]))
  | _ => none
theorem e_partnerTable : EntryOk Try.prog TT 93 gTbl := by
  refine ⟨fnOk Try.func93 (by kernel_rfl) rfl, ?_⟩
  intro args H p r he hp n0 w0 β w vals hG hH hA
  unfold gTbl at he
  split at he
  · simp only [Option.some.injEq, Prod.mk.injEq] at he
    obtain ⟨rfl, rfl⟩ := he
    exact entry_bare tt_ok (inlN_ok tt_ok C0_ok mixed (ILz_ok).ok 4) C0_ok mixed Try.func93 (x_partnerTable) rfl rfl hG hH hA
  · simp at he

def In12 (x y : Int) : Prop := (0 ≤ x ∧ x ≤ 11) ∧ 0 ≤ y ∧ y ≤ 11
theorem x_rule1 (w h : Int) (l : List Int) (r : Rg w h l) (x y : Int) (hi : In12 x y) : Fex true TT (inlN true TT C0 (lookI ILz) 4) C0 U0 Try.f102 [pic w h l, .a (.c (.int .i64 x)), .a (.c (.int .i64 y))] [] (fun lv _ => leL lv (.tup [.c (.int .i64 (w - 1 - x)), .c (.int .i64 y)])) := by
  refine Go.Sx.by_eq (q := True ∧ True ∧ True ∧ True ∧ True ∧ ((-9223372036854775808 : Int) ≤ w ∧ w ≤ (9223372036854775807 : Int)) ∧ ((-9223372036854775808 : Int) ≤ w - (1 : Int) ∧ w - (1 : Int) ≤ (9223372036854775807 : Int)) ∧ True ∧ ((-9223372036854775808 : Int) ≤ w - (1 : Int) - x ∧ w - (1 : Int) - x ≤ (9223372036854775807 : Int)) ∧ True ∧ True ∧ True ∧ (Go.IntKind.i64 = Go.IntKind.i64 ∧ w - (1 : Int) - x = w - (1 : Int) - x) ∧ (Go.IntKind.i64 = Go.IntKind.i64 ∧ y = y) ∧ True) (by kernel_rfl) ?_
  have rw1 := r.w1; have rw2 := r.w2; have rh1 := r.h1; have rh2 := r.h2
  obtain ⟨hx, hy⟩ := hi
  repeat' (first | trivial | omega | apply And.intro | intro _)
theorem x_rule2 (w h : Int) (l : List Int) (r : Rg w h l) (x y : Int) (hi : In12 x y) : Fex true TT (inlN true TT C0 (lookI ILz) 4) C0 U0 Try.f103 [pic w h l, .a (.c (.int .i64 x)), .a (.c (.int .i64 y))] [] (fun lv _ => leL lv (.tup [.c (.int .i64 x), .c (.int .i64 (h - 1 - y))])) := by
  refine Go.Sx.by_eq (q := True ∧ True ∧ True ∧ True ∧ True ∧ True ∧ ((-9223372036854775808 : Int) ≤ h ∧ h ≤ (9223372036854775807 : Int)) ∧ ((-9223372036854775808 : Int) ≤ h - (1 : Int) ∧ h - (1 : Int) ≤ (9223372036854775807 : Int)) ∧ True ∧ ((-9223372036854775808 : Int) ≤ h - (1 : Int) - y ∧ h - (1 : Int) - y ≤ (9223372036854775807 : Int)) ∧ True ∧ True ∧ (Go.IntKind.i64 = Go.IntKind.i64 ∧ x = x) ∧ (Go.IntKind.i64 = Go.IntKind.i64 ∧ h - (1 : Int) - y = h - (1 : Int) - y) ∧ True) (by kernel_rfl) ?_
  have rw1 := r.w1; have rw2 := r.w2; have rh1 := r.h1; have rh2 := r.h2
  obtain ⟨hx, hy⟩ := hi
  repeat' (first | trivial | omega | apply And.intro | intro _)
theorem x_rule3 (w h : Int) (l : List Int) (r : Rg w h l) (x y : Int) (hi : In12 x y) : Fex true TT (inlN true TT C0 (lookI ILz) 4) C0 U0 Try.f104 [pic w h l, .a (.c (.int .i64 x)), .a (.c (.int .i64 y))] [] (fun lv _ => leL lv (.tup [.c (.int .i64 (w - 1 - x)), .c (.int .i64 (h - 1 - y))])) := by
  refine Go.Sx.by_eq (q := True ∧ True ∧ True ∧ True ∧ True ∧ ((-9223372036854775808 : Int) ≤ w ∧ w ≤ (9223372036854775807 : Int)) ∧ ((-9223372036854775808 : Int) ≤ w - (1 : Int) ∧ w - (1 : Int) ≤ (9223372036854775807 : Int)) ∧ True ∧ ((-9223372036854775808 : Int) ≤ w - (1 : Int) - x ∧ w - (1 : Int) - x ≤ (9223372036854775807 : Int)) ∧ True ∧ True ∧ ((-9223372036854775808 : Int) ≤ h ∧ h ≤ (9223372036854775807 : Int)) ∧ ((-9223372036854775808 : Int) ≤ h - (1 : Int) ∧ h - (1 : Int) ≤ (9223372036854775807 : Int)) ∧ True ∧ ((-9223372036854775808 : Int) ≤ h - (1 : Int) - y ∧ h - (1 : Int) - y ≤ (9223372036854775807 : Int)) ∧ True ∧ True ∧ (Go.IntKind.i64 = Go.IntKind.i64 ∧ w - (1 : Int) - x = w - (1 : Int) - x) ∧ (Go.IntKind.i64 = Go.IntKind.i64 ∧ h - (1 : Int) - y = h - (1 : Int) - y) ∧ True) (by kernel_rfl) ?_
  have rw1 := r.w1; have rw2 := r.w2; have rh1 := r.h1; have rh2 := r.h2
  obtain ⟨hx, hy⟩ := hi
  repeat' (first | trivial | omega | apply And.intro | intro _)
def gRl1 : Entry := fun args _ => match args with
  | [.a (.agg [.int .i8 w, .int .i8 h, .run [.u8] 144 l]), .a (.c (.int .i64 x)), .a (.c (.int .i64 y))] => some (Rg w h l ∧ In12 x y, .tup [.c (.int .i64 (w - 1 - x)), .c (.int .i64 y)])
  | _ => none
def gRl2 : Entry := fun args _ => match args with
  | [.a (.agg [.int .i8 w, .int .i8 h, .run [.u8] 144 l]), .a (.c (.int .i64 x)), .a (.c (.int .i64 y))] => some (Rg w h l ∧ In12 x y, .tup [.c (.int .i64 x), .c (.int .i64 (h - 1 - y))])
  | _ => none
def gRl3 : Entry := fun args _ => match args with
  | [.a (.agg [.int .i8 w, .int .i8 h, .run [.u8] 144 l]), .a (.c (.int .i64 x)), .a (.c (.int .i64 y))] => some (Rg w h l ∧ In12 x y, .tup [.c (.int .i64 (w - 1 - x)), .c (.int .i64 (h - 1 - y))])
  | _ => none
theorem e_rule1 : EntryOk Try.prog TT 102 gRl1 := by
  refine ⟨fnOk Try.func102 (by kernel_rfl) rfl, ?_⟩
  intro args H p r he hp n0 w0 β w vals hG hH hA
  unfold gRl1 at he
  split at he
  · simp only [Option.some.injEq, Prod.mk.injEq] at he
    obtain ⟨rfl, rfl⟩ := he
    exact entry_bare tt_ok (inlN_ok tt_ok C0_ok mixed (ILz_ok).ok 4) C0_ok mixed Try.func102 (x_rule1 _ _ _ hp.1 _ _ hp.2) rfl rfl hG hH hA
  · simp at he

theorem e_rule2 : EntryOk Try.prog TT 103 gRl2 := by
  refine ⟨fnOk Try.func103 (by kernel_rfl) rfl, ?_⟩
  intro args H p r he hp n0 w0 β w vals hG hH hA
  unfold gRl2 at he
  split at he
  · simp only [Option.some.injEq, Prod.mk.injEq] at he
    obtain ⟨rfl, rfl⟩ := he
    exact entry_bare tt_ok (inlN_ok tt_ok C0_ok mixed (ILz_ok).ok 4) C0_ok mixed Try.func103 (x_rule2 _ _ _ hp.1 _ _ hp.2) rfl rfl hG hH hA
  · simp at he

theorem e_rule3 : EntryOk Try.prog TT 104 gRl3 := by
  refine ⟨fnOk Try.func104 (by kernel_rfl) rfl, ?_⟩
  intro args H p r he hp n0 w0 β w vals hG hH hA
  unfold gRl3 at he
  split at he
  · simp only [Option.some.injEq, Prod.mk.injEq] at he
    obtain ⟨rfl, rfl⟩ := he
    exact entry_bare tt_ok (inlN_ok tt_ok C0_ok mixed (ILz_ok).ok 4) C0_ok mixed Try.func104 (x_rule3 _ _ _ hp.1 _ _ hp.2) rfl rfl hG hH hA
  · simp at he

def E12 : List (FuncId × Entry) := (61, gPtP) :: (93, gTbl) :: (102, gRl1) :: (103, gRl2) :: (104, gRl3) :: E11
theorem E12_ok : EntriesOk Try.prog TT E12 := ⟨e_l06Partner, e_partnerTable, e_rule1, e_rule2, e_rule3, E11_ok⟩

/-! ### partner, for each kind -/
set_option maxRecDepth 100000 in
theorem x_partner0 (w h : Int) (l : List Int) (r : Rg w h l) (c : Int) (hc : 0 ≤ c ∧ c ≤ 143) : Fex true TT (inlN true TT (ctrOf E12) (lookI ILz) 4) (ctrOf E12) U0 Try.f65 [pic w h l, .a (.c (.lit .i64 0)), .a (.c (.int .i64 c))] [] (fun lv _ => leL lv (.a (.c (.int .i64 (ptn w h 0 c))))) := by
  refine Go.Sx.by_eq (q := True ∧ True ∧ True ∧ True ∧ True ∧ True ∧ True ∧ (12 : Int) ≠ (0 : Int) ∧ True ∧ ((12 : Int) ≠ (0 : Int) ∧ (-9223372036854775808 : Int) ≤ Int.tdiv c (12 : Int) ∧ Int.tdiv c (12 : Int) ≤ (9223372036854775807 : Int)) ∧ (Rg w h l ∧ ((0 : Int) ≤ Int.tmod c (12 : Int) ∧ Int.tmod c (12 : Int) ≤ (11 : Int)) ∧ (0 : Int) ≤ Int.tdiv c (12 : Int) ∧ Int.tdiv c (12 : Int) ≤ (11 : Int)) ∧ True ∧ True ∧ (((-1000000 : Int) ≤ w - (1 : Int) - Int.tmod c (12 : Int) ∧ w - (1 : Int) - Int.tmod c (12 : Int) ≤ (1000000 : Int)) ∧ (-1000000 : Int) ≤ Int.tdiv c (12 : Int) ∧ Int.tdiv c (12 : Int) ≤ (1000000 : Int)) ∧ True ∧ Go.IntKind.i64 = Go.IntKind.i64 ∧ w - (1 : Int) - Int.tmod c (12 : Int) + (12 : Int) * Int.tdiv c (12 : Int) = ptn w h (0 : Int) c) (by kernel_rfl) ?_
  have rw1 := r.w1; have rw2 := r.w2; have rh1 := r.h1; have rh2 := r.h2
  obtain ⟨hc1, hc2⟩ := hc
  obtain ⟨n, rfl⟩ := Int.eq_ofNat_of_zero_le hc1
  simp only [true_and, and_true, and_self, decide_eq_true_eq, decide_eq_false_iff_not, Bool.not_eq_true', Bool.not_eq_false', Bool.not_true, Bool.not_false, beq_iff_eq, beq_eq_false_iff_ne, bne_iff_ne, bne_eq_false_iff_eq, ne_eq, not_true_eq_false, not_false_eq_true, false_implies, true_implies, implies_true, forall_const, exists_const, ↓reduceIte, Int.reduceEq, tm12, td12, Int.toNat_natCast, Bool.false_eq_true, Bool.true_eq_false, reduceCtorEq, Int.ofNat_eq_natCast, ptn, ptX, ptY, In12]
  repeat' (first | trivial | exact r | omega | apply And.intro | intro _)
set_option maxRecDepth 100000 in
theorem x_partner1 (w h : Int) (l : List Int) (r : Rg w h l) (c : Int) (hc : 0 ≤ c ∧ c ≤ 143) : Fex true TT (inlN true TT (ctrOf E12) (lookI ILz) 4) (ctrOf E12) U0 Try.f65 [pic w h l, .a (.c (.lit .i64 1)), .a (.c (.int .i64 c))] [] (fun lv _ => leL lv (.a (.c (.int .i64 (ptn w h 1 c))))) := by
  refine Go.Sx.by_eq (q := True ∧ True ∧ True ∧ True ∧ True ∧ True ∧ True ∧ (12 : Int) ≠ (0 : Int) ∧ True ∧ ((12 : Int) ≠ (0 : Int) ∧ (-9223372036854775808 : Int) ≤ Int.tdiv c (12 : Int) ∧ Int.tdiv c (12 : Int) ≤ (9223372036854775807 : Int)) ∧ (Rg w h l ∧ ((0 : Int) ≤ Int.tmod c (12 : Int) ∧ Int.tmod c (12 : Int) ≤ (11 : Int)) ∧ (0 : Int) ≤ Int.tdiv c (12 : Int) ∧ Int.tdiv c (12 : Int) ≤ (11 : Int)) ∧ True ∧ True ∧ (((-1000000 : Int) ≤ Int.tmod c (12 : Int) ∧ Int.tmod c (12 : Int) ≤ (1000000 : Int)) ∧ (-1000000 : Int) ≤ h - (1 : Int) - Int.tdiv c (12 : Int) ∧ h - (1 : Int) - Int.tdiv c (12 : Int) ≤ (1000000 : Int)) ∧ True ∧ Go.IntKind.i64 = Go.IntKind.i64 ∧ Int.tmod c (12 : Int) + (12 : Int) * (h - (1 : Int) - Int.tdiv c (12 : Int)) = ptn w h (1 : Int) c) (by kernel_rfl) ?_
  have rw1 := r.w1; have rw2 := r.w2; have rh1 := r.h1; have rh2 := r.h2
  obtain ⟨hc1, hc2⟩ := hc
  obtain ⟨n, rfl⟩ := Int.eq_ofNat_of_zero_le hc1
  simp only [true_and, and_true, and_self, decide_eq_true_eq, decide_eq_false_iff_not, Bool.not_eq_true', Bool.not_eq_false', Bool.not_true, Bool.not_false, beq_iff_eq, beq_eq_false_iff_ne, bne_iff_ne, bne_eq_false_iff_eq, ne_eq, not_true_eq_false, not_false_eq_true, false_implies, true_implies, implies_true, forall_const, exists_const, ↓reduceIte, Int.reduceEq, tm12, td12, Int.toNat_natCast, Bool.false_eq_true, Bool.true_eq_false, reduceCtorEq, Int.ofNat_eq_natCast, ptn, ptX, ptY, In12]
  repeat' (first | trivial | exact r | omega | apply And.intro | intro _)
set_option maxRecDepth 100000 in
theorem x_partner2 (w h : Int) (l : List Int) (r : Rg w h l) (c : Int) (hc : 0 ≤ c ∧ c ≤ 143) : Fex true TT (inlN true TT (ctrOf E12) (lookI ILz) 4) (ctrOf E12) U0 Try.f65 [pic w h l, .a (.c (.lit .i64 2)), .a (.c (.int .i64 c))] [] (fun lv _ => leL lv (.a (.c (.int .i64 (ptn w h 2 c))))) := by
  refine Go.Sx.by_eq (q := True ∧ True ∧ True ∧ True ∧ True ∧ True ∧ True ∧ (12 : Int) ≠ (0 : Int) ∧ True ∧ ((12 : Int) ≠ (0 : Int) ∧ (-9223372036854775808 : Int) ≤ Int.tdiv c (12 : Int) ∧ Int.tdiv c (12 : Int) ≤ (9223372036854775807 : Int)) ∧ (Rg w h l ∧ ((0 : Int) ≤ Int.tmod c (12 : Int) ∧ Int.tmod c (12 : Int) ≤ (11 : Int)) ∧ (0 : Int) ≤ Int.tdiv c (12 : Int) ∧ Int.tdiv c (12 : Int) ≤ (11 : Int)) ∧ True ∧ True ∧ (((-1000000 : Int) ≤ w - (1 : Int) - Int.tmod c (12 : Int) ∧ w - (1 : Int) - Int.tmod c (12 : Int) ≤ (1000000 : Int)) ∧ (-1000000 : Int) ≤ h - (1 : Int) - Int.tdiv c (12 : Int) ∧ h - (1 : Int) - Int.tdiv c (12 : Int) ≤ (1000000 : Int)) ∧ True ∧ Go.IntKind.i64 = Go.IntKind.i64 ∧ w - (1 : Int) - Int.tmod c (12 : Int) + (12 : Int) * (h - (1 : Int) - Int.tdiv c (12 : Int)) = ptn w h (2 : Int) c) (by kernel_rfl) ?_
  have rw1 := r.w1; have rw2 := r.w2; have rh1 := r.h1; have rh2 := r.h2
  obtain ⟨hc1, hc2⟩ := hc
  obtain ⟨n, rfl⟩ := Int.eq_ofNat_of_zero_le hc1
  simp only [true_and, and_true, and_self, decide_eq_true_eq, decide_eq_false_iff_not, Bool.not_eq_true', Bool.not_eq_false', Bool.not_true, Bool.not_false, beq_iff_eq, beq_eq_false_iff_ne, bne_iff_ne, bne_eq_false_iff_eq, ne_eq, not_true_eq_false, not_false_eq_true, false_implies, true_implies, implies_true, forall_const, exists_const, ↓reduceIte, Int.reduceEq, tm12, td12, Int.toNat_natCast, Bool.false_eq_true, Bool.true_eq_false, reduceCtorEq, Int.ofNat_eq_natCast, ptn, ptX, ptY, In12]
  repeat' (first | trivial | exact r | omega | apply And.intro | intro _)
def gPtI : Entry := fun args _ => match args with
  | [.a (.agg [.int .i8 w, .int .i8 h, .run [.u8] 144 l]), .a (.c (.int .i64 k)), .a (.c (.int .i64 c))] => some (Rg w h l ∧ (0 ≤ k ∧ k ≤ 2) ∧ 0 ≤ c ∧ c ≤ 143, .a (.c (.int .i64 (ptn w h k c))))
  | _ => none
theorem e_partner : EntryOk Try.prog TT 65 gPtI := by
  refine ⟨fnOk Try.func65 (by kernel_rfl) rfl, ?_⟩
  intro args H p r he hp n0 w0 β w vals hG hH hA
  unfold gPtI at he
  split at he
  · rename_i wd hg l k c
    simp only [Option.some.injEq, Prod.mk.injEq] at he
    obtain ⟨rfl, rfl⟩ := he
    obtain ⟨hr, hk, hc⟩ := hp
    rcases (show k = 0 ∨ k = 1 ∨ k = 2 by omega) with rfl | rfl | rfl
    · exact entry_bare tt_ok (inlN_ok tt_ok (ctrOf_ok E12_ok) mixed ILz_ok.ok 4) (ctrOf_ok E12_ok) mixed Try.func65 (x_partner0 wd hg l hr c hc) rfl rfl hG hH hA
    · exact entry_bare tt_ok (inlN_ok tt_ok (ctrOf_ok E12_ok) mixed ILz_ok.ok 4) (ctrOf_ok E12_ok) mixed Try.func65 (x_partner1 wd hg l hr c hc) rfl rfl hG hH hA
    · exact entry_bare tt_ok (inlN_ok tt_ok (ctrOf_ok E12_ok) mixed ILz_ok.ok 4) (ctrOf_ok E12_ok) mixed Try.func65 (x_partner2 wd hg l hr c hc) rfl rfl hG hH hA
  · simp at he
def E13 : List (FuncId × Entry) := (65, gPtI) :: E12
theorem E13_ok : EntriesOk Try.prog TT E13 := ⟨e_partner, E12_ok⟩

/-! ### PartnerOf -/
def poE (w h : Int) (l : List Int) (k c : Int) : Int := if okB w h l then (if kdB k && cK w h c then 0 else 2) else 1
def poV (w h : Int) (l : List Int) (k c : Int) : Int := if poE w h l k c = 0 then ptn w h k c else 0
def poR (w h : Int) (l : List Int) (k c : Int) : LV := .tup [.c (.int .i64 (poV w h l k c)), .c (.int .i64 (poE w h l k c))]
theorem po_0 {w h : Int} {l : List Int} {k c : Int} (e1 : okB w h l = true) (e2 : kdB k = true) (e3 : cK w h c = true) : ptn w h k c = poV w h l k c ∧ 0 = poE w h l k c := by
  have e : poE w h l k c = 0 := by simp [poE, e1, e2, e3]
  exact ⟨by rw [poV, if_pos e], e.symm⟩
theorem po_1 {w h : Int} {l : List Int} {k c : Int} (e1 : okB w h l = false) : 0 = poV w h l k c ∧ 1 = poE w h l k c := by
  have e : poE w h l k c = 1 := by simp [poE, e1]
  exact ⟨by rw [poV, if_neg (by omega)], e.symm⟩
theorem po_2 {w h : Int} {l : List Int} {k c : Int} (e1 : okB w h l = true) (e2 : (kdB k && cK w h c) = false) : 0 = poV w h l k c ∧ 2 = poE w h l k c := by
  have e : poE w h l k c = 2 := by rw [poE, e1, e2]; rfl
  exact ⟨by rw [poV, if_neg (by omega)], e.symm⟩
set_option maxRecDepth 100000 in
theorem x_PartnerOfS (w h : Int) (l : List Int) (r : Rg w h l) (k c : Int) : Fex true TT (inlN true TT (ctrOf E13) (lookI ILz) 4) (ctrOf E13) U0 Try.f34 [pic w h l, .a (.c (.int .i64 k)), .a (.c (.int .i64 c))] [] (fun lv _ => leL lv (poR w h l k c)) := by
  refine Go.Sx.by_eq (q := True ∧ True ∧ True ∧ Rg w h l ∧ True ∧ ((!okB w h l) = Bool.true → True ∧ True ∧ (Go.IntKind.i64 = Go.IntKind.i64 ∧ (0 : Int) = poV w h l k c) ∧ (Go.IntKind.i64 = Go.IntKind.i64 ∧ (1 : Int) = poE w h l k c) ∧ True) ∧ ((!okB w h l) = Bool.false → True ∧ True ∧ True ∧ True ∧ True ∧ True ∧ True ∧ True ∧ (Decidable.decide ((0 : Int) ≤ k) = Bool.true → True ∧ True ∧ True ∧ True ∧ True ∧ True ∧ True ∧ True ∧ ((!Decidable.decide (k ≤ (2 : Int))) = Bool.false → True ∧ Rg w h l ∧ True ∧ True ∧ ((!cK w h c) = Bool.true → True ∧ True ∧ (Go.IntKind.i64 = Go.IntKind.i64 ∧ (0 : Int) = poV w h l k c) ∧ (Go.IntKind.i64 = Go.IntKind.i64 ∧ (2 : Int) = poE w h l k c) ∧ True) ∧ ((!cK w h c) = Bool.false → True ∧ True ∧ (Rg w h l ∧ (0 : Int) ≤ c ∧ c ≤ (143 : Int)) ∧ True ∧ True ∧ (Go.IntKind.i64 = Go.IntKind.i64 ∧ ptn w h k c = poV w h l k c) ∧ (Go.IntKind.i64 = Go.IntKind.i64 ∧ (0 : Int) = poE w h l k c) ∧ True)) ∧ ((!Decidable.decide (k ≤ (2 : Int))) = !Bool.false → True ∧ True ∧ True ∧ (Go.IntKind.i64 = Go.IntKind.i64 ∧ (0 : Int) = poV w h l k c) ∧ (Go.IntKind.i64 = Go.IntKind.i64 ∧ (2 : Int) = poE w h l k c) ∧ True)) ∧ (Decidable.decide ((0 : Int) ≤ k) = !Bool.true → True ∧ True ∧ True ∧ True ∧ True ∧ True ∧ True ∧ True ∧ (Go.IntKind.i64 = Go.IntKind.i64 ∧ (0 : Int) = poV w h l k c) ∧ (Go.IntKind.i64 = Go.IntKind.i64 ∧ (2 : Int) = poE w h l k c) ∧ True))) (by kernel_rfl) ?_
  simp only [true_and, and_true, and_self, decide_eq_true_eq, decide_eq_false_iff_not, Bool.not_eq_true', Bool.not_eq_false', Bool.not_true, Bool.not_false, beq_iff_eq, beq_eq_false_iff_ne, bne_iff_ne, bne_eq_false_iff_eq, ne_eq, not_true_eq_false, not_false_eq_true, false_implies, true_implies, implies_true, forall_const, exists_const, ↓reduceIte, Int.reduceEq, tm12, td12, Int.toNat_natCast, Bool.false_eq_true, Bool.true_eq_false, reduceCtorEq]
  exact ⟨r, fun e1 => po_1 e1, fun e1 => ⟨fun k0 => ⟨fun k2 => ⟨r, fun e3 => po_2 e1 (by rw [e3, Bool.and_false]), fun e3 => ⟨⟨r, (cK_t.1 e3).1⟩, po_0 e1 (kdB_t.2 ⟨k0, k2⟩) e3⟩⟩, fun k2 => po_2 e1 (by rw [kdB_f.2 (by omega)]; rfl)⟩, fun k0 => po_2 e1 (by rw [kdB_f.2 (by omega)]; rfl)⟩⟩
set_option maxRecDepth 100000 in
theorem x_PartnerOfI (w h : Int) (l : List Int) (r : Rg w h l) (k c : Int) (hc : -9223372036854775808 ≤ c ∧ c ≤ 9223372036854775807) : Fex true TT (inlN true TT (ctrOf E13) (lookI ILz) 4) (ctrOf E13) U0 Try.f35 [pic w h l, .a (.c (.int .i64 k)), .a (.c (.int .i64 c))] [] (fun lv _ => leL lv (poR w h l k c)) := by
  refine Go.Sx.by_eq (q := True ∧ True ∧ True ∧ True ∧ Rg w h l ∧ True ∧ ((!okB w h l) = Bool.true → True ∧ True ∧ (Go.IntKind.i64 = Go.IntKind.i64 ∧ (0 : Int) = poV w h l k c) ∧ (Go.IntKind.i64 = Go.IntKind.i64 ∧ (1 : Int) = poE w h l k c) ∧ True) ∧ ((!okB w h l) = Bool.false → True ∧ True ∧ True ∧ True ∧ True ∧ (Decidable.decide ((0 : Int) ≤ k) = Bool.true → True ∧ True ∧ True ∧ True ∧ True ∧ True ∧ ((!Decidable.decide (k ≤ (2 : Int))) = Bool.false → True ∧ True ∧ ((Rg w h l ∧ w ≤ (12 : Int) ∧ h ≤ (12 : Int)) ∧ (-9223372036854775808 : Int) ≤ c ∧ c ≤ (9223372036854775807 : Int)) ∧ True ∧ True ∧ ((!cK w h c) = Bool.true → True ∧ True ∧ (Go.IntKind.i64 = Go.IntKind.i64 ∧ (0 : Int) = poV w h l k c) ∧ (Go.IntKind.i64 = Go.IntKind.i64 ∧ (2 : Int) = poE w h l k c) ∧ True) ∧ ((!cK w h c) = Bool.false → True ∧ True ∧ True ∧ (Rg w h l ∧ ((0 : Int) ≤ k ∧ k ≤ (2 : Int)) ∧ (0 : Int) ≤ c ∧ c ≤ (143 : Int)) ∧ True ∧ True ∧ (Go.IntKind.i64 = Go.IntKind.i64 ∧ ptn w h k c = poV w h l k c) ∧ (Go.IntKind.i64 = Go.IntKind.i64 ∧ (0 : Int) = poE w h l k c) ∧ True)) ∧ ((!Decidable.decide (k ≤ (2 : Int))) = !Bool.false → True ∧ True ∧ True ∧ (Go.IntKind.i64 = Go.IntKind.i64 ∧ (0 : Int) = poV w h l k c) ∧ (Go.IntKind.i64 = Go.IntKind.i64 ∧ (2 : Int) = poE w h l k c) ∧ True)) ∧ (Decidable.decide ((0 : Int) ≤ k) = !Bool.true → True ∧ True ∧ True ∧ True ∧ True ∧ True ∧ True ∧ (Go.IntKind.i64 = Go.IntKind.i64 ∧ (0 : Int) = poV w h l k c) ∧ (Go.IntKind.i64 = Go.IntKind.i64 ∧ (2 : Int) = poE w h l k c) ∧ True))) (by kernel_rfl) ?_
  simp only [true_and, and_true, and_self, decide_eq_true_eq, decide_eq_false_iff_not, Bool.not_eq_true', Bool.not_eq_false', Bool.not_true, Bool.not_false, beq_iff_eq, beq_eq_false_iff_ne, bne_iff_ne, bne_eq_false_iff_eq, ne_eq, not_true_eq_false, not_false_eq_true, false_implies, true_implies, implies_true, forall_const, exists_const, ↓reduceIte, Int.reduceEq, tm12, td12, Int.toNat_natCast, Bool.false_eq_true, Bool.true_eq_false, reduceCtorEq]
  exact ⟨r, fun e1 => po_1 e1, fun e1 => ⟨fun k0 => ⟨fun k2 => ⟨⟨⟨r, (okB_w e1).1.2, (okB_w e1).2.2⟩, hc⟩, fun e3 => po_2 e1 (by rw [e3, Bool.and_false]), fun e3 => ⟨⟨r, ⟨k0, k2⟩, (cK_t.1 e3).1⟩, po_0 e1 (kdB_t.2 ⟨k0, k2⟩) e3⟩⟩, fun k2 => po_2 e1 (by rw [kdB_f.2 (by omega)]; rfl)⟩, fun k0 => po_2 e1 (by rw [kdB_f.2 (by omega)]; rfl)⟩⟩
def gPo : Entry := fun args _ => match args with
  | [.a (.agg [.int .i8 w, .int .i8 h, .run [.u8] 144 l]), .a (.c (.int .i64 k)), .a (.c (.int .i64 c))] => some (Rg w h l ∧ (-9223372036854775808 ≤ c ∧ c ≤ 9223372036854775807), poR w h l k c)
  | _ => none
theorem e_PartnerOfS : EntryOk Try.prog TT 34 gPo := by
  refine ⟨fnOk Try.func34 (by kernel_rfl) rfl, ?_⟩
  intro args H p r he hp n0 w0 β w vals hG hH hA
  unfold gPo at he
  split at he
  · simp only [Option.some.injEq, Prod.mk.injEq] at he
    obtain ⟨rfl, rfl⟩ := he
    exact entry_bare tt_ok (inlN_ok tt_ok (ctrOf_ok E13_ok) mixed (ILz_ok).ok 4) (ctrOf_ok E13_ok) mixed Try.func34 (x_PartnerOfS _ _ _ hp.1 _ _) rfl rfl hG hH hA
  · simp at he

theorem e_PartnerOfI : EntryOk Try.prog TT 35 gPo := by
  refine ⟨fnOk Try.func35 (by kernel_rfl) rfl, ?_⟩
  intro args H p r he hp n0 w0 β w vals hG hH hA
  unfold gPo at he
  split at he
  · simp only [Option.some.injEq, Prod.mk.injEq] at he
    obtain ⟨rfl, rfl⟩ := he
    exact entry_bare tt_ok (inlN_ok tt_ok (ctrOf_ok E13_ok) mixed (ILz_ok).ok 4) (ctrOf_ok E13_ok) mixed Try.func35 (x_PartnerOfI _ _ _ hp.1 _ _ hp.2) rfl rfl hG hH hA
  · simp at he

def Epo : List (FuncId × Entry) := (34, gPo) :: (35, gPo) :: E13
theorem Epo_ok : EntriesOk Try.prog TT Epo := ⟨e_PartnerOfS, e_PartnerOfI, E13_ok⟩

end Go.Proofs.Ytegogiefokbmkaa
