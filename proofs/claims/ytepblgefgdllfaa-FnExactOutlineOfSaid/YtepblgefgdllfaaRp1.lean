/- Pictures of chapter 6: the small functions, as contracts. No conditions beyond the ranges of the kinds. -/
import Derived.Test.YtepblgefgdllfaaRp0
set_option linter.unusedSimpArgs false
set_option linter.unusedVariables false
namespace Go.Proofs.Ytepblgefgdllfaa
open Go.Sx Go.RowKit

noncomputable def ILz  : List (FuncId × Func × (Nat → LM)) := [
  (52, Try.f52, U0),
  (51, Try.f51, U0),
  (43, Try.f43, U0),
  (46, Try.f46, U0)]
theorem ILz_ok  : InlsOk Try.prog ILz := ⟨⟨Try.func52, by kernel_rfl⟩, ⟨Try.func51, by kernel_rfl⟩, ⟨Try.func43, by kernel_rfl⟩, ⟨Try.func46, by kernel_rfl⟩, trivial⟩
def hasB (w h x y : Int) : Bool := decide (0 ≤ x ∧ x < w ∧ 0 ≤ y ∧ y < h)
theorem hasB_t {w h x y : Int} : hasB w h x y = true ↔ 0 ≤ x ∧ x < w ∧ 0 ≤ y ∧ y < h := by simp [hasB]
theorem hasB_f {w h x y : Int} : hasB w h x y = false ↔ ¬ (0 ≤ x ∧ x < w ∧ 0 ≤ y ∧ y < h) := by rw [Bool.eq_false_iff, ne_eq, hasB_t]
/-- Is there a cell with a number? -/
def cK (w h c : Int) : Bool := decide (0 ≤ c ∧ c ≤ 143) && isB w h c.toNat
theorem cK_t {w h c : Int} : cK w h c = true ↔ (0 ≤ c ∧ c ≤ 143) ∧ isB w h c.toNat = true := by simp [cK]
theorem cK_f {w h c : Int} : cK w h c = false ↔ ¬ ((0 ≤ c ∧ c ≤ 143) ∧ isB w h c.toNat = true) := by rw [Bool.eq_false_iff, ne_eq, cK_t]
theorem cK_n {w h : Int} {k : Nat} (hk : k < 144) : cK w h (k : Int) = isB w h k := by
  rw [cK, decide_eq_true (by omega), Bool.true_and, Int.toNat_natCast]
def dfc (a b : Int) : Bool := decide (a ≠ 0 ∧ b ≠ 0 ∧ a ≠ b)
theorem dfc_t {a b : Int} : dfc a b = true ↔ a ≠ 0 ∧ b ≠ 0 ∧ a ≠ b := by simp [dfc]
theorem dfc_f {a b : Int} : dfc a b = false ↔ ¬ (a ≠ 0 ∧ b ≠ 0 ∧ a ≠ b) := by rw [Bool.eq_false_iff, ne_eq, dfc_t]
def agc (a b : Int) : Bool := decide (a ≠ 0 ∧ a = b)
theorem agc_t {a b : Int} : agc a b = true ↔ a ≠ 0 ∧ a = b := by simp [agc]
theorem agc_f {a b : Int} : agc a b = false ↔ ¬ (a ≠ 0 ∧ a = b) := by rw [Bool.eq_false_iff, ne_eq, agc_t]
def kdB (k : Int) : Bool := decide (0 ≤ k ∧ k ≤ 2)
theorem kdB_t {k : Int} : kdB k = true ↔ 0 ≤ k ∧ k ≤ 2 := by simp [kdB]
theorem kdB_f {k : Int} : kdB k = false ↔ ¬ (0 ≤ k ∧ k ≤ 2) := by simp [kdB]

/-! ### Cells -/
set_option maxRecDepth 100000 in
theorem x_l01Is (w h : Int) (l : List Int) (r : Rg w h l) (c : Int) : Fex true TT (inlN true TT C0 (lookI ILz) 4) C0 U0 Try.f57 [.a (.c (.ptr 0 0)), .a (.c (.int .i64 c))] [.cells false 29 (picB w h l)] (fun lv _ => leL lv (.a (.c (.bool (cK w h c))))) := by
  refine Go.Sx.by_eq (q := True ∧ True ∧ True ∧ True ∧ True ∧ True ∧ True ∧ (Decidable.decide ((0 : Int) ≤ c) = Bool.true → True ∧ True ∧ True ∧ True ∧ True ∧ True ∧ (Decidable.decide (c ≤ (143 : Int)) = Bool.true → True ∧ (12 : Int) ≠ (0 : Int) ∧ True ∧ True ∧ True ∧ True ∧ ((-9223372036854775808 : Int) ≤ w ∧ w ≤ (9223372036854775807 : Int)) ∧ True ∧ True ∧ True ∧ (Decidable.decide (Int.tmod c (12 : Int) < w) = Bool.true → True ∧ ((12 : Int) ≠ (0 : Int) ∧ (-9223372036854775808 : Int) ≤ Int.tdiv c (12 : Int) ∧ Int.tdiv c (12 : Int) ≤ (9223372036854775807 : Int)) ∧ True ∧ True ∧ True ∧ True ∧ ((-9223372036854775808 : Int) ≤ h ∧ h ≤ (9223372036854775807 : Int)) ∧ True ∧ True ∧ True ∧ Decidable.decide (Int.tdiv c (12 : Int) < h) = cK w h c) ∧ (Decidable.decide (Int.tmod c (12 : Int) < w) = !Bool.true → True ∧ True ∧ cK w h c = Bool.false)) ∧ (Decidable.decide (c ≤ (143 : Int)) = !Bool.true → True ∧ True ∧ True ∧ True ∧ cK w h c = Bool.false)) ∧ (Decidable.decide ((0 : Int) ≤ c) = !Bool.true → True ∧ True ∧ True ∧ True ∧ True ∧ True ∧ True ∧ cK w h c = Bool.false)) (by kernel_rfl) ?_
  have rw1 := r.w1; have rw2 := r.w2; have rh1 := r.h1; have rh2 := r.h2
  simp only [decide_eq_true_eq, Bool.not_true, decide_eq_false_iff_not]
  by_cases h0 : 0 ≤ c
  · obtain ⟨n, rfl⟩ := Int.eq_ofNat_of_zero_le h0
    simp only [true_and, and_true, and_self, decide_eq_true_eq, decide_eq_false_iff_not, Bool.not_eq_true', Bool.not_eq_false', Bool.not_true, Bool.not_false, beq_iff_eq, beq_eq_false_iff_ne, bne_iff_ne, bne_eq_false_iff_eq, ne_eq, not_true_eq_false, not_false_eq_true, false_implies, true_implies, implies_true, forall_const, exists_const, ↓reduceIte, Int.reduceEq, tm12, td12, Int.toNat_natCast, Bool.false_eq_true, Bool.true_eq_false, reduceCtorEq, Int.ofNat_eq_natCast]
    by_cases e : cK w h (n : Int) = true
    · have e' := e
      rw [cK_t, isB_t, Int.toNat_natCast] at e'
      rw [e]
      repeat' (first | trivial | omega | apply And.intro | intro _)
      all_goals (rw [decide_eq_true_eq]; omega)
    · have e := Bool.eq_false_iff.2 e
      have e' := e
      rw [cK_f, isB_t, Int.toNat_natCast] at e'
      rw [e]
      repeat' (first | trivial | omega | apply And.intro | intro _)
      all_goals (rw [decide_eq_false_iff_not]; omega)
  · have e : cK w h c = false := cK_f.2 (by omega)
    rw [e]
    repeat' (first | trivial | omega | apply And.intro | intro _)
def gIs : Entry := fun args H => match args with
  | [.a (.c (.ptr id 0)), .a (.c (.int .i64 c))] => match getB H id with
    | .cells _ 29 [.int .i8 w, .int .i8 h, .run [.u8] 144 l] => some (Rg w h l, .a (.c (.bool (cK w h c))))
    | _ => none
  | _ => none
theorem e_l01Is : EntryOk Try.prog TT 57 gIs := by
  refine ⟨fnOk Try.func57 (by kernel_rfl) rfl, ?_⟩
  intro args H p r he hp n0 w0 β w vals hG hH hA
  unfold gIs at he
  split at he
  · rename_i id c
    split at he
    · rename_i own wd hg l hb
      simp only [Option.some.injEq, Prod.mk.injEq] at he
      obtain ⟨rfl, rfl⟩ := he
      exact entry_ptr tt_ok (inlN_ok tt_ok C0_ok mixed (ILz_ok).ok 4) C0_ok mixed Try.func57 (x_l01Is wd hg l hp c) rfl rfl rfl hG hH hb hA
    · simp at he
  · simp at he


set_option maxRecDepth 100000 in
theorem x_has (w h : Int) (l : List Int) (r : Rg w h l) (x y : Int) : Fex true TT (inlN true TT C0 (lookI ILz) 4) C0 U0 Try.f31 [pic w h l, .a (.c (.int .i64 x)), .a (.c (.int .i64 y))] [] (fun lv _ => leL lv (.a (.c (.bool (hasB w h x y))))) := by
  refine Go.Sx.by_eq (q := True ∧ True ∧ True ∧ True ∧ True ∧ True ∧ True ∧ True ∧ ((-9223372036854775808 : Int) ≤ w ∧ w ≤ (9223372036854775807 : Int)) ∧ True ∧ True ∧ ((-9223372036854775808 : Int) ≤ h ∧ h ≤ (9223372036854775807 : Int)) ∧ True ∧ True ∧ True ∧ True ∧ True ∧ True ∧ True ∧ True ∧ True ∧ True ∧ (Decidable.decide ((0 : Int) ≤ x) = Bool.true → True ∧ True ∧ True ∧ True ∧ True ∧ (Decidable.decide (x < w) = Bool.true → True ∧ True ∧ True ∧ True ∧ (Decidable.decide ((0 : Int) ≤ y) = Bool.true → True ∧ True ∧ True ∧ True ∧ True ∧ Decidable.decide (y < h) = hasB w h x y) ∧ (Decidable.decide ((0 : Int) ≤ y) = !Bool.true → True ∧ True ∧ hasB w h x y = Bool.false)) ∧ (Decidable.decide (x < w) = !Bool.true → True ∧ True ∧ True ∧ True ∧ hasB w h x y = Bool.false)) ∧ (Decidable.decide ((0 : Int) ≤ x) = !Bool.true → True ∧ True ∧ True ∧ True ∧ True ∧ True ∧ hasB w h x y = Bool.false)) (by kernel_rfl) ?_
  have rw1 := r.w1; have rw2 := r.w2; have rh1 := r.h1; have rh2 := r.h2
  simp only [decide_eq_true_eq, Bool.not_true, decide_eq_false_iff_not]
  cases e : hasB w h x y
  · rw [hasB_f] at e
    repeat' (first | trivial | omega | apply And.intro | intro _)
    all_goals (rw [decide_eq_false_iff_not]; omega)
  · rw [hasB_t] at e
    repeat' (first | trivial | omega | apply And.intro | intro _)
    all_goals (rw [decide_eq_true_eq]; omega)
def gHas : Entry := fun args _ => match args with
  | [.a (.agg [.int .i8 w, .int .i8 h, .run [.u8] 144 l]), .a (.c (.int .i64 x)), .a (.c (.int .i64 y))] => some (Rg w h l, .a (.c (.bool (hasB w h x y))))
  | _ => none
theorem e_has : EntryOk Try.prog TT 31 gHas := by
  refine ⟨fnOk Try.func31 (by kernel_rfl) rfl, ?_⟩
  intro args H p r he hp n0 w0 β w vals hG hH hA
  unfold gHas at he
  split at he
  · simp only [Option.some.injEq, Prod.mk.injEq] at he
    obtain ⟨rfl, rfl⟩ := he
    exact entry_bare tt_ok (inlN_ok tt_ok C0_ok mixed (ILz_ok).ok 4) C0_ok mixed Try.func31 (x_has _ _ _ hp _ _) rfl rfl hG hH hA
  · simp at he


theorem x_cellNumber (x y : Int) (hx : -1000000 ≤ x ∧ x ≤ 1000000) (hy : -1000000 ≤ y ∧ y ≤ 1000000) : Fex true TT (inlN true TT C0 (lookI ILz) 4) C0 U0 Try.f33 [.a (.c (.int .i64 x)), .a (.c (.int .i64 y))] [] (fun lv _ => leL lv (.a (.c (.int .i64 (x + 12 * y))))) := by
  refine Go.Sx.by_eq (q := True ∧ True ∧ True ∧ ((-9223372036854775808 : Int) ≤ (12 : Int) * y ∧ (12 : Int) * y ≤ (9223372036854775807 : Int)) ∧ ((-9223372036854775808 : Int) ≤ x + (12 : Int) * y ∧ x + (12 : Int) * y ≤ (9223372036854775807 : Int)) ∧ True ∧ Go.IntKind.i64 = Go.IntKind.i64 ∧ x + (12 : Int) * y = x + (12 : Int) * y) (by kernel_rfl) ?_
  repeat' (first | trivial | omega | apply And.intro | intro _)
def gCel : Entry := fun args _ => match args with
  | [.a (.c (.int .i64 x)), .a (.c (.int .i64 y))] => some ((-1000000 ≤ x ∧ x ≤ 1000000) ∧ (-1000000 ≤ y ∧ y ≤ 1000000), .a (.c (.int .i64 (x + 12 * y))))
  | _ => none
theorem e_cellNumber : EntryOk Try.prog TT 33 gCel := by
  refine ⟨fnOk Try.func33 (by kernel_rfl) rfl, ?_⟩
  intro args H p r he hp n0 w0 β w vals hG hH hA
  unfold gCel at he
  split at he
  · simp only [Option.some.injEq, Prod.mk.injEq] at he
    obtain ⟨rfl, rfl⟩ := he
    exact entry_bare tt_ok (inlN_ok tt_ok C0_ok mixed (ILz_ok).ok 4) C0_ok mixed Try.func33 (x_cellNumber _ _ hp.1 hp.2) rfl rfl hG hH hA
  · simp at he




def E9a : List (FuncId × Entry) := E6
theorem E9a_ok : EntriesOk Try.prog TT E9a := E6_ok
def E9b : List (FuncId × Entry) := E9a
theorem E9b_ok : EntriesOk Try.prog TT E9b := E9a_ok
def E10 : List (FuncId × Entry) := (57, gIs) :: (31, gHas) :: (33, gCel) :: E9b
theorem E10_ok : EntriesOk Try.prog TT E10 := ⟨e_l01Is, e_has, e_cellNumber, E9b_ok⟩


theorem x_l06Cell (w h : Int) (l : List Int) (r : Rg w h l) (c : Int) : Fex true TT (inlN true TT (ctrOf E10) (lookI ILz) 4) (ctrOf E10) U0 Try.f44 [.a (.c (.ptr 0 0)), .a (.c (.int .i64 c))] [.cells false 29 (picB w h l)] (fun lv _ => leL lv (.a (.c (.bool (cK w h c))))) := by
  refine Go.Sx.by_eq (q := True ∧ True ∧ True ∧ True ∧ True ∧ True ∧ True ∧ (Decidable.decide ((0 : Int) ≤ c) = Bool.true → True ∧ True ∧ True ∧ True ∧ True ∧ True ∧ (Decidable.decide (c ≤ (143 : Int)) = Bool.true → True ∧ True ∧ Rg w h l ∧ True ∧ True ∧ cK w h c = cK w h c) ∧ (Decidable.decide (c ≤ (143 : Int)) = !Bool.true → True ∧ True ∧ cK w h c = Bool.false)) ∧ (Decidable.decide ((0 : Int) ≤ c) = !Bool.true → True ∧ True ∧ True ∧ True ∧ True ∧ cK w h c = Bool.false)) (by kernel_rfl) ?_
  simp only [decide_eq_true_eq, Bool.not_true, decide_eq_false_iff_not]
  by_cases e : 0 ≤ c ∧ c ≤ 143
  · repeat' (first | trivial | exact r | omega | apply And.intro | intro _)
  · have e' : cK w h c = false := cK_f.2 (fun h => e h.1)
    rw [e']
    repeat' (first | trivial | exact r | omega | apply And.intro | intro _)
theorem e_l06Cell : EntryOk Try.prog TT 44 gIs := by
  refine ⟨fnOk Try.func44 (by kernel_rfl) rfl, ?_⟩
  intro args H p r he hp n0 w0 β w vals hG hH hA
  unfold gIs at he
  split at he
  · rename_i id c
    split at he
    · rename_i own wd hg l hb
      simp only [Option.some.injEq, Prod.mk.injEq] at he
      obtain ⟨rfl, rfl⟩ := he
      exact entry_ptr tt_ok (inlN_ok tt_ok (ctrOf_ok E10_ok) mixed (ILz_ok).ok 4) (ctrOf_ok E10_ok) mixed Try.func44 (x_l06Cell wd hg l hp c) rfl rfl rfl hG hH hb hA
    · simp at he
  · simp at he

theorem hasC {w h : Int} (hw : w ≤ 12) (hh : h ≤ 12) {c : Int} : hasB w h (c.tmod 12) (c.tdiv 12) = cK w h c := by
  by_cases h0 : 0 ≤ c
  · obtain ⟨n, rfl⟩ := Int.eq_ofNat_of_zero_le h0
    rw [tm12, td12, Bool.eq_iff_iff, hasB_t, cK_t, isB_t]
    simp only [Int.toNat_natCast]
    omega
  · have e : cK w h c = false := cK_f.2 (by omega)
    rw [e, hasB_f]
    rintro ⟨h1, _, h2, _⟩
    have h3 := Int.tmod_add_mul_tdiv c 12
    omega
theorem x_hasCell (w h : Int) (l : List Int) (r : Rg w h l) (hw : w ≤ 12) (hh : h ≤ 12) (c : Int) (hc : -9223372036854775808 ≤ c ∧ c ≤ 9223372036854775807) : Fex true TT (inlN true TT (ctrOf E10) (lookI ILz) 4) (ctrOf E10) U0 Try.f47 [pic w h l, .a (.c (.int .i64 c))] [] (fun lv _ => leL lv (.a (.c (.bool (cK w h c))))) := by
  refine Go.Sx.by_eq (q := True ∧ True ∧ True ∧ True ∧ (12 : Int) ≠ (0 : Int) ∧ True ∧ ((12 : Int) ≠ (0 : Int) ∧ (-9223372036854775808 : Int) ≤ Int.tdiv c (12 : Int) ∧ Int.tdiv c (12 : Int) ≤ (9223372036854775807 : Int)) ∧ Rg w h l ∧ True ∧ hasB w h (Int.tmod c (12 : Int)) (Int.tdiv c (12 : Int)) = cK w h c) (by kernel_rfl) ?_
  simp only [hasC hw hh]
  have hd : -9223372036854775808 ≤ c.tdiv 12 ∧ c.tdiv 12 ≤ 9223372036854775807 := by
    by_cases h0 : 0 ≤ c
    · obtain ⟨n, rfl⟩ := Int.eq_ofNat_of_zero_le h0
      rw [td12]; omega
    · obtain ⟨n, hn⟩ := Int.eq_ofNat_of_zero_le (show 0 ≤ -c by omega)
      have e : c = -(n : Int) := by omega
      subst e
      rw [Int.neg_tdiv, td12]; omega
  obtain ⟨hd1, hd2⟩ := hd
  repeat' (first | trivial | exact r | exact hd1 | exact hd2 | omega | apply And.intro | intro _)
def gHac : Entry := fun args _ => match args with
  | [.a (.agg [.int .i8 w, .int .i8 h, .run [.u8] 144 l]), .a (.c (.int .i64 c))] => some ((Rg w h l ∧ w ≤ 12 ∧ h ≤ 12) ∧ (-9223372036854775808 ≤ c ∧ c ≤ 9223372036854775807), .a (.c (.bool (cK w h c))))
  | _ => none
theorem e_hasCell : EntryOk Try.prog TT 47 gHac := by
  refine ⟨fnOk Try.func47 (by kernel_rfl) rfl, ?_⟩
  intro args H p r he hp n0 w0 β w vals hG hH hA
  unfold gHac at he
  split at he
  · simp only [Option.some.injEq, Prod.mk.injEq] at he
    obtain ⟨rfl, rfl⟩ := he
    exact entry_bare tt_ok (inlN_ok tt_ok (ctrOf_ok E10_ok) mixed (ILz_ok).ok 4) (ctrOf_ok E10_ok) mixed Try.func47 (x_hasCell _ _ _ hp.1.1 hp.1.2.1 hp.1.2.2 _ hp.2) rfl rfl hG hH hA
  · simp at he

def E11a : List (FuncId × Entry) := E10
theorem E11a_ok : EntriesOk Try.prog TT E11a := E10_ok
def E11 : List (FuncId × Entry) := (44, gIs) :: (47, gHac) :: E11a
theorem E11_ok : EntriesOk Try.prog TT E11 := ⟨e_l06Cell, e_hasCell, E11a_ok⟩

end Go.Proofs.Ytepblgefgdllfaa
