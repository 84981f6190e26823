/- Stones in a frame: both sides. No conditions beyond the ranges of the kinds. -/
import Derived.Test.YtkiblfgekojnoaaDoorVal2
set_option linter.unusedSimpArgs false
set_option linter.unusedVariables false
namespace Go.Proofs.YtkiblfgekojnoaaDoor
open Go.Sx Go.RowKit

variable {e : Nat → Value}

abbrev frC (w h : Int) : LV := .a (.agg [.int .i16 w, .int .i16 h])
/-- The frame's sides fit their kind. -/
structure Fr (w h : Int) : Prop where
  w1 : -32768 ≤ w
  w2 : w ≤ 32767
  h1 : -32768 ≤ h
  h2 : h ≤ 32767
structure FrP (w h : Int) : Prop where
  w1 : 1 ≤ w
  w2 : w ≤ 1000
  h1 : 1 ≤ h
  h2 : h ≤ 1000
structure PtP (w h x y : Int) : Prop where
  x1 : 0 ≤ x
  x2 : x ≤ w
  y1 : 0 ≤ y
  y2 : y ≤ h
def InP (n : Nat) (l : List Int) (w h : Int) : Prop := ∀ i, i < n → PtP w h ((cor l i).getD 0 0) ((cor l i).getD 1 0)

open Classical in
noncomputable def ptB (w h x y : Int) : Bool := decide (PtP w h x y)
open Classical in
noncomputable def inV (w h : Int) (n : Nat) (l : List Int) : Bool := decide (FrP w h ∧ OkP n l ∧ InP n l w h)
open Classical in
noncomputable def inE (w h : Int) (n : Nat) (l : List Int) : Int := if FrP w h ∧ OkP n l then 0 else 1
theorem ptB_t {w h x y : Int} : ptB w h x y = true ↔ PtP w h x y := by simp [ptB]
theorem ptB_f {w h x y : Int} : ptB w h x y = false ↔ ¬ PtP w h x y := by simp [ptB]
theorem inV_t {w h : Int} {n : Nat} {l : List Int} (h1 : FrP w h) (h2 : OkP n l) (h3 : InP n l w h) : inV w h n l = true := by simp [inV, h1, h2, h3]
theorem inV_f {w h : Int} {n : Nat} {l : List Int} (hh : FrP w h ∧ OkP n l ∧ InP n l w h → False) : inV w h n l = false := by
  have : ¬ (FrP w h ∧ OkP n l ∧ InP n l w h) := hh
  simp only [inV, decide_eq_false_iff_not]
  exact this
theorem inE_0 {w h : Int} {n : Nat} {l : List Int} (h1 : FrP w h) (h2 : OkP n l) : 0 = inE w h n l := by simp [inE, h1, h2]
theorem inE_1 {w h : Int} {n : Nat} {l : List Int} (hh : FrP w h ∧ OkP n l → False) : 1 = inE w h n l := by
  have : ¬ (FrP w h ∧ OkP n l) := hh
  simp only [inE]
  rw [if_neg this]
theorem in_bad {w h : Int} {n : Nat} {l : List Int} (hh : FrP w h → False) : inV w h n l = false ∧ 1 = inE w h n l := ⟨inV_f fun k => hh k.1, inE_1 fun k => hh k.1⟩

noncomputable def gPt : Entry := fun args _ => match args with
  | [.a (.agg [.int .i16 w, .int .i16 h]), .a (.c (.int .i64 x)), .a (.c (.int .i64 y))] => some (Fr w h, .a (.c (.bool (ptB w h x y))))
  | _ => none

noncomputable def ILp : List (FuncId × Func × (Nat → LM)) := [(91, Tryd.f91, U0)]
theorem ILp_ok : InlsOk Tryd.prog ILp := ⟨⟨Tryd.func91, by kernel_rfl⟩, trivial⟩

theorem x_Point (w h x y : Int) (hf : Fr w h) : Fex true (TT e) (inlN true (TT e) C0 (lookI ILp) 4) C0 U0 Tryd.f89 [frC w h, .a (.c (.int .i64 x)), .a (.c (.int .i64 y))] [] (fun lv _ => leL lv (.a (.c (.bool (ptB w h x y))))) := by
  obtain ⟨f1, f2, f3, f4⟩ := hf
  refine Go.Sx.by_eq (q := True ∧ True ∧ True ∧ True ∧ True ∧ ((-9223372036854775808 : Int) ≤ w ∧ w ≤ (9223372036854775807 : Int)) ∧ True ∧ True ∧ True ∧ True ∧ True ∧ (Decidable.decide ((0 : Int) ≤ x) = Bool.true → True ∧ True ∧ True ∧ True ∧ True ∧ True ∧ (Decidable.decide (x ≤ w) = Bool.true → True ∧ True ∧ True ∧ ((-9223372036854775808 : Int) ≤ h ∧ h ≤ (9223372036854775807 : Int)) ∧ True ∧ True ∧ True ∧ True ∧ True ∧ (Decidable.decide ((0 : Int) ≤ y) = Bool.true → True ∧ True ∧ True ∧ True ∧ True ∧ True ∧ True ∧ Decidable.decide (y ≤ h) = ptB w h x y) ∧ (Decidable.decide ((0 : Int) ≤ y) = !Bool.true → True ∧ True ∧ True ∧ True ∧ ptB w h x y = Bool.false)) ∧ (Decidable.decide (x ≤ w) = !Bool.true → True ∧ True ∧ ptB w h x y = Bool.false)) ∧ (Decidable.decide ((0 : Int) ≤ x) = !Bool.true → True ∧ True ∧ True ∧ True ∧ True ∧ ptB w h x y = Bool.false)) (by kernel_rfl) ?_
  simp only [true_and, and_true, and_self, decide_eq_true_eq, decide_eq_false_iff_not, Bool.not_eq_true', Bool.not_eq_false', Bool.not_true, Bool.not_false, beq_iff_eq, beq_eq_false_iff_ne, bne_iff_ne, bne_eq_false_iff_eq, ne_eq, not_true_eq_false, not_false_eq_true, false_implies, true_implies, implies_true, forall_const, exists_const, ↓reduceIte, Int.reduceEq, Int.toNat_natCast, Bool.false_eq_true, Bool.true_eq_false, reduceCtorEq]
  refine ⟨⟨by omega, by omega⟩, fun a => ⟨fun b => ⟨⟨by omega, by omega⟩, fun c => ?_, fun c => ptB_f.2 fun h => c h.y1⟩, fun b => ptB_f.2 fun h => b h.x2⟩, fun a => ptB_f.2 fun h => a h.x1⟩
  by_cases d : y ≤ h
  · rw [decide_eq_true d]; exact (ptB_t.2 ⟨a, b, c, d⟩).symm
  · rw [decide_eq_false d]; exact (ptB_f.2 fun h => d h.y2).symm

theorem e_Point : EntryOk Tryd.prog (TT e) 89 gPt := by
  refine ⟨fnOk Tryd.func89 (by kernel_rfl) rfl, ?_⟩
  intro args H p r he hp n0 w0 β w vals hG hH hA
  unfold gPt at he
  split at he
  · simp only [Option.some.injEq, Prod.mk.injEq] at he
    obtain ⟨rfl, rfl⟩ := he
    exact entry_bare tt_ok (inlN_ok tt_ok C0_ok mixed (ILp_ok).ok 4) C0_ok mixed Tryd.func89 (x_Point _ _ _ _ hp) rfl rfl hG hH hA
  · simp at he


noncomputable def Ef : List (FuncId × Entry) := (89, gPt) :: Ev
theorem Ef_ok : EntriesOk Tryd.prog (TT e) Ef := ⟨e_Point, Ev_ok⟩
noncomputable abbrev Cf : Ctr := ctrOfM Ef Mv
theorem Cf_ok : CtrOk Tryd.prog (TT e) Cf := ctrOfM_ok Ef_ok Mv_ok

def lmIn (n : Nat) (l : List Int) (w h : Int) (t : Nat) : LAnn := { ι := Nat, inv := fun _ k => k ≤ n ∧ ∀ i, i < k → PtP w h ((cor l i).getD 0 0) ((cor l i).getD 1 0), slots := fun _ k => [(t, .a (.c (.int .i64 k)))], blks := fun _ k => [], μ := fun _ k => n - k }

noncomputable def ILi (n : Nat) (l : List Int) (w h : Int) : List (FuncId × Func × (Nat → LM)) := [
  (91, Tryd.f91, U0),
  (80, Tryd.f80, U0),
  (81, Tryd.f81, fun _ => .inv (lmIn n l w h 5)),
  (82, Tryd.f82, U0),
  (83, Tryd.f83, fun _ => .inv (lmIn n l w h 9)),
  (90, Tryd.f90, U0)]
theorem ILi_ok {n : Nat} {l : List Int} {w h : Int} : InlsOk Tryd.prog (ILi n l w h) := ⟨⟨Tryd.func91, by kernel_rfl⟩, ⟨Tryd.func80, by kernel_rfl⟩, ⟨Tryd.func81, by kernel_rfl⟩, ⟨Tryd.func82, by kernel_rfl⟩, ⟨Tryd.func83, by kernel_rfl⟩, ⟨Tryd.func90, by kernel_rfl⟩, trivial⟩

theorem x_sIn (w h : Int) (hf : Fr w h) (m n : Nat) (l : List Int) (cap : Int) (h1 : n ≤ 1048576) (h3 : n * 2 ≤ m) (h4 : l.length = m) (hw : wfl (n * 2) l) : Fex true (TT e) (inlN true (TT e) Cf (lookI (ILi n l w h)) 4) Cf U0 Tryd.f38 [frC w h, .a (.c (.slc 0 0 0 2 n cap))] [.cells false 66 [.run [.i16] m l]] (fun lv _ => leL lv (.tup [.c (.bool (inV w h n l)), .c (.int .i64 (inE w h n l))])) := by
  obtain ⟨f1, f2, f3, f4⟩ := hf
  refine Go.Sx.by_eq (q := True ∧ True ∧ True ∧ True ∧ True ∧ True ∧ True ∧ True ∧ ((-9223372036854775808 : Int) ≤ w ∧ w ≤ (9223372036854775807 : Int)) ∧ True ∧ True ∧ True ∧ True ∧ True ∧ (Decidable.decide ((1 : Int) ≤ w) = Bool.true → True ∧ True ∧ True ∧ True ∧ True ∧ True ∧ (Decidable.decide (w ≤ (1000 : Int)) = Bool.true → True ∧ True ∧ ((-9223372036854775808 : Int) ≤ h ∧ h ≤ (9223372036854775807 : Int)) ∧ True ∧ True ∧ True ∧ True ∧ True ∧ (Decidable.decide ((1 : Int) ≤ h) = Bool.true → True ∧ True ∧ True ∧ True ∧ True ∧ True ∧ True ∧ True ∧ True ∧ ((!Decidable.decide (h ≤ (1000 : Int))) = Bool.false → True ∧ ((0 : Nat) = (0 : Nat) ∧ (0 : Int) = (0 : Int) ∧ (2 : Nat) = (2 : Nat) ∧ [Go.Sx.EK.i16] = [Go.Sx.EK.i16] ∧ (0 : Int) ≤ (↑n : Int) ∧ (↑n : Int) ≤ (1048576 : Int) ∧ Int.toNat (↑n : Int) * (2 : Nat) ≤ m ∧ List.length l = m ∧ ∀ (i : Nat), i < Int.toNat (↑n : Int) * (2 : Nat) → (-32768 : Int) ≤ List.getD l i (0 : Int) ∧ List.getD l i (0 : Int) ≤ (32767 : Int)) ∧ True ∧ True ∧ ((!okB (Int.toNat (↑n : Int)) l) = Bool.true → True ∧ True ∧ inV w h n l = Bool.false ∧ (Go.IntKind.i64 = Go.IntKind.i64 ∧ (1 : Int) = inE w h n l) ∧ True) ∧ ((!okB (Int.toNat (↑n : Int)) l) = Bool.false → True ∧ True ∧ True ∧ True ∧ True ∧ (∃ (x : Nat), (x ≤ n ∧ ∀ (i : Nat), i < x → PtP w h (List.getD (cor l i) (0 : Nat) (0 : Int)) (List.getD (cor l i) (1 : Nat) (0 : Int))) ∧ (((Go.IntKind.i16 = Go.IntKind.i16 ∧ w = w) ∧ (Go.IntKind.i16 = Go.IntKind.i16 ∧ h = h) ∧ True) ∧ Go.Sx.Cel.slc (0 : Nat) (0 : Nat) (0 : Int) (2 : Nat) (↑n : Int) cap = Go.Sx.Cel.slc (0 : Nat) (0 : Nat) (0 : Int) (2 : Nat) (↑n : Int) cap ∧ Go.Sx.Cel.ptr (3 : Nat) (0 : Nat) = Go.Sx.Cel.ptr (3 : Nat) (0 : Nat) ∧ Go.Sx.Cel.val Go.undef = Go.Sx.Cel.val Go.undef ∧ True ∧ (Go.IntKind.i64 = Go.IntKind.i64 ∧ (0 : Int) = (↑x : Int)) ∧ True ∧ True ∧ True ∧ True ∧ True ∧ True ∧ True ∧ True ∧ True ∧ True ∧ True ∧ True ∧ True ∧ True ∧ True ∧ True ∧ True ∧ True ∧ True ∧ True ∧ True ∧ True) ∧ (Bool.false = Bool.false ∧ (66 : Nat) = (66 : Nat) ∧ ([Go.Sx.EK.i16] = [Go.Sx.EK.i16] ∧ m = m ∧ l = l) ∧ True) ∧ (Bool.true = Bool.true ∧ (48 : Nat) = (48 : Nat) ∧ (Go.IntKind.i16 = Go.IntKind.i16 ∧ w = w) ∧ (Go.IntKind.i16 = Go.IntKind.i16 ∧ h = h) ∧ True) ∧ (Bool.true = Bool.true ∧ (48 : Nat) = (48 : Nat) ∧ (Go.IntKind.i16 = Go.IntKind.i16 ∧ w = w) ∧ (Go.IntKind.i16 = Go.IntKind.i16 ∧ h = h) ∧ True) ∧ (Bool.true = Bool.true ∧ (48 : Nat) = (48 : Nat) ∧ (Go.IntKind.i16 = Go.IntKind.i16 ∧ w = w) ∧ (Go.IntKind.i16 = Go.IntKind.i16 ∧ h = h) ∧ True) ∧ True) ∧ ∀ (x : Nat), (x ≤ n ∧ ∀ (i : Nat), i < x → PtP w h (List.getD (cor l i) (0 : Nat) (0 : Int)) (List.getD (cor l i) (1 : Nat) (0 : Int))) → True ∧ True ∧ True ∧ True ∧ (Decidable.decide ((↑x : Int) < (↑n : Int)) = Bool.true → True ∧ True ∧ True ∧ ((0 : Int) ≤ (↑x : Int) ∧ (↑x : Int) < (↑n : Int)) ∧ True ∧ ((0 : Int) ≤ (0 : Int) + (↑x : Int) ∧ Int.toNat ((0 : Int) + (↑x : Int)) * (2 : Nat) + (0 : Nat) < m) ∧ ((-9223372036854775808 : Int) ≤ List.getD l (Int.toNat ((0 : Int) + (↑x : Int)) * (2 : Nat) + (0 : Nat)) (0 : Int) ∧ List.getD l (Int.toNat ((0 : Int) + (↑x : Int)) * (2 : Nat) + (0 : Nat)) (0 : Int) ≤ (9223372036854775807 : Int)) ∧ True ∧ True ∧ ((0 : Int) ≤ (↑x : Int) ∧ (↑x : Int) < (↑n : Int)) ∧ True ∧ ((0 : Int) ≤ (0 : Int) + (↑x : Int) ∧ Int.toNat ((0 : Int) + (↑x : Int)) * (2 : Nat) + (1 : Nat) < m) ∧ ((-9223372036854775808 : Int) ≤ List.getD l (Int.toNat ((0 : Int) + (↑x : Int)) * (2 : Nat) + (1 : Nat)) (0 : Int) ∧ List.getD l (Int.toNat ((0 : Int) + (↑x : Int)) * (2 : Nat) + (1 : Nat)) (0 : Int) ≤ (9223372036854775807 : Int)) ∧ Fr w h ∧ True ∧ ((!ptB w h (List.getD l (Int.toNat ((0 : Int) + (↑x : Int)) * (2 : Nat) + (0 : Nat)) (0 : Int)) (List.getD l (Int.toNat ((0 : Int) + (↑x : Int)) * (2 : Nat) + (1 : Nat)) (0 : Int))) = Bool.true → True ∧ True ∧ True ∧ inV w h n l = Bool.false ∧ (Go.IntKind.i64 = Go.IntKind.i64 ∧ (0 : Int) = inE w h n l) ∧ True) ∧ ((!ptB w h (List.getD l (Int.toNat ((0 : Int) + (↑x : Int)) * (2 : Nat) + (0 : Nat)) (0 : Int)) (List.getD l (Int.toNat ((0 : Int) + (↑x : Int)) * (2 : Nat) + (1 : Nat)) (0 : Int))) = Bool.false → True ∧ ((-9223372036854775808 : Int) ≤ (↑x : Int) + (1 : Int) ∧ (↑x : Int) + (1 : Int) ≤ (9223372036854775807 : Int)) ∧ True ∧ ∃ (y : Nat), (y ≤ n ∧ ∀ (i : Nat), i < y → PtP w h (List.getD (cor l i) (0 : Nat) (0 : Int)) (List.getD (cor l i) (1 : Nat) (0 : Int))) ∧ n - y < n - x ∧ (((Go.IntKind.i16 = Go.IntKind.i16 ∧ w = w) ∧ (Go.IntKind.i16 = Go.IntKind.i16 ∧ h = h) ∧ True) ∧ Go.Sx.Cel.slc (0 : Nat) (0 : Nat) (0 : Int) (2 : Nat) (↑n : Int) cap = Go.Sx.Cel.slc (0 : Nat) (0 : Nat) (0 : Int) (2 : Nat) (↑n : Int) cap ∧ Go.Sx.Cel.ptr (3 : Nat) (0 : Nat) = Go.Sx.Cel.ptr (3 : Nat) (0 : Nat) ∧ Go.Sx.Cel.val Go.undef = Go.Sx.Cel.val Go.undef ∧ True ∧ (Go.IntKind.i64 = Go.IntKind.i64 ∧ (↑x : Int) + (1 : Int) = (↑y : Int)) ∧ True ∧ True ∧ True ∧ True ∧ True ∧ True ∧ True ∧ True ∧ True ∧ True ∧ True ∧ True ∧ True ∧ True ∧ True ∧ True ∧ True ∧ True ∧ True ∧ True ∧ True ∧ True) ∧ (Bool.false = Bool.false ∧ (66 : Nat) = (66 : Nat) ∧ ([Go.Sx.EK.i16] = [Go.Sx.EK.i16] ∧ m = m ∧ l = l) ∧ True) ∧ (Bool.true = Bool.true ∧ (48 : Nat) = (48 : Nat) ∧ (Go.IntKind.i16 = Go.IntKind.i16 ∧ w = w) ∧ (Go.IntKind.i16 = Go.IntKind.i16 ∧ h = h) ∧ True) ∧ (Bool.true = Bool.true ∧ (48 : Nat) = (48 : Nat) ∧ (Go.IntKind.i16 = Go.IntKind.i16 ∧ w = w) ∧ (Go.IntKind.i16 = Go.IntKind.i16 ∧ h = h) ∧ True) ∧ (Bool.true = Bool.true ∧ (48 : Nat) = (48 : Nat) ∧ (Go.IntKind.i16 = Go.IntKind.i16 ∧ w = w) ∧ (Go.IntKind.i16 = Go.IntKind.i16 ∧ h = h) ∧ True) ∧ True)) ∧ (Decidable.decide ((↑x : Int) < (↑n : Int)) = Bool.false → True ∧ True ∧ True ∧ inV w h n l = Bool.true ∧ (Go.IntKind.i64 = Go.IntKind.i64 ∧ (0 : Int) = inE w h n l) ∧ True))) ∧ ((!Decidable.decide (h ≤ (1000 : Int))) = !Bool.false → True ∧ True ∧ True ∧ inV w h n l = Bool.false ∧ (Go.IntKind.i64 = Go.IntKind.i64 ∧ (1 : Int) = inE w h n l) ∧ True)) ∧ (Decidable.decide ((1 : Int) ≤ h) = !Bool.true → True ∧ True ∧ True ∧ True ∧ True ∧ True ∧ True ∧ True ∧ True ∧ inV w h n l = Bool.false ∧ (Go.IntKind.i64 = Go.IntKind.i64 ∧ (1 : Int) = inE w h n l) ∧ True)) ∧ (Decidable.decide (w ≤ (1000 : Int)) = !Bool.true → True ∧ True ∧ True ∧ True ∧ True ∧ True ∧ True ∧ inV w h n l = Bool.false ∧ (Go.IntKind.i64 = Go.IntKind.i64 ∧ (1 : Int) = inE w h n l) ∧ True)) ∧ (Decidable.decide ((1 : Int) ≤ w) = !Bool.true → True ∧ True ∧ True ∧ True ∧ True ∧ True ∧ True ∧ True ∧ True ∧ True ∧ inV w h n l = Bool.false ∧ (Go.IntKind.i64 = Go.IntKind.i64 ∧ (1 : Int) = inE w h n l) ∧ True)) (by kernel_rfl) ?_
  have ec : ∀ i, List.take 2 (List.drop (i * 2) l) = cor l i := fun _ => rfl
  simp only [true_and, and_true, and_self, decide_eq_true_eq, decide_eq_false_iff_not, Bool.not_eq_true', Bool.not_eq_false', Bool.not_true, Bool.not_false, beq_iff_eq, beq_eq_false_iff_ne, bne_iff_ne, bne_eq_false_iff_eq, ne_eq, not_true_eq_false, not_false_eq_true, false_implies, true_implies, implies_true, forall_const, exists_const, ↓reduceIte, Int.reduceEq, Int.toNat_natCast, Bool.false_eq_true, Bool.true_eq_false, reduceCtorEq, Int.zero_add, Nat.add_zero, ec]
  refine ⟨⟨by omega, by omega⟩, fun a1 => ⟨fun a2 => ⟨⟨by omega, by omega⟩, fun a3 => ⟨fun a4 => ⟨⟨by omega, by omega, h3, h4, hw⟩, fun k => ⟨inV_f fun h => okB_f.1 k h.2.1, inE_1 fun h => okB_f.1 k h.2⟩, fun k => ?_⟩, fun x => in_bad fun h => x h.h2⟩, fun x => in_bad fun h => x h.h1⟩, fun x => in_bad fun h => x h.w2⟩, fun x => in_bad fun h => x h.w1⟩
  have ok := okB_t.1 k
  have fr : FrP w h := ⟨a1, a2, a3, a4⟩
  refine ⟨⟨0, ⟨by omega, fun i hi => by omega⟩, rfl⟩, ?_⟩
  rintro i ⟨hi, hp⟩
  refine ⟨fun hlt => ?_, fun hge => ⟨inV_t fr ok fun j hj => hp j (by omega), inE_0 fr ok⟩⟩
  have hc := hw (i * 2) (by omega)
  have hc1 := hw (i * 2 + 1) (by omega)
  refine ⟨⟨by omega, by omega⟩, ⟨by omega, by omega⟩, ⟨by omega, by omega⟩, ⟨by omega, by omega⟩, ⟨by omega, by omega⟩, ⟨by omega, by omega⟩, ⟨f1, f2, f3, f4⟩, fun hb => ⟨inV_f fun h => ptB_f.1 hb ?_, inE_0 fr ok⟩, fun hb => ⟨⟨by omega, by omega⟩, i + 1, ⟨by omega, fun j hj => ?_⟩, by omega, by omega⟩⟩
  · have := h.2.2 i (by omega)
    rwa [cor0, cor1] at this
  · rcases (show j < i ∨ j = i by omega) with h' | rfl
    · exact hp j h'
    · rw [cor0, cor1]; exact ptB_t.1 hb

theorem x_iIn (w h : Int) (hf : Fr w h) (m n : Nat) (l : List Int) (cap : Int) (h1 : n ≤ 1048576) (h3 : n * 2 ≤ m) (h4 : l.length = m) (hw : wfl (n * 2) l) : Fex true (TT e) (inlN true (TT e) Cf (lookI (ILi n l w h)) 4) Cf U0 Tryd.f40 [frC w h, .a (.c (.slc 0 0 0 2 n cap))] [.cells false 66 [.run [.i16] m l]] (fun lv _ => leL lv (.tup [.c (.bool (inV w h n l)), .c (.int .i64 (inE w h n l))])) := by
  obtain ⟨f1, f2, f3, f4⟩ := hf
  refine Go.Sx.by_eq (q := True ∧ True ∧ True ∧ True ∧ True ∧ True ∧ True ∧ True ∧ True ∧ True ∧ (Decidable.decide ((1 : Int) ≤ w) = Bool.true → True ∧ True ∧ True ∧ True ∧ True ∧ (Decidable.decide (w ≤ (1000 : Int)) = Bool.true → True ∧ True ∧ True ∧ True ∧ True ∧ (Decidable.decide ((1 : Int) ≤ h) = Bool.true → True ∧ True ∧ True ∧ True ∧ True ∧ True ∧ True ∧ ((!Decidable.decide (h ≤ (1000 : Int))) = Bool.false → True ∧ ((0 : Nat) = (0 : Nat) ∧ (0 : Int) = (0 : Int) ∧ (2 : Nat) = (2 : Nat) ∧ [Go.Sx.EK.i16] = [Go.Sx.EK.i16] ∧ (0 : Int) ≤ (↑n : Int) ∧ (↑n : Int) ≤ (1048576 : Int) ∧ Int.toNat (↑n : Int) * (2 : Nat) ≤ m ∧ List.length l = m ∧ ∀ (i : Nat), i < Int.toNat (↑n : Int) * (2 : Nat) → (-32768 : Int) ≤ List.getD l i (0 : Int) ∧ List.getD l i (0 : Int) ≤ (32767 : Int)) ∧ True ∧ True ∧ ((!okB (Int.toNat (↑n : Int)) l) = Bool.true → True ∧ True ∧ inV w h n l = Bool.false ∧ (Go.IntKind.i64 = Go.IntKind.i64 ∧ (1 : Int) = inE w h n l) ∧ True) ∧ ((!okB (Int.toNat (↑n : Int)) l) = Bool.false → True ∧ True ∧ True ∧ True ∧ True ∧ True ∧ True ∧ (∃ (x : Nat), (x ≤ n ∧ ∀ (i : Nat), i < x → PtP w h (List.getD (cor l i) (0 : Nat) (0 : Int)) (List.getD (cor l i) (1 : Nat) (0 : Int))) ∧ (((Go.IntKind.i16 = Go.IntKind.i16 ∧ w = w) ∧ (Go.IntKind.i16 = Go.IntKind.i16 ∧ h = h) ∧ True) ∧ Go.Sx.Cel.slc (0 : Nat) (0 : Nat) (0 : Int) (2 : Nat) (↑n : Int) cap = Go.Sx.Cel.slc (0 : Nat) (0 : Nat) (0 : Int) (2 : Nat) (↑n : Int) cap ∧ Go.Sx.Cel.ptr (3 : Nat) (0 : Nat) = Go.Sx.Cel.ptr (3 : Nat) (0 : Nat) ∧ Go.Sx.Cel.val Go.undef = Go.Sx.Cel.val Go.undef ∧ True ∧ Go.Sx.Cel.val Go.undef = Go.Sx.Cel.val Go.undef ∧ True ∧ Go.Sx.Cel.slc (0 : Nat) (0 : Nat) (0 : Int) (2 : Nat) (↑n : Int) cap = Go.Sx.Cel.slc (0 : Nat) (0 : Nat) (0 : Int) (2 : Nat) (↑n : Int) cap ∧ (Go.IntKind.i64 = Go.IntKind.i64 ∧ (↑n : Int) = (↑n : Int)) ∧ (Go.IntKind.i64 = Go.IntKind.i64 ∧ (0 : Int) = (↑x : Int)) ∧ True ∧ True ∧ True ∧ True ∧ True ∧ True ∧ True ∧ True ∧ True ∧ True ∧ True ∧ True ∧ True ∧ True) ∧ (Bool.false = Bool.false ∧ (66 : Nat) = (66 : Nat) ∧ ([Go.Sx.EK.i16] = [Go.Sx.EK.i16] ∧ m = m ∧ l = l) ∧ True) ∧ (Bool.true = Bool.true ∧ (48 : Nat) = (48 : Nat) ∧ (Go.IntKind.i16 = Go.IntKind.i16 ∧ w = w) ∧ (Go.IntKind.i16 = Go.IntKind.i16 ∧ h = h) ∧ True) ∧ (Bool.true = Bool.true ∧ (48 : Nat) = (48 : Nat) ∧ (Go.IntKind.i16 = Go.IntKind.i16 ∧ w = w) ∧ (Go.IntKind.i16 = Go.IntKind.i16 ∧ h = h) ∧ True) ∧ (Bool.true = Bool.true ∧ (48 : Nat) = (48 : Nat) ∧ (Go.IntKind.i16 = Go.IntKind.i16 ∧ w = w) ∧ (Go.IntKind.i16 = Go.IntKind.i16 ∧ h = h) ∧ True) ∧ True) ∧ ∀ (x : Nat), (x ≤ n ∧ ∀ (i : Nat), i < x → PtP w h (List.getD (cor l i) (0 : Nat) (0 : Int)) (List.getD (cor l i) (1 : Nat) (0 : Int))) → True ∧ (Decidable.decide ((↑x : Int) < (↑n : Int)) = Bool.true → ((0 : Int) ≤ (↑x : Int) ∧ (↑x : Int) < (↑n : Int)) ∧ ((0 : Int) ≤ (0 : Int) + (↑x : Int) ∧ Int.toNat ((0 : Int) + (↑x : Int)) * (2 : Nat) + (0 : Nat) + (2 : Nat) ≤ m) ∧ True ∧ True ∧ True ∧ True ∧ True ∧ ((-9223372036854775808 : Int) ≤ List.getD (List.take (2 : Nat) (List.drop (Int.toNat ((0 : Int) + (↑x : Int)) * (2 : Nat) + (0 : Nat)) l)) (0 : Nat) (0 : Int) ∧ List.getD (List.take (2 : Nat) (List.drop (Int.toNat ((0 : Int) + (↑x : Int)) * (2 : Nat) + (0 : Nat)) l)) (0 : Nat) (0 : Int) ≤ (9223372036854775807 : Int)) ∧ True ∧ True ∧ ((-9223372036854775808 : Int) ≤ List.getD (List.take (2 : Nat) (List.drop (Int.toNat ((0 : Int) + (↑x : Int)) * (2 : Nat) + (0 : Nat)) l)) (1 : Nat) (0 : Int) ∧ List.getD (List.take (2 : Nat) (List.drop (Int.toNat ((0 : Int) + (↑x : Int)) * (2 : Nat) + (0 : Nat)) l)) (1 : Nat) (0 : Int) ≤ (9223372036854775807 : Int)) ∧ True ∧ True ∧ True ∧ True ∧ True ∧ (Decidable.decide ((0 : Int) ≤ List.getD (List.take (2 : Nat) (List.drop (Int.toNat ((0 : Int) + (↑x : Int)) * (2 : Nat) + (0 : Nat)) l)) (0 : Nat) (0 : Int)) = Bool.true → True ∧ True ∧ True ∧ ((-9223372036854775808 : Int) ≤ w ∧ w ≤ (9223372036854775807 : Int)) ∧ True ∧ True ∧ True ∧ (Decidable.decide (List.getD (List.take (2 : Nat) (List.drop (Int.toNat ((0 : Int) + (↑x : Int)) * (2 : Nat) + (0 : Nat)) l)) (0 : Nat) (0 : Int) ≤ w) = Bool.true → True ∧ True ∧ True ∧ True ∧ (Decidable.decide ((0 : Int) ≤ List.getD (List.take (2 : Nat) (List.drop (Int.toNat ((0 : Int) + (↑x : Int)) * (2 : Nat) + (0 : Nat)) l)) (1 : Nat) (0 : Int)) = Bool.true → True ∧ True ∧ True ∧ ((-9223372036854775808 : Int) ≤ h ∧ h ≤ (9223372036854775807 : Int)) ∧ True ∧ True ∧ True ∧ True ∧ ((!Decidable.decide (List.getD (List.take (2 : Nat) (List.drop (Int.toNat ((0 : Int) + (↑x : Int)) * (2 : Nat) + (0 : Nat)) l)) (1 : Nat) (0 : Int) ≤ h)) = Bool.true → True ∧ True ∧ True ∧ inV w h n l = Bool.false ∧ (Go.IntKind.i64 = Go.IntKind.i64 ∧ (0 : Int) = inE w h n l) ∧ True) ∧ ((!Decidable.decide (List.getD (List.take (2 : Nat) (List.drop (Int.toNat ((0 : Int) + (↑x : Int)) * (2 : Nat) + (0 : Nat)) l)) (1 : Nat) (0 : Int) ≤ h)) = Bool.false → ((-9223372036854775808 : Int) ≤ (↑x : Int) + (1 : Int) ∧ (↑x : Int) + (1 : Int) ≤ (9223372036854775807 : Int)) ∧ True ∧ ∃ (y : Nat), (y ≤ n ∧ ∀ (i : Nat), i < y → PtP w h (List.getD (cor l i) (0 : Nat) (0 : Int)) (List.getD (cor l i) (1 : Nat) (0 : Int))) ∧ n - y < n - x ∧ (((Go.IntKind.i16 = Go.IntKind.i16 ∧ w = w) ∧ (Go.IntKind.i16 = Go.IntKind.i16 ∧ h = h) ∧ True) ∧ Go.Sx.Cel.slc (0 : Nat) (0 : Nat) (0 : Int) (2 : Nat) (↑n : Int) cap = Go.Sx.Cel.slc (0 : Nat) (0 : Nat) (0 : Int) (2 : Nat) (↑n : Int) cap ∧ Go.Sx.Cel.ptr (3 : Nat) (0 : Nat) = Go.Sx.Cel.ptr (3 : Nat) (0 : Nat) ∧ Go.Sx.Cel.val Go.undef = Go.Sx.Cel.val Go.undef ∧ True ∧ Go.Sx.Cel.val Go.undef = Go.Sx.Cel.val Go.undef ∧ True ∧ Go.Sx.Cel.slc (0 : Nat) (0 : Nat) (0 : Int) (2 : Nat) (↑n : Int) cap = Go.Sx.Cel.slc (0 : Nat) (0 : Nat) (0 : Int) (2 : Nat) (↑n : Int) cap ∧ (Go.IntKind.i64 = Go.IntKind.i64 ∧ (↑n : Int) = (↑n : Int)) ∧ (Go.IntKind.i64 = Go.IntKind.i64 ∧ (↑x : Int) + (1 : Int) = (↑y : Int)) ∧ True ∧ True ∧ True ∧ True ∧ True ∧ True ∧ True ∧ True ∧ True ∧ True ∧ True ∧ True ∧ True ∧ True) ∧ (Bool.false = Bool.false ∧ (66 : Nat) = (66 : Nat) ∧ ([Go.Sx.EK.i16] = [Go.Sx.EK.i16] ∧ m = m ∧ l = l) ∧ True) ∧ (Bool.true = Bool.true ∧ (48 : Nat) = (48 : Nat) ∧ (Go.IntKind.i16 = Go.IntKind.i16 ∧ w = w) ∧ (Go.IntKind.i16 = Go.IntKind.i16 ∧ h = h) ∧ True) ∧ (Bool.true = Bool.true ∧ (48 : Nat) = (48 : Nat) ∧ (Go.IntKind.i16 = Go.IntKind.i16 ∧ w = w) ∧ (Go.IntKind.i16 = Go.IntKind.i16 ∧ h = h) ∧ True) ∧ (Bool.true = Bool.true ∧ (48 : Nat) = (48 : Nat) ∧ (Go.IntKind.i16 = Go.IntKind.i16 ∧ w = w) ∧ (Go.IntKind.i16 = Go.IntKind.i16 ∧ h = h) ∧ True) ∧ True)) ∧ (Decidable.decide ((0 : Int) ≤ List.getD (List.take (2 : Nat) (List.drop (Int.toNat ((0 : Int) + (↑x : Int)) * (2 : Nat) + (0 : Nat)) l)) (1 : Nat) (0 : Int)) = !Bool.true → True ∧ True ∧ True ∧ True ∧ True ∧ True ∧ inV w h n l = Bool.false ∧ (Go.IntKind.i64 = Go.IntKind.i64 ∧ (0 : Int) = inE w h n l) ∧ True)) ∧ (Decidable.decide (List.getD (List.take (2 : Nat) (List.drop (Int.toNat ((0 : Int) + (↑x : Int)) * (2 : Nat) + (0 : Nat)) l)) (0 : Nat) (0 : Int) ≤ w) = !Bool.true → True ∧ True ∧ True ∧ True ∧ True ∧ True ∧ True ∧ True ∧ inV w h n l = Bool.false ∧ (Go.IntKind.i64 = Go.IntKind.i64 ∧ (0 : Int) = inE w h n l) ∧ True)) ∧ (Decidable.decide ((0 : Int) ≤ List.getD (List.take (2 : Nat) (List.drop (Int.toNat ((0 : Int) + (↑x : Int)) * (2 : Nat) + (0 : Nat)) l)) (0 : Nat) (0 : Int)) = !Bool.true → True ∧ True ∧ True ∧ True ∧ True ∧ True ∧ True ∧ True ∧ True ∧ True ∧ inV w h n l = Bool.false ∧ (Go.IntKind.i64 = Go.IntKind.i64 ∧ (0 : Int) = inE w h n l) ∧ True)) ∧ (Decidable.decide ((↑x : Int) < (↑n : Int)) = Bool.false → True ∧ True ∧ True ∧ inV w h n l = Bool.true ∧ (Go.IntKind.i64 = Go.IntKind.i64 ∧ (0 : Int) = inE w h n l) ∧ True))) ∧ ((!Decidable.decide (h ≤ (1000 : Int))) = !Bool.false → True ∧ True ∧ True ∧ inV w h n l = Bool.false ∧ (Go.IntKind.i64 = Go.IntKind.i64 ∧ (1 : Int) = inE w h n l) ∧ True)) ∧ (Decidable.decide ((1 : Int) ≤ h) = !Bool.true → True ∧ True ∧ True ∧ True ∧ True ∧ True ∧ True ∧ inV w h n l = Bool.false ∧ (Go.IntKind.i64 = Go.IntKind.i64 ∧ (1 : Int) = inE w h n l) ∧ True)) ∧ (Decidable.decide (w ≤ (1000 : Int)) = !Bool.true → True ∧ True ∧ True ∧ True ∧ True ∧ True ∧ True ∧ True ∧ True ∧ inV w h n l = Bool.false ∧ (Go.IntKind.i64 = Go.IntKind.i64 ∧ (1 : Int) = inE w h n l) ∧ True)) ∧ (Decidable.decide ((1 : Int) ≤ w) = !Bool.true → True ∧ True ∧ True ∧ True ∧ True ∧ True ∧ True ∧ True ∧ True ∧ True ∧ True ∧ inV w h n l = Bool.false ∧ (Go.IntKind.i64 = Go.IntKind.i64 ∧ (1 : Int) = inE w h n l) ∧ True)) (by kernel_rfl) ?_
  have ec : ∀ i, List.take 2 (List.drop (i * 2) l) = cor l i := fun _ => rfl
  simp only [true_and, and_true, and_self, decide_eq_true_eq, decide_eq_false_iff_not, Bool.not_eq_true', Bool.not_eq_false', Bool.not_true, Bool.not_false, beq_iff_eq, beq_eq_false_iff_ne, bne_iff_ne, bne_eq_false_iff_eq, ne_eq, not_true_eq_false, not_false_eq_true, false_implies, true_implies, implies_true, forall_const, exists_const, ↓reduceIte, Int.reduceEq, Int.toNat_natCast, Bool.false_eq_true, Bool.true_eq_false, reduceCtorEq, Int.zero_add, Nat.add_zero, ec]
  refine ⟨fun a1 => ⟨fun a2 => ⟨fun a3 => ⟨fun a4 => ⟨⟨by omega, by omega, h3, h4, hw⟩, fun k => ⟨inV_f fun h => okB_f.1 k h.2.1, inE_1 fun h => okB_f.1 k h.2⟩, fun k => ?_⟩, fun x => in_bad fun h => x h.h2⟩, fun x => in_bad fun h => x h.h1⟩, fun x => in_bad fun h => x h.w2⟩, fun x => in_bad fun h => x h.w1⟩
  have ok := okB_t.1 k
  have fr : FrP w h := ⟨a1, a2, a3, a4⟩
  refine ⟨⟨0, ⟨by omega, fun i hi => by omega⟩, rfl⟩, ?_⟩
  rintro i ⟨hi, hp⟩
  refine ⟨fun hlt => ?_, fun hge => ⟨inV_t fr ok fun j hj => hp j (by omega), inE_0 fr ok⟩⟩
  have hc := wfl_cor hw (show i < n by omega)
  have bad : (PtP w h ((cor l i).getD 0 0) ((cor l i).getD 1 0) → False) → inV w h n l = false ∧ 0 = inE w h n l := fun hh => ⟨inV_f fun h => hh (h.2.2 i (by omega)), inE_0 fr ok⟩
  refine ⟨⟨by omega, by omega⟩, ⟨by omega, by omega⟩, ⟨by omega, by omega⟩, ⟨by omega, by omega⟩, fun c1 => ⟨⟨by omega, by omega⟩, fun c2 => ⟨fun c3 => ⟨⟨by omega, by omega⟩, fun c4 => bad fun h => c4 h.y2, fun c4 => ⟨⟨by omega, by omega⟩, i + 1, ⟨by omega, fun j hj => ?_⟩, by omega, by omega⟩⟩, fun c3 => bad fun h => c3 h.y1⟩, fun c2 => bad fun h => c2 h.x2⟩, fun c1 => bad fun h => c1 h.x1⟩
  rcases (show j < i ∨ j = i by omega) with h' | rfl
  · exact hp j h'
  · exact ⟨c1, c2, c3, c4⟩

noncomputable def gIn : Entry := fun args H => match args with
  | [.a (.agg [.int .i16 w, .int .i16 h]), .a (.c (.slc id b z s len _))] => match getB H id with
    | .cells _ t [.run ks n l] => if t = 66 then some (Fr w h ∧ b = 0 ∧ z = 0 ∧ s = 2 ∧ ks = [.i16] ∧ 0 ≤ len ∧ len ≤ 1048576 ∧ len.toNat * 2 ≤ n ∧ l.length = n ∧ wfl (len.toNat * 2) l, .tup [.c (.bool (inV w h len.toNat l)), .c (.int .i64 (inE w h len.toNat l))]) else none
    | _ => none
  | _ => none

theorem gIn_inv {args : List LV} {H : List Blk} {p : Prop} {r : LV} (he : gIn args H = some (p, r)) (hp : p) : ∃ (w h : Int) (id m n : Nat) (o : Bool) (l : List Int) (cap : Int),
    args = [frC w h, .a (.c (.slc id 0 0 2 n cap))] ∧ Fr w h ∧ getB H id = .cells o 66 [.run [.i16] m l] ∧ r = .tup [.c (.bool (inV w h n l)), .c (.int .i64 (inE w h n l))] ∧ n ≤ 1048576 ∧ n * 2 ≤ m ∧ l.length = m ∧ wfl (n * 2) l := by
  unfold gIn at he
  split at he
  · split at he
    · rename_i w h id b z s len cap _ o t ks m l hg
      split at he
      · rename_i ht
        subst ht
        simp only [Option.some.injEq, Prod.mk.injEq] at he
        obtain ⟨rfl, rfl⟩ := he
        obtain ⟨hf, rfl, rfl, rfl, rfl, h1, h2, h3, h4, h5⟩ := hp
        obtain ⟨n, rfl⟩ := Int.eq_ofNat_of_zero_le h1
        exact ⟨w, h, id, m, n, o, l, cap, rfl, hf, hg, rfl, by omega, by simpa using h3, h4, by simpa using h5⟩
      · simp at he
    · simp at he
  · simp at he

theorem e_sIn : EntryOk Tryd.prog (TT e) 38 gIn := by
  refine ⟨fnOk Tryd.func38 (by kernel_rfl) rfl, ?_⟩
  intro args H p r he hp n0 w0 β w vals hG hH hA
  obtain ⟨wd, hg', id, m, n, o, l, cap, rfl, hf, hg, rfl, h1, h2, h3, h4⟩ := gIn_inv he hp
  exact entry_view tt_ok (inlN_ok tt_ok Cf_ok mixed ILi_ok.ok 4) Cf_ok mixed Tryd.func38 [id] (x_sIn wd hg' hf m n l cap h1 h2 h3 h4) rfl rfl ⟨.inr (by rw [hg]; rfl), trivial⟩ hG hH hA

theorem e_iIn : EntryOk Tryd.prog (TT e) 40 gIn := by
  refine ⟨fnOk Tryd.func40 (by kernel_rfl) rfl, ?_⟩
  intro args H p r he hp n0 w0 β w vals hG hH hA
  obtain ⟨wd, hg', id, m, n, o, l, cap, rfl, hf, hg, rfl, h1, h2, h3, h4⟩ := gIn_inv he hp
  exact entry_view tt_ok (inlN_ok tt_ok Cf_ok mixed ILi_ok.ok 4) Cf_ok mixed Tryd.func40 [id] (x_iIn wd hg' hf m n l cap h1 h2 h3 h4) rfl rfl ⟨.inr (by rw [hg]; rfl), trivial⟩ hG hH hA

noncomputable def Ei : List (FuncId × Entry) := (38, gIn) :: (40, gIn) :: Ef
theorem Ei_ok : EntriesOk Tryd.prog (TT e) Ei := ⟨e_sIn, e_iIn, Ef_ok⟩
noncomputable abbrev Ci : Ctr := ctrOfM Ei Mv
theorem Ci_ok : CtrOk Tryd.prog (TT e) Ci := ctrOfM_ok Ei_ok Mv_ok

theorem bounds_i16 {n : Int} (h : (Lit.int .i16 n).wf = true) : -32768 ≤ n ∧ n ≤ 32767 := by simpa [Lit.wf, IntKind.min, IntKind.max, IntKind.signed, IntKind.bits] using h

set_option maxRecDepth 100000 in
theorem open_fr {H : Type} {enc : TypeId × Value → H} {w : World} {base : Nat} {spare : Nat → Bool} {held : Bool} {r : Reach} {b0 : Nat} {v : Value} {d : DataW H} {ps : List MemPlace}
    (hval : Value.okWide Tryd.prog w r b0 46 v) (hd : DataW.Trod enc Tryd.prog w base spare held 46 v d ps) : ∃ wd hg, Fr wd hg ∧ ∀ β, LVR β (frC wd hg) v := by
  obtain ⟨ns, h1, h2, h3⟩ := open_flat Tryd.underlying46 hval hd [.one .i16, .one .i16] (by kernel_rfl)
  have h1 : ns.length = 2 := h1
  match ns, h1 with
  | [wd, hg], h1 =>
    have b1 := bounds_i16 (h2 0 .i16 wd rfl rfl)
    have b2 := bounds_i16 (h2 1 .i16 hg rfl rfl)
    exact ⟨wd, hg, ⟨b1.1, b1.2, b2.1, b2.2⟩, fun β => by simpa [shCels, frC] using h3 β⟩

end Go.Proofs.YtkiblfgekojnoaaDoor
