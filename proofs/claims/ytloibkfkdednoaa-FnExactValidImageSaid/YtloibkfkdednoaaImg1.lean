/- Images: ValidImage on both sides. No conditions beyond the ranges of the kinds. -/
import Derived.Test.YtloibkfkdednoaaPic5
namespace Go.Proofs.Ytloibkfkdednoaa
open Go.Sx Go.RowKit

def TTi : Tab := [(2, ⟨.int .i64, 1, [.lit .i64 0]⟩),
  (3, ⟨.int .i64, 1, [.lit .i64 0]⟩),
  (4, ⟨.bool, 1, [.ff]⟩),
  (5, ⟨.int .u8, 1, [.lit .u8 0]⟩),
  (22, ⟨.arr 3 5, 3, [.run [.u8] 3 (List.replicate 3 0)]⟩),
  (24, ⟨.arr 3 5, 3, [.run [.u8] 3 (List.replicate 3 0)]⟩),
  (31, ⟨.int .i8, 1, [.lit .i8 0]⟩),
  (32, ⟨.arr 144 5, 144, [.run [.u8] 144 (List.replicate 144 0)]⟩),
  (34, ⟨.struct [(0, 31), (1, 31), (2, 32)], 146, [.lit .i8 0, .lit .i8 0, .run [.u8] 144 (List.replicate 144 0)]⟩),
  (53, ⟨.arr 144 22, 432, [.run [.u8] 432 (List.replicate 432 0)]⟩),
  (55, ⟨.struct [(0, 31), (1, 31), (2, 53)], 434, [.lit .i8 0, .lit .i8 0, .run [.u8] 432 (List.replicate 432 0)]⟩),
  (57, ⟨.arr 144 24, 432, [.run [.u8] 432 (List.replicate 432 0)]⟩),
  (59, ⟨.struct [(0, 31), (1, 31), (2, 57)], 434, [.lit .i8 0, .lit .i8 0, .run [.u8] 432 (List.replicate 432 0)]⟩),
  (76, ⟨.fn, 1, [.val .nilFunc]⟩),
  (88, ⟨.ptr, 1, [.val (.pointer none)]⟩)]
theorem tti_ok : TabOk Try.prog TTi := Tab.chk_sound (by kernel_rfl) (by kernel_rfl)

def img (w h : Int) (l : List Int) : LV := .a (.agg [.int .i8 w, .int .i8 h, .run [.u8] 432 l])
def imgB (w h : Int) (l : List Int) : List Cel := [.int .i8 w, .int .i8 h, .run [.u8] 432 l]
def toneL (l : List Int) : LV := .a (.agg [.run [.u8] 3 l])
def tonesA (l : List Int) : LV := .a (.agg [.run [.u8] 432 l])

structure RgI (w h : Int) (l : List Int) : Prop where
  w1 : -128 ≤ w
  w2 : w ≤ 127
  h1 : -128 ≤ h
  h2 : h ≤ 127
  len : l.length = 432

/-! ### toTone, toToneA144, toImage -/

set_option maxRecDepth 100000 in
theorem x_toToneL (l : List Int) (hl : l.length = 3) : Fex true TTi (inlN true TTi (ctrOf []) (lookI IL) 2) (ctrOf []) (fun _ => .unroll 4) Try.f16 [toneL l] [] (fun lv _ => leL lv (toneL l)) := by
  match l, hl with
  | [a, b, c], _ =>
    refine Go.Sx.by_eq (q := True ∧ True ∧ True ∧ True ∧ True ∧ True ∧ True ∧ True ∧ True ∧ True ∧ True ∧ True ∧ True ∧ True ∧ True ∧ True ∧ True ∧ True ∧ True ∧ True ∧ True ∧ True ∧ True ∧ True ∧ True ∧ True ∧ True ∧ True ∧ True ∧ True ∧ True ∧ True ∧ True ∧ True ∧ True ∧ True ∧ True ∧ True ∧ True ∧ True ∧ True ∧ ([Go.IntKind.u8] = [Go.IntKind.u8] ∧ (3 : Nat) = (3 : Nat) ∧ List.set (List.set (List.set (List.replicate (3 : Nat) (0 : Int)) (0 : Nat) (List.getD [a, b, c] (0 : Nat) (0 : Int))) (1 : Nat) (List.getD [a, b, c] (1 : Nat) (0 : Int))) (2 : Nat) (List.getD [a, b, c] (2 : Nat) (0 : Int)) = [a, b, c]) ∧ True) (by kernel_rfl) ?_
    simp

def gToToneL : Entry := fun args _ => match args with
  | [.a (.agg [.run [.u8] 3 l])] => some (True, toneL l)
  | _ => none

theorem e_toToneL : EntryOk Try.prog 16 gToToneL := by
  refine ⟨fnOk Try.func16 (by kernel_rfl) rfl, ?_⟩
  intro args H p r he hp n0 w0 β w vals hH hA
  unfold gToToneL at he
  split at he
  · rename_i l
    simp only [Option.some.injEq, Prod.mk.injEq] at he
    obtain ⟨rfl, rfl⟩ := he
    have hl : l.length = 3 := by obtain ⟨v, _, _, h, _⟩ := hA; exact run_len h
    exact entry_bare tti_ok (inlN_ok tti_ok (ctrOf_ok (L := []) trivial) mixed IL_ok.ok 2) (ctrOf_ok (L := []) trivial) mixed Try.func16 (x_toToneL l hl) rfl rfl hA
  · simp at he

def Ei1 : List (FuncId × Entry) := [(16, gToToneL)]
theorem Ei1_ok : EntriesOk Try.prog Ei1 := ⟨e_toToneL, trivial⟩

def lmTones (l : List Int) : LAnn := { ι := Nat × List Int, inv := fun _ x => x.1 ≤ 144 ∧ x.2.length = 432 ∧ x.2.take (x.1 * 3) = l.take (x.1 * 3), slots := fun _ x => [(4, .a (.c (.int .i64 x.1)))], blks := fun _ x => [(2, [.run [.u8] 432 x.2])], μ := fun _ x => 144 - x.1 }

set_option maxRecDepth 100000 in
theorem x_toToneA144 (l : List Int) (hl : l.length = 432) : Fex true TTi (inlN true TTi (ctrOf Ei1) (lookI IL) 2) (ctrOf Ei1) (fun _ => .inv (lmTones l)) Try.f76 [tonesA l] [] (fun lv _ => leL lv (tonesA l)) := by
  refine Go.Sx.by_eq (q := True ∧ True ∧ True ∧ True ∧ (∃ (x : Nat × List Int), (x.fst ≤ (144 : Nat) ∧ List.length x.snd = (432 : Nat) ∧ List.take (x.fst * (3 : Nat)) x.snd = List.take (x.fst * (3 : Nat)) l) ∧ ((([Go.IntKind.u8] = [Go.IntKind.u8] ∧ (432 : Nat) = (432 : Nat) ∧ l = l) ∧ True) ∧ Go.Sx.Cel.ptr (0 : Nat) (0 : Nat) = Go.Sx.Cel.ptr (0 : Nat) (0 : Nat) ∧ Go.Sx.Cel.ptr (1 : Nat) (0 : Nat) = Go.Sx.Cel.ptr (1 : Nat) (0 : Nat) ∧ Go.Sx.Cel.ptr (2 : Nat) (0 : Nat) = Go.Sx.Cel.ptr (2 : Nat) (0 : Nat) ∧ (Go.IntKind.i64 = Go.IntKind.i64 ∧ (0 : Int) = (↑x.fst : Int)) ∧ True ∧ True ∧ True ∧ True ∧ True ∧ True ∧ True ∧ True ∧ True ∧ True ∧ Go.Sx.Cel.val Go.undef = Go.Sx.Cel.val Go.undef ∧ True) ∧ (Bool.true = Bool.true ∧ (53 : Nat) = (53 : Nat) ∧ ([Go.IntKind.u8] = [Go.IntKind.u8] ∧ (432 : Nat) = (432 : Nat) ∧ l = l) ∧ True) ∧ (Bool.true = Bool.true ∧ (57 : Nat) = (57 : Nat) ∧ ([Go.IntKind.u8] = [Go.IntKind.u8] ∧ (432 : Nat) = (432 : Nat) ∧ List.replicate (432 : Nat) (0 : Int) = List.replicate (432 : Nat) (0 : Int)) ∧ True) ∧ (Bool.true = Bool.true ∧ (57 : Nat) = (57 : Nat) ∧ ([Go.IntKind.u8] = [Go.IntKind.u8] ∧ (432 : Nat) = (432 : Nat) ∧ List.replicate (432 : Nat) (0 : Int) = x.snd) ∧ True) ∧ True) ∧ ∀ (x : Nat × List Int), x.fst ≤ (144 : Nat) ∧ List.length x.snd = (432 : Nat) ∧ List.take (x.fst * (3 : Nat)) x.snd = List.take (x.fst * (3 : Nat)) l → True ∧ True ∧ (Decidable.decide ((↑x.fst : Int) < (144 : Int)) = Bool.true → True ∧ True ∧ ((0 : Int) ≤ (↑x.fst : Int) ∧ (↑x.fst : Int) < (↑(144 : Nat) : Int)) ∧ ((0 : Int) ≤ (↑x.fst : Int) ∧ Int.toNat (↑x.fst : Int) * (3 : Nat) + (0 : Nat) + (Go.Sx.TI.mk (Go.Sx.TD.arr (3 : Nat) (5 : Go.TypeId)) (3 : Nat) [Go.Sx.Cel.run [Go.IntKind.u8] (3 : Nat) (List.replicate (3 : Nat) (0 : Int))]).size ≤ (432 : Nat)) ∧ True ∧ ((0 : Int) ≤ (↑x.fst : Int) ∧ (↑x.fst : Int) < (↑(144 : Nat) : Int)) ∧ ((0 : Int) ≤ (↑x.fst : Int) ∧ Int.toNat (↑x.fst : Int) * (3 : Nat) + (0 : Nat) + (3 : Nat) ≤ (432 : Nat)) ∧ True ∧ ((-9223372036854775808 : Int) ≤ (↑x.fst : Int) + (1 : Int) ∧ (↑x.fst : Int) + (1 : Int) ≤ (9223372036854775807 : Int)) ∧ True ∧ ∃ (y : Nat × List Int), (y.fst ≤ (144 : Nat) ∧ List.length y.snd = (432 : Nat) ∧ List.take (y.fst * (3 : Nat)) y.snd = List.take (y.fst * (3 : Nat)) l) ∧ (144 : Nat) - y.fst < (144 : Nat) - x.fst ∧ ((([Go.IntKind.u8] = [Go.IntKind.u8] ∧ (432 : Nat) = (432 : Nat) ∧ l = l) ∧ True) ∧ Go.Sx.Cel.ptr (0 : Nat) (0 : Nat) = Go.Sx.Cel.ptr (0 : Nat) (0 : Nat) ∧ Go.Sx.Cel.ptr (1 : Nat) (0 : Nat) = Go.Sx.Cel.ptr (1 : Nat) (0 : Nat) ∧ Go.Sx.Cel.ptr (2 : Nat) (0 : Nat) = Go.Sx.Cel.ptr (2 : Nat) (0 : Nat) ∧ (Go.IntKind.i64 = Go.IntKind.i64 ∧ (↑x.fst : Int) + (1 : Int) = (↑y.fst : Int)) ∧ True ∧ True ∧ True ∧ True ∧ True ∧ True ∧ True ∧ True ∧ True ∧ True ∧ Go.Sx.Cel.val Go.undef = Go.Sx.Cel.val Go.undef ∧ True) ∧ (Bool.true = Bool.true ∧ (53 : Nat) = (53 : Nat) ∧ ([Go.IntKind.u8] = [Go.IntKind.u8] ∧ (432 : Nat) = (432 : Nat) ∧ l = l) ∧ True) ∧ (Bool.true = Bool.true ∧ (57 : Nat) = (57 : Nat) ∧ ([Go.IntKind.u8] = [Go.IntKind.u8] ∧ (432 : Nat) = (432 : Nat) ∧ List.replicate (432 : Nat) (0 : Int) = List.replicate (432 : Nat) (0 : Int)) ∧ True) ∧ (Bool.true = Bool.true ∧ (57 : Nat) = (57 : Nat) ∧ ([Go.IntKind.u8] = [Go.IntKind.u8] ∧ (432 : Nat) = (432 : Nat) ∧ List.take (Int.toNat (↑x.fst : Int) * (3 : Nat) + (0 : Nat)) x.snd ++ List.take (Go.Sx.TI.mk (Go.Sx.TD.arr (3 : Nat) (5 : Go.TypeId)) (3 : Nat) [Go.Sx.Cel.run [Go.IntKind.u8] (3 : Nat) (List.replicate (3 : Nat) (0 : Int))]).size (List.drop (Int.toNat (↑x.fst : Int) * (3 : Nat) + (0 : Nat)) l) ++ List.drop (Int.toNat (↑x.fst : Int) * (3 : Nat) + (0 : Nat) + (3 : Nat)) x.snd = y.snd) ∧ True) ∧ True) ∧ (Decidable.decide ((↑x.fst : Int) < (144 : Int)) = Bool.false → True ∧ True ∧ ([Go.IntKind.u8] = [Go.IntKind.u8] ∧ (432 : Nat) = (432 : Nat) ∧ x.snd = l) ∧ True)) (by kernel_rfl) ?_
  simp only [true_and, and_true, and_self, decide_eq_true_eq, decide_eq_false_iff_not, Int.toNat_natCast]
  refine ⟨⟨(0, List.replicate 432 0), ⟨by omega, by simp, by simp⟩, rfl, rfl⟩, ?_⟩
  rintro ⟨k, m⟩ ⟨h1, h2, h3⟩
  simp only at h1 h2 h3 ⊢
  refine ⟨fun hlt => ?_, fun hge => ?_⟩
  · simp only [Nat.add_zero]
    refine ⟨by omega, by omega, by omega, by omega, by omega, (k + 1, m.take (k * 3) ++ (l.drop (k * 3)).take 3 ++ m.drop (k * 3 + 3)), ⟨by simp only; omega, by simp; omega, ?_⟩, by simp only; omega, by simp, rfl⟩
    simp only
    rw [Nat.add_mul, Nat.one_mul, List.take_append_of_le_length (by simp; omega), List.take_of_length_le (by simp; omega), h3, ← List.take_add]
  · have : k = 144 := by omega
    subst this
    rw [List.take_of_length_le (by omega), List.take_of_length_le (by omega)] at h3
    exact h3

def gToTones : Entry := fun args _ => match args with
  | [.a (.agg [.run [.u8] 432 l])] => some (True, tonesA l)
  | _ => none

theorem e_toToneA144 : EntryOk Try.prog 76 gToTones := by
  refine ⟨fnOk Try.func76 (by kernel_rfl) rfl, ?_⟩
  intro args H p r he hp n0 w0 β w vals hH hA
  unfold gToTones at he
  split at he
  · rename_i l
    simp only [Option.some.injEq, Prod.mk.injEq] at he
    obtain ⟨rfl, rfl⟩ := he
    have hl : l.length = 432 := by obtain ⟨v, _, _, h, _⟩ := hA; exact run_len h
    exact entry_bare tti_ok (inlN_ok tti_ok (ctrOf_ok Ei1_ok) mixed IL_ok.ok 2) (ctrOf_ok Ei1_ok) mixed Try.func76 (x_toToneA144 l hl) rfl rfl hA
  · simp at he

def Ei2 : List (FuncId × Entry) := (76, gToTones) :: Ei1
theorem Ei2_ok : EntriesOk Try.prog Ei2 := ⟨e_toToneA144, Ei1_ok⟩

set_option maxRecDepth 100000 in
theorem x_toImage (w h : Int) (l : List Int) : Fex true TTi (inlN true TTi (ctrOf Ei2) (lookI IL) 2) (ctrOf Ei2) U0 Try.f42 [img w h l] [] (fun lv _ => leL lv (img w h l)) := by
  refine Go.Sx.by_eq (q := True ∧ True ∧ True ∧ True ∧ True ∧ True ∧ True ∧ True ∧ True ∧ True ∧ True ∧ True ∧ True ∧ True ∧ True ∧ True ∧ True ∧ True ∧ (Go.IntKind.i8 = Go.IntKind.i8 ∧ w = w) ∧ (Go.IntKind.i8 = Go.IntKind.i8 ∧ h = h) ∧ ([Go.IntKind.u8] = [Go.IntKind.u8] ∧ (432 : Nat) = (432 : Nat) ∧ l = l) ∧ True) (by kernel_rfl) ?_
  simp only [and_self]

def gToImage : Entry := fun args _ => match args with
  | [.a (.agg [.int .i8 w, .int .i8 h, .run [.u8] 432 l])] => some (True, img w h l)
  | _ => none

theorem e_toImage : EntryOk Try.prog 42 gToImage := by
  refine ⟨fnOk Try.func42 (by kernel_rfl) rfl, ?_⟩
  intro args H p r he hp n0 w0 β w vals hH hA
  unfold gToImage at he
  split at he
  · simp only [Option.some.injEq, Prod.mk.injEq] at he
    obtain ⟨rfl, rfl⟩ := he
    exact entry_bare tti_ok (inlN_ok tti_ok (ctrOf_ok Ei2_ok) mixed IL_ok.ok 2) (ctrOf_ok Ei2_ok) mixed Try.func42 (x_toImage _ _ _) rfl rfl hA
  · simp at he

/-! ### Validity -/

def tonAt (l : List Int) (i : Nat) : List Int := (l.drop (i * 3)).take 3
def okT (w h : Int) (l : List Int) (i : Nat) : Bool := isB w h i || tonAt l i == List.replicate 3 0
def okI (w h : Int) (l : List Int) : Bool := (decide (1 ≤ w) && decide (w ≤ 12)) && (decide (1 ≤ h) && decide (h ≤ 12)) && (List.range 144).all (okT w h l)

theorem okI_side {w h : Int} {l : List Int} (hn : ¬ (1 ≤ w ∧ w ≤ 12 ∧ 1 ≤ h ∧ h ≤ 12)) : okI w h l = false := by
  rw [Bool.eq_false_iff, ne_eq]
  intro e
  simp only [okI, Bool.and_eq_true, decide_eq_true_eq] at e
  exact hn ⟨e.1.1.1, e.1.1.2, e.1.2.1, e.1.2.2⟩

theorem okI_bad {w h : Int} {l : List Int} {i : Nat} (hi : i < 144) (hb : isB w h i = false) (ht : tonAt l i ≠ List.replicate 3 0) : okI w h l = false := by
  rw [Bool.eq_false_iff, ne_eq]
  intro e
  simp only [okI, Bool.and_eq_true, List.all_eq_true] at e
  have := e.2 i (by simpa using hi)
  simp only [okT, hb, Bool.false_or, beq_iff_eq] at this
  exact ht this

def lmOkI (w h : Int) (l : List Int) : LAnn := { ι := Nat, inv := fun _ k => k ≤ 144 ∧ (List.range k).all (okT w h l) = true, slots := fun _ k => [(3, .a (.c (.int .i64 k)))], blks := fun _ _ => [], μ := fun _ k => 144 - k }

noncomputable def ILi : List (FuncId × Func × (Nat → LM)) := (84, Try.f84, U0) :: (75, Try.f75, U0) ::
  (77, Try.f77, U0) :: (85, Try.f85, U0) :: (60, Try.f60, U0) :: IL
theorem ILi_ok : InlsOk Try.prog ILi := ⟨⟨Try.func84, by kernel_rfl⟩, ⟨Try.func75, by kernel_rfl⟩, ⟨Try.func77, by kernel_rfl⟩, ⟨Try.func85, by kernel_rfl⟩, ⟨Try.func60, by kernel_rfl⟩, IL_ok⟩

set_option maxRecDepth 100000 in
set_option maxHeartbeats 4000000 in
theorem x_l02Image (w h : Int) (l : List Int) (r : RgI w h l) : Fex true TTi (inlN true TTi C7 (lookI ILi) 4) C7 (fun _ => .inv (lmOkI w h l)) Try.f75 [.a (.c (.ptr 0 0))] [.cells false 59 (imgB w h l)] (fun lv _ => leL lv (.a (.c (.bool (okI w h l))))) := by
  refine Go.Sx.by_eq (q := True ∧ True ∧ True ∧ True ∧ True ∧ ((-9223372036854775808 : Int) ≤ w ∧ w ≤ (9223372036854775807 : Int)) ∧ True ∧ True ∧ True ∧ True ∧ True ∧ (Decidable.decide ((1 : Int) ≤ w) = Bool.true → True ∧ True ∧ True ∧ True ∧ True ∧ True ∧ True ∧ ((!Decidable.decide (w ≤ (12 : Int))) = Bool.false → True ∧ True ∧ True ∧ True ∧ ((-9223372036854775808 : Int) ≤ h ∧ h ≤ (9223372036854775807 : Int)) ∧ True ∧ True ∧ True ∧ True ∧ True ∧ (Decidable.decide ((1 : Int) ≤ h) = Bool.true → True ∧ True ∧ True ∧ True ∧ True ∧ True ∧ True ∧ ((!Decidable.decide (h ≤ (12 : Int))) = Bool.true → True ∧ Go.Proofs.Ytloibkfkdednoaa.okI w h l = Bool.false) ∧ ((!Decidable.decide (h ≤ (12 : Int))) = Bool.false → True ∧ (∃ (x : Nat), (x ≤ (144 : Nat) ∧ List.all (List.range x) (Go.Proofs.Ytloibkfkdednoaa.okT w h l) = Bool.true) ∧ (Go.Sx.Cel.ptr (0 : Nat) (0 : Nat) = Go.Sx.Cel.ptr (0 : Nat) (0 : Nat) ∧ Go.Sx.Cel.val Go.undef = Go.Sx.Cel.val Go.undef ∧ True ∧ (Go.IntKind.i64 = Go.IntKind.i64 ∧ (0 : Int) = (↑x : Int)) ∧ Go.Sx.Cel.ptr (0 : Nat) (0 : Nat) = Go.Sx.Cel.ptr (0 : Nat) (0 : Nat) ∧ Go.Sx.Cel.ptr (0 : Nat) (0 : Nat) = Go.Sx.Cel.ptr (0 : Nat) (0 : Nat) ∧ Go.Sx.Cel.ptr (0 : Nat) (0 : Nat) = Go.Sx.Cel.ptr (0 : Nat) (0 : Nat) ∧ (Go.IntKind.i8 = Go.IntKind.i8 ∧ w = w) ∧ (Go.IntKind.i64 = Go.IntKind.i64 ∧ w = w) ∧ Decidable.decide (w ≤ (12 : Int)) = Decidable.decide (w ≤ (12 : Int)) ∧ (!Decidable.decide (w ≤ (12 : Int))) = !Decidable.decide (w ≤ (12 : Int)) ∧ True ∧ Go.Sx.Cel.ptr (0 : Nat) (0 : Nat) = Go.Sx.Cel.ptr (0 : Nat) (0 : Nat) ∧ Go.Sx.Cel.ptr (0 : Nat) (0 : Nat) = Go.Sx.Cel.ptr (0 : Nat) (0 : Nat) ∧ Go.Sx.Cel.ptr (0 : Nat) (1 : Nat) = Go.Sx.Cel.ptr (0 : Nat) (1 : Nat) ∧ (Go.IntKind.i8 = Go.IntKind.i8 ∧ h = h) ∧ (Go.IntKind.i64 = Go.IntKind.i64 ∧ h = h) ∧ Decidable.decide (h ≤ (12 : Int)) = Decidable.decide (h ≤ (12 : Int)) ∧ (!Decidable.decide (h ≤ (12 : Int))) = !Decidable.decide (h ≤ (12 : Int)) ∧ (!Decidable.decide (h ≤ (12 : Int))) = !Decidable.decide (h ≤ (12 : Int)) ∧ True ∧ True ∧ True ∧ True ∧ True ∧ True ∧ True ∧ True ∧ True ∧ True ∧ True ∧ True ∧ True ∧ True ∧ True ∧ True ∧ True ∧ True ∧ True) ∧ (Bool.false = Bool.false ∧ (59 : Nat) = (59 : Nat) ∧ (Go.IntKind.i8 = Go.IntKind.i8 ∧ w = w) ∧ (Go.IntKind.i8 = Go.IntKind.i8 ∧ h = h) ∧ ([Go.IntKind.u8] = [Go.IntKind.u8] ∧ (432 : Nat) = (432 : Nat) ∧ l = l) ∧ True) ∧ True) ∧ ∀ (x : Nat), x ≤ (144 : Nat) ∧ List.all (List.range x) (Go.Proofs.Ytloibkfkdednoaa.okT w h l) = Bool.true → True ∧ True ∧ (Decidable.decide ((↑x : Int) < (144 : Int)) = Bool.true → True ∧ True ∧ True ∧ True ∧ True ∧ True ∧ True ∧ True ∧ True ∧ (Decidable.decide ((0 : Int) ≤ (↑x : Int)) = Bool.true → True ∧ True ∧ True ∧ True ∧ True ∧ True ∧ (Decidable.decide ((↑x : Int) ≤ (143 : Int)) = Bool.true → True ∧ (12 : Int) ≠ (0 : Int) ∧ True ∧ True ∧ True ∧ True ∧ ((-9223372036854775808 : Int) ≤ w ∧ w ≤ (9223372036854775807 : Int)) ∧ True ∧ True ∧ True ∧ (Decidable.decide (Int.tmod (↑x : Int) (12 : Int) < w) = Bool.true → True ∧ ((12 : Int) ≠ (0 : Int) ∧ (-9223372036854775808 : Int) ≤ Int.tdiv (↑x : Int) (12 : Int) ∧ Int.tdiv (↑x : Int) (12 : Int) ≤ (9223372036854775807 : Int)) ∧ True ∧ True ∧ True ∧ True ∧ ((-9223372036854775808 : Int) ≤ h ∧ h ≤ (9223372036854775807 : Int)) ∧ True ∧ True ∧ True ∧ True ∧ True ∧ ((!Decidable.decide (Int.tdiv (↑x : Int) (12 : Int) < h)) = Bool.true → True ∧ True ∧ True ∧ True ∧ ((0 : Int) ≤ (↑x : Int) ∧ (↑x : Int) < (↑(144 : Nat) : Int)) ∧ ((0 : Int) ≤ (↑x : Int) ∧ Int.toNat (↑x : Int) * (3 : Nat) + (0 : Nat) + (Go.Sx.TI.mk (Go.Sx.TD.arr (3 : Nat) (5 : Go.TypeId)) (3 : Nat) [Go.Sx.Cel.run [Go.IntKind.u8] (3 : Nat) (List.replicate (3 : Nat) (0 : Int))]).size ≤ (432 : Nat)) ∧ True ∧ True ∧ True ∧ ((!List.take (Go.Sx.TI.mk (Go.Sx.TD.arr (3 : Nat) (5 : Go.TypeId)) (3 : Nat) [Go.Sx.Cel.run [Go.IntKind.u8] (3 : Nat) (List.replicate (3 : Nat) (0 : Int))]).size (List.drop (Int.toNat (↑x : Int) * (3 : Nat) + (0 : Nat)) l) == List.replicate (3 : Nat) (0 : Int)) = Bool.true → True ∧ Go.Proofs.Ytloibkfkdednoaa.okI w h l = Bool.false) ∧ ((!List.take (Go.Sx.TI.mk (Go.Sx.TD.arr (3 : Nat) (5 : Go.TypeId)) (3 : Nat) [Go.Sx.Cel.run [Go.IntKind.u8] (3 : Nat) (List.replicate (3 : Nat) (0 : Int))]).size (List.drop (Int.toNat (↑x : Int) * (3 : Nat) + (0 : Nat)) l) == List.replicate (3 : Nat) (0 : Int)) = Bool.false → True ∧ ((-9223372036854775808 : Int) ≤ (↑x : Int) + (1 : Int) ∧ (↑x : Int) + (1 : Int) ≤ (9223372036854775807 : Int)) ∧ True ∧ ∃ (y : Nat), (y ≤ (144 : Nat) ∧ List.all (List.range y) (Go.Proofs.Ytloibkfkdednoaa.okT w h l) = Bool.true) ∧ (144 : Nat) - y < (144 : Nat) - x ∧ (Go.Sx.Cel.ptr (0 : Nat) (0 : Nat) = Go.Sx.Cel.ptr (0 : Nat) (0 : Nat) ∧ Go.Sx.Cel.val Go.undef = Go.Sx.Cel.val Go.undef ∧ True ∧ (Go.IntKind.i64 = Go.IntKind.i64 ∧ (↑x : Int) + (1 : Int) = (↑y : Int)) ∧ Go.Sx.Cel.ptr (0 : Nat) (0 : Nat) = Go.Sx.Cel.ptr (0 : Nat) (0 : Nat) ∧ Go.Sx.Cel.ptr (0 : Nat) (0 : Nat) = Go.Sx.Cel.ptr (0 : Nat) (0 : Nat) ∧ Go.Sx.Cel.ptr (0 : Nat) (0 : Nat) = Go.Sx.Cel.ptr (0 : Nat) (0 : Nat) ∧ (Go.IntKind.i8 = Go.IntKind.i8 ∧ w = w) ∧ (Go.IntKind.i64 = Go.IntKind.i64 ∧ w = w) ∧ Decidable.decide (w ≤ (12 : Int)) = Decidable.decide (w ≤ (12 : Int)) ∧ (!Decidable.decide (w ≤ (12 : Int))) = !Decidable.decide (w ≤ (12 : Int)) ∧ True ∧ Go.Sx.Cel.ptr (0 : Nat) (0 : Nat) = Go.Sx.Cel.ptr (0 : Nat) (0 : Nat) ∧ Go.Sx.Cel.ptr (0 : Nat) (0 : Nat) = Go.Sx.Cel.ptr (0 : Nat) (0 : Nat) ∧ Go.Sx.Cel.ptr (0 : Nat) (1 : Nat) = Go.Sx.Cel.ptr (0 : Nat) (1 : Nat) ∧ (Go.IntKind.i8 = Go.IntKind.i8 ∧ h = h) ∧ (Go.IntKind.i64 = Go.IntKind.i64 ∧ h = h) ∧ Decidable.decide (h ≤ (12 : Int)) = Decidable.decide (h ≤ (12 : Int)) ∧ (!Decidable.decide (h ≤ (12 : Int))) = !Decidable.decide (h ≤ (12 : Int)) ∧ (!Decidable.decide (h ≤ (12 : Int))) = !Decidable.decide (h ≤ (12 : Int)) ∧ True ∧ True ∧ True ∧ True ∧ True ∧ True ∧ True ∧ True ∧ True ∧ True ∧ True ∧ True ∧ True ∧ True ∧ True ∧ True ∧ True ∧ True ∧ True) ∧ (Bool.false = Bool.false ∧ (59 : Nat) = (59 : Nat) ∧ (Go.IntKind.i8 = Go.IntKind.i8 ∧ w = w) ∧ (Go.IntKind.i8 = Go.IntKind.i8 ∧ h = h) ∧ ([Go.IntKind.u8] = [Go.IntKind.u8] ∧ (432 : Nat) = (432 : Nat) ∧ l = l) ∧ True) ∧ True)) ∧ ((!Decidable.decide (Int.tdiv (↑x : Int) (12 : Int) < h)) = !Bool.true → True ∧ True ∧ ((-9223372036854775808 : Int) ≤ (↑x : Int) + (1 : Int) ∧ (↑x : Int) + (1 : Int) ≤ (9223372036854775807 : Int)) ∧ True ∧ ∃ (y : Nat), (y ≤ (144 : Nat) ∧ List.all (List.range y) (Go.Proofs.Ytloibkfkdednoaa.okT w h l) = Bool.true) ∧ (144 : Nat) - y < (144 : Nat) - x ∧ (Go.Sx.Cel.ptr (0 : Nat) (0 : Nat) = Go.Sx.Cel.ptr (0 : Nat) (0 : Nat) ∧ Go.Sx.Cel.val Go.undef = Go.Sx.Cel.val Go.undef ∧ True ∧ (Go.IntKind.i64 = Go.IntKind.i64 ∧ (↑x : Int) + (1 : Int) = (↑y : Int)) ∧ Go.Sx.Cel.ptr (0 : Nat) (0 : Nat) = Go.Sx.Cel.ptr (0 : Nat) (0 : Nat) ∧ Go.Sx.Cel.ptr (0 : Nat) (0 : Nat) = Go.Sx.Cel.ptr (0 : Nat) (0 : Nat) ∧ Go.Sx.Cel.ptr (0 : Nat) (0 : Nat) = Go.Sx.Cel.ptr (0 : Nat) (0 : Nat) ∧ (Go.IntKind.i8 = Go.IntKind.i8 ∧ w = w) ∧ (Go.IntKind.i64 = Go.IntKind.i64 ∧ w = w) ∧ Decidable.decide (w ≤ (12 : Int)) = Decidable.decide (w ≤ (12 : Int)) ∧ (!Decidable.decide (w ≤ (12 : Int))) = !Decidable.decide (w ≤ (12 : Int)) ∧ True ∧ Go.Sx.Cel.ptr (0 : Nat) (0 : Nat) = Go.Sx.Cel.ptr (0 : Nat) (0 : Nat) ∧ Go.Sx.Cel.ptr (0 : Nat) (0 : Nat) = Go.Sx.Cel.ptr (0 : Nat) (0 : Nat) ∧ Go.Sx.Cel.ptr (0 : Nat) (1 : Nat) = Go.Sx.Cel.ptr (0 : Nat) (1 : Nat) ∧ (Go.IntKind.i8 = Go.IntKind.i8 ∧ h = h) ∧ (Go.IntKind.i64 = Go.IntKind.i64 ∧ h = h) ∧ Decidable.decide (h ≤ (12 : Int)) = Decidable.decide (h ≤ (12 : Int)) ∧ (!Decidable.decide (h ≤ (12 : Int))) = !Decidable.decide (h ≤ (12 : Int)) ∧ (!Decidable.decide (h ≤ (12 : Int))) = !Decidable.decide (h ≤ (12 : Int)) ∧ True ∧ True ∧ True ∧ True ∧ True ∧ True ∧ True ∧ True ∧ True ∧ True ∧ True ∧ True ∧ True ∧ True ∧ True ∧ True ∧ True ∧ True ∧ True) ∧ (Bool.false = Bool.false ∧ (59 : Nat) = (59 : Nat) ∧ (Go.IntKind.i8 = Go.IntKind.i8 ∧ w = w) ∧ (Go.IntKind.i8 = Go.IntKind.i8 ∧ h = h) ∧ ([Go.IntKind.u8] = [Go.IntKind.u8] ∧ (432 : Nat) = (432 : Nat) ∧ l = l) ∧ True) ∧ True)) ∧ (Decidable.decide (Int.tmod (↑x : Int) (12 : Int) < w) = !Bool.true → True ∧ True ∧ True ∧ True ∧ True ∧ True ∧ True ∧ True ∧ ((0 : Int) ≤ (↑x : Int) ∧ (↑x : Int) < (↑(144 : Nat) : Int)) ∧ ((0 : Int) ≤ (↑x : Int) ∧ Int.toNat (↑x : Int) * (3 : Nat) + (0 : Nat) + (Go.Sx.TI.mk (Go.Sx.TD.arr (3 : Nat) (5 : Go.TypeId)) (3 : Nat) [Go.Sx.Cel.run [Go.IntKind.u8] (3 : Nat) (List.replicate (3 : Nat) (0 : Int))]).size ≤ (432 : Nat)) ∧ True ∧ True ∧ True ∧ ((!List.take (Go.Sx.TI.mk (Go.Sx.TD.arr (3 : Nat) (5 : Go.TypeId)) (3 : Nat) [Go.Sx.Cel.run [Go.IntKind.u8] (3 : Nat) (List.replicate (3 : Nat) (0 : Int))]).size (List.drop (Int.toNat (↑x : Int) * (3 : Nat) + (0 : Nat)) l) == List.replicate (3 : Nat) (0 : Int)) = Bool.true → True ∧ Go.Proofs.Ytloibkfkdednoaa.okI w h l = Bool.false) ∧ ((!List.take (Go.Sx.TI.mk (Go.Sx.TD.arr (3 : Nat) (5 : Go.TypeId)) (3 : Nat) [Go.Sx.Cel.run [Go.IntKind.u8] (3 : Nat) (List.replicate (3 : Nat) (0 : Int))]).size (List.drop (Int.toNat (↑x : Int) * (3 : Nat) + (0 : Nat)) l) == List.replicate (3 : Nat) (0 : Int)) = Bool.false → True ∧ ((-9223372036854775808 : Int) ≤ (↑x : Int) + (1 : Int) ∧ (↑x : Int) + (1 : Int) ≤ (9223372036854775807 : Int)) ∧ True ∧ ∃ (y : Nat), (y ≤ (144 : Nat) ∧ List.all (List.range y) (Go.Proofs.Ytloibkfkdednoaa.okT w h l) = Bool.true) ∧ (144 : Nat) - y < (144 : Nat) - x ∧ (Go.Sx.Cel.ptr (0 : Nat) (0 : Nat) = Go.Sx.Cel.ptr (0 : Nat) (0 : Nat) ∧ Go.Sx.Cel.val Go.undef = Go.Sx.Cel.val Go.undef ∧ True ∧ (Go.IntKind.i64 = Go.IntKind.i64 ∧ (↑x : Int) + (1 : Int) = (↑y : Int)) ∧ Go.Sx.Cel.ptr (0 : Nat) (0 : Nat) = Go.Sx.Cel.ptr (0 : Nat) (0 : Nat) ∧ Go.Sx.Cel.ptr (0 : Nat) (0 : Nat) = Go.Sx.Cel.ptr (0 : Nat) (0 : Nat) ∧ Go.Sx.Cel.ptr (0 : Nat) (0 : Nat) = Go.Sx.Cel.ptr (0 : Nat) (0 : Nat) ∧ (Go.IntKind.i8 = Go.IntKind.i8 ∧ w = w) ∧ (Go.IntKind.i64 = Go.IntKind.i64 ∧ w = w) ∧ Decidable.decide (w ≤ (12 : Int)) = Decidable.decide (w ≤ (12 : Int)) ∧ (!Decidable.decide (w ≤ (12 : Int))) = !Decidable.decide (w ≤ (12 : Int)) ∧ True ∧ Go.Sx.Cel.ptr (0 : Nat) (0 : Nat) = Go.Sx.Cel.ptr (0 : Nat) (0 : Nat) ∧ Go.Sx.Cel.ptr (0 : Nat) (0 : Nat) = Go.Sx.Cel.ptr (0 : Nat) (0 : Nat) ∧ Go.Sx.Cel.ptr (0 : Nat) (1 : Nat) = Go.Sx.Cel.ptr (0 : Nat) (1 : Nat) ∧ (Go.IntKind.i8 = Go.IntKind.i8 ∧ h = h) ∧ (Go.IntKind.i64 = Go.IntKind.i64 ∧ h = h) ∧ Decidable.decide (h ≤ (12 : Int)) = Decidable.decide (h ≤ (12 : Int)) ∧ (!Decidable.decide (h ≤ (12 : Int))) = !Decidable.decide (h ≤ (12 : Int)) ∧ (!Decidable.decide (h ≤ (12 : Int))) = !Decidable.decide (h ≤ (12 : Int)) ∧ True ∧ True ∧ True ∧ True ∧ True ∧ True ∧ True ∧ True ∧ True ∧ True ∧ True ∧ True ∧ True ∧ True ∧ True ∧ True ∧ True ∧ True ∧ True) ∧ (Bool.false = Bool.false ∧ (59 : Nat) = (59 : Nat) ∧ (Go.IntKind.i8 = Go.IntKind.i8 ∧ w = w) ∧ (Go.IntKind.i8 = Go.IntKind.i8 ∧ h = h) ∧ ([Go.IntKind.u8] = [Go.IntKind.u8] ∧ (432 : Nat) = (432 : Nat) ∧ l = l) ∧ True) ∧ True))) ∧ (Decidable.decide ((↑x : Int) ≤ (143 : Int)) = !Bool.true → True ∧ True ∧ True ∧ True ∧ True ∧ True ∧ True ∧ True ∧ True ∧ True ∧ ((0 : Int) ≤ (↑x : Int) ∧ (↑x : Int) < (↑(144 : Nat) : Int)) ∧ ((0 : Int) ≤ (↑x : Int) ∧ Int.toNat (↑x : Int) * (3 : Nat) + (0 : Nat) + (Go.Sx.TI.mk (Go.Sx.TD.arr (3 : Nat) (5 : Go.TypeId)) (3 : Nat) [Go.Sx.Cel.run [Go.IntKind.u8] (3 : Nat) (List.replicate (3 : Nat) (0 : Int))]).size ≤ (432 : Nat)) ∧ True ∧ True ∧ True ∧ ((!List.take (Go.Sx.TI.mk (Go.Sx.TD.arr (3 : Nat) (5 : Go.TypeId)) (3 : Nat) [Go.Sx.Cel.run [Go.IntKind.u8] (3 : Nat) (List.replicate (3 : Nat) (0 : Int))]).size (List.drop (Int.toNat (↑x : Int) * (3 : Nat) + (0 : Nat)) l) == List.replicate (3 : Nat) (0 : Int)) = Bool.true → True ∧ Go.Proofs.Ytloibkfkdednoaa.okI w h l = Bool.false) ∧ ((!List.take (Go.Sx.TI.mk (Go.Sx.TD.arr (3 : Nat) (5 : Go.TypeId)) (3 : Nat) [Go.Sx.Cel.run [Go.IntKind.u8] (3 : Nat) (List.replicate (3 : Nat) (0 : Int))]).size (List.drop (Int.toNat (↑x : Int) * (3 : Nat) + (0 : Nat)) l) == List.replicate (3 : Nat) (0 : Int)) = Bool.false → True ∧ ((-9223372036854775808 : Int) ≤ (↑x : Int) + (1 : Int) ∧ (↑x : Int) + (1 : Int) ≤ (9223372036854775807 : Int)) ∧ True ∧ ∃ (y : Nat), (y ≤ (144 : Nat) ∧ List.all (List.range y) (Go.Proofs.Ytloibkfkdednoaa.okT w h l) = Bool.true) ∧ (144 : Nat) - y < (144 : Nat) - x ∧ (Go.Sx.Cel.ptr (0 : Nat) (0 : Nat) = Go.Sx.Cel.ptr (0 : Nat) (0 : Nat) ∧ Go.Sx.Cel.val Go.undef = Go.Sx.Cel.val Go.undef ∧ True ∧ (Go.IntKind.i64 = Go.IntKind.i64 ∧ (↑x : Int) + (1 : Int) = (↑y : Int)) ∧ Go.Sx.Cel.ptr (0 : Nat) (0 : Nat) = Go.Sx.Cel.ptr (0 : Nat) (0 : Nat) ∧ Go.Sx.Cel.ptr (0 : Nat) (0 : Nat) = Go.Sx.Cel.ptr (0 : Nat) (0 : Nat) ∧ Go.Sx.Cel.ptr (0 : Nat) (0 : Nat) = Go.Sx.Cel.ptr (0 : Nat) (0 : Nat) ∧ (Go.IntKind.i8 = Go.IntKind.i8 ∧ w = w) ∧ (Go.IntKind.i64 = Go.IntKind.i64 ∧ w = w) ∧ Decidable.decide (w ≤ (12 : Int)) = Decidable.decide (w ≤ (12 : Int)) ∧ (!Decidable.decide (w ≤ (12 : Int))) = !Decidable.decide (w ≤ (12 : Int)) ∧ True ∧ Go.Sx.Cel.ptr (0 : Nat) (0 : Nat) = Go.Sx.Cel.ptr (0 : Nat) (0 : Nat) ∧ Go.Sx.Cel.ptr (0 : Nat) (0 : Nat) = Go.Sx.Cel.ptr (0 : Nat) (0 : Nat) ∧ Go.Sx.Cel.ptr (0 : Nat) (1 : Nat) = Go.Sx.Cel.ptr (0 : Nat) (1 : Nat) ∧ (Go.IntKind.i8 = Go.IntKind.i8 ∧ h = h) ∧ (Go.IntKind.i64 = Go.IntKind.i64 ∧ h = h) ∧ Decidable.decide (h ≤ (12 : Int)) = Decidable.decide (h ≤ (12 : Int)) ∧ (!Decidable.decide (h ≤ (12 : Int))) = !Decidable.decide (h ≤ (12 : Int)) ∧ (!Decidable.decide (h ≤ (12 : Int))) = !Decidable.decide (h ≤ (12 : Int)) ∧ True ∧ True ∧ True ∧ True ∧ True ∧ True ∧ True ∧ True ∧ True ∧ True ∧ True ∧ True ∧ True ∧ True ∧ True ∧ True ∧ True ∧ True ∧ True) ∧ (Bool.false = Bool.false ∧ (59 : Nat) = (59 : Nat) ∧ (Go.IntKind.i8 = Go.IntKind.i8 ∧ w = w) ∧ (Go.IntKind.i8 = Go.IntKind.i8 ∧ h = h) ∧ ([Go.IntKind.u8] = [Go.IntKind.u8] ∧ (432 : Nat) = (432 : Nat) ∧ l = l) ∧ True) ∧ True))) ∧ (Decidable.decide ((0 : Int) ≤ (↑x : Int)) = !Bool.true → True ∧ True ∧ True ∧ True ∧ True ∧ True ∧ True ∧ True ∧ True ∧ True ∧ True ∧ True ∧ True ∧ ((0 : Int) ≤ (↑x : Int) ∧ (↑x : Int) < (↑(144 : Nat) : Int)) ∧ ((0 : Int) ≤ (↑x : Int) ∧ Int.toNat (↑x : Int) * (3 : Nat) + (0 : Nat) + (Go.Sx.TI.mk (Go.Sx.TD.arr (3 : Nat) (5 : Go.TypeId)) (3 : Nat) [Go.Sx.Cel.run [Go.IntKind.u8] (3 : Nat) (List.replicate (3 : Nat) (0 : Int))]).size ≤ (432 : Nat)) ∧ True ∧ True ∧ True ∧ ((!List.take (Go.Sx.TI.mk (Go.Sx.TD.arr (3 : Nat) (5 : Go.TypeId)) (3 : Nat) [Go.Sx.Cel.run [Go.IntKind.u8] (3 : Nat) (List.replicate (3 : Nat) (0 : Int))]).size (List.drop (Int.toNat (↑x : Int) * (3 : Nat) + (0 : Nat)) l) == List.replicate (3 : Nat) (0 : Int)) = Bool.true → True ∧ Go.Proofs.Ytloibkfkdednoaa.okI w h l = Bool.false) ∧ ((!List.take (Go.Sx.TI.mk (Go.Sx.TD.arr (3 : Nat) (5 : Go.TypeId)) (3 : Nat) [Go.Sx.Cel.run [Go.IntKind.u8] (3 : Nat) (List.replicate (3 : Nat) (0 : Int))]).size (List.drop (Int.toNat (↑x : Int) * (3 : Nat) + (0 : Nat)) l) == List.replicate (3 : Nat) (0 : Int)) = Bool.false → True ∧ ((-9223372036854775808 : Int) ≤ (↑x : Int) + (1 : Int) ∧ (↑x : Int) + (1 : Int) ≤ (9223372036854775807 : Int)) ∧ True ∧ ∃ (y : Nat), (y ≤ (144 : Nat) ∧ List.all (List.range y) (Go.Proofs.Ytloibkfkdednoaa.okT w h l) = Bool.true) ∧ (144 : Nat) - y < (144 : Nat) - x ∧ (Go.Sx.Cel.ptr (0 : Nat) (0 : Nat) = Go.Sx.Cel.ptr (0 : Nat) (0 : Nat) ∧ Go.Sx.Cel.val Go.undef = Go.Sx.Cel.val Go.undef ∧ True ∧ (Go.IntKind.i64 = Go.IntKind.i64 ∧ (↑x : Int) + (1 : Int) = (↑y : Int)) ∧ Go.Sx.Cel.ptr (0 : Nat) (0 : Nat) = Go.Sx.Cel.ptr (0 : Nat) (0 : Nat) ∧ Go.Sx.Cel.ptr (0 : Nat) (0 : Nat) = Go.Sx.Cel.ptr (0 : Nat) (0 : Nat) ∧ Go.Sx.Cel.ptr (0 : Nat) (0 : Nat) = Go.Sx.Cel.ptr (0 : Nat) (0 : Nat) ∧ (Go.IntKind.i8 = Go.IntKind.i8 ∧ w = w) ∧ (Go.IntKind.i64 = Go.IntKind.i64 ∧ w = w) ∧ Decidable.decide (w ≤ (12 : Int)) = Decidable.decide (w ≤ (12 : Int)) ∧ (!Decidable.decide (w ≤ (12 : Int))) = !Decidable.decide (w ≤ (12 : Int)) ∧ True ∧ Go.Sx.Cel.ptr (0 : Nat) (0 : Nat) = Go.Sx.Cel.ptr (0 : Nat) (0 : Nat) ∧ Go.Sx.Cel.ptr (0 : Nat) (0 : Nat) = Go.Sx.Cel.ptr (0 : Nat) (0 : Nat) ∧ Go.Sx.Cel.ptr (0 : Nat) (1 : Nat) = Go.Sx.Cel.ptr (0 : Nat) (1 : Nat) ∧ (Go.IntKind.i8 = Go.IntKind.i8 ∧ h = h) ∧ (Go.IntKind.i64 = Go.IntKind.i64 ∧ h = h) ∧ Decidable.decide (h ≤ (12 : Int)) = Decidable.decide (h ≤ (12 : Int)) ∧ (!Decidable.decide (h ≤ (12 : Int))) = !Decidable.decide (h ≤ (12 : Int)) ∧ (!Decidable.decide (h ≤ (12 : Int))) = !Decidable.decide (h ≤ (12 : Int)) ∧ True ∧ True ∧ True ∧ True ∧ True ∧ True ∧ True ∧ True ∧ True ∧ True ∧ True ∧ True ∧ True ∧ True ∧ True ∧ True ∧ True ∧ True ∧ True) ∧ (Bool.false = Bool.false ∧ (59 : Nat) = (59 : Nat) ∧ (Go.IntKind.i8 = Go.IntKind.i8 ∧ w = w) ∧ (Go.IntKind.i8 = Go.IntKind.i8 ∧ h = h) ∧ ([Go.IntKind.u8] = [Go.IntKind.u8] ∧ (432 : Nat) = (432 : Nat) ∧ l = l) ∧ True) ∧ True))) ∧ (Decidable.decide ((↑x : Int) < (144 : Int)) = Bool.false → True ∧ Go.Proofs.Ytloibkfkdednoaa.okI w h l = Bool.true))) ∧ (Decidable.decide ((1 : Int) ≤ h) = !Bool.true → True ∧ True ∧ True ∧ True ∧ True ∧ Go.Proofs.Ytloibkfkdednoaa.okI w h l = Bool.false)) ∧ ((!Decidable.decide (w ≤ (12 : Int))) = !Bool.false → True ∧ True ∧ Go.Proofs.Ytloibkfkdednoaa.okI w h l = Bool.false)) ∧ (Decidable.decide ((1 : Int) ≤ w) = !Bool.true → True ∧ True ∧ True ∧ True ∧ True ∧ True ∧ Go.Proofs.Ytloibkfkdednoaa.okI w h l = Bool.false)) (by kernel_rfl) ?_
  have rw1 := r.w1; have rw2 := r.w2; have rh1 := r.h1; have rh2 := r.h2
  simp only [true_and, and_true, and_self, decide_eq_true_eq, decide_eq_false_iff_not, Bool.not_eq_true', Bool.not_eq_false', Bool.not_true, Bool.not_false, beq_iff_eq, beq_eq_false_iff_ne, ne_eq, not_false_eq_true, Int.reduceEq, tm12, td12, Int.toNat_natCast, Nat.add_zero]
  refine ⟨by omega, fun a1 => ⟨fun a2 => ⟨by omega, fun a3 => ⟨fun a4 => okI_side (by omega), fun a4 => ⟨⟨0, ⟨by omega, by simp⟩, rfl⟩, ?_⟩⟩, fun a3 => okI_side (by omega)⟩, fun a2 => okI_side (by omega)⟩, fun a1 => okI_side (by omega)⟩
  rintro k ⟨hk, hall⟩
  have step : k < 144 → okT w h l k = true → ∃ y : Nat, (y ≤ 144 ∧ (List.range y).all (okT w h l) = true) ∧ 144 - y < 144 - k ∧ (k : Int) + 1 = (y : Int) := by
    intro h1 h2
    exact ⟨k + 1, ⟨by omega, by rw [List.range_succ, List.all_append, hall]; simp [h2]⟩, by omega, by simp⟩
  have okb : isB w h k = true → okT w h l k = true := fun e => by simp [okT, e]
  have okz : (l.drop (k * 3)).take 3 = List.replicate 3 0 → okT w h l k = true := fun e => by simp [okT, tonAt, e]
  refine ⟨fun hlt => ?_, fun hge => ?_⟩
  · have hlt : k < 144 := by omega
    repeat' (first | omega | apply And.intro | intro _)
    all_goals first
      | exact step hlt (okb (isB_t.2 (by omega)))
      | exact step hlt (okz (by assumption))
      | exact okI_bad hlt (isB_f.2 (by omega)) (by assumption)
  · have : k = 144 := by omega
    subst this
    simp [okI, a1, a2, a3, a4]
    simpa using hall

/-- The image's tones, as far as the first k cells. -/
def kepF (w h : Int) (l : List Int) (k j : Nat) : Int := if j / 3 < k ∧ isB w h (j / 3) = true then l.getD j 0 else 0
def kep (w h : Int) (l : List Int) (k : Nat) : List Int := (List.range 432).map (kepF w h l k)

theorem kep_len {w h : Int} {l : List Int} {k : Nat} : (kep w h l k).length = 432 := by simp [kep]
theorem kep_get {w h : Int} {l : List Int} {k j : Nat} (hj : j < 432) : (kep w h l k)[j]? = some (kepF w h l k j) := by simp [kep, hj]
theorem kep_0 {w h : Int} {l : List Int} : List.replicate 432 0 = kep w h l 0 := by
  apply List.ext_getElem?
  intro j
  by_cases hj : j < 432
  · rw [kep_get hj, List.getElem?_replicate, if_pos hj, kepF, if_neg (by omega)]
  · rw [List.getElem?_eq_none (by rw [List.length_replicate]; omega), List.getElem?_eq_none (by rw [kep_len]; omega)]
theorem kep_t {w h : Int} {l : List Int} {k : Nat} (hl : l.length = 432) (hk : k < 144) (hb : isB w h k = true) :
    (kep w h l k).take (k * 3) ++ (l.drop (k * 3)).take 3 ++ (kep w h l k).drop (k * 3 + 3) = kep w h l (k + 1) := by
  have l1 : ((kep w h l k).take (k * 3)).length = k * 3 := by rw [List.length_take, kep_len]; omega
  have l2 : ((l.drop (k * 3)).take 3).length = 3 := by rw [List.length_take, List.length_drop]; omega
  apply List.ext_getElem?
  intro j
  by_cases hj : j < 432
  · rw [kep_get hj]
    by_cases c1 : j < k * 3
    · rw [List.append_assoc, List.getElem?_append_left (by omega), List.getElem?_take_of_lt c1, kep_get hj]
      congr 1
      exact ifc ⟨fun x => ⟨by omega, x.2⟩, fun x => ⟨by omega, x.2⟩⟩
    · by_cases c2 : j < k * 3 + 3
      · have e : j / 3 = k := by omega
        rw [List.getElem?_append_left (by rw [List.length_append]; omega), List.getElem?_append_right (by omega), l1, List.getElem?_take_of_lt (by omega), List.getElem?_drop, kepF, e, if_pos ⟨by omega, hb⟩, show k * 3 + (j - k * 3) = j by omega]
        rw [List.getD_eq_getElem?_getD, List.getElem?_eq_getElem (by omega)]; rfl
      · rw [List.getElem?_append_right (by rw [List.length_append]; omega), List.length_append, l1, l2, List.getElem?_drop, show k * 3 + 3 + (j - (k * 3 + 3)) = j by omega, kep_get hj]
        congr 1
        exact ifc ⟨fun x => ⟨by omega, x.2⟩, fun x => ⟨by omega, x.2⟩⟩
  · rw [List.getElem?_eq_none (by rw [List.length_append, List.length_append, l1, l2, List.length_drop, kep_len]; omega), List.getElem?_eq_none (by rw [kep_len]; omega)]
theorem kep_f {w h : Int} {l : List Int} {k : Nat} (hb : isB w h k = false) : kep w h l k = kep w h l (k + 1) := by
  unfold kep
  apply List.map_congr_left
  intro j _
  refine ifc ⟨fun x => ⟨by omega, x.2⟩, fun x => ⟨?_, x.2⟩⟩
  rcases Nat.lt_succ_iff_lt_or_eq.1 x.1 with h' | h'
  · exact h'
  · have := x.2; rw [h', hb] at this; cases this
theorem tonAt_zero {l : List Int} (hl : l.length = 432) {i : Nat} (hi : i < 144) : tonAt l i = List.replicate 3 0 ↔ ∀ j, j / 3 = i → l.getD j 0 = 0 := by
  have key : ∀ t, t < 3 → (tonAt l i)[t]? = some (l.getD (i * 3 + t) 0) := by
    intro t ht
    rw [tonAt, List.getElem?_take_of_lt ht, List.getElem?_drop, List.getD_eq_getElem?_getD, List.getElem?_eq_getElem (by omega)]; rfl
  constructor
  · intro e j hj
    have := key (j - i * 3) (by omega)
    rw [e, List.getElem?_replicate, if_pos (by omega), show i * 3 + (j - i * 3) = j by omega] at this
    simpa using this.symm
  · intro e
    apply List.ext_getElem?
    intro t
    by_cases ht : t < 3
    · rw [key t ht, List.getElem?_replicate, if_pos ht, e _ (by omega)]
    · rw [List.getElem?_eq_none (by rw [tonAt, List.length_take]; omega), List.getElem?_eq_none (by rw [List.length_replicate]; omega)]
theorem kep_ok {w h : Int} {l : List Int} (hl : l.length = 432) (hs : 1 ≤ w ∧ w ≤ 12 ∧ 1 ≤ h ∧ h ≤ 12) : (kep w h l 144 == l) = okI w h l := by
  have key : ∀ j, j < 432 → ((kep w h l 144)[j]? = l[j]? ↔ (isB w h (j / 3) = true ∨ l.getD j 0 = 0)) := by
    intro j hj
    rw [kep_get hj, getD_some (by omega), Option.some.injEq, kepF]
    by_cases c : isB w h (j / 3) = true
    · rw [if_pos ⟨by omega, c⟩]; exact ⟨fun _ => .inl c, fun _ => rfl⟩
    · rw [if_neg (fun x => c x.2)]
      exact ⟨fun e => .inr e.symm, fun e => by rcases e with e | e; exact absurd e c; exact e.symm⟩
  rw [Bool.eq_iff_iff, beq_iff_eq]
  simp only [okI, Bool.and_eq_true, decide_eq_true_eq, List.all_eq_true, List.mem_range, okT, Bool.or_eq_true, beq_iff_eq]
  constructor
  · intro e
    refine ⟨⟨⟨hs.1, hs.2.1⟩, hs.2.2⟩, fun i hi => ?_⟩
    by_cases c : isB w h i = true
    · exact .inl c
    · refine .inr ((tonAt_zero hl hi).2 fun j hj => ?_)
      rcases (key j (by omega)).1 (by rw [e]) with h' | h'
      · rw [hj] at h'; exact absurd h' c
      · exact h'
  · rintro ⟨_, e⟩
    apply List.ext_getElem?
    intro j
    by_cases hj : j < 432
    · refine (key j hj).2 ?_
      rcases e (j / 3) (by omega) with h' | h'
      · exact .inl h'
      · exact .inr ((tonAt_zero hl (by omega)).1 h' j rfl)
    · rw [List.getElem?_eq_none (by rw [kep_len]; omega), List.getElem?_eq_none (by omega)]

def smKep (w h : Int) (l : List Int) : SAnn := { ι := Unit, inv := fun _ _ _ => True, blks := fun _ k _ => [(1, [.run [.u8] 432 (kep w h l k)])] }

set_option maxRecDepth 100000 in
set_option maxHeartbeats 4000000 in
theorem x_ValidImageI (w h : Int) (l : List Int) (r : RgI w h l) : Fex true TTi (inlN true TTi C7 (lookI ILi) 4) C7 (fun _ => .seq (smKep w h l)) Try.f43 [img w h l] [] (fun lv _ => leL lv (.a (.c (.bool (okI w h l))))) := by
  refine Go.Sx.by_eq (q := True ∧ True ∧ True ∧ True ∧ ((-9223372036854775808 : Int) ≤ w ∧ w ≤ (9223372036854775807 : Int)) ∧ True ∧ True ∧ True ∧ True ∧ (Decidable.decide ((1 : Int) ≤ w) = Bool.true → True ∧ True ∧ True ∧ True ∧ True ∧ True ∧ ((!Decidable.decide (w ≤ (12 : Int))) = Bool.false → True ∧ True ∧ ((-9223372036854775808 : Int) ≤ h ∧ h ≤ (9223372036854775807 : Int)) ∧ True ∧ True ∧ True ∧ True ∧ (Decidable.decide ((1 : Int) ≤ h) = Bool.true → True ∧ True ∧ True ∧ True ∧ True ∧ True ∧ ((!Decidable.decide (h ≤ (12 : Int))) = Bool.true → True ∧ Go.Proofs.Ytloibkfkdednoaa.okI w h l = Bool.false) ∧ ((!Decidable.decide (h ≤ (12 : Int))) = Bool.false → True ∧ True ∧ True ∧ True ∧ True ∧ True ∧ True ∧ True ∧ True ∧ True ∧ True ∧ True ∧ True ∧ True ∧ True ∧ True ∧ True ∧ True ∧ ((0 : Int) ≤ w ∧ w ≤ (12 : Int) ∧ (0 : Int) ≤ h ∧ h ≤ (12 : Int)) ∧ (∃ (x : Unit), True ∧ (Bool.true = Bool.true ∧ (59 : Nat) = (59 : Nat) ∧ (Go.IntKind.i8 = Go.IntKind.i8 ∧ w = w) ∧ (Go.IntKind.i8 = Go.IntKind.i8 ∧ h = h) ∧ ([Go.IntKind.u8] = [Go.IntKind.u8] ∧ (432 : Nat) = (432 : Nat) ∧ l = l) ∧ True) ∧ (Bool.true = Bool.true ∧ (57 : Nat) = (57 : Nat) ∧ ([Go.IntKind.u8] = [Go.IntKind.u8] ∧ (432 : Nat) = (432 : Nat) ∧ List.replicate (432 : Nat) (0 : Int) = Go.Proofs.Ytloibkfkdednoaa.kep w h l (0 : Nat)) ∧ True) ∧ (Bool.true = Bool.true ∧ (59 : Nat) = (59 : Nat) ∧ (Go.IntKind.i8 = Go.IntKind.i8 ∧ w = w) ∧ (Go.IntKind.i8 = Go.IntKind.i8 ∧ h = h) ∧ ([Go.IntKind.u8] = [Go.IntKind.u8] ∧ (432 : Nat) = (432 : Nat) ∧ l = l) ∧ True) ∧ (Bool.true = Bool.true ∧ (59 : Nat) = (59 : Nat) ∧ (Go.IntKind.i8 = Go.IntKind.i8 ∧ w = w) ∧ (Go.IntKind.i8 = Go.IntKind.i8 ∧ h = h) ∧ ([Go.IntKind.u8] = [Go.IntKind.u8] ∧ (432 : Nat) = (432 : Nat) ∧ l = l) ∧ True) ∧ (Bool.true = Bool.true ∧ (34 : Nat) = (34 : Nat) ∧ (Go.IntKind.i8 = Go.IntKind.i8 ∧ w = w) ∧ (Go.IntKind.i8 = Go.IntKind.i8 ∧ h = h) ∧ ([Go.IntKind.u8] = [Go.IntKind.u8] ∧ (144 : Nat) = (144 : Nat) ∧ List.replicate (144 : Nat) (0 : Int) = List.replicate (144 : Nat) (0 : Int)) ∧ True) ∧ (Bool.true = Bool.true ∧ (34 : Nat) = (34 : Nat) ∧ (Go.IntKind.i8 = Go.IntKind.i8 ∧ w = w) ∧ (Go.IntKind.i8 = Go.IntKind.i8 ∧ h = h) ∧ ([Go.IntKind.u8] = [Go.IntKind.u8] ∧ (144 : Nat) = (144 : Nat) ∧ List.replicate (144 : Nat) (0 : Int) = List.replicate (144 : Nat) (0 : Int)) ∧ True) ∧ True) ∧ (∀ (i : Nat) (x : Unit), i < (144 : Nat) → Go.Proofs.Ytloibkfkdednoaa.isB w h i = Bool.true → True → True ∧ True ∧ True ∧ True ∧ ((0 : Int) ≤ (fun (i : Nat) => (↑i : Int)) i ∧ (fun (i : Nat) => (↑i : Int)) i < (↑(144 : Nat) : Int)) ∧ ((0 : Int) ≤ (fun (i : Nat) => (↑i : Int)) i ∧ Int.toNat ((fun (i : Nat) => (↑i : Int)) i) * (3 : Nat) + (0 : Nat) + (Go.Sx.TI.mk (Go.Sx.TD.arr (3 : Nat) (5 : Go.TypeId)) (3 : Nat) [Go.Sx.Cel.run [Go.IntKind.u8] (3 : Nat) (List.replicate (3 : Nat) (0 : Int))]).size ≤ (432 : Nat)) ∧ ((0 : Int) ≤ (fun (i : Nat) => (↑i : Int)) i ∧ (fun (i : Nat) => (↑i : Int)) i < (↑(144 : Nat) : Int)) ∧ ((0 : Int) ≤ (fun (i : Nat) => (↑i : Int)) i ∧ Int.toNat ((fun (i : Nat) => (↑i : Int)) i) * (3 : Nat) + (0 : Nat) + (3 : Nat) ≤ (432 : Nat)) ∧ ∃ (y : Unit), True ∧ (Bool.true = Bool.true ∧ (59 : Nat) = (59 : Nat) ∧ (Go.IntKind.i8 = Go.IntKind.i8 ∧ w = w) ∧ (Go.IntKind.i8 = Go.IntKind.i8 ∧ h = h) ∧ ([Go.IntKind.u8] = [Go.IntKind.u8] ∧ (432 : Nat) = (432 : Nat) ∧ l = l) ∧ True) ∧ (Bool.true = Bool.true ∧ (57 : Nat) = (57 : Nat) ∧ ([Go.IntKind.u8] = [Go.IntKind.u8] ∧ (432 : Nat) = (432 : Nat) ∧ List.take (Int.toNat ((fun (i : Nat) => (↑i : Int)) i) * (3 : Nat) + (0 : Nat)) (Go.Proofs.Ytloibkfkdednoaa.kep w h l i) ++ List.take (Go.Sx.TI.mk (Go.Sx.TD.arr (3 : Nat) (5 : Go.TypeId)) (3 : Nat) [Go.Sx.Cel.run [Go.IntKind.u8] (3 : Nat) (List.replicate (3 : Nat) (0 : Int))]).size (List.drop (Int.toNat ((fun (i : Nat) => (↑i : Int)) i) * (3 : Nat) + (0 : Nat)) l) ++ List.drop (Int.toNat ((fun (i : Nat) => (↑i : Int)) i) * (3 : Nat) + (0 : Nat) + (3 : Nat)) (Go.Proofs.Ytloibkfkdednoaa.kep w h l i) = Go.Proofs.Ytloibkfkdednoaa.kep w h l (i + (1 : Nat))) ∧ True) ∧ (Bool.true = Bool.true ∧ (59 : Nat) = (59 : Nat) ∧ (Go.IntKind.i8 = Go.IntKind.i8 ∧ w = w) ∧ (Go.IntKind.i8 = Go.IntKind.i8 ∧ h = h) ∧ ([Go.IntKind.u8] = [Go.IntKind.u8] ∧ (432 : Nat) = (432 : Nat) ∧ l = l) ∧ True) ∧ (Bool.true = Bool.true ∧ (59 : Nat) = (59 : Nat) ∧ (Go.IntKind.i8 = Go.IntKind.i8 ∧ w = w) ∧ (Go.IntKind.i8 = Go.IntKind.i8 ∧ h = h) ∧ ([Go.IntKind.u8] = [Go.IntKind.u8] ∧ (432 : Nat) = (432 : Nat) ∧ l = l) ∧ True) ∧ (Bool.true = Bool.true ∧ (34 : Nat) = (34 : Nat) ∧ (Go.IntKind.i8 = Go.IntKind.i8 ∧ w = w) ∧ (Go.IntKind.i8 = Go.IntKind.i8 ∧ h = h) ∧ ([Go.IntKind.u8] = [Go.IntKind.u8] ∧ (144 : Nat) = (144 : Nat) ∧ List.replicate (144 : Nat) (0 : Int) = List.replicate (144 : Nat) (0 : Int)) ∧ True) ∧ (Bool.true = Bool.true ∧ (34 : Nat) = (34 : Nat) ∧ (Go.IntKind.i8 = Go.IntKind.i8 ∧ w = w) ∧ (Go.IntKind.i8 = Go.IntKind.i8 ∧ h = h) ∧ ([Go.IntKind.u8] = [Go.IntKind.u8] ∧ (144 : Nat) = (144 : Nat) ∧ List.replicate (144 : Nat) (0 : Int) = List.replicate (144 : Nat) (0 : Int)) ∧ True) ∧ True) ∧ (∀ (i : Nat) (x : Unit), i < (144 : Nat) → Go.Proofs.Ytloibkfkdednoaa.isB w h i = Bool.false → True → ∃ (y : Unit), True ∧ (Bool.true = Bool.true ∧ (59 : Nat) = (59 : Nat) ∧ (Go.IntKind.i8 = Go.IntKind.i8 ∧ w = w) ∧ (Go.IntKind.i8 = Go.IntKind.i8 ∧ h = h) ∧ ([Go.IntKind.u8] = [Go.IntKind.u8] ∧ (432 : Nat) = (432 : Nat) ∧ l = l) ∧ True) ∧ (Bool.true = Bool.true ∧ (57 : Nat) = (57 : Nat) ∧ ([Go.IntKind.u8] = [Go.IntKind.u8] ∧ (432 : Nat) = (432 : Nat) ∧ Go.Proofs.Ytloibkfkdednoaa.kep w h l i = Go.Proofs.Ytloibkfkdednoaa.kep w h l (i + (1 : Nat))) ∧ True) ∧ (Bool.true = Bool.true ∧ (59 : Nat) = (59 : Nat) ∧ (Go.IntKind.i8 = Go.IntKind.i8 ∧ w = w) ∧ (Go.IntKind.i8 = Go.IntKind.i8 ∧ h = h) ∧ ([Go.IntKind.u8] = [Go.IntKind.u8] ∧ (432 : Nat) = (432 : Nat) ∧ l = l) ∧ True) ∧ (Bool.true = Bool.true ∧ (59 : Nat) = (59 : Nat) ∧ (Go.IntKind.i8 = Go.IntKind.i8 ∧ w = w) ∧ (Go.IntKind.i8 = Go.IntKind.i8 ∧ h = h) ∧ ([Go.IntKind.u8] = [Go.IntKind.u8] ∧ (432 : Nat) = (432 : Nat) ∧ l = l) ∧ True) ∧ (Bool.true = Bool.true ∧ (34 : Nat) = (34 : Nat) ∧ (Go.IntKind.i8 = Go.IntKind.i8 ∧ w = w) ∧ (Go.IntKind.i8 = Go.IntKind.i8 ∧ h = h) ∧ ([Go.IntKind.u8] = [Go.IntKind.u8] ∧ (144 : Nat) = (144 : Nat) ∧ List.replicate (144 : Nat) (0 : Int) = List.replicate (144 : Nat) (0 : Int)) ∧ True) ∧ (Bool.true = Bool.true ∧ (34 : Nat) = (34 : Nat) ∧ (Go.IntKind.i8 = Go.IntKind.i8 ∧ w = w) ∧ (Go.IntKind.i8 = Go.IntKind.i8 ∧ h = h) ∧ ([Go.IntKind.u8] = [Go.IntKind.u8] ∧ (144 : Nat) = (144 : Nat) ∧ List.replicate (144 : Nat) (0 : Int) = List.replicate (144 : Nat) (0 : Int)) ∧ True) ∧ True) ∧ ∀ (x : Unit), True → True ∧ True ∧ True ∧ True ∧ True ∧ (Go.Proofs.Ytloibkfkdednoaa.kep w h l (144 : Nat) == l) = Go.Proofs.Ytloibkfkdednoaa.okI w h l)) ∧ (Decidable.decide ((1 : Int) ≤ h) = !Bool.true → True ∧ True ∧ True ∧ True ∧ True ∧ Go.Proofs.Ytloibkfkdednoaa.okI w h l = Bool.false)) ∧ ((!Decidable.decide (w ≤ (12 : Int))) = !Bool.false → True ∧ True ∧ Go.Proofs.Ytloibkfkdednoaa.okI w h l = Bool.false)) ∧ (Decidable.decide ((1 : Int) ≤ w) = !Bool.true → True ∧ True ∧ True ∧ True ∧ True ∧ True ∧ Go.Proofs.Ytloibkfkdednoaa.okI w h l = Bool.false)) (by kernel_rfl) ?_
  have rw1 := r.w1; have rw2 := r.w2; have rh1 := r.h1; have rh2 := r.h2; have rl := r.len
  by_cases hs : 1 ≤ w ∧ w ≤ 12 ∧ 1 ≤ h ∧ h ≤ 12
  · obtain ⟨a1, a2, a3, a4⟩ := hs
    have ww := i8w (z := w) (by omega) (by omega)
    have wh := i8w (z := h) (by omega) (by omega)
    simp only [true_and, and_true, and_self, decide_eq_true_eq, decide_eq_false_iff_not, Bool.not_eq_true', Bool.not_eq_false', Bool.not_true, Bool.not_false, not_true_eq_false, false_implies, forall_const, exists_const, Int.toNat_natCast, a1, a2, a3, a4, Nat.add_zero]
    repeat' (first | trivial | omega | exact kep_0 | exact kep_ok rl ⟨a1, a2, a3, a4⟩ | apply And.intro | intro _)
    all_goals first
      | exact kep_t rl (by assumption) (by assumption)
      | exact kep_f (by assumption)
  · rw [okI_side hs]
    simp only [true_and, and_true, and_self, decide_eq_true_eq, decide_eq_false_iff_not, Bool.not_eq_true', Bool.not_eq_false', Bool.not_true, Bool.not_false, beq_eq_false_iff_ne, ne_eq, forall_const, exists_const, Int.toNat_natCast]
    repeat' (first | trivial | omega | apply And.intro | intro _)

def gVI : Entry := fun args _ => match args with
  | [.a (.agg [.int .i8 w, .int .i8 h, .run [.u8] 432 l])] => some (RgI w h l, .a (.c (.bool (okI w h l))))
  | _ => none
def gVS : Entry := fun args H => match args with
  | [.a (.c (.ptr id 0))] => match getB H id with
    | .cells _ 59 [.int .i8 w, .int .i8 h, .run [.u8] 432 l] => some (RgI w h l, .a (.c (.bool (okI w h l))))
    | _ => none
  | _ => none

theorem e_ValidImageI : EntryOk Try.prog 43 gVI := by
  refine ⟨fnOk Try.func43 (by kernel_rfl) rfl, ?_⟩
  intro args H p r he hp n0 w0 β w vals hH hA
  unfold gVI at he
  split at he
  · simp only [Option.some.injEq, Prod.mk.injEq] at he
    obtain ⟨rfl, rfl⟩ := he
    exact entry_bare tti_ok (inlN_ok tti_ok C7_ok mixed ILi_ok.ok 4) C7_ok mixed Try.func43 (x_ValidImageI _ _ _ hp) rfl rfl hA
  · simp at he

theorem e_l02Image : EntryOk Try.prog 75 gVS := by
  refine ⟨fnOk Try.func75 (by kernel_rfl) rfl, ?_⟩
  intro args H p r he hp n0 w0 β w vals hH hA
  unfold gVS at he
  split at he
  · rename_i id
    split at he
    · rename_i own wd hg l hb
      simp only [Option.some.injEq, Prod.mk.injEq] at he
      obtain ⟨rfl, rfl⟩ := he
      exact entry_ptr tti_ok (inlN_ok tti_ok C7_ok mixed ILi_ok.ok 4) C7_ok mixed Try.func75 (x_l02Image wd hg l hp) rfl rfl rfl hH hb hA
    · simp at he
  · simp at he

def Ei3 : List (FuncId × Entry) := (43, gVI) :: (75, gVS) :: (42, gToImage) :: Ei2
theorem Ei3_ok : EntriesOk Try.prog Ei3 := ⟨e_ValidImageI, e_l02Image, e_toImage, Ei2_ok⟩

noncomputable def ILv : List (FuncId × Func × (Nat → LM)) := [(41, Try.f41, U0)]
theorem ILv_ok : InlsOk Try.prog ILv := ⟨⟨Try.func41, by kernel_rfl⟩, trivial⟩

/-! ### An image by value, opened -/

set_option maxRecDepth 100000 in
theorem open_img {H : Type} {enc : TypeId × Value → H} {w : World} {base : Nat} {spare : Nat → Bool} {held : Bool} {r : Reach} {b0 : Nat} {v : Value} {d : DataW H} {ps : List MemPlace}
    (hval : Value.okWide Try.prog w r b0 55 v) (hd : DataW.Trod enc Try.prog w base spare held 55 v d ps) : ∃ wd hg l, RgI wd hg l ∧ ∀ β, LVR β (img wd hg l) v := by
  obtain ⟨ns, h1, h2, h3⟩ := open_flat Try.underlying55 hval hd [.one .i8, .one .i8, .many [.u8] 432] (by kernel_rfl)
  have h1 : ns.length = 434 := h1
  match ns, h1 with
  | wd :: hg :: l, h1 =>
    have hl : l.length = 432 := by simpa using h1
    have b1 := bounds_i8 (h2 0 .i8 wd rfl rfl)
    have b2 := bounds_i8 (h2 1 .i8 hg rfl rfl)
    refine ⟨wd, hg, l, ⟨b1.1, b1.2, b2.1, b2.2, hl⟩, fun β => ?_⟩
    have := h3 β
    simpa [shCels, img, List.take_of_length_le (Nat.le_of_eq hl)] using this

end Go.Proofs.Ytloibkfkdednoaa
