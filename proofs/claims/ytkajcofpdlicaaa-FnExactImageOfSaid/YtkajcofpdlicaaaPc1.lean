/- Pictures: the small functions that all laws of chapter 1 share. Each is proved to compute a plain function. No conditions beyond the ranges of the kinds. -/
import Derived.Test.YtkajcofpdlicaaaTt
set_option linter.unusedSimpArgs false
set_option linter.unusedVariables false
namespace Go.Proofs.Ytkajcofpdlicaaa
open Go.Sx Go.RowKit

/-- The functions that are met in place. -/
noncomputable def IL  : List (FuncId × Func × (Nat → LM)) := [
  (104, Try.f104, U0),
  (94, Try.f94, U0),
  (149, Try.f149, U0),
  (148, Try.f148, U0),
  (76, Try.f76, U0),
  (188, Try.f188, U0),
  (78, Try.f78, U0),
  (176, Try.f176, U0)]
theorem IL_ok  : InlsOk Try.prog IL := ⟨⟨Try.func104, by kernel_rfl⟩, ⟨Try.func94, by kernel_rfl⟩, ⟨Try.func149, by kernel_rfl⟩, ⟨Try.func148, by kernel_rfl⟩, ⟨Try.func76, by kernel_rfl⟩, ⟨Try.func188, by kernel_rfl⟩, ⟨Try.func78, by kernel_rfl⟩, ⟨Try.func176, by kernel_rfl⟩, trivial⟩

/-! ### Plain mathematics of pictures -/

/-- What the kinds of a picture's fields allow. -/
structure Rg (w h : Int) (l : List Int) : Prop where
  w1 : -128 ≤ w
  w2 : w ≤ 127
  h1 : -128 ≤ h
  h2 : h ≤ 127
  len : l.length = 144
  c : ∀ i, 0 ≤ l.getD i 0 ∧ l.getD i 0 ≤ 255

def isB (w h : Int) (i : Nat) : Bool := decide (((i % 12 : Nat) : Int) < w) && decide (((i / 12 : Nat) : Int) < h)
def okC (w h : Int) (l : List Int) (i : Nat) : Bool := decide (l.getD i 0 < 16) && (isB w h i || l.getD i 0 == 0)
def okB (w h : Int) (l : List Int) : Bool := (decide (1 ≤ w) && decide (w ≤ 12)) && (decide (1 ≤ h) && decide (h ≤ 12)) && (List.range 144).all (okC w h l)

def bytA (l : List Int) : LV := .a (.agg [.run [.u8] 144 l])
def pic (w h : Int) (l : List Int) : LV := .a (.agg [.int .i8 w, .int .i8 h, .run [.u8] 144 l])
def picB (w h : Int) (l : List Int) : List Cel := [.int .i8 w, .int .i8 h, .run [.u8] 144 l]

/-! ### toByteA144 -/

def E1 : List (FuncId × Entry) := []
theorem E1_ok : EntriesOk Try.prog TT E1 := trivial

def lmBytes (l : List Int) : LAnn := { ι := Nat × List Int, inv := fun _ x => x.1 ≤ 144 ∧ x.2.length = 144 ∧ x.2.take x.1 = l.take x.1, slots := fun _ x => [(4, .a (.c (.int .i64 x.1)))], blks := fun _ x => [(2, [.run [.u8] 144 x.2])], μ := fun _ x => 144 - x.1 }

theorem x_toByteA144 (l : List Int) (hl : l.length = 144) : Fex true TT (inlN true TT (ctrOf E1) (lookI IL) 3) (ctrOf E1) (fun _ => .inv (lmBytes l)) Try.f74 [bytA l] [] (fun lv _ => leL lv (bytA l)) := by
  refine Go.Sx.by_eq (q := True ∧ True ∧ True ∧ True ∧ (∃ (x : Nat × List Int), (x.fst ≤ (144 : Nat) ∧ List.length x.snd = (144 : Nat) ∧ List.take x.fst x.snd = List.take x.fst l) ∧ ((([Go.Sx.EK.u8] = [Go.Sx.EK.u8] ∧ (144 : Nat) = (144 : Nat) ∧ l = l) ∧ True) ∧ Go.Sx.Cel.ptr (0 : Nat) (0 : Nat) = Go.Sx.Cel.ptr (0 : Nat) (0 : Nat) ∧ Go.Sx.Cel.ptr (1 : Nat) (0 : Nat) = Go.Sx.Cel.ptr (1 : Nat) (0 : Nat) ∧ Go.Sx.Cel.ptr (2 : Nat) (0 : Nat) = Go.Sx.Cel.ptr (2 : Nat) (0 : Nat) ∧ (Go.IntKind.i64 = Go.IntKind.i64 ∧ (0 : Int) = (↑x.fst : Int)) ∧ True ∧ True ∧ True ∧ True ∧ True ∧ True ∧ True ∧ True ∧ True ∧ Go.Sx.Cel.val Go.undef = Go.Sx.Cel.val Go.undef ∧ True) ∧ (Bool.true = Bool.true ∧ (23 : Nat) = (23 : Nat) ∧ ([Go.Sx.EK.u8] = [Go.Sx.EK.u8] ∧ (144 : Nat) = (144 : Nat) ∧ l = l) ∧ True) ∧ (Bool.true = Bool.true ∧ (23 : Nat) = (23 : Nat) ∧ ([Go.Sx.EK.u8] = [Go.Sx.EK.u8] ∧ (144 : Nat) = (144 : Nat) ∧ List.replicate (144 : Nat) (0 : Int) = List.replicate (144 : Nat) (0 : Int)) ∧ True) ∧ (Bool.true = Bool.true ∧ (23 : Nat) = (23 : Nat) ∧ ([Go.Sx.EK.u8] = [Go.Sx.EK.u8] ∧ (144 : Nat) = (144 : Nat) ∧ List.replicate (144 : Nat) (0 : Int) = x.snd) ∧ True) ∧ True) ∧ ∀ (x : Nat × List Int), x.fst ≤ (144 : Nat) ∧ List.length x.snd = (144 : Nat) ∧ List.take x.fst x.snd = List.take x.fst l → True ∧ True ∧ (Decidable.decide ((↑x.fst : Int) < (144 : Int)) = Bool.true → True ∧ True ∧ ((0 : Int) ≤ (↑x.fst : Int) ∧ (↑x.fst : Int) < (↑(144 : Nat) : Int)) ∧ ((0 : Int) ≤ (↑x.fst : Int) ∧ Int.toNat (↑x.fst : Int) < (144 : Nat)) ∧ ((0 : Int) ≤ (↑x.fst : Int) ∧ (↑x.fst : Int) < (↑(144 : Nat) : Int)) ∧ ((0 : Int) ≤ (↑x.fst : Int) ∧ Int.toNat (↑x.fst : Int) < (144 : Nat)) ∧ True ∧ ((-9223372036854775808 : Int) ≤ (↑x.fst : Int) + (1 : Int) ∧ (↑x.fst : Int) + (1 : Int) ≤ (9223372036854775807 : Int)) ∧ True ∧ ∃ (y : Nat × List Int), (y.fst ≤ (144 : Nat) ∧ List.length y.snd = (144 : Nat) ∧ List.take y.fst y.snd = List.take y.fst l) ∧ (144 : Nat) - y.fst < (144 : Nat) - x.fst ∧ ((([Go.Sx.EK.u8] = [Go.Sx.EK.u8] ∧ (144 : Nat) = (144 : Nat) ∧ l = l) ∧ True) ∧ Go.Sx.Cel.ptr (0 : Nat) (0 : Nat) = Go.Sx.Cel.ptr (0 : Nat) (0 : Nat) ∧ Go.Sx.Cel.ptr (1 : Nat) (0 : Nat) = Go.Sx.Cel.ptr (1 : Nat) (0 : Nat) ∧ Go.Sx.Cel.ptr (2 : Nat) (0 : Nat) = Go.Sx.Cel.ptr (2 : Nat) (0 : Nat) ∧ (Go.IntKind.i64 = Go.IntKind.i64 ∧ (↑x.fst : Int) + (1 : Int) = (↑y.fst : Int)) ∧ True ∧ True ∧ True ∧ True ∧ True ∧ True ∧ True ∧ True ∧ True ∧ Go.Sx.Cel.val Go.undef = Go.Sx.Cel.val Go.undef ∧ True) ∧ (Bool.true = Bool.true ∧ (23 : Nat) = (23 : Nat) ∧ ([Go.Sx.EK.u8] = [Go.Sx.EK.u8] ∧ (144 : Nat) = (144 : Nat) ∧ l = l) ∧ True) ∧ (Bool.true = Bool.true ∧ (23 : Nat) = (23 : Nat) ∧ ([Go.Sx.EK.u8] = [Go.Sx.EK.u8] ∧ (144 : Nat) = (144 : Nat) ∧ List.replicate (144 : Nat) (0 : Int) = List.replicate (144 : Nat) (0 : Int)) ∧ True) ∧ (Bool.true = Bool.true ∧ (23 : Nat) = (23 : Nat) ∧ ([Go.Sx.EK.u8] = [Go.Sx.EK.u8] ∧ (144 : Nat) = (144 : Nat) ∧ List.set x.snd (Int.toNat (↑x.fst : Int)) (List.getD l (Int.toNat (↑x.fst : Int)) (0 : Int)) = y.snd) ∧ True) ∧ True) ∧ (Decidable.decide ((↑x.fst : Int) < (144 : Int)) = Bool.false → True ∧ True ∧ ([Go.Sx.EK.u8] = [Go.Sx.EK.u8] ∧ (144 : Nat) = (144 : Nat) ∧ x.snd = l) ∧ True)) (by kernel_rfl) ?_
  simp only [true_and, and_true, and_self]
  refine ⟨⟨(0, List.replicate 144 0), ⟨by omega, by simp, by simp⟩, rfl, rfl⟩, ?_⟩
  rintro ⟨k, m⟩ ⟨h1, h2, h3⟩
  simp only at h1 h2 h3 ⊢
  refine ⟨fun hlt => ?_, fun hge => ?_⟩
  · have hlt : k < 144 := by have := of_decide_eq_true hlt; omega
    refine ⟨by omega, by omega, by omega, by omega, by omega, (k + 1, m.set k (l.getD k 0)), ⟨by simp only; omega, by simpa using h2, ?_⟩, by simp only; omega, by simp, by simp⟩
    simp only
    rw [List.take_add_one, List.take_add_one, List.take_set_of_le (Nat.le_refl k), h3]
    simp [h2, hlt, List.getD, hl]
  · have hge : ¬ (k : Int) < 144 := by simpa using hge
    have : k = 144 := by omega
    subst this
    rw [List.take_of_length_le (by omega), List.take_of_length_le (by omega)] at h3
    exact h3

def gToByteA144 : Entry := fun args _ => match args with
  | [.a (.agg [.run [.u8] 144 l])] => some (True, bytA l)
  | _ => none

theorem e_toByteA144 : EntryOk Try.prog TT 74 gToByteA144 := by
  refine ⟨fnOk Try.func74 (by kernel_rfl) rfl, ?_⟩
  intro args H p r he hp n0 w0 β w vals hG hH hA
  unfold gToByteA144 at he
  split at he
  · rename_i l
    simp only [Option.some.injEq, Prod.mk.injEq] at he
    obtain ⟨rfl, rfl⟩ := he
    have hl : l.length = 144 := by obtain ⟨v, _, _, h, _⟩ := hA; exact run_len h
    exact entry_bare tt_ok (inlN_ok tt_ok (ctrOf_ok E1_ok) mixed IL_ok.ok 3) (ctrOf_ok E1_ok) mixed Try.func74 (x_toByteA144 l hl) rfl rfl hG hH hA
  · simp at he

/-! ### toPicture, eqByteA144 -/

def E2 : List (FuncId × Entry) := (74, gToByteA144) :: E1
theorem E2_ok : EntriesOk Try.prog TT E2 := ⟨e_toByteA144, E1_ok⟩

set_option maxRecDepth 100000 in
theorem x_toPicture (w h : Int) (l : List Int) : Fex true TT (inlN true TT (ctrOf E2) (lookI IL) 3) (ctrOf E2) U0 Try.f16 [pic w h l] [] (fun lv _ => leL lv (pic w h l)) := by
  refine Go.Sx.by_eq (q := True ∧ True ∧ True ∧ True ∧ True ∧ True ∧ True ∧ True ∧ True ∧ True ∧ True ∧ True ∧ True ∧ True ∧ True ∧ True ∧ True ∧ True ∧ (Go.IntKind.i8 = Go.IntKind.i8 ∧ w = w) ∧ (Go.IntKind.i8 = Go.IntKind.i8 ∧ h = h) ∧ ([Go.Sx.EK.u8] = [Go.Sx.EK.u8] ∧ (144 : Nat) = (144 : Nat) ∧ l = l) ∧ True) (by kernel_rfl) ?_
  simp only [true_and, and_true, and_self]

def gToPicture : Entry := fun args _ => match args with
  | [.a (.agg [.int .i8 w, .int .i8 h, .run [.u8] 144 l])] => some (True, pic w h l)
  | _ => none

theorem e_toPicture : EntryOk Try.prog TT 16 gToPicture := by
  refine ⟨fnOk Try.func16 (by kernel_rfl) rfl, ?_⟩
  intro args H p r he hp n0 w0 β w vals hG hH hA
  unfold gToPicture at he
  split at he
  · rename_i wd hg l
    simp only [Option.some.injEq, Prod.mk.injEq] at he
    obtain ⟨rfl, rfl⟩ := he
    exact entry_bare tt_ok (inlN_ok tt_ok (ctrOf_ok E2_ok) mixed IL_ok.ok 3) (ctrOf_ok E2_ok) mixed Try.func16 (x_toPicture wd hg l) rfl rfl hG hH hA
  · simp at he

def lmEqP (l m : List Int) : LAnn := { ι := Nat, inv := fun _ k => k ≤ 144 ∧ l.take k = m.take k, slots := fun _ k => [(5, .a (.c (.int .i64 k)))], blks := fun _ _ => [], μ := fun _ k => 144 - k }

set_option maxRecDepth 100000 in
theorem x_eqByteA144 (l m : List Int) (hl : l.length = 144) (hm : m.length = 144) : Fex true TT (inlN true TT (ctrOf E2) (lookI IL) 3) (ctrOf E2) (fun _ => .inv (lmEqP l m)) Try.f91 [bytA l, bytA m] [] (fun lv _ => leL lv (.a (.c (.bool (decide (l = m)))))) := by
  refine Go.Sx.by_eq (q := True ∧ True ∧ True ∧ True ∧ (∃ (x : Nat), (x ≤ (144 : Nat) ∧ List.take x l = List.take x m) ∧ ((([Go.Sx.EK.u8] = [Go.Sx.EK.u8] ∧ (144 : Nat) = (144 : Nat) ∧ l = l) ∧ True) ∧ (([Go.Sx.EK.u8] = [Go.Sx.EK.u8] ∧ (144 : Nat) = (144 : Nat) ∧ m = m) ∧ True) ∧ Go.Sx.Cel.ptr (0 : Nat) (0 : Nat) = Go.Sx.Cel.ptr (0 : Nat) (0 : Nat) ∧ Go.Sx.Cel.ptr (1 : Nat) (0 : Nat) = Go.Sx.Cel.ptr (1 : Nat) (0 : Nat) ∧ True ∧ (Go.IntKind.i64 = Go.IntKind.i64 ∧ (0 : Int) = (↑x : Int)) ∧ True ∧ True ∧ True ∧ True ∧ True ∧ True ∧ True ∧ True ∧ True ∧ True ∧ True ∧ True) ∧ (Bool.true = Bool.true ∧ (23 : Nat) = (23 : Nat) ∧ ([Go.Sx.EK.u8] = [Go.Sx.EK.u8] ∧ (144 : Nat) = (144 : Nat) ∧ l = l) ∧ True) ∧ (Bool.true = Bool.true ∧ (23 : Nat) = (23 : Nat) ∧ ([Go.Sx.EK.u8] = [Go.Sx.EK.u8] ∧ (144 : Nat) = (144 : Nat) ∧ m = m) ∧ True) ∧ True) ∧ ∀ (x : Nat), x ≤ (144 : Nat) ∧ List.take x l = List.take x m → True ∧ True ∧ (Decidable.decide ((↑x : Int) < (144 : Int)) = Bool.true → True ∧ ((0 : Int) ≤ (↑x : Int) ∧ (↑x : Int) < (↑(144 : Nat) : Int)) ∧ ((0 : Int) ≤ (↑x : Int) ∧ Int.toNat (↑x : Int) < (144 : Nat)) ∧ True ∧ ((0 : Int) ≤ (↑x : Int) ∧ (↑x : Int) < (↑(144 : Nat) : Int)) ∧ ((0 : Int) ≤ (↑x : Int) ∧ Int.toNat (↑x : Int) < (144 : Nat)) ∧ True ∧ ((List.getD l (Int.toNat (↑x : Int)) (0 : Int) != List.getD m (Int.toNat (↑x : Int)) (0 : Int)) = Bool.true → True ∧ Decidable.decide (l = m) = Bool.false) ∧ ((List.getD l (Int.toNat (↑x : Int)) (0 : Int) != List.getD m (Int.toNat (↑x : Int)) (0 : Int)) = Bool.false → True ∧ ((-9223372036854775808 : Int) ≤ (↑x : Int) + (1 : Int) ∧ (↑x : Int) + (1 : Int) ≤ (9223372036854775807 : Int)) ∧ True ∧ ∃ (y : Nat), (y ≤ (144 : Nat) ∧ List.take y l = List.take y m) ∧ (144 : Nat) - y < (144 : Nat) - x ∧ ((([Go.Sx.EK.u8] = [Go.Sx.EK.u8] ∧ (144 : Nat) = (144 : Nat) ∧ l = l) ∧ True) ∧ (([Go.Sx.EK.u8] = [Go.Sx.EK.u8] ∧ (144 : Nat) = (144 : Nat) ∧ m = m) ∧ True) ∧ Go.Sx.Cel.ptr (0 : Nat) (0 : Nat) = Go.Sx.Cel.ptr (0 : Nat) (0 : Nat) ∧ Go.Sx.Cel.ptr (1 : Nat) (0 : Nat) = Go.Sx.Cel.ptr (1 : Nat) (0 : Nat) ∧ True ∧ (Go.IntKind.i64 = Go.IntKind.i64 ∧ (↑x : Int) + (1 : Int) = (↑y : Int)) ∧ True ∧ True ∧ True ∧ True ∧ True ∧ True ∧ True ∧ True ∧ True ∧ True ∧ True ∧ True) ∧ (Bool.true = Bool.true ∧ (23 : Nat) = (23 : Nat) ∧ ([Go.Sx.EK.u8] = [Go.Sx.EK.u8] ∧ (144 : Nat) = (144 : Nat) ∧ l = l) ∧ True) ∧ (Bool.true = Bool.true ∧ (23 : Nat) = (23 : Nat) ∧ ([Go.Sx.EK.u8] = [Go.Sx.EK.u8] ∧ (144 : Nat) = (144 : Nat) ∧ m = m) ∧ True) ∧ True)) ∧ (Decidable.decide ((↑x : Int) < (144 : Int)) = Bool.false → True ∧ Decidable.decide (l = m) = Bool.true)) (by kernel_rfl) ?_
  simp only [true_and, and_true, and_self]
  refine ⟨⟨0, ⟨by omega, by simp⟩, rfl⟩, ?_⟩
  rintro k ⟨h1, h2⟩
  refine ⟨fun hlt => ?_, fun hge => ?_⟩
  · have hlt : k < 144 := by have := of_decide_eq_true hlt; omega
    refine ⟨by omega, by omega, by omega, by omega, fun hne => ?_, fun he => ?_⟩
    · have hne : l.getD k 0 ≠ m.getD k 0 := by simpa using hne
      exact decide_eq_false fun e => hne (by rw [e])
    · have he : l.getD k 0 = m.getD k 0 := by simpa using he
      refine ⟨by omega, k + 1, ⟨by omega, ?_⟩, by omega, by simp⟩
      rw [List.take_add_one, List.take_add_one, h2]
      have : l[k]? = m[k]? := by
        simp [List.getD, hl, hm, hlt] at he
        simp [hl, hm, hlt, he]
      rw [this]
  · have hge : ¬ (k : Int) < 144 := by simpa using hge
    have : k = 144 := by omega
    subst this
    rw [List.take_of_length_le (by omega), List.take_of_length_le (by omega)] at h2
    exact decide_eq_true h2

def gEqByteA144 : Entry := fun args _ => match args with
  | [.a (.agg [.run [.u8] 144 l]), .a (.agg [.run [.u8] 144 m])] => some (True, .a (.c (.bool (decide (l = m)))))
  | _ => none

theorem e_eqByteA144 : EntryOk Try.prog TT 91 gEqByteA144 := by
  refine ⟨fnOk Try.func91 (by kernel_rfl) rfl, ?_⟩
  intro args H p r he hp n0 w0 β w vals hG hH hA
  unfold gEqByteA144 at he
  split at he
  · rename_i l m
    simp only [Option.some.injEq, Prod.mk.injEq] at he
    obtain ⟨rfl, rfl⟩ := he
    have hl : l.length = 144 := by obtain ⟨v, _, _, h, _⟩ := hA; exact run_len h
    have hm : m.length = 144 := by obtain ⟨v, _, _, _, v2, _, _, h, _⟩ := hA; exact run_len h
    exact entry_bare tt_ok (inlN_ok tt_ok (ctrOf_ok E2_ok) mixed IL_ok.ok 3) (ctrOf_ok E2_ok) mixed Try.func91 (x_eqByteA144 l m hl hm) rfl rfl hG hH hA
  · simp at he

/-! ### eqPicture, SamePicture -/

def E3 : List (FuncId × Entry) := (91, gEqByteA144) :: (16, gToPicture) :: E2
theorem E3_ok : EntriesOk Try.prog TT E3 := ⟨e_eqByteA144, e_toPicture, E2_ok⟩

def same (w h : Int) (l : List Int) (w' h' : Int) (l' : List Int) : LV := .a (.c (.bool (decide (w = w' ∧ h = h' ∧ l = l'))))

set_option maxRecDepth 100000 in
theorem x_eqPicture (w h : Int) (l : List Int) (w' h' : Int) (l' : List Int) : Fex true TT (inlN true TT (ctrOf E3) (lookI IL) 3) (ctrOf E3) U0 Try.f31 [pic w h l, pic w' h' l'] [] (fun lv _ => leL lv (same w h l w' h' l')) := by
  refine Go.Sx.by_eq (q := True ∧ True ∧ True ∧ True ∧ True ∧ True ∧ True ∧ True ∧ ((w != w') = Bool.true → True ∧ Decidable.decide (w = w' ∧ h = h' ∧ l = l') = Bool.false) ∧ ((w != w') = Bool.false → True ∧ True ∧ True ∧ True ∧ True ∧ ((h != h') = Bool.true → True ∧ Decidable.decide (w = w' ∧ h = h' ∧ l = l') = Bool.false) ∧ ((h != h') = Bool.false → True ∧ True ∧ True ∧ True ∧ True ∧ True ∧ ((!Decidable.decide (l = l')) = Bool.true → True ∧ Decidable.decide (w = w' ∧ h = h' ∧ l = l') = Bool.false) ∧ ((!Decidable.decide (l = l')) = Bool.false → True ∧ Decidable.decide (w = w' ∧ h = h' ∧ l = l') = Bool.true)))) (by kernel_rfl) ?_
  by_cases e1 : w = w' <;> by_cases e2 : h = h' <;> by_cases e3 : l = l' <;> simp [e1, e2, e3]

def gSame : Entry := fun args _ => match args with
  | [.a (.agg [.int .i8 w, .int .i8 h, .run [.u8] 144 l]), .a (.agg [.int .i8 w', .int .i8 h', .run [.u8] 144 l'])] => some (True, same w h l w' h' l')
  | _ => none

set_option maxRecDepth 100000 in
theorem e_eqPicture : EntryOk Try.prog TT 31 gSame := by
  refine ⟨fnOk Try.func31 (by kernel_rfl) rfl, ?_⟩
  intro args H p r he hp n0 w0 β w vals hG hH hA
  unfold gSame at he
  split at he
  · simp only [Option.some.injEq, Prod.mk.injEq] at he
    obtain ⟨rfl, rfl⟩ := he
    exact entry_bare tt_ok (inlN_ok tt_ok (ctrOf_ok E3_ok) mixed IL_ok.ok 3) (ctrOf_ok E3_ok) mixed Try.func31 (x_eqPicture _ _ _ _ _ _) rfl rfl hG hH hA
  · simp at he

def E4 : List (FuncId × Entry) := (31, gSame) :: E3
theorem E4_ok : EntriesOk Try.prog TT E4 := ⟨e_eqPicture, E3_ok⟩

/-! ### A picture by value, opened -/

set_option maxRecDepth 100000 in
theorem open_pic {H : Type} {enc : TypeId × Value → H} {w : World} {base : Nat} {spare : Nat → Bool} {held : Bool} {r : Reach} {b0 : Nat} {v : Value} {d : DataW H} {ps : List MemPlace}
    (hval : Value.okWide Try.prog w r b0 25 v) (hd : DataW.Trod enc Try.prog w base spare held 25 v d ps) : ∃ wd hg l, Rg wd hg l ∧ ∀ β, LVR β (pic wd hg l) v := by
  obtain ⟨ns, h1, h2, h3⟩ := open_flat Try.underlying25 hval hd [.one .i8, .one .i8, .many [.u8] 144] (by kernel_rfl)
  have h1 : ns.length = 146 := h1
  match ns, h1 with
  | wd :: hg :: l, h1 =>
    have hl : l.length = 144 := by simpa using h1
    have b1 := bounds_i8 (h2 0 .i8 wd rfl rfl)
    have b2 := bounds_i8 (h2 1 .i8 hg rfl rfl)
    refine ⟨wd, hg, l, ⟨b1.1, b1.2, b2.1, b2.2, hl, fun i => ?_⟩, fun β => ?_⟩
    · by_cases hi : i < l.length
      · have hi' : i < 144 := by omega
        have := bounds_u8 (h2 (i + 2) .u8 l[i] (by
          show ((List.range 144).map (fun j => [IntKind.u8].getD (j % [IntKind.u8].length) .i64) ++ [])[i]? = _
          simp [hi', Nat.mod_one]) (by simp [hi]))
        simpa [List.getD, hi] using this
      · simp [List.getD, List.getElem?_eq_none (Nat.le_of_not_lt hi)]
    · have := h3 β
      simpa [shCels, pic, EK.of, List.take_of_length_le (Nat.le_of_eq hl)] using this

end Go.Proofs.Ytkajcofpdlicaaa
