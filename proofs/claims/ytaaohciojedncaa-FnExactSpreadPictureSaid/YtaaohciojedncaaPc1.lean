/- Pictures: the small functions that all laws of chapter 1 share. Each is proved to compute a plain function. No conditions beyond the ranges of the kinds. -/
import Derived.Test.YtaaohciojedncaaTt
set_option linter.unusedSimpArgs false
set_option linter.unusedVariables false
namespace Go.Proofs.Ytaaohciojedncaa
open Go.Sx Go.RowKit

/-- The functions that are met in place. -/
noncomputable def IL  : List (FuncId × Func × (Nat → LM)) := [
  (16, Try.f16, U0),
  (38, Try.f38, U0),
  (43, Try.f43, U0),
  (30, Try.f30, U0),
  (31, Try.f31, U0)]
theorem IL_ok  : InlsOk Try.prog IL := ⟨⟨Try.func16, by kernel_rfl⟩, ⟨Try.func38, by kernel_rfl⟩, ⟨Try.func43, by kernel_rfl⟩, ⟨Try.func30, by kernel_rfl⟩, ⟨Try.func31, by kernel_rfl⟩, trivial⟩

/-! ### Plain mathematics of pictures -/

/-- What the kinds of a picture's fields allow. -/
structure Rg (w h : Int) (l : List Int) : Prop where
  w1 : -128 ≤ w
  w2 : w ≤ 127
  h1 : -128 ≤ h
  h2 : h ≤ 127
  len : l.length = 144
  c : ∀ i, 0 ≤ l.getD i 0 ∧ l.getD i 0 ≤ 255

def isB (w h : Int) (i : Nat) : Bool := decide (((i % 12 : Nat) : Int) < w) && decide (((i / 12 : Nat) : Int) < h)
def okC (w h : Int) (l : List Int) (i : Nat) : Bool := decide (l.getD i 0 < 16) && (isB w h i || l.getD i 0 == 0)
def okB (w h : Int) (l : List Int) : Bool := (decide (1 ≤ w) && decide (w ≤ 12)) && (decide (1 ≤ h) && decide (h ≤ 12)) && (List.range 144).all (okC w h l)

def bytA (l : List Int) : LV := .a (.agg [.run [.u8] 144 l])
def pic (w h : Int) (l : List Int) : LV := .a (.agg [.int .i8 w, .int .i8 h, .run [.u8] 144 l])
def picB (w h : Int) (l : List Int) : List Cel := [.int .i8 w, .int .i8 h, .run [.u8] 144 l]

/-! ### toByteA144 -/

def E1 : List (FuncId × Entry) := []
theorem E1_ok : EntriesOk Try.prog TT E1 := trivial

/-! ### toPicture, eqByteA144 -/

def E2 : List (FuncId × Entry) := E1
theorem E2_ok : EntriesOk Try.prog TT E2 := E1_ok
def E2p : List (FuncId × Entry) := E2
theorem E2p_ok : EntriesOk Try.prog TT E2p := E2_ok
def lmEqP (l m : List Int) : LAnn := { ι := Nat, inv := fun _ k => k ≤ 144 ∧ l.take k = m.take k, slots := fun _ k => [(5, .a (.c (.int .i64 k)))], blks := fun _ _ => [], μ := fun _ k => 144 - k }

set_option maxRecDepth 100000 in
theorem x_eqByteA144 (l m : List Int) (hl : l.length = 144) (hm : m.length = 144) : Fex true TT (inlN true TT (ctrOf E2) (lookI IL) 3) (ctrOf E2) (fun _ => .inv (lmEqP l m)) Try.f33 [bytA l, bytA m] [] (fun lv _ => leL lv (.a (.c (.bool (decide (l = m)))))) := by
  refine Go.Sx.by_eq (q := True ∧ True ∧ True ∧ True ∧ (∃ (x : Nat), (x ≤ (144 : Nat) ∧ List.take x l = List.take x m) ∧ ((([EK.u8] = [EK.u8] ∧ (144 : Nat) = (144 : Nat) ∧ l = l) ∧ True) ∧ (([EK.u8] = [EK.u8] ∧ (144 : Nat) = (144 : Nat) ∧ m = m) ∧ True) ∧ Cel.ptr (0 : Nat) (0 : Nat) = Cel.ptr (0 : Nat) (0 : Nat) ∧ Cel.ptr (1 : Nat) (0 : Nat) = Cel.ptr (1 : Nat) (0 : Nat) ∧ True ∧ (IntKind.i64 = IntKind.i64 ∧ (0 : Int) = (↑x : Int)) ∧ True ∧ True ∧ True ∧ True ∧ True ∧ True ∧ True ∧ True ∧ True ∧ True ∧ True ∧ True) ∧ (Bool.true = Bool.true ∧ (29 : Nat) = (29 : Nat) ∧ ([EK.u8] = [EK.u8] ∧ (144 : Nat) = (144 : Nat) ∧ l = l) ∧ True) ∧ (Bool.true = Bool.true ∧ (29 : Nat) = (29 : Nat) ∧ ([EK.u8] = [EK.u8] ∧ (144 : Nat) = (144 : Nat) ∧ m = m) ∧ True) ∧ True) ∧ ∀ (x : Nat), x ≤ (144 : Nat) ∧ List.take x l = List.take x m → True ∧ True ∧ (Decidable.decide ((↑x : Int) < (144 : Int)) = Bool.true → True ∧ ((0 : Int) ≤ (↑x : Int) ∧ (↑x : Int) < (↑(144 : Nat) : Int)) ∧ ((0 : Int) ≤ (↑x : Int) ∧ Int.toNat (↑x : Int) < (144 : Nat)) ∧ True ∧ ((0 : Int) ≤ (↑x : Int) ∧ (↑x : Int) < (↑(144 : Nat) : Int)) ∧ ((0 : Int) ≤ (↑x : Int) ∧ Int.toNat (↑x : Int) < (144 : Nat)) ∧ True ∧ ((List.getD l (Int.toNat (↑x : Int)) (0 : Int) != List.getD m (Int.toNat (↑x : Int)) (0 : Int)) = Bool.true → True ∧ Decidable.decide (l = m) = Bool.false) ∧ ((List.getD l (Int.toNat (↑x : Int)) (0 : Int) != List.getD m (Int.toNat (↑x : Int)) (0 : Int)) = Bool.false → True ∧ ((-9223372036854775808 : Int) ≤ (↑x : Int) + (1 : Int) ∧ (↑x : Int) + (1 : Int) ≤ (9223372036854775807 : Int)) ∧ True ∧ ∃ (y : Nat), (y ≤ (144 : Nat) ∧ List.take y l = List.take y m) ∧ (144 : Nat) - y < (144 : Nat) - x ∧ ((([EK.u8] = [EK.u8] ∧ (144 : Nat) = (144 : Nat) ∧ l = l) ∧ True) ∧ (([EK.u8] = [EK.u8] ∧ (144 : Nat) = (144 : Nat) ∧ m = m) ∧ True) ∧ Cel.ptr (0 : Nat) (0 : Nat) = Cel.ptr (0 : Nat) (0 : Nat) ∧ Cel.ptr (1 : Nat) (0 : Nat) = Cel.ptr (1 : Nat) (0 : Nat) ∧ True ∧ (IntKind.i64 = IntKind.i64 ∧ (↑x : Int) + (1 : Int) = (↑y : Int)) ∧ True ∧ True ∧ True ∧ True ∧ True ∧ True ∧ True ∧ True ∧ True ∧ True ∧ True ∧ True) ∧ (Bool.true = Bool.true ∧ (29 : Nat) = (29 : Nat) ∧ ([EK.u8] = [EK.u8] ∧ (144 : Nat) = (144 : Nat) ∧ l = l) ∧ True) ∧ (Bool.true = Bool.true ∧ (29 : Nat) = (29 : Nat) ∧ ([EK.u8] = [EK.u8] ∧ (144 : Nat) = (144 : Nat) ∧ m = m) ∧ True) ∧ True)) ∧ (Decidable.decide ((↑x : Int) < (144 : Int)) = Bool.false → True ∧ Decidable.decide (l = m) = Bool.true)) (by kernel_rfl) ?_
  simp only [true_and, and_true, and_self]
  refine ⟨⟨0, ⟨by omega, by simp⟩, rfl⟩, ?_⟩
  rintro k ⟨h1, h2⟩
  refine ⟨fun hlt => ?_, fun hge => ?_⟩
  · have hlt : k < 144 := by have := of_decide_eq_true hlt; omega
    refine ⟨by omega, by omega, by omega, by omega, fun hne => ?_, fun he => ?_⟩
    · have hne : l.getD k 0 ≠ m.getD k 0 := by simpa using hne
      exact decide_eq_false fun e => hne (by rw [e])
    · have he : l.getD k 0 = m.getD k 0 := by simpa using he
      refine ⟨by omega, k + 1, ⟨by omega, ?_⟩, by omega, by simp⟩
      rw [List.take_add_one, List.take_add_one, h2]
      have : l[k]? = m[k]? := by
        simp [List.getD, hl, hm, hlt] at he
        simp [hl, hm, hlt, he]
      rw [this]
  · have hge : ¬ (k : Int) < 144 := by simpa using hge
    have : k = 144 := by omega
    subst this
    rw [List.take_of_length_le (by omega), List.take_of_length_le (by omega)] at h2
    exact decide_eq_true h2

def gEqByteA144 : Entry := fun args _ => match args with
  | [.a (.agg [.run [.u8] 144 l]), .a (.agg [.run [.u8] 144 m])] => some (True, .a (.c (.bool (decide (l = m)))))
  | _ => none

theorem e_eqByteA144 : EntryOk Try.prog TT 33 gEqByteA144 := by
  refine ⟨fnOk Try.func33 (by kernel_rfl) rfl, ?_⟩
  intro args H p r he hp n0 w0 β w vals hG hH hA
  unfold gEqByteA144 at he
  split at he
  · rename_i l m
    simp only [Option.some.injEq, Prod.mk.injEq] at he
    obtain ⟨rfl, rfl⟩ := he
    have hl : l.length = 144 := by obtain ⟨v, _, _, h, _⟩ := hA; exact run_len h
    have hm : m.length = 144 := by obtain ⟨v, _, _, _, v2, _, _, h, _⟩ := hA; exact run_len h
    exact entry_bare tt_ok (inlN_ok tt_ok (ctrOf_ok E2_ok) mixed IL_ok.ok 3) (ctrOf_ok E2_ok) mixed Try.func33 (x_eqByteA144 l m hl hm) rfl rfl hG hH hA
  · simp at he

/-! ### eqPicture, SamePicture -/

def E3 : List (FuncId × Entry) := (33, gEqByteA144) :: E2p
theorem E3_ok : EntriesOk Try.prog TT E3 := ⟨e_eqByteA144, E2p_ok⟩

def same (w h : Int) (l : List Int) (w' h' : Int) (l' : List Int) : LV := .a (.c (.bool (decide (w = w' ∧ h = h' ∧ l = l'))))

set_option maxRecDepth 100000 in
theorem x_eqPicture (w h : Int) (l : List Int) (w' h' : Int) (l' : List Int) : Fex true TT (inlN true TT (ctrOf E3) (lookI IL) 3) (ctrOf E3) U0 Try.f9 [pic w h l, pic w' h' l'] [] (fun lv _ => leL lv (same w h l w' h' l')) := by
  refine Go.Sx.by_eq (q := True ∧ True ∧ True ∧ True ∧ True ∧ True ∧ True ∧ True ∧ ((w != w') = Bool.true → True ∧ Decidable.decide (w = w' ∧ h = h' ∧ l = l') = Bool.false) ∧ ((w != w') = Bool.false → True ∧ True ∧ True ∧ True ∧ True ∧ ((h != h') = Bool.true → True ∧ Decidable.decide (w = w' ∧ h = h' ∧ l = l') = Bool.false) ∧ ((h != h') = Bool.false → True ∧ True ∧ True ∧ True ∧ True ∧ True ∧ ((!Decidable.decide (l = l')) = Bool.true → True ∧ Decidable.decide (w = w' ∧ h = h' ∧ l = l') = Bool.false) ∧ ((!Decidable.decide (l = l')) = Bool.false → True ∧ Decidable.decide (w = w' ∧ h = h' ∧ l = l') = Bool.true)))) (by kernel_rfl) ?_
  by_cases e1 : w = w' <;> by_cases e2 : h = h' <;> by_cases e3 : l = l' <;> simp [e1, e2, e3]

def gSame : Entry := fun args _ => match args with
  | [.a (.agg [.int .i8 w, .int .i8 h, .run [.u8] 144 l]), .a (.agg [.int .i8 w', .int .i8 h', .run [.u8] 144 l'])] => some (True, same w h l w' h' l')
  | _ => none

set_option maxRecDepth 100000 in
theorem e_eqPicture : EntryOk Try.prog TT 9 gSame := by
  refine ⟨fnOk Try.func9 (by kernel_rfl) rfl, ?_⟩
  intro args H p r he hp n0 w0 β w vals hG hH hA
  unfold gSame at he
  split at he
  · simp only [Option.some.injEq, Prod.mk.injEq] at he
    obtain ⟨rfl, rfl⟩ := he
    exact entry_bare tt_ok (inlN_ok tt_ok (ctrOf_ok E3_ok) mixed IL_ok.ok 3) (ctrOf_ok E3_ok) mixed Try.func9 (x_eqPicture _ _ _ _ _ _) rfl rfl hG hH hA
  · simp at he

def E4 : List (FuncId × Entry) := (9, gSame) :: E3
theorem E4_ok : EntriesOk Try.prog TT E4 := ⟨e_eqPicture, E3_ok⟩

/-! ### A picture by value, opened -/

end Go.Proofs.Ytaaohciojedncaa
