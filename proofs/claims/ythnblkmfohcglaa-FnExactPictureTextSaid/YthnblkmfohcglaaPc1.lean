/- Pictures: the small functions that all laws of chapter 1 share. Each is proved to compute a plain function. No conditions beyond the ranges of the kinds. -/
import Derived.Test.YthnblkmfohcglaaTt
set_option linter.unusedSimpArgs false
set_option linter.unusedVariables false
namespace Go.Proofs.Ythnblkmfohcglaa
open Go.Sx Go.RowKit

/-- The functions that are met in place. -/
noncomputable def IL  : List (FuncId × Func × (Nat → LM)) := [
  (16, Try.f16, U0),
  (17, Try.f17, U0),
  (18, Try.f18, U0),
  (11, Try.f11, U0),
  (20, Try.f20, U0),
  (12, Try.f12, U0)]
theorem IL_ok  : InlsOk Try.prog IL := ⟨⟨Try.func16, by kernel_rfl⟩, ⟨Try.func17, by kernel_rfl⟩, ⟨Try.func18, by kernel_rfl⟩, ⟨Try.func11, by kernel_rfl⟩, ⟨Try.func20, by kernel_rfl⟩, ⟨Try.func12, by kernel_rfl⟩, trivial⟩

/-! ### Plain mathematics of pictures -/

/-- What the kinds of a picture's fields allow. -/
structure Rg (w h : Int) (l : List Int) : Prop where
  w1 : -128 ≤ w
  w2 : w ≤ 127
  h1 : -128 ≤ h
  h2 : h ≤ 127
  len : l.length = 144
  c : ∀ i, 0 ≤ l.getD i 0 ∧ l.getD i 0 ≤ 255

def isB (w h : Int) (i : Nat) : Bool := decide (((i % 12 : Nat) : Int) < w) && decide (((i / 12 : Nat) : Int) < h)
def okC (w h : Int) (l : List Int) (i : Nat) : Bool := decide (l.getD i 0 < 16) && (isB w h i || l.getD i 0 == 0)
def okB (w h : Int) (l : List Int) : Bool := (decide (1 ≤ w) && decide (w ≤ 12)) && (decide (1 ≤ h) && decide (h ≤ 12)) && (List.range 144).all (okC w h l)

def bytA (l : List Int) : LV := .a (.agg [.run [.u8] 144 l])
def pic (w h : Int) (l : List Int) : LV := .a (.agg [.int .i8 w, .int .i8 h, .run [.u8] 144 l])
def picB (w h : Int) (l : List Int) : List Cel := [.int .i8 w, .int .i8 h, .run [.u8] 144 l]

/-! ### toByteA144 -/

def E1 : List (FuncId × Entry) := []
theorem E1_ok : EntriesOk Try.prog TT E1 := trivial

def lmBytes (l : List Int) : LAnn := { ι := Nat × List Int, inv := fun _ x => x.1 ≤ 144 ∧ x.2.length = 144 ∧ x.2.take x.1 = l.take x.1, slots := fun _ x => [(4, .a (.c (.int .i64 x.1)))], blks := fun _ x => [(2, [.run [.u8] 144 x.2])], μ := fun _ x => 144 - x.1 }

theorem x_toByteA144 (l : List Int) (hl : l.length = 144) : Fex true TT (inlN true TT (ctrOf E1) (lookI IL) 3) (ctrOf E1) (fun _ => .inv (lmBytes l)) Try.f9 [bytA l] [] (fun lv _ => leL lv (bytA l)) := by
  refine Go.Sx.by_eq (q := True ∧ True ∧ True ∧ True ∧ (∃ (x : Nat × List Int), (x.fst ≤ (144 : Nat) ∧ List.length x.snd = (144 : Nat) ∧ List.take x.fst x.snd = List.take x.fst l) ∧ ((([Go.Sx.EK.u8] = [Go.Sx.EK.u8] ∧ (144 : Nat) = (144 : Nat) ∧ l = l) ∧ True) ∧ Go.Sx.Cel.ptr (0 : Nat) (0 : Nat) = Go.Sx.Cel.ptr (0 : Nat) (0 : Nat) ∧ Go.Sx.Cel.ptr (1 : Nat) (0 : Nat) = Go.Sx.Cel.ptr (1 : Nat) (0 : Nat) ∧ Go.Sx.Cel.ptr (2 : Nat) (0 : Nat) = Go.Sx.Cel.ptr (2 : Nat) (0 : Nat) ∧ (Go.IntKind.i64 = Go.IntKind.i64 ∧ (0 : Int) = (↑x.fst : Int)) ∧ True ∧ True ∧ True ∧ True ∧ True ∧ True ∧ True ∧ True ∧ True ∧ Go.Sx.Cel.val Go.undef = Go.Sx.Cel.val Go.undef ∧ True) ∧ (Bool.true = Bool.true ∧ (23 : Nat) = (23 : Nat) ∧ ([Go.Sx.EK.u8] = [Go.Sx.EK.u8] ∧ (144 : Nat) = (144 : Nat) ∧ l = l) ∧ True) ∧ (Bool.true = Bool.true ∧ (23 : Nat) = (23 : Nat) ∧ ([Go.Sx.EK.u8] = [Go.Sx.EK.u8] ∧ (144 : Nat) = (144 : Nat) ∧ List.replicate (144 : Nat) (0 : Int) = List.replicate (144 : Nat) (0 : Int)) ∧ True) ∧ (Bool.true = Bool.true ∧ (23 : Nat) = (23 : Nat) ∧ ([Go.Sx.EK.u8] = [Go.Sx.EK.u8] ∧ (144 : Nat) = (144 : Nat) ∧ List.replicate (144 : Nat) (0 : Int) = x.snd) ∧ True) ∧ True) ∧ ∀ (x : Nat × List Int), x.fst ≤ (144 : Nat) ∧ List.length x.snd = (144 : Nat) ∧ List.take x.fst x.snd = List.take x.fst l → True ∧ True ∧ (Decidable.decide ((↑x.fst : Int) < (144 : Int)) = Bool.true → True ∧ True ∧ ((0 : Int) ≤ (↑x.fst : Int) ∧ (↑x.fst : Int) < (↑(144 : Nat) : Int)) ∧ ((0 : Int) ≤ (↑x.fst : Int) ∧ Int.toNat (↑x.fst : Int) < (144 : Nat)) ∧ ((0 : Int) ≤ (↑x.fst : Int) ∧ (↑x.fst : Int) < (↑(144 : Nat) : Int)) ∧ ((0 : Int) ≤ (↑x.fst : Int) ∧ Int.toNat (↑x.fst : Int) < (144 : Nat)) ∧ True ∧ ((-9223372036854775808 : Int) ≤ (↑x.fst : Int) + (1 : Int) ∧ (↑x.fst : Int) + (1 : Int) ≤ (9223372036854775807 : Int)) ∧ True ∧ ∃ (y : Nat × List Int), (y.fst ≤ (144 : Nat) ∧ List.length y.snd = (144 : Nat) ∧ List.take y.fst y.snd = List.take y.fst l) ∧ (144 : Nat) - y.fst < (144 : Nat) - x.fst ∧ ((([Go.Sx.EK.u8] = [Go.Sx.EK.u8] ∧ (144 : Nat) = (144 : Nat) ∧ l = l) ∧ True) ∧ Go.Sx.Cel.ptr (0 : Nat) (0 : Nat) = Go.Sx.Cel.ptr (0 : Nat) (0 : Nat) ∧ Go.Sx.Cel.ptr (1 : Nat) (0 : Nat) = Go.Sx.Cel.ptr (1 : Nat) (0 : Nat) ∧ Go.Sx.Cel.ptr (2 : Nat) (0 : Nat) = Go.Sx.Cel.ptr (2 : Nat) (0 : Nat) ∧ (Go.IntKind.i64 = Go.IntKind.i64 ∧ (↑x.fst : Int) + (1 : Int) = (↑y.fst : Int)) ∧ True ∧ True ∧ True ∧ True ∧ True ∧ True ∧ True ∧ True ∧ True ∧ Go.Sx.Cel.val Go.undef = Go.Sx.Cel.val Go.undef ∧ True) ∧ (Bool.true = Bool.true ∧ (23 : Nat) = (23 : Nat) ∧ ([Go.Sx.EK.u8] = [Go.Sx.EK.u8] ∧ (144 : Nat) = (144 : Nat) ∧ l = l) ∧ True) ∧ (Bool.true = Bool.true ∧ (23 : Nat) = (23 : Nat) ∧ ([Go.Sx.EK.u8] = [Go.Sx.EK.u8] ∧ (144 : Nat) = (144 : Nat) ∧ List.replicate (144 : Nat) (0 : Int) = List.replicate (144 : Nat) (0 : Int)) ∧ True) ∧ (Bool.true = Bool.true ∧ (23 : Nat) = (23 : Nat) ∧ ([Go.Sx.EK.u8] = [Go.Sx.EK.u8] ∧ (144 : Nat) = (144 : Nat) ∧ List.set x.snd (Int.toNat (↑x.fst : Int)) (List.getD l (Int.toNat (↑x.fst : Int)) (0 : Int)) = y.snd) ∧ True) ∧ True) ∧ (Decidable.decide ((↑x.fst : Int) < (144 : Int)) = Bool.false → True ∧ True ∧ ([Go.Sx.EK.u8] = [Go.Sx.EK.u8] ∧ (144 : Nat) = (144 : Nat) ∧ x.snd = l) ∧ True)) (by kernel_rfl) ?_
  simp only [true_and, and_true, and_self]
  refine ⟨⟨(0, List.replicate 144 0), ⟨by omega, by simp, by simp⟩, rfl, rfl⟩, ?_⟩
  rintro ⟨k, m⟩ ⟨h1, h2, h3⟩
  simp only at h1 h2 h3 ⊢
  refine ⟨fun hlt => ?_, fun hge => ?_⟩
  · have hlt : k < 144 := by have := of_decide_eq_true hlt; omega
    refine ⟨by omega, by omega, by omega, by omega, by omega, (k + 1, m.set k (l.getD k 0)), ⟨by simp only; omega, by simpa using h2, ?_⟩, by simp only; omega, by simp, by simp⟩
    simp only
    rw [List.take_add_one, List.take_add_one, List.take_set_of_le (Nat.le_refl k), h3]
    simp [h2, hlt, List.getD, hl]
  · have hge : ¬ (k : Int) < 144 := by simpa using hge
    have : k = 144 := by omega
    subst this
    rw [List.take_of_length_le (by omega), List.take_of_length_le (by omega)] at h3
    exact h3

def gToByteA144 : Entry := fun args _ => match args with
  | [.a (.agg [.run [.u8] 144 l])] => some (True, bytA l)
  | _ => none

theorem e_toByteA144 : EntryOk Try.prog TT 9 gToByteA144 := by
  refine ⟨fnOk Try.func9 (by kernel_rfl) rfl, ?_⟩
  intro args H p r he hp n0 w0 β w vals hG hH hA
  unfold gToByteA144 at he
  split at he
  · rename_i l
    simp only [Option.some.injEq, Prod.mk.injEq] at he
    obtain ⟨rfl, rfl⟩ := he
    have hl : l.length = 144 := by obtain ⟨v, _, _, h, _⟩ := hA; exact run_len h
    exact entry_bare tt_ok (inlN_ok tt_ok (ctrOf_ok E1_ok) mixed IL_ok.ok 3) (ctrOf_ok E1_ok) mixed Try.func9 (x_toByteA144 l hl) rfl rfl hG hH hA
  · simp at he

/-! ### toPicture, eqByteA144 -/

def E2 : List (FuncId × Entry) := (9, gToByteA144) :: E1
theorem E2_ok : EntriesOk Try.prog TT E2 := ⟨e_toByteA144, E1_ok⟩

set_option maxRecDepth 100000 in
theorem x_toPicture (w h : Int) (l : List Int) : Fex true TT (inlN true TT (ctrOf E2) (lookI IL) 3) (ctrOf E2) U0 Try.f5 [pic w h l] [] (fun lv _ => leL lv (pic w h l)) := by
  refine Go.Sx.by_eq (q := True ∧ True ∧ True ∧ True ∧ True ∧ True ∧ True ∧ True ∧ True ∧ True ∧ True ∧ True ∧ True ∧ True ∧ True ∧ True ∧ True ∧ True ∧ (Go.IntKind.i8 = Go.IntKind.i8 ∧ w = w) ∧ (Go.IntKind.i8 = Go.IntKind.i8 ∧ h = h) ∧ ([Go.Sx.EK.u8] = [Go.Sx.EK.u8] ∧ (144 : Nat) = (144 : Nat) ∧ l = l) ∧ True) (by kernel_rfl) ?_
  simp only [true_and, and_true, and_self]

def gToPicture : Entry := fun args _ => match args with
  | [.a (.agg [.int .i8 w, .int .i8 h, .run [.u8] 144 l])] => some (True, pic w h l)
  | _ => none

theorem e_toPicture : EntryOk Try.prog TT 5 gToPicture := by
  refine ⟨fnOk Try.func5 (by kernel_rfl) rfl, ?_⟩
  intro args H p r he hp n0 w0 β w vals hG hH hA
  unfold gToPicture at he
  split at he
  · rename_i wd hg l
    simp only [Option.some.injEq, Prod.mk.injEq] at he
    obtain ⟨rfl, rfl⟩ := he
    exact entry_bare tt_ok (inlN_ok tt_ok (ctrOf_ok E2_ok) mixed IL_ok.ok 3) (ctrOf_ok E2_ok) mixed Try.func5 (x_toPicture wd hg l) rfl rfl hG hH hA
  · simp at he

def E3 : List (FuncId × Entry) := (5, gToPicture) :: E2
theorem E3_ok : EntriesOk Try.prog TT E3 := ⟨e_toPicture, E2_ok⟩
def E4 : List (FuncId × Entry) := E3
theorem E4_ok : EntriesOk Try.prog TT E4 := E3_ok

/-! ### A picture by value, opened -/

set_option maxRecDepth 100000 in
theorem open_pic {H : Type} {enc : TypeId × Value → H} {w : World} {base : Nat} {spare : Nat → Bool} {held : Bool} {r : Reach} {b0 : Nat} {v : Value} {d : DataW H} {ps : List MemPlace}
    (hval : Value.okWide Try.prog w r b0 25 v) (hd : DataW.Trod enc Try.prog w base spare held 25 v d ps) : ∃ wd hg l, Rg wd hg l ∧ ∀ β, LVR β (pic wd hg l) v := by
  obtain ⟨ns, h1, h2, h3⟩ := open_flat Try.underlying25 hval hd [.one .i8, .one .i8, .many [.u8] 144] (by kernel_rfl)
  have h1 : ns.length = 146 := h1
  match ns, h1 with
  | wd :: hg :: l, h1 =>
    have hl : l.length = 144 := by simpa using h1
    have b1 := bounds_i8 (h2 0 .i8 wd rfl rfl)
    have b2 := bounds_i8 (h2 1 .i8 hg rfl rfl)
    refine ⟨wd, hg, l, ⟨b1.1, b1.2, b2.1, b2.2, hl, fun i => ?_⟩, fun β => ?_⟩
    · by_cases hi : i < l.length
      · have hi' : i < 144 := by omega
        have := bounds_u8 (h2 (i + 2) .u8 l[i] (by
          show ((List.range 144).map (fun j => [IntKind.u8].getD (j % [IntKind.u8].length) .i64) ++ [])[i]? = _
          simp [hi', Nat.mod_one]) (by simp [hi]))
        simpa [List.getD, hi] using this
      · simp [List.getD, List.getElem?_eq_none (Nat.le_of_not_lt hi)]
    · have := h3 β
      simpa [shCels, pic, EK.of, List.take_of_length_le (Nat.le_of_eq hl)] using this

end Go.Proofs.Ythnblkmfohcglaa
