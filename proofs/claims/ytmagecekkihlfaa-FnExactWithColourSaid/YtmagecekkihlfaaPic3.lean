/- Pictures: a changed cell, on both sides. Each is proved to compute a plain function. No conditions beyond the ranges of the kinds. -/
import Derived.Test.YtmagecekkihlfaaPic2
namespace Go.Proofs.Ytmagecekkihlfaa
open Go.Sx Go.RowKit

/-- The error of WithColour, and what it answers. -/
def withE (w h : Int) (l : List Int) (x y c : Int) : Int := if placeE w h l x y = 0 ∧ ¬ (0 ≤ c ∧ c ≤ 15) then 2 else placeE w h l x y
def withL (w h : Int) (l : List Int) (x y c : Int) : List Int := if withE w h l x y c = 0 then l.set (x + 12 * y).toNat c else List.replicate 144 0
def gate (e z : Int) : Int := if e = 0 then z else 0
def withR (w h : Int) (l : List Int) (x y c : Int) : LV := .tup [.agg [.int .i8 (gate (withE w h l x y c) w), .int .i8 (gate (withE w h l x y c) h), .run [.u8] 144 (withL w h l x y c)], .c (.int .i64 (withE w h l x y c))]

theorem with_no {w h : Int} {l : List Int} {x y c e : Int} (h1 : withE w h l x y c = e) (h2 : e ≠ 0) : (0 = gate (withE w h l x y c) w ∧ 0 = gate (withE w h l x y c) h ∧ List.replicate 144 0 = withL w h l x y c) ∧ e = withE w h l x y c := by
  unfold gate withL
  rw [h1, if_neg h2, if_neg h2, if_neg h2]
  exact ⟨⟨rfl, rfl, rfl⟩, rfl⟩

theorem with_ok {w h : Int} {l : List Int} {x y c : Int} (h1 : withE w h l x y c = 0) : (w = gate (withE w h l x y c) w ∧ h = gate (withE w h l x y c) h ∧ l.set (x + 12 * y).toNat c = withL w h l x y c) ∧ 0 = withE w h l x y c := by
  unfold gate withL
  rw [h1, if_pos rfl, if_pos rfl, if_pos rfl]
  exact ⟨⟨rfl, rfl, rfl⟩, rfl⟩

theorem with1 {w h : Int} {l : List Int} {x y c : Int} (e : ¬ placeE w h l x y = 0) : withE w h l x y c = placeE w h l x y := by rw [withE, if_neg (by omega)]
theorem with2 {w h : Int} {l : List Int} {x y c : Int} (e : placeE w h l x y = 0) (hc : ¬ (0 ≤ c ∧ c ≤ 15)) : withE w h l x y c = 2 := by rw [withE, if_pos ⟨e, hc⟩]
theorem with0 {w h : Int} {l : List Int} {x y c : Int} (e : placeE w h l x y = 0) (hc : 0 ≤ c ∧ c ≤ 15) : withE w h l x y c = 0 := by rw [withE, if_neg (by omega), e]

theorem place1 {w h : Int} {l : List Int} {x y : Int} (e : okB w h l = false) : placeE w h l x y = 1 := by simp [placeE, e]
theorem place2 {w h : Int} {l : List Int} {x y : Int} (e : okB w h l = true) (e' : ¬ (0 ≤ x ∧ x < w ∧ 0 ≤ y ∧ y < h)) : placeE w h l x y = 2 := by
  simp only [placeE, e, ↓reduceIte]; rw [if_neg e']
theorem place0 {w h : Int} {l : List Int} {x y : Int} (e : okB w h l = true) (e' : 0 ≤ x ∧ x < w ∧ 0 ≤ y ∧ y < h) : placeE w h l x y = 0 := by
  simp only [placeE, e, ↓reduceIte]; rw [if_pos e']

theorem u8_id {c : Int} (h : 0 ≤ c ∧ c ≤ 255) : IntKind.u8.wrap c = c := by
  simp [IntKind.wrap, IntKind.signed, IntKind.bits]
  omega

set_option maxRecDepth 100000 in
theorem x_WithColourS (w h : Int) (l : List Int) (r : Rg w h l) (x y c : Int) : Fex true TT (inlN true TT (ctrOf E7) (lookI IL) 3) (ctrOf E7) U0 Try.f14 [pic w h l, .a (.c (.int .i64 x)), .a (.c (.int .i64 y)), .a (.c (.int .i64 c))] [] (fun lv _ => leL lv (withR w h l x y c)) := by
  refine Go.Sx.by_eq (q := True ∧ True ∧ True ∧ True ∧ True ∧ Go.Proofs.Ytmagecekkihlfaa.Rg w h l ∧ True ∧ True ∧ True ∧ True ∧ ((Go.Proofs.Ytmagecekkihlfaa.placeE w h l x y == (0 : Int)) = Bool.true → True ∧ True ∧ True ∧ True ∧ True ∧ True ∧ True ∧ True ∧ (Decidable.decide ((0 : Int) ≤ c) = Bool.true → True ∧ True ∧ True ∧ True ∧ True ∧ True ∧ True ∧ True ∧ ((!Decidable.decide (c ≤ (15 : Int))) = Bool.true → True ∧ True ∧ True ∧ True ∧ True ∧ True ∧ True ∧ ((Go.IntKind.i8 = Go.IntKind.i8 ∧ (0 : Int) = Go.Proofs.Ytmagecekkihlfaa.gate (Go.Proofs.Ytmagecekkihlfaa.withE w h l x y c) w) ∧ (Go.IntKind.i8 = Go.IntKind.i8 ∧ (0 : Int) = Go.Proofs.Ytmagecekkihlfaa.gate (Go.Proofs.Ytmagecekkihlfaa.withE w h l x y c) h) ∧ ([Go.IntKind.u8] = [Go.IntKind.u8] ∧ (144 : Nat) = (144 : Nat) ∧ List.replicate (144 : Nat) (0 : Int) = Go.Proofs.Ytmagecekkihlfaa.withL w h l x y c) ∧ True) ∧ (Go.IntKind.i64 = Go.IntKind.i64 ∧ (2 : Int) = Go.Proofs.Ytmagecekkihlfaa.withE w h l x y c) ∧ True) ∧ ((!Decidable.decide (c ≤ (15 : Int))) = Bool.false → True ∧ True ∧ ((Go.Proofs.Ytmagecekkihlfaa.placeE w h l x y != (0 : Int)) = Bool.true → True ∧ True ∧ True ∧ True ∧ ((Go.IntKind.i8 = Go.IntKind.i8 ∧ (0 : Int) = Go.Proofs.Ytmagecekkihlfaa.gate (Go.Proofs.Ytmagecekkihlfaa.withE w h l x y c) w) ∧ (Go.IntKind.i8 = Go.IntKind.i8 ∧ (0 : Int) = Go.Proofs.Ytmagecekkihlfaa.gate (Go.Proofs.Ytmagecekkihlfaa.withE w h l x y c) h) ∧ ([Go.IntKind.u8] = [Go.IntKind.u8] ∧ (144 : Nat) = (144 : Nat) ∧ List.replicate (144 : Nat) (0 : Int) = Go.Proofs.Ytmagecekkihlfaa.withL w h l x y c) ∧ True) ∧ (Go.IntKind.i64 = Go.IntKind.i64 ∧ Go.Proofs.Ytmagecekkihlfaa.placeE w h l x y = Go.Proofs.Ytmagecekkihlfaa.withE w h l x y c) ∧ True) ∧ ((Go.Proofs.Ytmagecekkihlfaa.placeE w h l x y != (0 : Int)) = Bool.false → True ∧ True ∧ ((-9223372036854775808 : Int) ≤ (12 : Int) * y ∧ (12 : Int) * y ≤ (9223372036854775807 : Int)) ∧ ((-9223372036854775808 : Int) ≤ x + (12 : Int) * y ∧ x + (12 : Int) * y ≤ (9223372036854775807 : Int)) ∧ True ∧ True ∧ True ∧ ((0 : Int) ≤ x + (12 : Int) * y ∧ x + (12 : Int) * y < (↑(144 : Nat) : Int)) ∧ ((0 : Int) ≤ x + (12 : Int) * y ∧ Int.toNat (x + (12 : Int) * y) < (144 : Nat)) ∧ True ∧ True ∧ True ∧ ((Go.IntKind.i8 = Go.IntKind.i8 ∧ w = Go.Proofs.Ytmagecekkihlfaa.gate (Go.Proofs.Ytmagecekkihlfaa.withE w h l x y c) w) ∧ (Go.IntKind.i8 = Go.IntKind.i8 ∧ h = Go.Proofs.Ytmagecekkihlfaa.gate (Go.Proofs.Ytmagecekkihlfaa.withE w h l x y c) h) ∧ ([Go.IntKind.u8] = [Go.IntKind.u8] ∧ (144 : Nat) = (144 : Nat) ∧ List.set l (Int.toNat (x + (12 : Int) * y)) (Go.IntKind.wrap Go.IntKind.u8 c) = Go.Proofs.Ytmagecekkihlfaa.withL w h l x y c) ∧ True) ∧ (Go.IntKind.i64 = Go.IntKind.i64 ∧ (0 : Int) = Go.Proofs.Ytmagecekkihlfaa.withE w h l x y c) ∧ True))) ∧ (Decidable.decide ((0 : Int) ≤ c) = !Bool.true → True ∧ True ∧ True ∧ True ∧ True ∧ True ∧ True ∧ True ∧ True ∧ True ∧ True ∧ True ∧ ((Go.IntKind.i8 = Go.IntKind.i8 ∧ (0 : Int) = Go.Proofs.Ytmagecekkihlfaa.gate (Go.Proofs.Ytmagecekkihlfaa.withE w h l x y c) w) ∧ (Go.IntKind.i8 = Go.IntKind.i8 ∧ (0 : Int) = Go.Proofs.Ytmagecekkihlfaa.gate (Go.Proofs.Ytmagecekkihlfaa.withE w h l x y c) h) ∧ ([Go.IntKind.u8] = [Go.IntKind.u8] ∧ (144 : Nat) = (144 : Nat) ∧ List.replicate (144 : Nat) (0 : Int) = Go.Proofs.Ytmagecekkihlfaa.withL w h l x y c) ∧ True) ∧ (Go.IntKind.i64 = Go.IntKind.i64 ∧ (2 : Int) = Go.Proofs.Ytmagecekkihlfaa.withE w h l x y c) ∧ True)) ∧ ((Go.Proofs.Ytmagecekkihlfaa.placeE w h l x y == (0 : Int)) = !Bool.true → True ∧ True ∧ True ∧ ((Go.Proofs.Ytmagecekkihlfaa.placeE w h l x y != (0 : Int)) = Bool.true → True ∧ True ∧ True ∧ True ∧ ((Go.IntKind.i8 = Go.IntKind.i8 ∧ (0 : Int) = Go.Proofs.Ytmagecekkihlfaa.gate (Go.Proofs.Ytmagecekkihlfaa.withE w h l x y c) w) ∧ (Go.IntKind.i8 = Go.IntKind.i8 ∧ (0 : Int) = Go.Proofs.Ytmagecekkihlfaa.gate (Go.Proofs.Ytmagecekkihlfaa.withE w h l x y c) h) ∧ ([Go.IntKind.u8] = [Go.IntKind.u8] ∧ (144 : Nat) = (144 : Nat) ∧ List.replicate (144 : Nat) (0 : Int) = Go.Proofs.Ytmagecekkihlfaa.withL w h l x y c) ∧ True) ∧ (Go.IntKind.i64 = Go.IntKind.i64 ∧ Go.Proofs.Ytmagecekkihlfaa.placeE w h l x y = Go.Proofs.Ytmagecekkihlfaa.withE w h l x y c) ∧ True) ∧ ((Go.Proofs.Ytmagecekkihlfaa.placeE w h l x y != (0 : Int)) = Bool.false → True ∧ True ∧ ((-9223372036854775808 : Int) ≤ (12 : Int) * y ∧ (12 : Int) * y ≤ (9223372036854775807 : Int)) ∧ ((-9223372036854775808 : Int) ≤ x + (12 : Int) * y ∧ x + (12 : Int) * y ≤ (9223372036854775807 : Int)) ∧ True ∧ True ∧ True ∧ ((0 : Int) ≤ x + (12 : Int) * y ∧ x + (12 : Int) * y < (↑(144 : Nat) : Int)) ∧ ((0 : Int) ≤ x + (12 : Int) * y ∧ Int.toNat (x + (12 : Int) * y) < (144 : Nat)) ∧ True ∧ True ∧ True ∧ ((Go.IntKind.i8 = Go.IntKind.i8 ∧ w = Go.Proofs.Ytmagecekkihlfaa.gate (Go.Proofs.Ytmagecekkihlfaa.withE w h l x y c) w) ∧ (Go.IntKind.i8 = Go.IntKind.i8 ∧ h = Go.Proofs.Ytmagecekkihlfaa.gate (Go.Proofs.Ytmagecekkihlfaa.withE w h l x y c) h) ∧ ([Go.IntKind.u8] = [Go.IntKind.u8] ∧ (144 : Nat) = (144 : Nat) ∧ List.set l (Int.toNat (x + (12 : Int) * y)) (Go.IntKind.wrap Go.IntKind.u8 c) = Go.Proofs.Ytmagecekkihlfaa.withL w h l x y c) ∧ True) ∧ (Go.IntKind.i64 = Go.IntKind.i64 ∧ (0 : Int) = Go.Proofs.Ytmagecekkihlfaa.withE w h l x y c) ∧ True))) (by kernel_rfl) ?_
  have rw1 := r.w1; have rw2 := r.w2; have rh1 := r.h1; have rh2 := r.h2
  simp only [true_and, and_true, decide_eq_true_eq, decide_eq_false_iff_not, Bool.not_eq_true', Bool.not_eq_false', Bool.not_true, bne_iff_ne, bne_eq_false_iff_eq, beq_iff_eq, beq_eq_false_iff_ne, ne_eq]
  refine ⟨r, ?_⟩
  by_cases e : placeE w h l x y = 0
  · obtain ⟨_, p1, p2, p3, p4, p5, p6⟩ := place_in e
    repeat' (first
      | omega
      | exact with_no (with2 e (by omega)) (by omega)
      | (rw [u8_id (by omega)]; exact with_ok (with0 e (by omega)))
      | apply And.intro
      | intro _)
  · repeat' (first
      | omega
      | exact with_no (with1 e) e
      | apply And.intro
      | intro _)

set_option maxRecDepth 100000 in
theorem x_WithColourI (w h : Int) (l : List Int) (r : Rg w h l) (x y c : Int) : Fex true TT (inlN true TT (ctrOf E7) (lookI IL) 3) (ctrOf E7) U0 Try.f15 [pic w h l, .a (.c (.int .i64 x)), .a (.c (.int .i64 y)), .a (.c (.int .i64 c))] [] (fun lv _ => leL lv (withR w h l x y c)) := by
  refine Go.Sx.by_eq (q := True ∧ True ∧ True ∧ True ∧ Go.Proofs.Ytmagecekkihlfaa.Rg w h l ∧ True ∧ ((!Go.Proofs.Ytmagecekkihlfaa.okB w h l) = Bool.true → True ∧ True ∧ True ∧ ((Go.IntKind.i8 = Go.IntKind.i8 ∧ (0 : Int) = Go.Proofs.Ytmagecekkihlfaa.gate (Go.Proofs.Ytmagecekkihlfaa.withE w h l x y c) w) ∧ (Go.IntKind.i8 = Go.IntKind.i8 ∧ (0 : Int) = Go.Proofs.Ytmagecekkihlfaa.gate (Go.Proofs.Ytmagecekkihlfaa.withE w h l x y c) h) ∧ ([Go.IntKind.u8] = [Go.IntKind.u8] ∧ (144 : Nat) = (144 : Nat) ∧ List.replicate (144 : Nat) (0 : Int) = Go.Proofs.Ytmagecekkihlfaa.withL w h l x y c) ∧ True) ∧ (Go.IntKind.i64 = Go.IntKind.i64 ∧ (1 : Int) = Go.Proofs.Ytmagecekkihlfaa.withE w h l x y c) ∧ True) ∧ ((!Go.Proofs.Ytmagecekkihlfaa.okB w h l) = Bool.false → True ∧ True ∧ True ∧ True ∧ True ∧ True ∧ True ∧ True ∧ True ∧ True ∧ True ∧ ((-9223372036854775808 : Int) ≤ w ∧ w ≤ (9223372036854775807 : Int)) ∧ True ∧ True ∧ ((-9223372036854775808 : Int) ≤ h ∧ h ≤ (9223372036854775807 : Int)) ∧ True ∧ True ∧ True ∧ True ∧ True ∧ True ∧ True ∧ True ∧ True ∧ True ∧ (Decidable.decide ((0 : Int) ≤ x) = Bool.true → True ∧ True ∧ True ∧ True ∧ True ∧ (Decidable.decide (x < w) = Bool.true → True ∧ True ∧ True ∧ True ∧ (Decidable.decide ((0 : Int) ≤ y) = Bool.true → True ∧ True ∧ True ∧ True ∧ True ∧ True ∧ True ∧ ((!Decidable.decide (y < h)) = Bool.false → True ∧ True ∧ True ∧ True ∧ True ∧ (Decidable.decide ((0 : Int) ≤ c) = Bool.true → True ∧ True ∧ True ∧ True ∧ True ∧ True ∧ ((!Decidable.decide (c < (16 : Int))) = Bool.true → True ∧ True ∧ True ∧ ((Go.IntKind.i8 = Go.IntKind.i8 ∧ (0 : Int) = Go.Proofs.Ytmagecekkihlfaa.gate (Go.Proofs.Ytmagecekkihlfaa.withE w h l x y c) w) ∧ (Go.IntKind.i8 = Go.IntKind.i8 ∧ (0 : Int) = Go.Proofs.Ytmagecekkihlfaa.gate (Go.Proofs.Ytmagecekkihlfaa.withE w h l x y c) h) ∧ ([Go.IntKind.u8] = [Go.IntKind.u8] ∧ (144 : Nat) = (144 : Nat) ∧ List.replicate (144 : Nat) (0 : Int) = Go.Proofs.Ytmagecekkihlfaa.withL w h l x y c) ∧ True) ∧ (Go.IntKind.i64 = Go.IntKind.i64 ∧ (2 : Int) = Go.Proofs.Ytmagecekkihlfaa.withE w h l x y c) ∧ True) ∧ ((!Decidable.decide (c < (16 : Int))) = Bool.false → True ∧ True ∧ True ∧ True ∧ True ∧ True ∧ True ∧ True ∧ ((-9223372036854775808 : Int) ≤ (12 : Int) * y ∧ (12 : Int) * y ≤ (9223372036854775807 : Int)) ∧ ((-9223372036854775808 : Int) ≤ x + (12 : Int) * y ∧ x + (12 : Int) * y ≤ (9223372036854775807 : Int)) ∧ True ∧ True ∧ True ∧ True ∧ ((0 : Int) ≤ x + (12 : Int) * y ∧ x + (12 : Int) * y < (↑(144 : Nat) : Int)) ∧ ((0 : Int) ≤ x + (12 : Int) * y ∧ Int.toNat (x + (12 : Int) * y) < (144 : Nat)) ∧ True ∧ True ∧ True ∧ ((Go.IntKind.i8 = Go.IntKind.i8 ∧ w = Go.Proofs.Ytmagecekkihlfaa.gate (Go.Proofs.Ytmagecekkihlfaa.withE w h l x y c) w) ∧ (Go.IntKind.i8 = Go.IntKind.i8 ∧ h = Go.Proofs.Ytmagecekkihlfaa.gate (Go.Proofs.Ytmagecekkihlfaa.withE w h l x y c) h) ∧ ([Go.IntKind.u8] = [Go.IntKind.u8] ∧ (144 : Nat) = (144 : Nat) ∧ List.set l (Int.toNat (x + (12 : Int) * y)) (Go.IntKind.wrap Go.IntKind.u8 c) = Go.Proofs.Ytmagecekkihlfaa.withL w h l x y c) ∧ True) ∧ (Go.IntKind.i64 = Go.IntKind.i64 ∧ (0 : Int) = Go.Proofs.Ytmagecekkihlfaa.withE w h l x y c) ∧ True)) ∧ (Decidable.decide ((0 : Int) ≤ c) = !Bool.true → True ∧ True ∧ True ∧ True ∧ True ∧ True ∧ True ∧ ((Go.IntKind.i8 = Go.IntKind.i8 ∧ (0 : Int) = Go.Proofs.Ytmagecekkihlfaa.gate (Go.Proofs.Ytmagecekkihlfaa.withE w h l x y c) w) ∧ (Go.IntKind.i8 = Go.IntKind.i8 ∧ (0 : Int) = Go.Proofs.Ytmagecekkihlfaa.gate (Go.Proofs.Ytmagecekkihlfaa.withE w h l x y c) h) ∧ ([Go.IntKind.u8] = [Go.IntKind.u8] ∧ (144 : Nat) = (144 : Nat) ∧ List.replicate (144 : Nat) (0 : Int) = Go.Proofs.Ytmagecekkihlfaa.withL w h l x y c) ∧ True) ∧ (Go.IntKind.i64 = Go.IntKind.i64 ∧ (2 : Int) = Go.Proofs.Ytmagecekkihlfaa.withE w h l x y c) ∧ True)) ∧ ((!Decidable.decide (y < h)) = !Bool.false → True ∧ True ∧ True ∧ True ∧ ((Go.IntKind.i8 = Go.IntKind.i8 ∧ (0 : Int) = Go.Proofs.Ytmagecekkihlfaa.gate (Go.Proofs.Ytmagecekkihlfaa.withE w h l x y c) w) ∧ (Go.IntKind.i8 = Go.IntKind.i8 ∧ (0 : Int) = Go.Proofs.Ytmagecekkihlfaa.gate (Go.Proofs.Ytmagecekkihlfaa.withE w h l x y c) h) ∧ ([Go.IntKind.u8] = [Go.IntKind.u8] ∧ (144 : Nat) = (144 : Nat) ∧ List.replicate (144 : Nat) (0 : Int) = Go.Proofs.Ytmagecekkihlfaa.withL w h l x y c) ∧ True) ∧ (Go.IntKind.i64 = Go.IntKind.i64 ∧ (2 : Int) = Go.Proofs.Ytmagecekkihlfaa.withE w h l x y c) ∧ True)) ∧ (Decidable.decide ((0 : Int) ≤ y) = !Bool.true → True ∧ True ∧ True ∧ True ∧ True ∧ True ∧ True ∧ True ∧ ((Go.IntKind.i8 = Go.IntKind.i8 ∧ (0 : Int) = Go.Proofs.Ytmagecekkihlfaa.gate (Go.Proofs.Ytmagecekkihlfaa.withE w h l x y c) w) ∧ (Go.IntKind.i8 = Go.IntKind.i8 ∧ (0 : Int) = Go.Proofs.Ytmagecekkihlfaa.gate (Go.Proofs.Ytmagecekkihlfaa.withE w h l x y c) h) ∧ ([Go.IntKind.u8] = [Go.IntKind.u8] ∧ (144 : Nat) = (144 : Nat) ∧ List.replicate (144 : Nat) (0 : Int) = Go.Proofs.Ytmagecekkihlfaa.withL w h l x y c) ∧ True) ∧ (Go.IntKind.i64 = Go.IntKind.i64 ∧ (2 : Int) = Go.Proofs.Ytmagecekkihlfaa.withE w h l x y c) ∧ True)) ∧ (Decidable.decide (x < w) = !Bool.true → True ∧ True ∧ True ∧ True ∧ True ∧ True ∧ True ∧ True ∧ True ∧ True ∧ ((Go.IntKind.i8 = Go.IntKind.i8 ∧ (0 : Int) = Go.Proofs.Ytmagecekkihlfaa.gate (Go.Proofs.Ytmagecekkihlfaa.withE w h l x y c) w) ∧ (Go.IntKind.i8 = Go.IntKind.i8 ∧ (0 : Int) = Go.Proofs.Ytmagecekkihlfaa.gate (Go.Proofs.Ytmagecekkihlfaa.withE w h l x y c) h) ∧ ([Go.IntKind.u8] = [Go.IntKind.u8] ∧ (144 : Nat) = (144 : Nat) ∧ List.replicate (144 : Nat) (0 : Int) = Go.Proofs.Ytmagecekkihlfaa.withL w h l x y c) ∧ True) ∧ (Go.IntKind.i64 = Go.IntKind.i64 ∧ (2 : Int) = Go.Proofs.Ytmagecekkihlfaa.withE w h l x y c) ∧ True)) ∧ (Decidable.decide ((0 : Int) ≤ x) = !Bool.true → True ∧ True ∧ True ∧ True ∧ True ∧ True ∧ True ∧ True ∧ True ∧ True ∧ True ∧ True ∧ ((Go.IntKind.i8 = Go.IntKind.i8 ∧ (0 : Int) = Go.Proofs.Ytmagecekkihlfaa.gate (Go.Proofs.Ytmagecekkihlfaa.withE w h l x y c) w) ∧ (Go.IntKind.i8 = Go.IntKind.i8 ∧ (0 : Int) = Go.Proofs.Ytmagecekkihlfaa.gate (Go.Proofs.Ytmagecekkihlfaa.withE w h l x y c) h) ∧ ([Go.IntKind.u8] = [Go.IntKind.u8] ∧ (144 : Nat) = (144 : Nat) ∧ List.replicate (144 : Nat) (0 : Int) = Go.Proofs.Ytmagecekkihlfaa.withL w h l x y c) ∧ True) ∧ (Go.IntKind.i64 = Go.IntKind.i64 ∧ (2 : Int) = Go.Proofs.Ytmagecekkihlfaa.withE w h l x y c) ∧ True))) (by kernel_rfl) ?_
  have rw1 := r.w1; have rw2 := r.w2; have rh1 := r.h1; have rh2 := r.h2
  simp only [true_and, and_true, decide_eq_true_eq, decide_eq_false_iff_not, Bool.not_eq_true', Bool.not_eq_false', Bool.not_true, Bool.not_false]
  refine ⟨r, fun e => with_no (by rw [with1 (by rw [place1 e]; omega), place1 e]) (by omega), fun e => ?_⟩
  have h3 := e
  simp only [okB, Bool.and_eq_true, decide_eq_true_eq] at h3
  have w12 := h3.1.1.2
  have h12 := h3.1.2.2
  clear h3
  repeat' (first
    | omega
    | exact with_no (by rw [with1 (by rw [place2 e (by omega)]; omega), place2 e (by omega)]) (by omega)
    | exact with_no (with2 (place0 e (by omega)) (by omega)) (by omega)
    | (rw [u8_id (by omega)]; exact with_ok (with0 (place0 e (by omega)) (by omega)))
    | apply And.intro
    | intro _)

def gWith : Entry := fun args _ => match args with
  | [.a (.agg [.int .i8 w, .int .i8 h, .run [.u8] 144 l]), .a (.c (.int .i64 x)), .a (.c (.int .i64 y)), .a (.c (.int .i64 c))] => some (Rg w h l, withR w h l x y c)
  | _ => none

theorem e_WithColourS : EntryOk Try.prog 14 gWith := by
  refine ⟨fnOk Try.func14 (by kernel_rfl) rfl, ?_⟩
  intro args H p r he hp n0 w0 β w vals hH hA
  unfold gWith at he
  split at he
  · simp only [Option.some.injEq, Prod.mk.injEq] at he
    obtain ⟨rfl, rfl⟩ := he
    exact entry_bare tt_ok (inlN_ok tt_ok (ctrOf_ok E7_ok) mixed IL_ok.ok 3) (ctrOf_ok E7_ok) mixed Try.func14 (x_WithColourS _ _ _ hp _ _ _) rfl rfl hA
  · simp at he

theorem e_WithColourI : EntryOk Try.prog 15 gWith := by
  refine ⟨fnOk Try.func15 (by kernel_rfl) rfl, ?_⟩
  intro args H p r he hp n0 w0 β w vals hH hA
  unfold gWith at he
  split at he
  · simp only [Option.some.injEq, Prod.mk.injEq] at he
    obtain ⟨rfl, rfl⟩ := he
    exact entry_bare tt_ok (inlN_ok tt_ok (ctrOf_ok E7_ok) mixed IL_ok.ok 3) (ctrOf_ok E7_ok) mixed Try.func15 (x_WithColourI _ _ _ hp _ _ _) rfl rfl hA
  · simp at he

def E9 : List (FuncId × Entry) := (14, gWith) :: (15, gWith) :: E7
theorem E9_ok : EntriesOk Try.prog E9 := ⟨e_WithColourS, e_WithColourI, E7_ok⟩

end Go.Proofs.Ytmagecekkihlfaa
