/- Tones: FarOf and BrightnessOf on both sides. No conditions beyond the ranges of the kinds. -/
import Derived.Test.YtloibkfkdednoaaBas
namespace Go.Proofs.Ytloibkfkdednoaa
open Go.Sx Go.RowKit

def TTn : Tab := [(2, ⟨.int .i64, 1, [.lit .i64 0]⟩),
  (3, ⟨.int .i64, 1, [.lit .i64 0]⟩),
  (4, ⟨.bool, 1, [.ff]⟩),
  (5, ⟨.int .u8, 1, [.lit .u8 0]⟩),
  (22, ⟨.arr 3 5, 3, [.run [.u8] 3 (List.replicate 3 0)]⟩),
  (24, ⟨.arr 3 5, 3, [.run [.u8] 3 (List.replicate 3 0)]⟩),
  (63, ⟨.arr 3 2, 3, [.run [.i64] 3 (List.replicate 3 0)]⟩)]
theorem ttn_ok : TabOk Try.prog TTn := Tab.chk_sound (by kernel_rfl) (by kernel_rfl)

noncomputable def ILn : List (FuncId × Func × (Nat → LM)) :=
  (47, Try.f47, U0) ::
  [(44, Try.f44, U0)]
theorem ILn_ok : InlsOk Try.prog ILn := ⟨
  ⟨Try.func47, by kernel_rfl⟩,
  ⟨Try.func44, by kernel_rfl⟩, trivial⟩

def ton (a b c : Int) : LV := .a (.agg [.run [.u8] 3 [a, b, c]])
def lig (a b c : Int) : LV := .a (.agg [.run [.i64] 3 [a, b, c]])

/-- What the kind of a tone's lights allows. -/
structure TB (a b c : Int) : Prop where
  a0 : 0 ≤ a
  a1 : a ≤ 255
  b0 : 0 ≤ b
  b1 : b ≤ 255
  c0 : 0 ≤ c
  c1 : c ≤ 255

theorem sq {x : Int} (h1 : -255 ≤ x) (h2 : x ≤ 255) : 0 ≤ x * x ∧ x * x ≤ 65025 := by
  have key : ∀ y : Int, 0 ≤ y → y ≤ 255 → 0 ≤ y * y ∧ y * y ≤ 65025 := fun y h h' => ⟨Int.mul_nonneg h h, Int.mul_le_mul h' h' h (by omega)⟩
  rcases Int.le_total 0 x with h | h
  · exact key x h h2
  · have := key (-x) (by omega) (by omega)
    rwa [Int.neg_mul_neg] at this

set_option maxRecDepth 100000 in
theorem x_toTone (a b c : Int) : Fex true TTn (inlN true TTn (ctrOf []) (lookI ILn) 2) (ctrOf []) (fun _ => .unroll 4) Try.f16 [ton a b c] [] (fun lv _ => leL lv (ton a b c)) := by
  refine Go.Sx.by_eq (q := True ∧ True ∧ True ∧ True ∧ True ∧ True ∧ True ∧ True ∧ True ∧ True ∧ True ∧ True ∧ True ∧ True ∧ True ∧ True ∧ True ∧ True ∧ True ∧ True ∧ True ∧ True ∧ True ∧ True ∧ True ∧ True ∧ True ∧ True ∧ True ∧ True ∧ True ∧ True ∧ True ∧ True ∧ True ∧ True ∧ True ∧ True ∧ True ∧ True ∧ True ∧ ([Go.IntKind.u8] = [Go.IntKind.u8] ∧ (3 : Nat) = (3 : Nat) ∧ List.set (List.set (List.set (List.replicate (3 : Nat) (0 : Int)) (0 : Nat) (List.getD [a, b, c] (0 : Nat) (0 : Int))) (1 : Nat) (List.getD [a, b, c] (1 : Nat) (0 : Int))) (2 : Nat) (List.getD [a, b, c] (2 : Nat) (0 : Int)) = [a, b, c]) ∧ True) (by kernel_rfl) ?_
  simp

def gToTone : Entry := fun args _ => match args with
  | [.a (.agg [.run [.u8] 3 [a, b, c]])] => some (True, ton a b c)
  | _ => none

theorem e_toTone : EntryOk Try.prog 16 gToTone := by
  refine ⟨fnOk Try.func16 (by kernel_rfl) rfl, ?_⟩
  intro args H p r he hp n0 w0 β w vals hH hA
  unfold gToTone at he
  split at he
  · simp only [Option.some.injEq, Prod.mk.injEq] at he
    obtain ⟨rfl, rfl⟩ := he
    exact entry_bare ttn_ok (inlN_ok ttn_ok (ctrOf_ok (L := []) trivial) mixed ILn_ok.ok 2) (ctrOf_ok (L := []) trivial) mixed Try.func16 (x_toTone _ _ _) rfl rfl hA
  · simp at he

set_option maxRecDepth 100000 in
theorem x_lightsOf (a b c : Int) (r : TB a b c) : Fex true TTn (inlN true TTn (ctrOf []) (lookI ILn) 2) (ctrOf []) U0 Try.f45 [ton a b c] [] (fun lv _ => leL lv (lig a b c)) := by
  obtain ⟨r1, r2, r3, r4, r5, r6⟩ := r
  refine Go.Sx.by_eq (q := True ∧ True ∧ True ∧ True ∧ ((-9223372036854775808 : Int) ≤ List.getD [a, b, c] (0 : Nat) (0 : Int) ∧ List.getD [a, b, c] (0 : Nat) (0 : Int) ≤ (9223372036854775807 : Int)) ∧ True ∧ True ∧ ((-9223372036854775808 : Int) ≤ List.getD [a, b, c] (1 : Nat) (0 : Int) ∧ List.getD [a, b, c] (1 : Nat) (0 : Int) ≤ (9223372036854775807 : Int)) ∧ True ∧ True ∧ ((-9223372036854775808 : Int) ≤ List.getD [a, b, c] (2 : Nat) (0 : Int) ∧ List.getD [a, b, c] (2 : Nat) (0 : Int) ≤ (9223372036854775807 : Int)) ∧ True ∧ True ∧ ([Go.IntKind.i64] = [Go.IntKind.i64] ∧ (3 : Nat) = (3 : Nat) ∧ List.set (List.set (List.set (List.replicate (3 : Nat) (0 : Int)) ((0 : Nat) * (Go.Sx.TI.mk (Go.Sx.TD.int Go.IntKind.i64) (1 : Nat) [Go.Sx.Cel.lit Go.IntKind.i64 (0 : Int)]).size) (List.getD [a, b, c] (0 : Nat) (0 : Int))) ((1 : Nat) * (Go.Sx.TI.mk (Go.Sx.TD.int Go.IntKind.i64) (1 : Nat) [Go.Sx.Cel.lit Go.IntKind.i64 (0 : Int)]).size) (List.getD [a, b, c] (1 : Nat) (0 : Int))) ((2 : Nat) * (Go.Sx.TI.mk (Go.Sx.TD.int Go.IntKind.i64) (1 : Nat) [Go.Sx.Cel.lit Go.IntKind.i64 (0 : Int)]).size) (List.getD [a, b, c] (2 : Nat) (0 : Int)) = [a, b, c]) ∧ True) (by kernel_rfl) ?_
  simp
  omega

set_option maxRecDepth 100000 in
theorem x_minus (a b c d e f : Int) (r : TB a b c) (s : TB d e f) : Fex true TTn (inlN true TTn (ctrOf []) (lookI ILn) 2) (ctrOf []) (fun _ => .unroll 4) Try.f46 [lig a b c, ton d e f] [] (fun lv _ => leL lv (lig (a - d) (b - e) (c - f))) := by
  obtain ⟨r1, r2, r3, r4, r5, r6⟩ := r
  obtain ⟨s1, s2, s3, s4, s5, s6⟩ := s
  have w1 : IntKind.i64.wrap 1 = 1 := by decide
  have w2 : IntKind.i64.wrap 2 = 2 := by decide
  refine Go.Sx.by_eq (q := True ∧ True ∧ True ∧ True ∧ True ∧ True ∧ True ∧ True ∧ True ∧ True ∧ True ∧ True ∧ True ∧ True ∧ ((-9223372036854775808 : Int) ≤ List.getD [d, e, f] (Int.toNat (0 : Int) * (Go.Sx.TI.mk (Go.Sx.TD.int Go.IntKind.u8) (1 : Nat) [Go.Sx.Cel.lit Go.IntKind.u8 (0 : Int)]).size) (0 : Int) ∧ List.getD [d, e, f] (Int.toNat (0 : Int) * (Go.Sx.TI.mk (Go.Sx.TD.int Go.IntKind.u8) (1 : Nat) [Go.Sx.Cel.lit Go.IntKind.u8 (0 : Int)]).size) (0 : Int) ≤ (9223372036854775807 : Int)) ∧ ((-9223372036854775808 : Int) ≤ List.getD [a, b, c] (0 : Nat) (0 : Int) - List.getD [d, e, f] (Int.toNat (0 : Int) * (Go.Sx.TI.mk (Go.Sx.TD.int Go.IntKind.u8) (1 : Nat) [Go.Sx.Cel.lit Go.IntKind.u8 (0 : Int)]).size) (0 : Int) ∧ List.getD [a, b, c] (0 : Nat) (0 : Int) - List.getD [d, e, f] (Int.toNat (0 : Int) * (Go.Sx.TI.mk (Go.Sx.TD.int Go.IntKind.u8) (1 : Nat) [Go.Sx.Cel.lit Go.IntKind.u8 (0 : Int)]).size) (0 : Int) ≤ (9223372036854775807 : Int)) ∧ True ∧ True ∧ True ∧ True ∧ True ∧ True ∧ True ∧ True ∧ True ∧ True ∧ True ∧ True ∧ True ∧ ((-9223372036854775808 : Int) ≤ List.getD [d, e, f] (Int.toNat (Go.IntKind.wrap Go.IntKind.i64 ((0 : Int) + (1 : Int))) * (Go.Sx.TI.mk (Go.Sx.TD.int Go.IntKind.u8) (1 : Nat) [Go.Sx.Cel.lit Go.IntKind.u8 (0 : Int)]).size) (0 : Int) ∧ List.getD [d, e, f] (Int.toNat (Go.IntKind.wrap Go.IntKind.i64 ((0 : Int) + (1 : Int))) * (Go.Sx.TI.mk (Go.Sx.TD.int Go.IntKind.u8) (1 : Nat) [Go.Sx.Cel.lit Go.IntKind.u8 (0 : Int)]).size) (0 : Int) ≤ (9223372036854775807 : Int)) ∧ ((-9223372036854775808 : Int) ≤ List.getD (List.set [a, b, c] (0 : Nat) (List.getD [a, b, c] (0 : Nat) (0 : Int) - List.getD [d, e, f] (Int.toNat (0 : Int) * (Go.Sx.TI.mk (Go.Sx.TD.int Go.IntKind.u8) (1 : Nat) [Go.Sx.Cel.lit Go.IntKind.u8 (0 : Int)]).size) (0 : Int))) (1 : Nat) (0 : Int) - List.getD [d, e, f] (Int.toNat (Go.IntKind.wrap Go.IntKind.i64 ((0 : Int) + (1 : Int))) * (Go.Sx.TI.mk (Go.Sx.TD.int Go.IntKind.u8) (1 : Nat) [Go.Sx.Cel.lit Go.IntKind.u8 (0 : Int)]).size) (0 : Int) ∧ List.getD (List.set [a, b, c] (0 : Nat) (List.getD [a, b, c] (0 : Nat) (0 : Int) - List.getD [d, e, f] (Int.toNat (0 : Int) * (Go.Sx.TI.mk (Go.Sx.TD.int Go.IntKind.u8) (1 : Nat) [Go.Sx.Cel.lit Go.IntKind.u8 (0 : Int)]).size) (0 : Int))) (1 : Nat) (0 : Int) - List.getD [d, e, f] (Int.toNat (Go.IntKind.wrap Go.IntKind.i64 ((0 : Int) + (1 : Int))) * (Go.Sx.TI.mk (Go.Sx.TD.int Go.IntKind.u8) (1 : Nat) [Go.Sx.Cel.lit Go.IntKind.u8 (0 : Int)]).size) (0 : Int) ≤ (9223372036854775807 : Int)) ∧ True ∧ True ∧ True ∧ True ∧ True ∧ True ∧ True ∧ True ∧ True ∧ True ∧ True ∧ True ∧ True ∧ ((-9223372036854775808 : Int) ≤ List.getD [d, e, f] (Int.toNat (Go.IntKind.wrap Go.IntKind.i64 (Go.IntKind.wrap Go.IntKind.i64 ((0 : Int) + (1 : Int)) + (1 : Int))) * (Go.Sx.TI.mk (Go.Sx.TD.int Go.IntKind.u8) (1 : Nat) [Go.Sx.Cel.lit Go.IntKind.u8 (0 : Int)]).size) (0 : Int) ∧ List.getD [d, e, f] (Int.toNat (Go.IntKind.wrap Go.IntKind.i64 (Go.IntKind.wrap Go.IntKind.i64 ((0 : Int) + (1 : Int)) + (1 : Int))) * (Go.Sx.TI.mk (Go.Sx.TD.int Go.IntKind.u8) (1 : Nat) [Go.Sx.Cel.lit Go.IntKind.u8 (0 : Int)]).size) (0 : Int) ≤ (9223372036854775807 : Int)) ∧ ((-9223372036854775808 : Int) ≤ List.getD (List.set (List.set [a, b, c] (0 : Nat) (List.getD [a, b, c] (0 : Nat) (0 : Int) - List.getD [d, e, f] (Int.toNat (0 : Int) * (Go.Sx.TI.mk (Go.Sx.TD.int Go.IntKind.u8) (1 : Nat) [Go.Sx.Cel.lit Go.IntKind.u8 (0 : Int)]).size) (0 : Int))) (1 : Nat) (List.getD (List.set [a, b, c] (0 : Nat) (List.getD [a, b, c] (0 : Nat) (0 : Int) - List.getD [d, e, f] (Int.toNat (0 : Int) * (Go.Sx.TI.mk (Go.Sx.TD.int Go.IntKind.u8) (1 : Nat) [Go.Sx.Cel.lit Go.IntKind.u8 (0 : Int)]).size) (0 : Int))) (1 : Nat) (0 : Int) - List.getD [d, e, f] (Int.toNat (Go.IntKind.wrap Go.IntKind.i64 ((0 : Int) + (1 : Int))) * (Go.Sx.TI.mk (Go.Sx.TD.int Go.IntKind.u8) (1 : Nat) [Go.Sx.Cel.lit Go.IntKind.u8 (0 : Int)]).size) (0 : Int))) (2 : Nat) (0 : Int) - List.getD [d, e, f] (Int.toNat (Go.IntKind.wrap Go.IntKind.i64 (Go.IntKind.wrap Go.IntKind.i64 ((0 : Int) + (1 : Int)) + (1 : Int))) * (Go.Sx.TI.mk (Go.Sx.TD.int Go.IntKind.u8) (1 : Nat) [Go.Sx.Cel.lit Go.IntKind.u8 (0 : Int)]).size) (0 : Int) ∧ List.getD (List.set (List.set [a, b, c] (0 : Nat) (List.getD [a, b, c] (0 : Nat) (0 : Int) - List.getD [d, e, f] (Int.toNat (0 : Int) * (Go.Sx.TI.mk (Go.Sx.TD.int Go.IntKind.u8) (1 : Nat) [Go.Sx.Cel.lit Go.IntKind.u8 (0 : Int)]).size) (0 : Int))) (1 : Nat) (List.getD (List.set [a, b, c] (0 : Nat) (List.getD [a, b, c] (0 : Nat) (0 : Int) - List.getD [d, e, f] (Int.toNat (0 : Int) * (Go.Sx.TI.mk (Go.Sx.TD.int Go.IntKind.u8) (1 : Nat) [Go.Sx.Cel.lit Go.IntKind.u8 (0 : Int)]).size) (0 : Int))) (1 : Nat) (0 : Int) - List.getD [d, e, f] (Int.toNat (Go.IntKind.wrap Go.IntKind.i64 ((0 : Int) + (1 : Int))) * (Go.Sx.TI.mk (Go.Sx.TD.int Go.IntKind.u8) (1 : Nat) [Go.Sx.Cel.lit Go.IntKind.u8 (0 : Int)]).size) (0 : Int))) (2 : Nat) (0 : Int) - List.getD [d, e, f] (Int.toNat (Go.IntKind.wrap Go.IntKind.i64 (Go.IntKind.wrap Go.IntKind.i64 ((0 : Int) + (1 : Int)) + (1 : Int))) * (Go.Sx.TI.mk (Go.Sx.TD.int Go.IntKind.u8) (1 : Nat) [Go.Sx.Cel.lit Go.IntKind.u8 (0 : Int)]).size) (0 : Int) ≤ (9223372036854775807 : Int)) ∧ True ∧ True ∧ True ∧ True ∧ True ∧ True ∧ True ∧ ([Go.IntKind.i64] = [Go.IntKind.i64] ∧ (3 : Nat) = (3 : Nat) ∧ List.set (List.set (List.set [a, b, c] (0 : Nat) (List.getD [a, b, c] (0 : Nat) (0 : Int) - List.getD [d, e, f] (Int.toNat (0 : Int) * (Go.Sx.TI.mk (Go.Sx.TD.int Go.IntKind.u8) (1 : Nat) [Go.Sx.Cel.lit Go.IntKind.u8 (0 : Int)]).size) (0 : Int))) (1 : Nat) (List.getD (List.set [a, b, c] (0 : Nat) (List.getD [a, b, c] (0 : Nat) (0 : Int) - List.getD [d, e, f] (Int.toNat (0 : Int) * (Go.Sx.TI.mk (Go.Sx.TD.int Go.IntKind.u8) (1 : Nat) [Go.Sx.Cel.lit Go.IntKind.u8 (0 : Int)]).size) (0 : Int))) (1 : Nat) (0 : Int) - List.getD [d, e, f] (Int.toNat (Go.IntKind.wrap Go.IntKind.i64 ((0 : Int) + (1 : Int))) * (Go.Sx.TI.mk (Go.Sx.TD.int Go.IntKind.u8) (1 : Nat) [Go.Sx.Cel.lit Go.IntKind.u8 (0 : Int)]).size) (0 : Int))) (2 : Nat) (List.getD (List.set (List.set [a, b, c] (0 : Nat) (List.getD [a, b, c] (0 : Nat) (0 : Int) - List.getD [d, e, f] (Int.toNat (0 : Int) * (Go.Sx.TI.mk (Go.Sx.TD.int Go.IntKind.u8) (1 : Nat) [Go.Sx.Cel.lit Go.IntKind.u8 (0 : Int)]).size) (0 : Int))) (1 : Nat) (List.getD (List.set [a, b, c] (0 : Nat) (List.getD [a, b, c] (0 : Nat) (0 : Int) - List.getD [d, e, f] (Int.toNat (0 : Int) * (Go.Sx.TI.mk (Go.Sx.TD.int Go.IntKind.u8) (1 : Nat) [Go.Sx.Cel.lit Go.IntKind.u8 (0 : Int)]).size) (0 : Int))) (1 : Nat) (0 : Int) - List.getD [d, e, f] (Int.toNat (Go.IntKind.wrap Go.IntKind.i64 ((0 : Int) + (1 : Int))) * (Go.Sx.TI.mk (Go.Sx.TD.int Go.IntKind.u8) (1 : Nat) [Go.Sx.Cel.lit Go.IntKind.u8 (0 : Int)]).size) (0 : Int))) (2 : Nat) (0 : Int) - List.getD [d, e, f] (Int.toNat (Go.IntKind.wrap Go.IntKind.i64 (Go.IntKind.wrap Go.IntKind.i64 ((0 : Int) + (1 : Int)) + (1 : Int))) * (Go.Sx.TI.mk (Go.Sx.TD.int Go.IntKind.u8) (1 : Nat) [Go.Sx.Cel.lit Go.IntKind.u8 (0 : Int)]).size) (0 : Int)) = [a - d, b - e, c - f]) ∧ True) (by kernel_rfl) ?_
  simp [w1, w2]
  omega

def gLights : Entry := fun args _ => match args with
  | [.a (.agg [.run [.u8] 3 [a, b, c]])] => some (TB a b c, lig a b c)
  | _ => none
def gMinus : Entry := fun args _ => match args with
  | [.a (.agg [.run [.i64] 3 [a, b, c]]), .a (.agg [.run [.u8] 3 [d, e, f]])] => some (TB a b c ∧ TB d e f, lig (a - d) (b - e) (c - f))
  | _ => none

theorem e_lightsOf : EntryOk Try.prog 45 gLights := by
  refine ⟨fnOk Try.func45 (by kernel_rfl) rfl, ?_⟩
  intro args H p r he hp n0 w0 β w vals hH hA
  unfold gLights at he
  split at he
  · simp only [Option.some.injEq, Prod.mk.injEq] at he
    obtain ⟨rfl, rfl⟩ := he
    exact entry_bare ttn_ok (inlN_ok ttn_ok (ctrOf_ok (L := []) trivial) mixed ILn_ok.ok 2) (ctrOf_ok (L := []) trivial) mixed Try.func45 (x_lightsOf _ _ _ hp) rfl rfl hA
  · simp at he

theorem e_minus : EntryOk Try.prog 46 gMinus := by
  refine ⟨fnOk Try.func46 (by kernel_rfl) rfl, ?_⟩
  intro args H p r he hp n0 w0 β w vals hH hA
  unfold gMinus at he
  split at he
  · simp only [Option.some.injEq, Prod.mk.injEq] at he
    obtain ⟨rfl, rfl⟩ := he
    exact entry_bare ttn_ok (inlN_ok ttn_ok (ctrOf_ok (L := []) trivial) mixed ILn_ok.ok 2) (ctrOf_ok (L := []) trivial) mixed Try.func46 (x_minus _ _ _ _ _ _ hp.1 hp.2) rfl rfl hA
  · simp at he

def En : List (FuncId × Entry) := [(16, gToTone), (45, gLights), (46, gMinus)]
theorem En_ok : EntriesOk Try.prog En := ⟨e_toTone, e_lightsOf, e_minus, trivial⟩

def farN (a b c d e f : Int) : Int := 3 * ((a - d) * (a - d)) + 6 * ((b - e) * (b - e)) + (c - f) * (c - f)
def briN (a b c : Int) : Int := 3 * a + 6 * b + c

set_option maxRecDepth 100000 in
theorem x_FarOfS (a b c d e f : Int) (r : TB a b c) (s : TB d e f) : Fex true TTn (inlN true TTn (ctrOf En) (lookI ILn) 2) (ctrOf En) U0 Try.f15 [ton a b c, ton d e f] [] (fun lv _ => leL lv (.a (.c (.int .i64 (farN a b c d e f))))) := by
  obtain ⟨r1, r2, r3, r4, r5, r6⟩ := r
  obtain ⟨s1, s2, s3, s4, s5, s6⟩ := s
  refine Go.Sx.by_eq (q := True ∧ True ∧ True ∧ True ∧ True ∧ True ∧ True ∧ True ∧ True ∧ True ∧ ((-9223372036854775808 : Int) ≤ List.getD [a, b, c] (0 : Nat) (0 : Int) ∧ List.getD [a, b, c] (0 : Nat) (0 : Int) ≤ (9223372036854775807 : Int)) ∧ True ∧ True ∧ ((-9223372036854775808 : Int) ≤ List.getD [d, e, f] (0 : Nat) (0 : Int) ∧ List.getD [d, e, f] (0 : Nat) (0 : Int) ≤ (9223372036854775807 : Int)) ∧ ((-9223372036854775808 : Int) ≤ List.getD [a, b, c] (0 : Nat) (0 : Int) - List.getD [d, e, f] (0 : Nat) (0 : Int) ∧ List.getD [a, b, c] (0 : Nat) (0 : Int) - List.getD [d, e, f] (0 : Nat) (0 : Int) ≤ (9223372036854775807 : Int)) ∧ True ∧ True ∧ True ∧ ((-9223372036854775808 : Int) ≤ List.getD [a, b, c] (1 : Nat) (0 : Int) ∧ List.getD [a, b, c] (1 : Nat) (0 : Int) ≤ (9223372036854775807 : Int)) ∧ True ∧ True ∧ ((-9223372036854775808 : Int) ≤ List.getD [d, e, f] (1 : Nat) (0 : Int) ∧ List.getD [d, e, f] (1 : Nat) (0 : Int) ≤ (9223372036854775807 : Int)) ∧ ((-9223372036854775808 : Int) ≤ List.getD [a, b, c] (1 : Nat) (0 : Int) - List.getD [d, e, f] (1 : Nat) (0 : Int) ∧ List.getD [a, b, c] (1 : Nat) (0 : Int) - List.getD [d, e, f] (1 : Nat) (0 : Int) ≤ (9223372036854775807 : Int)) ∧ True ∧ True ∧ True ∧ ((-9223372036854775808 : Int) ≤ List.getD [a, b, c] (2 : Nat) (0 : Int) ∧ List.getD [a, b, c] (2 : Nat) (0 : Int) ≤ (9223372036854775807 : Int)) ∧ True ∧ True ∧ ((-9223372036854775808 : Int) ≤ List.getD [d, e, f] (2 : Nat) (0 : Int) ∧ List.getD [d, e, f] (2 : Nat) (0 : Int) ≤ (9223372036854775807 : Int)) ∧ ((-9223372036854775808 : Int) ≤ List.getD [a, b, c] (2 : Nat) (0 : Int) - List.getD [d, e, f] (2 : Nat) (0 : Int) ∧ List.getD [a, b, c] (2 : Nat) (0 : Int) - List.getD [d, e, f] (2 : Nat) (0 : Int) ≤ (9223372036854775807 : Int)) ∧ True ∧ True ∧ ((-9223372036854775808 : Int) ≤ (3 : Int) * (List.getD [a, b, c] (0 : Nat) (0 : Int) - List.getD [d, e, f] (0 : Nat) (0 : Int)) ∧ (3 : Int) * (List.getD [a, b, c] (0 : Nat) (0 : Int) - List.getD [d, e, f] (0 : Nat) (0 : Int)) ≤ (9223372036854775807 : Int)) ∧ True ∧ ((-9223372036854775808 : Int) ≤ (3 : Int) * (List.getD [a, b, c] (0 : Nat) (0 : Int) - List.getD [d, e, f] (0 : Nat) (0 : Int)) * (List.getD [a, b, c] (0 : Nat) (0 : Int) - List.getD [d, e, f] (0 : Nat) (0 : Int)) ∧ (3 : Int) * (List.getD [a, b, c] (0 : Nat) (0 : Int) - List.getD [d, e, f] (0 : Nat) (0 : Int)) * (List.getD [a, b, c] (0 : Nat) (0 : Int) - List.getD [d, e, f] (0 : Nat) (0 : Int)) ≤ (9223372036854775807 : Int)) ∧ True ∧ ((-9223372036854775808 : Int) ≤ (6 : Int) * (List.getD [a, b, c] (1 : Nat) (0 : Int) - List.getD [d, e, f] (1 : Nat) (0 : Int)) ∧ (6 : Int) * (List.getD [a, b, c] (1 : Nat) (0 : Int) - List.getD [d, e, f] (1 : Nat) (0 : Int)) ≤ (9223372036854775807 : Int)) ∧ True ∧ ((-9223372036854775808 : Int) ≤ (6 : Int) * (List.getD [a, b, c] (1 : Nat) (0 : Int) - List.getD [d, e, f] (1 : Nat) (0 : Int)) * (List.getD [a, b, c] (1 : Nat) (0 : Int) - List.getD [d, e, f] (1 : Nat) (0 : Int)) ∧ (6 : Int) * (List.getD [a, b, c] (1 : Nat) (0 : Int) - List.getD [d, e, f] (1 : Nat) (0 : Int)) * (List.getD [a, b, c] (1 : Nat) (0 : Int) - List.getD [d, e, f] (1 : Nat) (0 : Int)) ≤ (9223372036854775807 : Int)) ∧ ((-9223372036854775808 : Int) ≤ (3 : Int) * (List.getD [a, b, c] (0 : Nat) (0 : Int) - List.getD [d, e, f] (0 : Nat) (0 : Int)) * (List.getD [a, b, c] (0 : Nat) (0 : Int) - List.getD [d, e, f] (0 : Nat) (0 : Int)) + (6 : Int) * (List.getD [a, b, c] (1 : Nat) (0 : Int) - List.getD [d, e, f] (1 : Nat) (0 : Int)) * (List.getD [a, b, c] (1 : Nat) (0 : Int) - List.getD [d, e, f] (1 : Nat) (0 : Int)) ∧ (3 : Int) * (List.getD [a, b, c] (0 : Nat) (0 : Int) - List.getD [d, e, f] (0 : Nat) (0 : Int)) * (List.getD [a, b, c] (0 : Nat) (0 : Int) - List.getD [d, e, f] (0 : Nat) (0 : Int)) + (6 : Int) * (List.getD [a, b, c] (1 : Nat) (0 : Int) - List.getD [d, e, f] (1 : Nat) (0 : Int)) * (List.getD [a, b, c] (1 : Nat) (0 : Int) - List.getD [d, e, f] (1 : Nat) (0 : Int)) ≤ (9223372036854775807 : Int)) ∧ True ∧ True ∧ ((-9223372036854775808 : Int) ≤ (List.getD [a, b, c] (2 : Nat) (0 : Int) - List.getD [d, e, f] (2 : Nat) (0 : Int)) * (List.getD [a, b, c] (2 : Nat) (0 : Int) - List.getD [d, e, f] (2 : Nat) (0 : Int)) ∧ (List.getD [a, b, c] (2 : Nat) (0 : Int) - List.getD [d, e, f] (2 : Nat) (0 : Int)) * (List.getD [a, b, c] (2 : Nat) (0 : Int) - List.getD [d, e, f] (2 : Nat) (0 : Int)) ≤ (9223372036854775807 : Int)) ∧ ((-9223372036854775808 : Int) ≤ (3 : Int) * (List.getD [a, b, c] (0 : Nat) (0 : Int) - List.getD [d, e, f] (0 : Nat) (0 : Int)) * (List.getD [a, b, c] (0 : Nat) (0 : Int) - List.getD [d, e, f] (0 : Nat) (0 : Int)) + (6 : Int) * (List.getD [a, b, c] (1 : Nat) (0 : Int) - List.getD [d, e, f] (1 : Nat) (0 : Int)) * (List.getD [a, b, c] (1 : Nat) (0 : Int) - List.getD [d, e, f] (1 : Nat) (0 : Int)) + (List.getD [a, b, c] (2 : Nat) (0 : Int) - List.getD [d, e, f] (2 : Nat) (0 : Int)) * (List.getD [a, b, c] (2 : Nat) (0 : Int) - List.getD [d, e, f] (2 : Nat) (0 : Int)) ∧ (3 : Int) * (List.getD [a, b, c] (0 : Nat) (0 : Int) - List.getD [d, e, f] (0 : Nat) (0 : Int)) * (List.getD [a, b, c] (0 : Nat) (0 : Int) - List.getD [d, e, f] (0 : Nat) (0 : Int)) + (6 : Int) * (List.getD [a, b, c] (1 : Nat) (0 : Int) - List.getD [d, e, f] (1 : Nat) (0 : Int)) * (List.getD [a, b, c] (1 : Nat) (0 : Int) - List.getD [d, e, f] (1 : Nat) (0 : Int)) + (List.getD [a, b, c] (2 : Nat) (0 : Int) - List.getD [d, e, f] (2 : Nat) (0 : Int)) * (List.getD [a, b, c] (2 : Nat) (0 : Int) - List.getD [d, e, f] (2 : Nat) (0 : Int)) ≤ (9223372036854775807 : Int)) ∧ True ∧ True ∧ Go.IntKind.i64 = Go.IntKind.i64 ∧ (3 : Int) * (List.getD [a, b, c] (0 : Nat) (0 : Int) - List.getD [d, e, f] (0 : Nat) (0 : Int)) * (List.getD [a, b, c] (0 : Nat) (0 : Int) - List.getD [d, e, f] (0 : Nat) (0 : Int)) + (6 : Int) * (List.getD [a, b, c] (1 : Nat) (0 : Int) - List.getD [d, e, f] (1 : Nat) (0 : Int)) * (List.getD [a, b, c] (1 : Nat) (0 : Int) - List.getD [d, e, f] (1 : Nat) (0 : Int)) + (List.getD [a, b, c] (2 : Nat) (0 : Int) - List.getD [d, e, f] (2 : Nat) (0 : Int)) * (List.getD [a, b, c] (2 : Nat) (0 : Int) - List.getD [d, e, f] (2 : Nat) (0 : Int)) = Go.Proofs.Ytloibkfkdednoaa.farN a b c d e f) (by kernel_rfl) ?_
  have q1 := sq (x := a - d) (by omega) (by omega)
  have q2 := sq (x := b - e) (by omega) (by omega)
  have q3 := sq (x := c - f) (by omega) (by omega)
  simp [farN, Int.mul_assoc]
  omega

set_option maxRecDepth 100000 in
theorem x_FarOfI (a b c d e f : Int) (r : TB a b c) (s : TB d e f) : Fex true TTn (inlN true TTn (ctrOf En) (lookI ILn) 2) (ctrOf En) U0 Try.f17 [ton a b c, ton d e f] [] (fun lv _ => leL lv (.a (.c (.int .i64 (farN a b c d e f))))) := by
  have r' := r
  have s' := s
  obtain ⟨r1, r2, r3, r4, r5, r6⟩ := r
  obtain ⟨s1, s2, s3, s4, s5, s6⟩ := s
  refine Go.Sx.by_eq (q := True ∧ True ∧ True ∧ True ∧ Go.Proofs.Ytloibkfkdednoaa.TB a b c ∧ True ∧ (Go.Proofs.Ytloibkfkdednoaa.TB a b c ∧ Go.Proofs.Ytloibkfkdednoaa.TB d e f) ∧ True ∧ True ∧ True ∧ ((-9223372036854775808 : Int) ≤ (3 : Int) * List.getD [a - d, b - e, c - f] (0 : Nat) (0 : Int) ∧ (3 : Int) * List.getD [a - d, b - e, c - f] (0 : Nat) (0 : Int) ≤ (9223372036854775807 : Int)) ∧ True ∧ True ∧ ((-9223372036854775808 : Int) ≤ (3 : Int) * List.getD [a - d, b - e, c - f] (0 : Nat) (0 : Int) * List.getD [a - d, b - e, c - f] (0 : Nat) (0 : Int) ∧ (3 : Int) * List.getD [a - d, b - e, c - f] (0 : Nat) (0 : Int) * List.getD [a - d, b - e, c - f] (0 : Nat) (0 : Int) ≤ (9223372036854775807 : Int)) ∧ True ∧ True ∧ ((-9223372036854775808 : Int) ≤ (6 : Int) * List.getD [a - d, b - e, c - f] (1 : Nat) (0 : Int) ∧ (6 : Int) * List.getD [a - d, b - e, c - f] (1 : Nat) (0 : Int) ≤ (9223372036854775807 : Int)) ∧ True ∧ True ∧ ((-9223372036854775808 : Int) ≤ (6 : Int) * List.getD [a - d, b - e, c - f] (1 : Nat) (0 : Int) * List.getD [a - d, b - e, c - f] (1 : Nat) (0 : Int) ∧ (6 : Int) * List.getD [a - d, b - e, c - f] (1 : Nat) (0 : Int) * List.getD [a - d, b - e, c - f] (1 : Nat) (0 : Int) ≤ (9223372036854775807 : Int)) ∧ ((-9223372036854775808 : Int) ≤ (3 : Int) * List.getD [a - d, b - e, c - f] (0 : Nat) (0 : Int) * List.getD [a - d, b - e, c - f] (0 : Nat) (0 : Int) + (6 : Int) * List.getD [a - d, b - e, c - f] (1 : Nat) (0 : Int) * List.getD [a - d, b - e, c - f] (1 : Nat) (0 : Int) ∧ (3 : Int) * List.getD [a - d, b - e, c - f] (0 : Nat) (0 : Int) * List.getD [a - d, b - e, c - f] (0 : Nat) (0 : Int) + (6 : Int) * List.getD [a - d, b - e, c - f] (1 : Nat) (0 : Int) * List.getD [a - d, b - e, c - f] (1 : Nat) (0 : Int) ≤ (9223372036854775807 : Int)) ∧ True ∧ True ∧ True ∧ True ∧ ((-9223372036854775808 : Int) ≤ List.getD [a - d, b - e, c - f] (2 : Nat) (0 : Int) * List.getD [a - d, b - e, c - f] (2 : Nat) (0 : Int) ∧ List.getD [a - d, b - e, c - f] (2 : Nat) (0 : Int) * List.getD [a - d, b - e, c - f] (2 : Nat) (0 : Int) ≤ (9223372036854775807 : Int)) ∧ ((-9223372036854775808 : Int) ≤ (3 : Int) * List.getD [a - d, b - e, c - f] (0 : Nat) (0 : Int) * List.getD [a - d, b - e, c - f] (0 : Nat) (0 : Int) + (6 : Int) * List.getD [a - d, b - e, c - f] (1 : Nat) (0 : Int) * List.getD [a - d, b - e, c - f] (1 : Nat) (0 : Int) + List.getD [a - d, b - e, c - f] (2 : Nat) (0 : Int) * List.getD [a - d, b - e, c - f] (2 : Nat) (0 : Int) ∧ (3 : Int) * List.getD [a - d, b - e, c - f] (0 : Nat) (0 : Int) * List.getD [a - d, b - e, c - f] (0 : Nat) (0 : Int) + (6 : Int) * List.getD [a - d, b - e, c - f] (1 : Nat) (0 : Int) * List.getD [a - d, b - e, c - f] (1 : Nat) (0 : Int) + List.getD [a - d, b - e, c - f] (2 : Nat) (0 : Int) * List.getD [a - d, b - e, c - f] (2 : Nat) (0 : Int) ≤ (9223372036854775807 : Int)) ∧ True ∧ Go.IntKind.i64 = Go.IntKind.i64 ∧ (3 : Int) * List.getD [a - d, b - e, c - f] (0 : Nat) (0 : Int) * List.getD [a - d, b - e, c - f] (0 : Nat) (0 : Int) + (6 : Int) * List.getD [a - d, b - e, c - f] (1 : Nat) (0 : Int) * List.getD [a - d, b - e, c - f] (1 : Nat) (0 : Int) + List.getD [a - d, b - e, c - f] (2 : Nat) (0 : Int) * List.getD [a - d, b - e, c - f] (2 : Nat) (0 : Int) = Go.Proofs.Ytloibkfkdednoaa.farN a b c d e f) (by kernel_rfl) ?_
  have q1 := sq (x := a - d) (by omega) (by omega)
  have q2 := sq (x := b - e) (by omega) (by omega)
  have q3 := sq (x := c - f) (by omega) (by omega)
  simp [farN, Int.mul_assoc, r', s']
  omega

set_option maxRecDepth 100000 in
theorem x_BrightnessOfS (a b c : Int) (r : TB a b c) : Fex true TTn (inlN true TTn (ctrOf En) (lookI ILn) 2) (ctrOf En) U0 Try.f18 [ton a b c] [] (fun lv _ => leL lv (.a (.c (.int .i64 (briN a b c))))) := by
  obtain ⟨r1, r2, r3, r4, r5, r6⟩ := r
  refine Go.Sx.by_eq (q := True ∧ True ∧ True ∧ True ∧ True ∧ True ∧ True ∧ ((-9223372036854775808 : Int) ≤ List.getD [a, b, c] (0 : Nat) (0 : Int) ∧ List.getD [a, b, c] (0 : Nat) (0 : Int) ≤ (9223372036854775807 : Int)) ∧ ((-9223372036854775808 : Int) ≤ (3 : Int) * List.getD [a, b, c] (0 : Nat) (0 : Int) ∧ (3 : Int) * List.getD [a, b, c] (0 : Nat) (0 : Int) ≤ (9223372036854775807 : Int)) ∧ True ∧ True ∧ ((-9223372036854775808 : Int) ≤ List.getD [a, b, c] (1 : Nat) (0 : Int) ∧ List.getD [a, b, c] (1 : Nat) (0 : Int) ≤ (9223372036854775807 : Int)) ∧ ((-9223372036854775808 : Int) ≤ (6 : Int) * List.getD [a, b, c] (1 : Nat) (0 : Int) ∧ (6 : Int) * List.getD [a, b, c] (1 : Nat) (0 : Int) ≤ (9223372036854775807 : Int)) ∧ ((-9223372036854775808 : Int) ≤ (3 : Int) * List.getD [a, b, c] (0 : Nat) (0 : Int) + (6 : Int) * List.getD [a, b, c] (1 : Nat) (0 : Int) ∧ (3 : Int) * List.getD [a, b, c] (0 : Nat) (0 : Int) + (6 : Int) * List.getD [a, b, c] (1 : Nat) (0 : Int) ≤ (9223372036854775807 : Int)) ∧ True ∧ True ∧ ((-9223372036854775808 : Int) ≤ List.getD [a, b, c] (2 : Nat) (0 : Int) ∧ List.getD [a, b, c] (2 : Nat) (0 : Int) ≤ (9223372036854775807 : Int)) ∧ ((-9223372036854775808 : Int) ≤ (3 : Int) * List.getD [a, b, c] (0 : Nat) (0 : Int) + (6 : Int) * List.getD [a, b, c] (1 : Nat) (0 : Int) + List.getD [a, b, c] (2 : Nat) (0 : Int) ∧ (3 : Int) * List.getD [a, b, c] (0 : Nat) (0 : Int) + (6 : Int) * List.getD [a, b, c] (1 : Nat) (0 : Int) + List.getD [a, b, c] (2 : Nat) (0 : Int) ≤ (9223372036854775807 : Int)) ∧ True ∧ True ∧ Go.IntKind.i64 = Go.IntKind.i64 ∧ (3 : Int) * List.getD [a, b, c] (0 : Nat) (0 : Int) + (6 : Int) * List.getD [a, b, c] (1 : Nat) (0 : Int) + List.getD [a, b, c] (2 : Nat) (0 : Int) = Go.Proofs.Ytloibkfkdednoaa.briN a b c) (by kernel_rfl) ?_
  simp [briN]
  omega

set_option maxRecDepth 100000 in
theorem x_BrightnessOfI (a b c : Int) (r : TB a b c) : Fex true TTn (inlN true TTn (ctrOf En) (lookI ILn) 2) (ctrOf En) U0 Try.f19 [ton a b c] [] (fun lv _ => leL lv (.a (.c (.int .i64 (briN a b c))))) := by
  obtain ⟨r1, r2, r3, r4, r5, r6⟩ := r
  refine Go.Sx.by_eq (q := True ∧ True ∧ True ∧ True ∧ ((-9223372036854775808 : Int) ≤ List.getD [a, b, c] (0 : Nat) (0 : Int) ∧ List.getD [a, b, c] (0 : Nat) (0 : Int) ≤ (9223372036854775807 : Int)) ∧ ((-9223372036854775808 : Int) ≤ (3 : Int) * List.getD [a, b, c] (0 : Nat) (0 : Int) ∧ (3 : Int) * List.getD [a, b, c] (0 : Nat) (0 : Int) ≤ (9223372036854775807 : Int)) ∧ True ∧ True ∧ ((-9223372036854775808 : Int) ≤ List.getD [a, b, c] (1 : Nat) (0 : Int) ∧ List.getD [a, b, c] (1 : Nat) (0 : Int) ≤ (9223372036854775807 : Int)) ∧ ((-9223372036854775808 : Int) ≤ (6 : Int) * List.getD [a, b, c] (1 : Nat) (0 : Int) ∧ (6 : Int) * List.getD [a, b, c] (1 : Nat) (0 : Int) ≤ (9223372036854775807 : Int)) ∧ ((-9223372036854775808 : Int) ≤ (3 : Int) * List.getD [a, b, c] (0 : Nat) (0 : Int) + (6 : Int) * List.getD [a, b, c] (1 : Nat) (0 : Int) ∧ (3 : Int) * List.getD [a, b, c] (0 : Nat) (0 : Int) + (6 : Int) * List.getD [a, b, c] (1 : Nat) (0 : Int) ≤ (9223372036854775807 : Int)) ∧ True ∧ True ∧ ((-9223372036854775808 : Int) ≤ List.getD [a, b, c] (2 : Nat) (0 : Int) ∧ List.getD [a, b, c] (2 : Nat) (0 : Int) ≤ (9223372036854775807 : Int)) ∧ ((-9223372036854775808 : Int) ≤ (3 : Int) * List.getD [a, b, c] (0 : Nat) (0 : Int) + (6 : Int) * List.getD [a, b, c] (1 : Nat) (0 : Int) + List.getD [a, b, c] (2 : Nat) (0 : Int) ∧ (3 : Int) * List.getD [a, b, c] (0 : Nat) (0 : Int) + (6 : Int) * List.getD [a, b, c] (1 : Nat) (0 : Int) + List.getD [a, b, c] (2 : Nat) (0 : Int) ≤ (9223372036854775807 : Int)) ∧ True ∧ Go.IntKind.i64 = Go.IntKind.i64 ∧ (3 : Int) * List.getD [a, b, c] (0 : Nat) (0 : Int) + (6 : Int) * List.getD [a, b, c] (1 : Nat) (0 : Int) + List.getD [a, b, c] (2 : Nat) (0 : Int) = Go.Proofs.Ytloibkfkdednoaa.briN a b c) (by kernel_rfl) ?_
  simp [briN]
  omega

def gFar : Entry := fun args _ => match args with
  | [.a (.agg [.run [.u8] 3 [a, b, c]]), .a (.agg [.run [.u8] 3 [d, e, f]])] => some (TB a b c ∧ TB d e f, .a (.c (.int .i64 (farN a b c d e f))))
  | _ => none
def gBri : Entry := fun args _ => match args with
  | [.a (.agg [.run [.u8] 3 [a, b, c]])] => some (TB a b c, .a (.c (.int .i64 (briN a b c))))
  | _ => none

theorem e_FarOfS : EntryOk Try.prog 15 gFar := by
  refine ⟨fnOk Try.func15 (by kernel_rfl) rfl, ?_⟩
  intro args H p r he hp n0 w0 β w vals hH hA
  unfold gFar at he
  split at he
  · simp only [Option.some.injEq, Prod.mk.injEq] at he
    obtain ⟨rfl, rfl⟩ := he
    exact entry_bare ttn_ok (inlN_ok ttn_ok (ctrOf_ok En_ok) mixed ILn_ok.ok 2) (ctrOf_ok En_ok) mixed Try.func15 (x_FarOfS _ _ _ _ _ _ hp.1 hp.2) rfl rfl hA
  · simp at he

theorem e_FarOfI : EntryOk Try.prog 17 gFar := by
  refine ⟨fnOk Try.func17 (by kernel_rfl) rfl, ?_⟩
  intro args H p r he hp n0 w0 β w vals hH hA
  unfold gFar at he
  split at he
  · simp only [Option.some.injEq, Prod.mk.injEq] at he
    obtain ⟨rfl, rfl⟩ := he
    exact entry_bare ttn_ok (inlN_ok ttn_ok (ctrOf_ok En_ok) mixed ILn_ok.ok 2) (ctrOf_ok En_ok) mixed Try.func17 (x_FarOfI _ _ _ _ _ _ hp.1 hp.2) rfl rfl hA
  · simp at he

theorem e_BrightnessOfS : EntryOk Try.prog 18 gBri := by
  refine ⟨fnOk Try.func18 (by kernel_rfl) rfl, ?_⟩
  intro args H p r he hp n0 w0 β w vals hH hA
  unfold gBri at he
  split at he
  · simp only [Option.some.injEq, Prod.mk.injEq] at he
    obtain ⟨rfl, rfl⟩ := he
    exact entry_bare ttn_ok (inlN_ok ttn_ok (ctrOf_ok En_ok) mixed ILn_ok.ok 2) (ctrOf_ok En_ok) mixed Try.func18 (x_BrightnessOfS _ _ _ hp) rfl rfl hA
  · simp at he

theorem e_BrightnessOfI : EntryOk Try.prog 19 gBri := by
  refine ⟨fnOk Try.func19 (by kernel_rfl) rfl, ?_⟩
  intro args H p r he hp n0 w0 β w vals hH hA
  unfold gBri at he
  split at he
  · simp only [Option.some.injEq, Prod.mk.injEq] at he
    obtain ⟨rfl, rfl⟩ := he
    exact entry_bare ttn_ok (inlN_ok ttn_ok (ctrOf_ok En_ok) mixed ILn_ok.ok 2) (ctrOf_ok En_ok) mixed Try.func19 (x_BrightnessOfI _ _ _ hp) rfl rfl hA
  · simp at he

def EFar : List (FuncId × Entry) := (15, gFar) :: (17, gFar) :: (18, gBri) :: (19, gBri) :: En
theorem EFar_ok : EntriesOk Try.prog EFar := ⟨e_FarOfS, e_FarOfI, e_BrightnessOfS, e_BrightnessOfI, En_ok⟩

/-! ### A tone by value, opened -/

set_option maxRecDepth 100000 in
theorem open_ton {H : Type} {enc : TypeId × Value → H} {w : World} {base : Nat} {spare : Nat → Bool} {held : Bool} {r : Reach} {b0 : Nat} {v : Value} {d : DataW H} {ps : List MemPlace}
    (hval : Value.okWide Try.prog w r b0 22 v) (hd : DataW.Trod enc Try.prog w base spare held 22 v d ps) : ∃ a b c, TB a b c ∧ ∀ β, LVR β (ton a b c) v := by
  obtain ⟨ns, h1, h2, h3⟩ := open_arr Try.underlying22 hval hd [.many [.u8] 3] (by kernel_rfl)
  have h1 : ns.length = 3 := h1
  match ns, h1 with
  | [a, b, c], _ =>
    have b1 := bounds_u8 (h2 0 .u8 a rfl rfl)
    have b2 := bounds_u8 (h2 1 .u8 b rfl rfl)
    have b3 := bounds_u8 (h2 2 .u8 c rfl rfl)
    exact ⟨a, b, c, ⟨b1.1, b1.2, b2.1, b2.2, b3.1, b3.2⟩, fun β => by simpa [shCels, ton] using h3 β⟩

end Go.Proofs.Ytloibkfkdednoaa
