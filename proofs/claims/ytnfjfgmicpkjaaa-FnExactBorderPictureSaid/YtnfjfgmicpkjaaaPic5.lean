/- Pictures made cell by cell: lists of 144 numbers, and PlainPicture on both sides. No conditions beyond the ranges of the kinds. -/
import Derived.Test.YtnfjfgmicpkjaaaPic4
namespace Go.Proofs.Ytnfjfgmicpkjaaa
open Go.Sx Go.RowKit

def mk (f : Nat → Int) : List Int := (List.range 144).map f

theorem mk_len (f : Nat → Int) : (mk f).length = 144 := by simp [mk]
theorem mk_get {f : Nat → Int} {i : Nat} (h : i < 144) : (mk f)[i]? = some (f i) := by simp [mk, h]
theorem mk_getD {f : Nat → Int} {i : Nat} (h : i < 144) : (mk f).getD i 0 = f i := by rw [List.getD_eq_getElem?_getD, mk_get h]; rfl
theorem mk_ext {f : Nat → Int} {l : List Int} (hl : l.length = 144) (h : ∀ i, i < 144 → l.getD i 0 = f i) : l = mk f := by
  apply List.ext_getElem?
  intro i
  by_cases hi : i < 144
  · rw [mk_get hi, getD_some (by omega), h i hi]
  · rw [List.getElem?_eq_none (by omega), List.getElem?_eq_none (by rw [mk_len]; omega)]
theorem mk_zero {f : Nat → Int} (h : ∀ i, i < 144 → f i = 0) : List.replicate 144 0 = mk f :=
  mk_ext (by rw [List.length_replicate]) fun i hi => by rw [h i hi, List.getD_eq_getElem?_getD, List.getElem?_replicate, if_pos hi]; rfl
theorem mk_congr {f g : Nat → Int} (h : ∀ i, i < 144 → f i = g i) : mk f = mk g := mk_ext (mk_len f) fun i hi => by rw [mk_getD hi]; exact h i hi
theorem mk_set {f g : Nat → Int} {j : Nat} {x : Int} (hx : x = g j) (h : ∀ i, i < 144 → i ≠ j → f i = g i) : (mk f).set j x = mk g := by
  refine mk_ext (by simp [mk_len]) fun i hi => ?_
  rw [List.getD_eq_getElem?_getD, List.getElem?_set]
  by_cases e : j = i
  · subst e; simp [mk_len, hi, hx]
  · rw [if_neg e, mk_get hi]; exact h i hi (fun e' => e e'.symm)

theorem i8w {z : Int} (h1 : -128 ≤ z) (h2 : z ≤ 127) : IntKind.i8.wrap z = z := by
  simp [IntKind.wrap, IntKind.signed, IntKind.bits]; omega
theorem u8w {z : Int} (h1 : 0 ≤ z) (h2 : z ≤ 255) : IntKind.u8.wrap z = z := by
  simp [IntKind.wrap, IntKind.signed, IntKind.bits]; omega
theorem tm12 (k : Nat) : (k : Int).tmod 12 = ((k % 12 : Nat) : Int) := rfl
theorem td12 (k : Nat) : (k : Int).tdiv 12 = ((k / 12 : Nat) : Int) := rfl

theorem ifc {p q : Prop} [Decidable p] [Decidable q] (h : p ↔ q) {a b : Int} : (if p then a else b) = if q then a else b := by
  by_cases hp : p
  · rw [if_pos hp, if_pos (h.1 hp)]
  · rw [if_neg hp, if_neg (fun hq => hp (h.2 hq))]

/-- The functions that are met in place, the makers of pictures among them. -/
noncomputable def ILp (a : SAnn) : List (FuncId × Func × (Nat → LM)) :=
  (17, Try.f17, fun _ => .seq a) ::
  (23, Try.f23, U0) ::
  (18, Try.f18, U0) ::
  IL

theorem ILp_ok (a : SAnn) : InlsOk Try.prog (ILp a) := by
  refine ⟨⟨Try.func17, by kernel_rfl⟩, ⟨Try.func23, by kernel_rfl⟩,
    ⟨Try.func18, by kernel_rfl⟩,
    IL_ok⟩

/-! ### A picture and a code, handed back -/

def picR (e w h : Int) (l : List Int) : LV := .tup [.agg [.int .i8 (if e = 0 then w else 0), .int .i8 (if e = 0 then h else 0), .run [.u8] 144 (if e = 0 then l else List.replicate 144 0)], .c (.int .i64 e)]


end Go.Proofs.Ytnfjfgmicpkjaaa
