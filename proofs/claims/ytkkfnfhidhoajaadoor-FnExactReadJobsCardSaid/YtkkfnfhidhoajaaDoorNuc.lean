/- Numerals that are read: the document's functions and strconv.ParseInt as contracts. No conditions beyond the ranges of the kinds. -/
import Derived.Test.YtkkfnfhidhoajaaDoorNum
import Derived.Test.YtkkfnfhidhoajaaDoorSpl
import Derived.Shelf.Strconv.ParseIntPublic10
import Derived.Lib.AtoiErrMem
set_option linter.unusedSimpArgs false
set_option linter.unusedVariables false
namespace Go.Proofs.YtkkfnfhidhoajaaDoor
open Go.Sx Go.RowKit
variable {mx : Nat → Value}

/-! ### The document's numbers -/
theorem getD_at {l : List UInt8} {k : Nat} (h : k < l.length) : l[k]'h = l.getD k 0 := by rw [List.getD_eq_getElem?_getD, List.getElem?_eq_getElem h]; rfl
theorem byteAt_D (s : ByteArray) {k : Nat} (h : k < s.size) : byteAt s (k : Int) = ((s.data.toList.getD k 0).toNat : Int) := by
  rw [byteAt_get s (by rw [size_list]; exact h), getD_at]
theorem nm_bad {l : List UInt8} {k : Nat} (hk : k < l.length) (h : ¬ (48 ≤ (l.getD k 0).toNat ∧ (l.getD k 0).toNat ≤ 57)) : nmB l = false := nmB_f.2 fun q => h (isD_t.1 (q.d _ (by rw [← getD_at hk]; exact List.getElem_mem hk)))
theorem twoL {L c hz h1 : Prop} (loop : ¬ (hz ∧ h1) → L) (no : hz → h1 → c) : (hz → (h1 → c) ∧ (¬ h1 → L)) ∧ (¬ hz → L) := ⟨fun z => ⟨no z, fun n => loop fun q => n q.2⟩, fun n => loop fun q => n q.1⟩
theorem u8_dig {b : Int} (h1 : ¬ b < 48) (h2 : ¬ 57 < b) : IntKind.u8.wrap (b - 48) = b - 48 := u8w (by omega) (by omega)
def lmNm (s : ByteArray) : LAnn := { ι := Nat, inv := fun _ k => k ≤ s.size ∧ ∀ c ∈ s.data.toList.take k, isD c = true, slots := fun _ k => [(4, .a (.c (.int .i64 (dgV 0 (s.data.toList.take k))))), (5, .a (.c (.int .i64 k)))], blks := fun _ _ => [], μ := fun _ k => s.size - k }
noncomputable def nmR (s : ByteArray) : LV := .tup [.c (.int .i64 (nmV s.data.toList)), .c (.bool (nmB s.data.toList))]
theorem nm_no {s : ByteArray} (h : nmB s.data.toList = false) : nmV s.data.toList = 0 := by rw [nmV, h]; rfl
noncomputable def ILnu  : List (FuncId × Func × (Nat → LM)) := [
  ]
theorem ILnu_ok  : InlsOk Tryd.prog ILnu := trivial
theorem x_l01Number (s : ByteArray) (hs : s.size ≤ 1048576) : Fex true (TT mx) (inlN true (TT mx) C0 (lookI ILnu) 4) C0 (fun _ => .inv (lmNm s)) Tryd.f10 [.a (.c (.str s))] [] (fun lv _ => leL lv (nmR s)) := by
  unfold nmR
  refine Go.Sx.by_eq (q := True ∧ True ∧ True ∧ True ∧ True ∧ ((ByteArray.toList s == ByteArray.toList (ByteArray.mk #[])) = Bool.false → True ∧ True ∧ True ∧ True ∧ True ∧ (Decidable.decide ((10 : Int) < (↑(ByteArray.size s) : Int)) = Bool.false → True ∧ ((0 : Int) ≤ (0 : Int) ∧ (0 : Int) < (↑(ByteArray.size s) : Int)) ∧ True ∧ True ∧ ((Go.Sx.byteAt s (0 : Int) == (48 : Int)) = Bool.true → True ∧ True ∧ True ∧ True ∧ True ∧ (Decidable.decide ((1 : Int) < (↑(ByteArray.size s) : Int)) = Bool.true → True ∧ True ∧ (Go.IntKind.i64 = Go.IntKind.i64 ∧ (0 : Int) = (↑(nmV s.data.toList) : Int)) ∧ nmB s.data.toList = Bool.false ∧ True) ∧ (Decidable.decide ((1 : Int) < (↑(ByteArray.size s) : Int)) = Bool.false → True ∧ True ∧ (∃ (x : Nat), (x ≤ ByteArray.size s ∧ ∀ (c : UInt8), List.Mem c (List.take x s.data.toList) → isD c = Bool.true) ∧ (s = s ∧ Go.Sx.Cel.val Go.undef = Go.Sx.Cel.val Go.undef ∧ True ∧ True ∧ (Go.IntKind.i64 = Go.IntKind.i64 ∧ (0 : Int) = (↑(dgV (0 : Nat) (List.take x s.data.toList)) : Int)) ∧ (Go.IntKind.i64 = Go.IntKind.i64 ∧ (0 : Int) = (↑x : Int)) ∧ s = s ∧ (ByteArray.toList s == ByteArray.toList (ByteArray.mk #[])) = (ByteArray.toList s == ByteArray.toList (ByteArray.mk #[])) ∧ True ∧ s = s ∧ (Go.IntKind.i64 = Go.IntKind.i64 ∧ (↑(ByteArray.size s) : Int) = (↑(ByteArray.size s) : Int)) ∧ Decidable.decide ((10 : Int) < (↑(ByteArray.size s) : Int)) = Decidable.decide ((10 : Int) < (↑(ByteArray.size s) : Int)) ∧ Decidable.decide ((10 : Int) < (↑(ByteArray.size s) : Int)) = Decidable.decide ((10 : Int) < (↑(ByteArray.size s) : Int)) ∧ True ∧ s = s ∧ (Go.IntKind.u8 = Go.IntKind.u8 ∧ Go.Sx.byteAt s (0 : Int) = Go.Sx.byteAt s (0 : Int)) ∧ (Go.Sx.byteAt s (0 : Int) == (48 : Int)) = (Go.Sx.byteAt s (0 : Int) == (48 : Int)) ∧ True ∧ s = s ∧ (Go.IntKind.i64 = Go.IntKind.i64 ∧ (↑(ByteArray.size s) : Int) = (↑(ByteArray.size s) : Int)) ∧ Decidable.decide ((1 : Int) < (↑(ByteArray.size s) : Int)) = Decidable.decide ((1 : Int) < (↑(ByteArray.size s) : Int)) ∧ Decidable.decide ((1 : Int) < (↑(ByteArray.size s) : Int)) = Decidable.decide ((1 : Int) < (↑(ByteArray.size s) : Int)) ∧ Decidable.decide ((1 : Int) < (↑(ByteArray.size s) : Int)) = Decidable.decide ((1 : Int) < (↑(ByteArray.size s) : Int)) ∧ True ∧ True ∧ True ∧ True ∧ True ∧ True ∧ True ∧ True ∧ True ∧ True ∧ True ∧ True ∧ True ∧ True ∧ True ∧ True ∧ True ∧ True ∧ True ∧ True ∧ True ∧ True ∧ True ∧ True ∧ Go.Sx.Cel.val Go.undef = Go.Sx.Cel.val Go.undef ∧ True) ∧ True) ∧ ∀ (x : Nat), (x ≤ ByteArray.size s ∧ ∀ (c : UInt8), List.Mem c (List.take x s.data.toList) → isD c = Bool.true) → True ∧ True ∧ True ∧ True ∧ (Decidable.decide ((↑x : Int) < (↑(ByteArray.size s) : Int)) = Bool.true → True ∧ True ∧ ((0 : Int) ≤ (↑x : Int) ∧ (↑x : Int) < (↑(ByteArray.size s) : Int)) ∧ True ∧ True ∧ (Decidable.decide (Go.Sx.byteAt s (↑x : Int) < (48 : Int)) = Bool.false → True ∧ True ∧ ((0 : Int) ≤ (↑x : Int) ∧ (↑x : Int) < (↑(ByteArray.size s) : Int)) ∧ True ∧ True ∧ (Decidable.decide ((57 : Int) < Go.Sx.byteAt s (↑x : Int)) = Bool.true → True ∧ True ∧ (Go.IntKind.i64 = Go.IntKind.i64 ∧ (0 : Int) = (↑(nmV s.data.toList) : Int)) ∧ nmB s.data.toList = Bool.false ∧ True) ∧ (Decidable.decide ((57 : Int) < Go.Sx.byteAt s (↑x : Int)) = Bool.false → True ∧ ((-9223372036854775808 : Int) ≤ (10 : Int) * (↑(dgV (0 : Nat) (List.take x s.data.toList)) : Int) ∧ (10 : Int) * (↑(dgV (0 : Nat) (List.take x s.data.toList)) : Int) ≤ (9223372036854775807 : Int)) ∧ True ∧ True ∧ ((0 : Int) ≤ (↑x : Int) ∧ (↑x : Int) < (↑(ByteArray.size s) : Int)) ∧ True ∧ ((-9223372036854775808 : Int) ≤ Go.IntKind.wrap Go.IntKind.u8 (Go.Sx.byteAt s (↑x : Int) - (48 : Int)) ∧ Go.IntKind.wrap Go.IntKind.u8 (Go.Sx.byteAt s (↑x : Int) - (48 : Int)) ≤ (9223372036854775807 : Int)) ∧ ((-9223372036854775808 : Int) ≤ (10 : Int) * (↑(dgV (0 : Nat) (List.take x s.data.toList)) : Int) + Go.IntKind.wrap Go.IntKind.u8 (Go.Sx.byteAt s (↑x : Int) - (48 : Int)) ∧ (10 : Int) * (↑(dgV (0 : Nat) (List.take x s.data.toList)) : Int) + Go.IntKind.wrap Go.IntKind.u8 (Go.Sx.byteAt s (↑x : Int) - (48 : Int)) ≤ (9223372036854775807 : Int)) ∧ True ∧ True ∧ ((-9223372036854775808 : Int) ≤ (↑x : Int) + (1 : Int) ∧ (↑x : Int) + (1 : Int) ≤ (9223372036854775807 : Int)) ∧ True ∧ ∃ (y : Nat), (y ≤ ByteArray.size s ∧ ∀ (c : UInt8), List.Mem c (List.take y s.data.toList) → isD c = Bool.true) ∧ ByteArray.size s - y < ByteArray.size s - x ∧ (s = s ∧ Go.Sx.Cel.val Go.undef = Go.Sx.Cel.val Go.undef ∧ True ∧ True ∧ (Go.IntKind.i64 = Go.IntKind.i64 ∧ (10 : Int) * (↑(dgV (0 : Nat) (List.take x s.data.toList)) : Int) + Go.IntKind.wrap Go.IntKind.u8 (Go.Sx.byteAt s (↑x : Int) - (48 : Int)) = (↑(dgV (0 : Nat) (List.take y s.data.toList)) : Int)) ∧ (Go.IntKind.i64 = Go.IntKind.i64 ∧ (↑x : Int) + (1 : Int) = (↑y : Int)) ∧ s = s ∧ (ByteArray.toList s == ByteArray.toList (ByteArray.mk #[])) = (ByteArray.toList s == ByteArray.toList (ByteArray.mk #[])) ∧ True ∧ s = s ∧ (Go.IntKind.i64 = Go.IntKind.i64 ∧ (↑(ByteArray.size s) : Int) = (↑(ByteArray.size s) : Int)) ∧ Decidable.decide ((10 : Int) < (↑(ByteArray.size s) : Int)) = Decidable.decide ((10 : Int) < (↑(ByteArray.size s) : Int)) ∧ Decidable.decide ((10 : Int) < (↑(ByteArray.size s) : Int)) = Decidable.decide ((10 : Int) < (↑(ByteArray.size s) : Int)) ∧ True ∧ s = s ∧ (Go.IntKind.u8 = Go.IntKind.u8 ∧ Go.Sx.byteAt s (0 : Int) = Go.Sx.byteAt s (0 : Int)) ∧ (Go.Sx.byteAt s (0 : Int) == (48 : Int)) = (Go.Sx.byteAt s (0 : Int) == (48 : Int)) ∧ True ∧ s = s ∧ (Go.IntKind.i64 = Go.IntKind.i64 ∧ (↑(ByteArray.size s) : Int) = (↑(ByteArray.size s) : Int)) ∧ Decidable.decide ((1 : Int) < (↑(ByteArray.size s) : Int)) = Decidable.decide ((1 : Int) < (↑(ByteArray.size s) : Int)) ∧ Decidable.decide ((1 : Int) < (↑(ByteArray.size s) : Int)) = Decidable.decide ((1 : Int) < (↑(ByteArray.size s) : Int)) ∧ Decidable.decide ((1 : Int) < (↑(ByteArray.size s) : Int)) = Decidable.decide ((1 : Int) < (↑(ByteArray.size s) : Int)) ∧ True ∧ True ∧ True ∧ True ∧ True ∧ True ∧ True ∧ True ∧ True ∧ True ∧ True ∧ True ∧ True ∧ True ∧ True ∧ True ∧ True ∧ True ∧ True ∧ True ∧ True ∧ True ∧ True ∧ True ∧ Go.Sx.Cel.val Go.undef = Go.Sx.Cel.val Go.undef ∧ True) ∧ True)) ∧ (Decidable.decide (Go.Sx.byteAt s (↑x : Int) < (48 : Int)) = !Bool.false → True ∧ True ∧ True ∧ (Go.IntKind.i64 = Go.IntKind.i64 ∧ (0 : Int) = (↑(nmV s.data.toList) : Int)) ∧ nmB s.data.toList = Bool.false ∧ True)) ∧ (Decidable.decide ((↑x : Int) < (↑(ByteArray.size s) : Int)) = Bool.false → True ∧ True ∧ True ∧ (Go.IntKind.i64 = Go.IntKind.i64 ∧ (↑(dgV (0 : Nat) (List.take x s.data.toList)) : Int) = (↑(nmV s.data.toList) : Int)) ∧ nmB s.data.toList = Bool.true ∧ True))) ∧ ((Go.Sx.byteAt s (0 : Int) == (48 : Int)) = !Bool.true → True ∧ True ∧ True ∧ True ∧ (∃ (x : Nat), (x ≤ ByteArray.size s ∧ ∀ (c : UInt8), List.Mem c (List.take x s.data.toList) → isD c = Bool.true) ∧ (s = s ∧ Go.Sx.Cel.val Go.undef = Go.Sx.Cel.val Go.undef ∧ True ∧ True ∧ (Go.IntKind.i64 = Go.IntKind.i64 ∧ (0 : Int) = (↑(dgV (0 : Nat) (List.take x s.data.toList)) : Int)) ∧ (Go.IntKind.i64 = Go.IntKind.i64 ∧ (0 : Int) = (↑x : Int)) ∧ s = s ∧ (ByteArray.toList s == ByteArray.toList (ByteArray.mk #[])) = (ByteArray.toList s == ByteArray.toList (ByteArray.mk #[])) ∧ True ∧ s = s ∧ (Go.IntKind.i64 = Go.IntKind.i64 ∧ (↑(ByteArray.size s) : Int) = (↑(ByteArray.size s) : Int)) ∧ Decidable.decide ((10 : Int) < (↑(ByteArray.size s) : Int)) = Decidable.decide ((10 : Int) < (↑(ByteArray.size s) : Int)) ∧ Decidable.decide ((10 : Int) < (↑(ByteArray.size s) : Int)) = Decidable.decide ((10 : Int) < (↑(ByteArray.size s) : Int)) ∧ True ∧ s = s ∧ (Go.IntKind.u8 = Go.IntKind.u8 ∧ Go.Sx.byteAt s (0 : Int) = Go.Sx.byteAt s (0 : Int)) ∧ (Go.Sx.byteAt s (0 : Int) == (48 : Int)) = (Go.Sx.byteAt s (0 : Int) == (48 : Int)) ∧ True ∧ Go.Sx.Cel.val Go.undef = Go.Sx.Cel.val Go.undef ∧ Go.Sx.Cel.val Go.undef = Go.Sx.Cel.val Go.undef ∧ Go.Sx.Cel.val Go.undef = Go.Sx.Cel.val Go.undef ∧ True ∧ True ∧ True ∧ True ∧ True ∧ True ∧ True ∧ True ∧ True ∧ True ∧ True ∧ True ∧ True ∧ True ∧ True ∧ True ∧ True ∧ True ∧ True ∧ True ∧ True ∧ True ∧ True ∧ True ∧ True ∧ True ∧ Go.Sx.Cel.val Go.undef = Go.Sx.Cel.val Go.undef ∧ True) ∧ True) ∧ ∀ (x : Nat), (x ≤ ByteArray.size s ∧ ∀ (c : UInt8), List.Mem c (List.take x s.data.toList) → isD c = Bool.true) → True ∧ True ∧ True ∧ True ∧ (Decidable.decide ((↑x : Int) < (↑(ByteArray.size s) : Int)) = Bool.true → True ∧ True ∧ ((0 : Int) ≤ (↑x : Int) ∧ (↑x : Int) < (↑(ByteArray.size s) : Int)) ∧ True ∧ True ∧ (Decidable.decide (Go.Sx.byteAt s (↑x : Int) < (48 : Int)) = Bool.false → True ∧ True ∧ ((0 : Int) ≤ (↑x : Int) ∧ (↑x : Int) < (↑(ByteArray.size s) : Int)) ∧ True ∧ True ∧ (Decidable.decide ((57 : Int) < Go.Sx.byteAt s (↑x : Int)) = Bool.true → True ∧ True ∧ (Go.IntKind.i64 = Go.IntKind.i64 ∧ (0 : Int) = (↑(nmV s.data.toList) : Int)) ∧ nmB s.data.toList = Bool.false ∧ True) ∧ (Decidable.decide ((57 : Int) < Go.Sx.byteAt s (↑x : Int)) = Bool.false → True ∧ ((-9223372036854775808 : Int) ≤ (10 : Int) * (↑(dgV (0 : Nat) (List.take x s.data.toList)) : Int) ∧ (10 : Int) * (↑(dgV (0 : Nat) (List.take x s.data.toList)) : Int) ≤ (9223372036854775807 : Int)) ∧ True ∧ True ∧ ((0 : Int) ≤ (↑x : Int) ∧ (↑x : Int) < (↑(ByteArray.size s) : Int)) ∧ True ∧ ((-9223372036854775808 : Int) ≤ Go.IntKind.wrap Go.IntKind.u8 (Go.Sx.byteAt s (↑x : Int) - (48 : Int)) ∧ Go.IntKind.wrap Go.IntKind.u8 (Go.Sx.byteAt s (↑x : Int) - (48 : Int)) ≤ (9223372036854775807 : Int)) ∧ ((-9223372036854775808 : Int) ≤ (10 : Int) * (↑(dgV (0 : Nat) (List.take x s.data.toList)) : Int) + Go.IntKind.wrap Go.IntKind.u8 (Go.Sx.byteAt s (↑x : Int) - (48 : Int)) ∧ (10 : Int) * (↑(dgV (0 : Nat) (List.take x s.data.toList)) : Int) + Go.IntKind.wrap Go.IntKind.u8 (Go.Sx.byteAt s (↑x : Int) - (48 : Int)) ≤ (9223372036854775807 : Int)) ∧ True ∧ True ∧ ((-9223372036854775808 : Int) ≤ (↑x : Int) + (1 : Int) ∧ (↑x : Int) + (1 : Int) ≤ (9223372036854775807 : Int)) ∧ True ∧ ∃ (y : Nat), (y ≤ ByteArray.size s ∧ ∀ (c : UInt8), List.Mem c (List.take y s.data.toList) → isD c = Bool.true) ∧ ByteArray.size s - y < ByteArray.size s - x ∧ (s = s ∧ Go.Sx.Cel.val Go.undef = Go.Sx.Cel.val Go.undef ∧ True ∧ True ∧ (Go.IntKind.i64 = Go.IntKind.i64 ∧ (10 : Int) * (↑(dgV (0 : Nat) (List.take x s.data.toList)) : Int) + Go.IntKind.wrap Go.IntKind.u8 (Go.Sx.byteAt s (↑x : Int) - (48 : Int)) = (↑(dgV (0 : Nat) (List.take y s.data.toList)) : Int)) ∧ (Go.IntKind.i64 = Go.IntKind.i64 ∧ (↑x : Int) + (1 : Int) = (↑y : Int)) ∧ s = s ∧ (ByteArray.toList s == ByteArray.toList (ByteArray.mk #[])) = (ByteArray.toList s == ByteArray.toList (ByteArray.mk #[])) ∧ True ∧ s = s ∧ (Go.IntKind.i64 = Go.IntKind.i64 ∧ (↑(ByteArray.size s) : Int) = (↑(ByteArray.size s) : Int)) ∧ Decidable.decide ((10 : Int) < (↑(ByteArray.size s) : Int)) = Decidable.decide ((10 : Int) < (↑(ByteArray.size s) : Int)) ∧ Decidable.decide ((10 : Int) < (↑(ByteArray.size s) : Int)) = Decidable.decide ((10 : Int) < (↑(ByteArray.size s) : Int)) ∧ True ∧ s = s ∧ (Go.IntKind.u8 = Go.IntKind.u8 ∧ Go.Sx.byteAt s (0 : Int) = Go.Sx.byteAt s (0 : Int)) ∧ (Go.Sx.byteAt s (0 : Int) == (48 : Int)) = (Go.Sx.byteAt s (0 : Int) == (48 : Int)) ∧ True ∧ Go.Sx.Cel.val Go.undef = Go.Sx.Cel.val Go.undef ∧ Go.Sx.Cel.val Go.undef = Go.Sx.Cel.val Go.undef ∧ Go.Sx.Cel.val Go.undef = Go.Sx.Cel.val Go.undef ∧ True ∧ True ∧ True ∧ True ∧ True ∧ True ∧ True ∧ True ∧ True ∧ True ∧ True ∧ True ∧ True ∧ True ∧ True ∧ True ∧ True ∧ True ∧ True ∧ True ∧ True ∧ True ∧ True ∧ True ∧ True ∧ True ∧ Go.Sx.Cel.val Go.undef = Go.Sx.Cel.val Go.undef ∧ True) ∧ True)) ∧ (Decidable.decide (Go.Sx.byteAt s (↑x : Int) < (48 : Int)) = !Bool.false → True ∧ True ∧ True ∧ (Go.IntKind.i64 = Go.IntKind.i64 ∧ (0 : Int) = (↑(nmV s.data.toList) : Int)) ∧ nmB s.data.toList = Bool.false ∧ True)) ∧ (Decidable.decide ((↑x : Int) < (↑(ByteArray.size s) : Int)) = Bool.false → True ∧ True ∧ True ∧ (Go.IntKind.i64 = Go.IntKind.i64 ∧ (↑(dgV (0 : Nat) (List.take x s.data.toList)) : Int) = (↑(nmV s.data.toList) : Int)) ∧ nmB s.data.toList = Bool.true ∧ True))) ∧ (Decidable.decide ((10 : Int) < (↑(ByteArray.size s) : Int)) = !Bool.false → True ∧ True ∧ True ∧ (Go.IntKind.i64 = Go.IntKind.i64 ∧ (0 : Int) = (↑(nmV s.data.toList) : Int)) ∧ nmB s.data.toList = Bool.false ∧ True)) ∧ ((ByteArray.toList s == ByteArray.toList (ByteArray.mk #[])) = !Bool.false → True ∧ True ∧ True ∧ True ∧ True ∧ (Go.IntKind.i64 = Go.IntKind.i64 ∧ (0 : Int) = (↑(nmV s.data.toList) : Int)) ∧ nmB s.data.toList = Bool.false ∧ True)) (by kernel_rfl) ?_
  simp only [true_and, and_true, and_self, decide_eq_true_eq, decide_eq_false_iff_not, Bool.not_eq_true', Bool.not_eq_false', Bool.not_true, Bool.not_false, beq_iff_eq, beq_eq_false_iff_ne, bne_iff_ne, bne_eq_false_iff_eq, ne_eq, not_true_eq_false, not_false_eq_true, false_implies, true_implies, implies_true, forall_const, exists_const, ↓reduceIte, Int.reduceEq, Int.toNat_natCast, Bool.false_eq_true, Bool.true_eq_false, reduceCtorEq, str_nil, Int.zero_add, Nat.add_zero, Int.ofNat_eq_natCast, Int.toNat_natCast, Nat.mul_one]
  have hsz := size_list s
  have bad : nmB s.data.toList = false → 0 = (nmV s.data.toList : Int) ∧ nmB s.data.toList = false := fun h => ⟨by rw [nm_no h]; rfl, h⟩
  refine ⟨fun h0 => ⟨fun h10 => ⟨⟨by omega, by omega⟩, twoL (fun nz => ?_) fun hz h1 => bad (nmB_f.2 fun q => ?_)⟩, fun h10 => bad (nmB_f.2 fun q => ?_)⟩, fun h0 => bad (nmB_f.2 fun q => ?_)⟩
  · have hz0 : byteAt s 0 = ((s.data.toList.getD 0 0).toNat : Int) := byteAt_D s (k := 0) (by omega)
    refine ⟨⟨0, ⟨Nat.zero_le _, by rw [List.take_zero]; intro c hc; cases hc⟩, rfl, rfl⟩, ?_⟩
    rintro k ⟨hk, hd⟩
    refine ⟨fun hlt => ?_, fun hge => ?_⟩
    · have eb := byteAt_D s (k := k) (by omega)
      have kl : k < s.data.toList.length := by omega
      have nb := nm_bad (l := s.data.toList) kl
      have tk := take_snoc kl
      have bv := dgV_lt (s.data.toList.take k) 0 hd
      have bp : 10 ^ (s.data.toList.take k).length ≤ 10 ^ 10 := Nat.pow_le_pow_right (by omega) (by rw [List.length_take]; omega)
      have b10 : (10 : Nat) ^ 10 = 10000000000 := by decide
      rw [getD_at kl] at tk
      refine ⟨by omega, fun h48 => ⟨by omega, fun h57 => bad (nb (by omega)), fun h57 => ?_⟩, fun h48 => bad (nb (by omega))⟩
      have ew := u8_dig h48 h57
      have es : (10 : Int) * (dgV 0 (s.data.toList.take k) : Int) + (byteAt s k - 48) = (dgV 0 (s.data.toList.take (k + 1)) : Int) := by
        rw [tk, dgV_snoc]; omega
      rw [ew, es]
      have b2 : (dgV 0 (s.data.toList.take (k + 1)) : Int) ≤ 1000000000000 := by rw [← es]; omega
      refine ⟨by omega, by omega, by omega, by omega, by omega, k + 1, ⟨by omega, fun c hc => ?_⟩, by omega, rfl, by omega⟩
      rw [tk] at hc
      rcases List.mem_append.1 hc with hc | hc
      · exact hd c hc
      · rw [List.mem_singleton.1 hc, isD_t]; omega
    · obtain rfl : k = s.size := by omega
      rw [List.take_of_length_le (by omega)] at hd ⊢
      have q : NmP s.data.toList := ⟨fun e => by rw [e] at hsz; exact h0 hsz.symm, by omega, fun ⟨z1, z2⟩ => nz ⟨by rw [hz0, z1]; rfl, by omega⟩, hd⟩
      exact ⟨by rw [q.v], nmB_t.2 q⟩
  · have hz0 : byteAt s 0 = ((s.data.toList.getD 0 0).toNat : Int) := byteAt_D s (k := 0) (by omega)
    exact q.z ⟨UInt8.toNat_inj.1 (by rw [hz] at hz0; have e48 : (48 : UInt8).toNat = 48 := rfl
                                     omega), by omega⟩
  · have := q.le; omega
  · exact q.ne (List.length_eq_zero_iff.1 (by omega))
noncomputable def gNm : Entry := fun args _ => match args with
  | [.a (.c (.str s))] => some (s.size ≤ 1048576, nmR s)
  | _ => none
theorem e_l01Number : EntryOk Tryd.prog (TT mx) 10 gNm := by
  refine ⟨fnOk Tryd.func10 (by kernel_rfl) rfl, ?_⟩
  intro args H p r he hp n0 w0 β w vals hG hH hA
  unfold gNm at he
  split at he
  · simp only [Option.some.injEq, Prod.mk.injEq] at he
    obtain ⟨rfl, rfl⟩ := he
    exact entry_bare tt_ok (inlN_ok tt_ok C0_ok mixed (ILnu_ok).ok 4) C0_ok mixed Tryd.func10 (x_l01Number _ hp) rfl rfl hG hH hA
  · simp at he


/-! ### strconv.ParseInt, base ten, 16 or 8 bits -/
def layPI_ren : Go.Shelf.Ren := ⟨fun | 174 => 24 | 247 => 35 | 245 => 36 | 287 => 49 | 279 => 50 | 280 => 51 | 281 => 52 | 282 => 53 | 321 => 68 | 322 => 69 | 316 => 70 | 171 => 27 | 205 => 71 | 243 => 38 | 246 => 41 | 283 => 57 | 284 => 58 | 285 => 59 | 286 => 60 | 129 => 76 | 317 => 75 | 318 => 77 | 319 => 78 | 320 => 79 | 337 => 86 | 338 => 87 | n => n, fun | 9 => 9 | 3 => 3 | 2 => 2 | 75 => 54 | 85 => 55 | 4 => 4 | 167 => 85 | 5 => 5 | 53 => 86 | 175 => 87 | 46 => 37 | 168 => 89 | 37 => 65 | 0 => 0 | 210 => 107 | 21 => 21 | 127 => 102 | 145 => 136 | 143 => 134 | 171 => 97 | 173 => 100 | 212 => 120 | 51 => 121 | 20 => 20 | 213 => 122 | 232 => 142 | 233 => 143 | 80 => 80 | n => n, fun | 15 => 1 | 16 => 2 | 17 => 3 | 18 => 6 | 19 => 7 | n => n⟩
theorem layPI : Go.Proofs.LaysC.n174 Tryd.prog layPI_ren := {
  mixed := by kernel_rfl
  f129 := Tryd.func76.trans (congrArg some (by kernel_rfl))
  f171 := Tryd.func27.trans (congrArg some (by kernel_rfl))
  f174 := Tryd.func24.trans (congrArg some (by kernel_rfl))
  f205 := Tryd.func71.trans (congrArg some (by kernel_rfl))
  f243 := Tryd.func38.trans (congrArg some (by kernel_rfl))
  f245 := Tryd.func36.trans (congrArg some (by kernel_rfl))
  f246 := Tryd.func41.trans (congrArg some (by kernel_rfl))
  f247 := Tryd.func35.trans (congrArg some (by kernel_rfl))
  f279 := Tryd.func50.trans (congrArg some (by kernel_rfl))
  f280 := Tryd.func51.trans (congrArg some (by kernel_rfl))
  f281 := Tryd.func52.trans (congrArg some (by kernel_rfl))
  f282 := Tryd.func53.trans (congrArg some (by kernel_rfl))
  f283 := Tryd.func57.trans (congrArg some (by kernel_rfl))
  f284 := Tryd.func58.trans (congrArg some (by kernel_rfl))
  f285 := Tryd.func59.trans (congrArg some (by kernel_rfl))
  f286 := Tryd.func60.trans (congrArg some (by kernel_rfl))
  f287 := Tryd.func49.trans (congrArg some (by kernel_rfl))
  f316 := Tryd.func70.trans (congrArg some (by kernel_rfl))
  f317 := Tryd.func75.trans (congrArg some (by kernel_rfl))
  f318 := Tryd.func77.trans (congrArg some (by kernel_rfl))
  f319 := Tryd.func78.trans (congrArg some (by kernel_rfl))
  f320 := Tryd.func79.trans (congrArg some (by kernel_rfl))
  f321 := Tryd.func68.trans (congrArg some (by kernel_rfl))
  f322 := Tryd.func69.trans (congrArg some (by kernel_rfl))
  f337 := Tryd.func86.trans (congrArg some (by kernel_rfl))
  f338 := Tryd.func87.trans (congrArg some (by kernel_rfl))
  t0 := Tryd.underlying0
  a0 := Tryd.isAgg0
  z0 := Tryd.sizeOf0
  v0 := Tryd.zeroValue0
  t2 := Tryd.underlying2
  a2 := Tryd.isAgg2
  z2 := Tryd.sizeOf2
  v2 := Tryd.zeroValue2
  t3 := Tryd.underlying3
  a3 := Tryd.isAgg3
  z3 := Tryd.sizeOf3
  v3 := Tryd.zeroValue3
  t4 := Tryd.underlying4
  a4 := Tryd.isAgg4
  z4 := Tryd.sizeOf4
  v4 := Tryd.zeroValue4
  t5 := Tryd.underlying5
  a5 := Tryd.isAgg5
  z5 := Tryd.sizeOf5
  v5 := Tryd.zeroValue5
  t9 := Tryd.underlying9
  a9 := Tryd.isAgg9
  z9 := Tryd.sizeOf9
  v9 := Tryd.zeroValue9
  t20 := Tryd.underlying20
  a20 := Tryd.isAgg20
  z20 := Tryd.sizeOf20
  v20 := Tryd.zeroValue20
  t21 := Tryd.underlying21
  a21 := Tryd.isAgg21
  z21 := Tryd.sizeOf21
  v21 := Tryd.zeroValue21
  t37 := Tryd.underlying65
  a37 := Tryd.isAgg65
  z37 := Tryd.sizeOf65
  v37 := Tryd.zeroValue65
  t46 := Tryd.underlying37
  a46 := Tryd.isAgg37
  z46 := Tryd.sizeOf37
  v46 := Tryd.zeroValue37
  t51 := Tryd.underlying121
  a51 := Tryd.isAgg121
  z51 := Tryd.sizeOf121
  v51 := Tryd.zeroValue121
  t53 := Tryd.underlying86
  a53 := Tryd.isAgg86
  z53 := Tryd.sizeOf86
  v53 := Tryd.zeroValue86
  t75 := Tryd.underlying54
  a75 := Tryd.isAgg54
  z75 := Tryd.sizeOf54
  v75 := Tryd.zeroValue54
  t85 := Tryd.underlying55
  a85 := Tryd.isAgg55
  z85 := Tryd.sizeOf55
  v85 := Tryd.zeroValue55
  t127 := Tryd.underlying102
  a127 := Tryd.isAgg102
  z127 := Tryd.sizeOf102
  v127 := Tryd.zeroValue102
  t143 := Tryd.underlying134
  a143 := Tryd.isAgg134
  z143 := Tryd.sizeOf134
  v143 := Tryd.zeroValue134
  t145 := Tryd.underlying136
  a145 := Tryd.isAgg136
  z145 := Tryd.sizeOf136
  v145 := Tryd.zeroValue136
  t167 := Tryd.underlying85
  a167 := Tryd.isAgg85
  z167 := Tryd.sizeOf85
  v167 := Tryd.zeroValue85
  t168 := Tryd.underlying89
  a168 := Tryd.isAgg89
  z168 := Tryd.sizeOf89
  v168 := Tryd.zeroValue89
  t171 := Tryd.underlying97
  a171 := Tryd.isAgg97
  z171 := Tryd.sizeOf97
  v171 := Tryd.zeroValue97
  t173 := Tryd.underlying100
  a173 := Tryd.isAgg100
  z173 := Tryd.sizeOf100
  v173 := Tryd.zeroValue100
  t175 := Tryd.underlying87
  a175 := Tryd.isAgg87
  z175 := Tryd.sizeOf87
  v175 := Tryd.zeroValue87
  t210 := Tryd.underlying107
  a210 := Tryd.isAgg107
  z210 := Tryd.sizeOf107
  v210 := Tryd.zeroValue107
  t212 := Tryd.underlying120
  a212 := Tryd.isAgg120
  z212 := Tryd.sizeOf120
  v212 := Tryd.zeroValue120
  t213 := Tryd.underlying122
  a213 := Tryd.isAgg122
  z213 := Tryd.sizeOf122
  t232 := Tryd.underlying142
  a232 := Tryd.isAgg142
  z232 := Tryd.sizeOf142
  v232 := Tryd.zeroValue142
  t233 := Tryd.underlying143
  a233 := Tryd.isAgg143
  z233 := Tryd.sizeOf143
  v233 := Tryd.zeroValue143
  g15 := by kernel_rfl
  g16 := by kernel_rfl
  g17 := by kernel_rfl
  g18 := by kernel_rfl
  g19 := by kernel_rfl
  t80 := Tryd.underlying80
  a80 := Tryd.isAgg80
  z80 := Tryd.sizeOf80
  v80 := Tryd.zeroValue80
  i0 := by kernel_rfl
  i2 := by kernel_rfl
  i3 := by kernel_rfl
  i4 := by kernel_rfl
  i5 := by kernel_rfl
  i9 := by kernel_rfl
  i20 := by kernel_rfl
  i21 := by kernel_rfl
  i37 := by kernel_rfl
  i46 := by kernel_rfl
  i51 := by kernel_rfl
  i53 := by kernel_rfl
  i75 := by kernel_rfl
  i80 := by kernel_rfl
  i85 := by kernel_rfl
  i127 := by kernel_rfl
  i143 := by kernel_rfl
  i145 := by kernel_rfl
  i167 := by kernel_rfl
  i168 := by kernel_rfl
  i171 := by kernel_rfl
  i173 := by kernel_rfl
  i175 := by kernel_rfl
  i210 := by kernel_rfl
  i212 := by kernel_rfl
  i232 := by kernel_rfl
  i233 := by kernel_rfl
  m15 := by kernel_rfl
  m16 := by kernel_rfl
  m17 := by kernel_rfl
  m18 := by kernel_rfl
  m19 := by kernel_rfl
  c0 := by kernel_rfl
  c2 := by kernel_rfl
  c3 := by kernel_rfl
  c4 := by kernel_rfl
  c5 := by kernel_rfl
  c9 := by kernel_rfl
  c20 := by kernel_rfl
  c21 := by kernel_rfl
  c37 := by kernel_rfl
  c46 := by kernel_rfl
  c51 := by kernel_rfl
  c53 := by kernel_rfl
  c75 := by kernel_rfl
  c80 := by kernel_rfl
  c85 := by kernel_rfl
  c127 := by kernel_rfl
  c143 := by kernel_rfl
  c145 := by kernel_rfl
  c167 := by kernel_rfl
  c168 := by kernel_rfl
  c171 := by kernel_rfl
  c173 := by kernel_rfl
  c175 := by kernel_rfl
  c210 := by kernel_rfl
  c212 := by kernel_rfl
  c213 := by kernel_rfl
  c232 := by kernel_rfl
  c233 := by kernel_rfl }

def gPI : EntryC := fun args H K => match args with
  | [.a (.c (.str s)), .a (.c (.int .i64 d)), .a (.c (.int .i64 b))] => (s.size ≤ 1048576 ∧ d = 10 ∧ (b = 8 ∨ b = 16)) ∧ (piB b.toNat s.data.toList = true → K (.tup [.c (.int .i64 (piV b.toNat s.data.toList)), .c (.val .nilIface)]) H) ∧
      (piB b.toNat s.data.toList = false → ∀ (x : Int) (t : TypeId) (v : Value), K (.tup [.c (.int .i64 x), .c (.val (.iface t v))]) H)
  | _ => Stuck "number"
theorem below_bytes (w : World) (e : TypeId) (t : ByteArray) : Below w.heap.size w (Lib.bytesWorld w e t) := Lib.bytesWorld_below w e t
theorem e_ParseInt : EntryCOk Tryd.prog (TT mx) 24 gPI := by
  refine ⟨fnOk Tryd.func24 (by kernel_rfl) rfl, ?_⟩
  intro args H K h n0 w0 β w vals hG hH hA
  unfold gPI at h
  split at h
  · rename_i s d b
    obtain ⟨⟨hs, rfl, hb⟩, hk1, hk2⟩ := h
    obtain ⟨v1, r1, e1, hv1, v2, r2, rfl, hv2, v3, r3, rfl, hv3, hr⟩ := hA
    have hv1 : v1 = .string s := hv1
    have hv2 : v2 = .int .i64 10 := hv2
    have hv3 : v3 = .int .i64 b := hv3
    have hr : r3 = [] := hr
    subst hv1 hv2 hv3 hr
    obtain rfl : vals = #[.string s, .int .i64 10, .int .i64 b] := Array.toList_inj.1 e1
    obtain ⟨t1, f1, c1, g1, g2, _⟩ := hG 1 _ rfl w hH.ext
    obtain ⟨t2, f2, c2, g3, g4, _⟩ := hG 2 _ rfl w hH.ext
    obtain ⟨_, _, m1⟩ : ∃ t v, w.cell? ⟨1, 0, none⟩ = some (.iface t v) := ⟨_, _, by rw [cell_at g1]; exact g2⟩
    obtain ⟨_, _, m2⟩ : ∃ t v, w.cell? ⟨2, 0, none⟩ = some (.iface t v) := ⟨_, _, by rw [cell_at g3]; exact g4⟩
    have ok : ∀ {v : Int} {e : Ending} {w' : World}, piV b.toNat s.data.toList = v → piB b.toNat s.data.toList = true → (e = .returned (.tuple #[.int .i64 v, .nilIface]) ∧ (w' = w ∨ ∃ t u, w' = Lib.bytesWorld w u t)) → ∃ v γ lv H', e = .returned v ∧ K lv H' ∧ HR n0 w0 (β ++ γ) H' w' ∧ LVR (β ++ γ) lv v := by
      rintro v e w' e1 e2 ⟨rfl, hw⟩
      refine ⟨_, [], _, H, rfl, hk1 e2, ?_, ?_⟩
      · rw [List.append_nil]
        rcases hw with rfl | ⟨t, u, rfl⟩
        · exact hH
        · exact hH.after (below_bytes _ _ _)
      · rw [e1]
        exact ⟨_, rfl, _, _, rfl, rfl, _, _, rfl, rfl, rfl⟩
    have no : ∀ {x : Int} {t : TypeId} {p : Value} {e : Ending} {w' : World}, piB b.toNat s.data.toList = false → (e = .returned (.tuple #[.int .i64 x, .iface t p]) ∧ Below w.heap.size w w') → ∃ v γ lv H', e = .returned v ∧ K lv H' ∧ HR n0 w0 (β ++ γ) H' w' ∧ LVR (β ++ γ) lv v := by
      rintro x t p e w' e2 ⟨rfl, hw⟩
      refine ⟨_, [], _, H, rfl, hk2 e2 x t p, ?_, ?_⟩
      · rw [List.append_nil]
        exact hH.after hw
      · exact ⟨_, rfl, _, _, rfl, rfl, _, _, rfl, rfl, rfl⟩
    rcases hb with rfl | rfl
    · cases hq : Lib.parseIntB 8 s.data.toList
      case ok v => exact (Any.strconv_ParseInt_10_at8_ok { layPI with } s (by omega) v hq w).mono fun e w' h => ok (v := v) (by unfold piV; rw [show (8 : Int).toNat = 8 from rfl, hq]) (by unfold piB; rw [show (8 : Int).toNat = 8 from rfl, hq]) ⟨h.1, h.2.imp id fun ⟨t, h⟩ => ⟨t, _, h⟩⟩
      case range => exact (Any.strconv_ParseInt_10_at8_range { layPI with } s (by omega) hq _ w m2 (.inr ⟨_, _, rfl⟩)).mono fun e w' ⟨N, h1, _, _, h2⟩ => no (by unfold piB; rw [show (8 : Int).toNat = 8 from rfl, hq]) ⟨h1, h2⟩
      exact (Any.strconv_ParseInt_10_at8_syntax { layPI with } s (by omega) hq _ w m1 (.inr ⟨_, _, rfl⟩)).mono fun e w' ⟨N, h1, _, _, h2⟩ => no (by unfold piB; rw [show (8 : Int).toNat = 8 from rfl, hq]) ⟨h1, h2⟩
    · cases hq : Lib.parseIntB 16 s.data.toList
      case ok v => exact (Any.strconv_ParseInt_10_at16_ok { layPI with } s (by omega) v hq w).mono fun e w' h => ok (v := v) (by unfold piV; rw [show (16 : Int).toNat = 16 from rfl, hq]) (by unfold piB; rw [show (16 : Int).toNat = 16 from rfl, hq]) ⟨h.1, h.2.imp id fun ⟨t, h⟩ => ⟨t, _, h⟩⟩
      case range => exact (Any.strconv_ParseInt_10_at16_range { layPI with } s (by omega) hq _ w m2 (.inr ⟨_, _, rfl⟩)).mono fun e w' ⟨N, h1, _, _, h2⟩ => no (by unfold piB; rw [show (16 : Int).toNat = 16 from rfl, hq]) ⟨h1, h2⟩
      exact (Any.strconv_ParseInt_10_at16_syntax { layPI with } s (by omega) hq _ w m1 (.inr ⟨_, _, rfl⟩)).mono fun e w' ⟨N, h1, _, _, h2⟩ => no (by unfold piB; rw [show (16 : Int).toNat = 16 from rfl, hq]) ⟨h1, h2⟩
  · exact h.elim

end Go.Proofs.YtkkfnfhidhoajaaDoor