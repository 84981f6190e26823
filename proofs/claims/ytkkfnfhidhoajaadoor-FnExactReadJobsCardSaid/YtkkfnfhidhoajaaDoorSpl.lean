/- Texts that are parted at a byte: the document's function and strings.SplitN as contracts. No conditions beyond the ranges of the kinds. -/
import Derived.Test.YtkkfnfhidhoajaaDoorWds
import Derived.Test.YtkkfnfhidhoajaaDoorGqs
import Derived.Shelf.Strings.Split
import Derived.Shelf.LaysM
set_option linter.unusedSimpArgs false
set_option linter.unusedVariables false
namespace Go.Proofs.YtkkfnfhidhoajaaDoor
open Go.Sx Go.RowKit
variable {mx : Nat → Value}

theorem ext_bsl (s : ByteArray) (a b : Nat) : s.extract a b = bsl ((s.data.toList.take b).drop a) := by
  have h : (s.extract a b).data.toList = (s.data.toList.take b).drop a := by
    rw [Lib.extract_data]
    simp [List.drop_take]
  rw [← bsl_of (s.extract a b), h]
theorem size_list (s : ByteArray) : s.data.toList.length = s.size := Array.length_toList
theorem byteAt_get (s : ByteArray) {k : Nat} (h : k < s.data.toList.length) : byteAt s (k : Int) = ((s.data.toList[k]'h).toNat : Int) := by
  unfold byteAt
  rw [Int.toNat_natCast, List.getD_eq_getElem?_getD, List.getElem?_eq_getElem h]; rfl
theorem take_snoc {l : List UInt8} {k : Nat} (h : k < l.length) : l.take (k + 1) = l.take k ++ [l[k]'h] := by
  rw [List.take_add_one, List.getElem?_eq_getElem h]; rfl
theorem encW_snoc (D : List (List UInt8)) (w : List UInt8) : encW (D ++ [w]) = encW D ++ [encS (bsl w)] := by simp [encW]

def lmSpl (c : UInt8) (s : ByteArray) : LAnn := { ι := Nat × Nat × List (List UInt8) × Nat × List Int × Int, inv := fun _ x => x.1 ≤ s.size ∧ x.2.1 ≤ x.1 ∧ wds c (s.data.toList.take x.1) = x.2.2.1 ++ [(s.data.toList.take x.1).drop x.2.1] ∧ Gq 1 x.2.2.1.length (encW x.2.2.1) x.2.2.2.1 x.2.2.2.2.1 x.2.2.2.2.2, slots := fun _ x => [(5, .a (.c (.slc 1 0 0 1 x.2.2.1.length x.2.2.2.2.2))), (6, .a (.c (.int .i64 x.2.1))), (7, .a (.c (.int .i64 x.1)))], blks := fun _ _ => [], μ := fun _ x => s.size - x.1, kills := [0], frs := fun _ x => [.cells true 9 [.run [.str] x.2.2.2.1 x.2.2.2.2.1]], mv := fun st => [slotB st 5] }
noncomputable def ILsp  : List (FuncId × Func × (Nat → LM)) := [
  ]
theorem ILsp_ok  : InlsOk Tryd.prog ILsp := trivial
theorem x_l01Split (s : ByteArray) (hs : s.size ≤ 1048576) (b : Int) (hb : 0 ≤ b ∧ b ≤ 255) : Fex true (TT mx) (inlN true (TT mx) C0 (lookI ILsp) 4) C0 (fun _ => .inv (lmSpl (UInt8.ofNat b.toNat) s)) Tryd.f9 [.a (.c (.str s)), .a (.c (.int .u8 b))] []
    (fun lv H' => ∃ x : Nat × List Int × Int, Gq 1 (wds (UInt8.ofNat b.toNat) s.data.toList).length (encW (wds (UInt8.ofNat b.toNat) s.data.toList)) x.1 x.2.1 x.2.2 ∧ leSt ⟨[lv], H'⟩ ⟨[rnL (([] : List Nat).length + ·) (.a (.c (.slc 0 0 0 1 (wds (UInt8.ofNat b.toNat) s.data.toList).length x.2.2)))], deadsN ([] : List Nat).length ++ [.cells true 9 [.run [.str] x.1 x.2.1]]⟩ ([] : List Nat).length (resB lv)) := by
  refine Go.Sx.by_eq (q := True ∧ True ∧ True ∧ True ∧ True ∧ (∃ (x : Nat × Nat × List (List UInt8) × Nat × List Int × Int), (x.fst ≤ ByteArray.size s ∧ x.snd.fst ≤ x.fst ∧ wds (UInt8.ofNat (Int.toNat b)) (List.take x.fst s.data.toList) = x.snd.snd.fst ++ [List.drop x.snd.fst (List.take x.fst s.data.toList)] ∧ Gq (1 : Nat) (List.length x.snd.snd.fst) (encW x.snd.snd.fst) x.snd.snd.snd.fst x.snd.snd.snd.snd.fst x.snd.snd.snd.snd.snd) ∧ (s = s ∧ (Go.IntKind.u8 = Go.IntKind.u8 ∧ b = b) ∧ Go.Sx.Cel.val Go.undef = Go.Sx.Cel.val Go.undef ∧ Go.Sx.Cel.val Go.undef = Go.Sx.Cel.val Go.undef ∧ Go.Sx.Cel.val (Go.Value.slice Option.none (0 : Nat) (0 : Nat)) = Go.Sx.Cel.val (Go.Value.slice Option.none (0 : Nat) (0 : Nat)) ∧ Go.Sx.Cel.slc (0 : Nat) (0 : Nat) (0 : Int) (1 : Nat) (0 : Int) (0 : Int) = Go.Sx.Cel.slc (0 : Nat) (0 : Nat) (0 : Int) (1 : Nat) (↑(List.length x.snd.snd.fst) : Int) x.snd.snd.snd.snd.snd ∧ (Go.IntKind.i64 = Go.IntKind.i64 ∧ (0 : Int) = (↑x.snd.fst : Int)) ∧ (Go.IntKind.i64 = Go.IntKind.i64 ∧ (0 : Int) = (↑x.fst : Int)) ∧ Go.Sx.Cel.slc (0 : Nat) (0 : Nat) (0 : Int) (1 : Nat) (0 : Int) (0 : Int) = Go.Sx.Cel.slc (0 : Nat) (0 : Nat) (0 : Int) (1 : Nat) (0 : Int) (0 : Int) ∧ True ∧ True ∧ True ∧ True ∧ True ∧ True ∧ True ∧ True ∧ True ∧ True ∧ True ∧ True ∧ True ∧ True ∧ True ∧ True ∧ True ∧ True ∧ True ∧ True ∧ Go.Sx.Cel.val Go.undef = Go.Sx.Cel.val Go.undef ∧ Go.Sx.Cel.val Go.undef = Go.Sx.Cel.val Go.undef ∧ Go.Sx.Cel.val Go.undef = Go.Sx.Cel.val Go.undef ∧ Go.Sx.Cel.val Go.undef = Go.Sx.Cel.val Go.undef ∧ Go.Sx.Cel.val Go.undef = Go.Sx.Cel.val Go.undef ∧ Go.Sx.Cel.val Go.undef = Go.Sx.Cel.val Go.undef ∧ True) ∧ True ∧ (Bool.true = Bool.true ∧ (9 : Nat) = (9 : Nat) ∧ ([Go.Sx.EK.str] = [Go.Sx.EK.str] ∧ (0 : Nat) = x.snd.snd.snd.fst ∧ [] = x.snd.snd.snd.snd.fst) ∧ True) ∧ True) ∧ ∀ (x : Nat × Nat × List (List UInt8) × Nat × List Int × Int), x.fst ≤ ByteArray.size s ∧ x.snd.fst ≤ x.fst ∧ wds (UInt8.ofNat (Int.toNat b)) (List.take x.fst s.data.toList) = x.snd.snd.fst ++ [List.drop x.snd.fst (List.take x.fst s.data.toList)] ∧ Gq (1 : Nat) (List.length x.snd.snd.fst) (encW x.snd.snd.fst) x.snd.snd.snd.fst x.snd.snd.snd.snd.fst x.snd.snd.snd.snd.snd → True ∧ True ∧ True ∧ True ∧ (Decidable.decide ((↑x.fst : Int) < (↑(ByteArray.size s) : Int)) = Bool.true → True ∧ True ∧ ((0 : Int) ≤ (↑x.fst : Int) ∧ (↑x.fst : Int) < (↑(ByteArray.size s) : Int)) ∧ True ∧ True ∧ ((Go.Sx.byteAt s (↑x.fst : Int) == b) = Bool.true → True ∧ True ∧ True ∧ True ∧ ((0 : Int) ≤ (↑x.snd.fst : Int) ∧ (↑x.snd.fst : Int) ≤ (↑x.fst : Int) ∧ (↑x.fst : Int) ≤ (↑(ByteArray.size s) : Int)) ∧ True ∧ ((Int.toNat (0 : Int) + Int.toNat (↑(List.length x.snd.snd.fst) : Int)) * (1 : Nat) ≤ x.snd.snd.snd.fst ∧ (Int.toNat (0 : Int) + Int.toNat (↑(1 : Nat) : Int)) * (1 : Nat) ≤ (1 : Nat) ∧ ((↑(List.length x.snd.snd.fst) : Int) + (↑(1 : Nat) : Int)) * (↑(16 : Nat) : Int) ≤ (140737488355328 : Int) ∧ (↑(List.length x.snd.snd.fst) : Int) + (↑(1 : Nat) : Int) ≤ (9223372036854775807 : Int)) ∧ ((0 : Int) = (0 : Int) ∧ x.snd.snd.snd.fst = Int.toNat x.snd.snd.snd.snd.snd * (1 : Nat)) ∧ ∀ (n : Nat) (L : List Int) (cap : Int), (↑(List.length x.snd.snd.fst) : Int) + (↑(1 : Nat) : Int) ≤ cap → n = Int.toNat cap * (1 : Nat) → List.length L = n → List.take (Int.toNat ((↑(List.length x.snd.snd.fst) : Int) + (↑(1 : Nat) : Int)) * (1 : Nat)) L = List.take (Int.toNat (↑(List.length x.snd.snd.fst) : Int) * (1 : Nat)) (List.drop (Int.toNat (0 : Int) * (1 : Nat)) x.snd.snd.snd.snd.fst) ++ List.take (Int.toNat (↑(1 : Nat) : Int) * (1 : Nat)) (List.drop (Int.toNat (0 : Int) * (1 : Nat)) [Go.Sx.encS (ByteArray.extract s (Int.toNat (↑x.snd.fst : Int)) (Int.toNat (↑x.fst : Int)))]) → True ∧ True ∧ ((-9223372036854775808 : Int) ≤ (↑x.fst : Int) + (1 : Int) ∧ (↑x.fst : Int) + (1 : Int) ≤ (9223372036854775807 : Int)) ∧ True ∧ True ∧ ((-9223372036854775808 : Int) ≤ (↑x.fst : Int) + (1 : Int) ∧ (↑x.fst : Int) + (1 : Int) ≤ (9223372036854775807 : Int)) ∧ True ∧ ∃ (y : Nat × Nat × List (List UInt8) × Nat × List Int × Int), (y.fst ≤ ByteArray.size s ∧ y.snd.fst ≤ y.fst ∧ wds (UInt8.ofNat (Int.toNat b)) (List.take y.fst s.data.toList) = y.snd.snd.fst ++ [List.drop y.snd.fst (List.take y.fst s.data.toList)] ∧ Gq (1 : Nat) (List.length y.snd.snd.fst) (encW y.snd.snd.fst) y.snd.snd.snd.fst y.snd.snd.snd.snd.fst y.snd.snd.snd.snd.snd) ∧ ByteArray.size s - y.fst < ByteArray.size s - x.fst ∧ (s = s ∧ (Go.IntKind.u8 = Go.IntKind.u8 ∧ b = b) ∧ Go.Sx.Cel.val Go.undef = Go.Sx.Cel.val Go.undef ∧ Go.Sx.Cel.val Go.undef = Go.Sx.Cel.val Go.undef ∧ Go.Sx.Cel.val (Go.Value.slice Option.none (0 : Nat) (0 : Nat)) = Go.Sx.Cel.val (Go.Value.slice Option.none (0 : Nat) (0 : Nat)) ∧ Go.Sx.Cel.slc (3 : Nat) (0 : Nat) (0 : Int) (1 : Nat) ((↑(List.length x.snd.snd.fst) : Int) + (↑(1 : Nat) : Int)) cap = Go.Sx.Cel.slc (3 : Nat) (0 : Nat) (0 : Int) (1 : Nat) (↑(List.length y.snd.snd.fst) : Int) y.snd.snd.snd.snd.snd ∧ (Go.IntKind.i64 = Go.IntKind.i64 ∧ (↑x.fst : Int) + (1 : Int) = (↑y.snd.fst : Int)) ∧ (Go.IntKind.i64 = Go.IntKind.i64 ∧ (↑x.fst : Int) + (1 : Int) = (↑y.fst : Int)) ∧ Go.Sx.Cel.slc (0 : Nat) (0 : Nat) (0 : Int) (1 : Nat) (0 : Int) (0 : Int) = Go.Sx.Cel.slc (0 : Nat) (0 : Nat) (0 : Int) (1 : Nat) (0 : Int) (0 : Int) ∧ True ∧ True ∧ True ∧ True ∧ True ∧ True ∧ True ∧ True ∧ True ∧ True ∧ True ∧ True ∧ True ∧ True ∧ True ∧ True ∧ True ∧ True ∧ True ∧ True ∧ Go.Sx.Cel.val Go.undef = Go.Sx.Cel.val Go.undef ∧ Go.Sx.Cel.val Go.undef = Go.Sx.Cel.val Go.undef ∧ Go.Sx.Cel.val Go.undef = Go.Sx.Cel.val Go.undef ∧ Go.Sx.Cel.val Go.undef = Go.Sx.Cel.val Go.undef ∧ Go.Sx.Cel.val Go.undef = Go.Sx.Cel.val Go.undef ∧ Go.Sx.Cel.val Go.undef = Go.Sx.Cel.val Go.undef ∧ True) ∧ True ∧ (Bool.true = Bool.true ∧ (9 : Nat) = (9 : Nat) ∧ ([Go.Sx.EK.str] = [Go.Sx.EK.str] ∧ n = y.snd.snd.snd.fst ∧ L = y.snd.snd.snd.snd.fst) ∧ True) ∧ True) ∧ ((Go.Sx.byteAt s (↑x.fst : Int) == b) = Bool.false → True ∧ ((-9223372036854775808 : Int) ≤ (↑x.fst : Int) + (1 : Int) ∧ (↑x.fst : Int) + (1 : Int) ≤ (9223372036854775807 : Int)) ∧ True ∧ ∃ (y : Nat × Nat × List (List UInt8) × Nat × List Int × Int), (y.fst ≤ ByteArray.size s ∧ y.snd.fst ≤ y.fst ∧ wds (UInt8.ofNat (Int.toNat b)) (List.take y.fst s.data.toList) = y.snd.snd.fst ++ [List.drop y.snd.fst (List.take y.fst s.data.toList)] ∧ Gq (1 : Nat) (List.length y.snd.snd.fst) (encW y.snd.snd.fst) y.snd.snd.snd.fst y.snd.snd.snd.snd.fst y.snd.snd.snd.snd.snd) ∧ ByteArray.size s - y.fst < ByteArray.size s - x.fst ∧ (s = s ∧ (Go.IntKind.u8 = Go.IntKind.u8 ∧ b = b) ∧ Go.Sx.Cel.val Go.undef = Go.Sx.Cel.val Go.undef ∧ Go.Sx.Cel.val Go.undef = Go.Sx.Cel.val Go.undef ∧ Go.Sx.Cel.val (Go.Value.slice Option.none (0 : Nat) (0 : Nat)) = Go.Sx.Cel.val (Go.Value.slice Option.none (0 : Nat) (0 : Nat)) ∧ Go.Sx.Cel.slc (1 : Nat) (0 : Nat) (0 : Int) (1 : Nat) (↑(List.length x.snd.snd.fst) : Int) x.snd.snd.snd.snd.snd = Go.Sx.Cel.slc (1 : Nat) (0 : Nat) (0 : Int) (1 : Nat) (↑(List.length y.snd.snd.fst) : Int) y.snd.snd.snd.snd.snd ∧ (Go.IntKind.i64 = Go.IntKind.i64 ∧ (↑x.snd.fst : Int) = (↑y.snd.fst : Int)) ∧ (Go.IntKind.i64 = Go.IntKind.i64 ∧ (↑x.fst : Int) + (1 : Int) = (↑y.fst : Int)) ∧ Go.Sx.Cel.slc (0 : Nat) (0 : Nat) (0 : Int) (1 : Nat) (0 : Int) (0 : Int) = Go.Sx.Cel.slc (0 : Nat) (0 : Nat) (0 : Int) (1 : Nat) (0 : Int) (0 : Int) ∧ True ∧ True ∧ True ∧ True ∧ True ∧ True ∧ True ∧ True ∧ True ∧ True ∧ True ∧ True ∧ True ∧ True ∧ True ∧ True ∧ True ∧ True ∧ True ∧ True ∧ Go.Sx.Cel.val Go.undef = Go.Sx.Cel.val Go.undef ∧ Go.Sx.Cel.val Go.undef = Go.Sx.Cel.val Go.undef ∧ Go.Sx.Cel.val Go.undef = Go.Sx.Cel.val Go.undef ∧ Go.Sx.Cel.val Go.undef = Go.Sx.Cel.val Go.undef ∧ Go.Sx.Cel.val Go.undef = Go.Sx.Cel.val Go.undef ∧ Go.Sx.Cel.val Go.undef = Go.Sx.Cel.val Go.undef ∧ True) ∧ True ∧ (Bool.true = Bool.true ∧ (9 : Nat) = (9 : Nat) ∧ ([Go.Sx.EK.str] = [Go.Sx.EK.str] ∧ x.snd.snd.snd.fst = y.snd.snd.snd.fst ∧ x.snd.snd.snd.snd.fst = y.snd.snd.snd.snd.fst) ∧ True) ∧ True)) ∧ (Decidable.decide ((↑x.fst : Int) < (↑(ByteArray.size s) : Int)) = Bool.false → True ∧ True ∧ True ∧ ((0 : Int) ≤ (↑x.snd.fst : Int) ∧ (↑x.snd.fst : Int) ≤ (↑(ByteArray.size s) : Int) ∧ (↑(ByteArray.size s) : Int) ≤ (↑(ByteArray.size s) : Int)) ∧ True ∧ ((Int.toNat (0 : Int) + Int.toNat (↑(List.length x.snd.snd.fst) : Int)) * (1 : Nat) ≤ x.snd.snd.snd.fst ∧ (Int.toNat (0 : Int) + Int.toNat (↑(1 : Nat) : Int)) * (1 : Nat) ≤ (1 : Nat) ∧ ((↑(List.length x.snd.snd.fst) : Int) + (↑(1 : Nat) : Int)) * (↑(16 : Nat) : Int) ≤ (140737488355328 : Int) ∧ (↑(List.length x.snd.snd.fst) : Int) + (↑(1 : Nat) : Int) ≤ (9223372036854775807 : Int)) ∧ ((0 : Int) = (0 : Int) ∧ x.snd.snd.snd.fst = Int.toNat x.snd.snd.snd.snd.snd * (1 : Nat)) ∧ ∀ (n : Nat) (L : List Int) (cap : Int), (↑(List.length x.snd.snd.fst) : Int) + (↑(1 : Nat) : Int) ≤ cap → n = Int.toNat cap * (1 : Nat) → List.length L = n → List.take (Int.toNat ((↑(List.length x.snd.snd.fst) : Int) + (↑(1 : Nat) : Int)) * (1 : Nat)) L = List.take (Int.toNat (↑(List.length x.snd.snd.fst) : Int) * (1 : Nat)) (List.drop (Int.toNat (0 : Int) * (1 : Nat)) x.snd.snd.snd.snd.fst) ++ List.take (Int.toNat (↑(1 : Nat) : Int) * (1 : Nat)) (List.drop (Int.toNat (0 : Int) * (1 : Nat)) [Go.Sx.encS (ByteArray.extract s (Int.toNat (↑x.snd.fst : Int)) (Int.toNat (↑(ByteArray.size s) : Int)))]) → True ∧ ∃ (x_1 : Nat × List Int × Int), Gq (1 : Nat) (List.length (wds (UInt8.ofNat (Int.toNat b)) s.data.toList)) (encW (wds (UInt8.ofNat (Int.toNat b)) s.data.toList)) x_1.fst x_1.snd.fst x_1.snd.snd ∧ (Go.Sx.Cel.slc (3 : Nat) (0 : Nat) (0 : Int) (1 : Nat) ((↑(List.length x.snd.snd.fst) : Int) + (↑(1 : Nat) : Int)) cap = Go.Sx.Cel.slc (3 : Nat) (0 : Nat) (0 : Int) (1 : Nat) (↑(List.length (wds (UInt8.ofNat (Int.toNat b)) s.data.toList)) : Int) x_1.snd.snd ∧ True) ∧ (Bool.true = Bool.true ∧ (9 : Nat) = (9 : Nat) ∧ ([Go.Sx.EK.str] = [Go.Sx.EK.str] ∧ n = x_1.fst ∧ L = x_1.snd.fst) ∧ True) ∧ True)) (by kernel_rfl) ?_
  simp only [true_and, and_true, and_self, decide_eq_true_eq, decide_eq_false_iff_not, Bool.not_eq_true', Bool.not_eq_false', Bool.not_true, Bool.not_false, beq_iff_eq, beq_eq_false_iff_ne, bne_iff_ne, bne_eq_false_iff_eq, ne_eq, not_true_eq_false, not_false_eq_true, false_implies, true_implies, implies_true, forall_const, exists_const, ↓reduceIte, Int.reduceEq, Int.toNat_natCast, Bool.false_eq_true, Bool.true_eq_false, reduceCtorEq, Int.zero_add, Nat.add_zero, Nat.mul_one, Cel.slc.injEq, List.drop_zero, Int.toNat_zero, List.take_succ_cons, List.take_zero, Int.ofNat_eq_natCast, Nat.zero_add, Int.toNat_natCast]
  have hsz := size_list s
  generalize hc : UInt8.ofNat b.toNat = c
  have cb : ∀ x : UInt8, (x.toNat : Int) = b ↔ x = c := by
    intro x
    subst hc
    constructor
    · intro h
      have : b.toNat = x.toNat := by omega
      rw [this, UInt8.ofNat_toNat]
    · rintro rfl
      rw [UInt8.toNat_ofNat']
      omega
  refine ⟨⟨(0, 0, [], 0, [], 0), ⟨Nat.zero_le _, Nat.le_refl _, rfl, Gq.nil⟩, ⟨⟨rfl, rfl⟩, rfl, rfl⟩, rfl, rfl⟩, ?_⟩
  rintro ⟨i, p, D, N, L, cp⟩ ⟨hi, hp, hw, g⟩
  simp only at hi hp hw g ⊢
  have gr := g.room
  have ge := g.e
  rw [Nat.mul_one] at gr ge
  have dl : D.length + 1 ≤ s.size + 1 := by
    have h1 := wds_len_le c (s.data.toList.take i)
    rw [hw, List.length_append, List.length_singleton, List.length_take] at h1
    omega
  have push : ∀ (e : Nat) (n : Nat) (L' : List Int) (cap : Int), ((D.length : Int) + ((1 : Nat) : Int) ≤ cap) → n = cap.toNat → L'.length = n → List.take ((D.length : Int) + ((1 : Nat) : Int)).toNat L' = List.take D.length L ++ [encS (s.extract p e)] →
      Gq 1 (D ++ [(s.data.toList.take e).drop p]).length (encW (D ++ [(s.data.toList.take e).drop p])) n L' cap ∧ (D.length : Int) + ((1 : Nat) : Int) = ((D ++ [(s.data.toList.take e).drop p]).length : Int) := by
    intro e n L' cap c1 c2 c3 c4
    have e1 : ((D.length : Int) + ((1 : Nat) : Int)).toNat = D.length + 1 := by omega
    rw [e1, ext_bsl] at c4
    refine ⟨?_, by rw [List.length_append, List.length_singleton]; omega⟩
    rw [List.length_append, List.length_singleton, encW_snoc]
    exact g.push (by omega) (by omega) c3 (by rw [Nat.mul_one, Nat.mul_one]; exact c4)
  refine ⟨fun hlt => ⟨by omega, fun hbt => ⟨by omega, ⟨gr, Nat.le_refl _, by omega, by omega⟩, ge, fun n L' cap c1 c2 c3 c4 => ?_⟩, fun hbt => ?_⟩, fun hge => ⟨by omega, ⟨gr, Nat.le_refl _, by omega, by omega⟩, ge, fun n L' cap c1 c2 c3 c4 => ?_⟩⟩
  · have hil : i < s.data.toList.length := by omega
    rw [byteAt_get s hil, cb] at hbt
    obtain ⟨p1, p2⟩ := push i n L' cap c1 c2 c3 c4
    refine ⟨by omega, by omega, (i + 1, i + 1, D ++ [(s.data.toList.take i).drop p], n, L', cap), ⟨by simp only; omega, Nat.le_refl _, ?_, p1⟩, by simp only; omega, ⟨⟨p2, rfl⟩, by simp only; omega, by simp only; omega⟩, rfl, rfl⟩
    simp only
    rw [take_snoc hil, hbt, wds_snoc_hit, hw]
    congr 2
    rw [List.drop_of_length_le (by rw [List.length_append, List.length_take, List.length_singleton]; omega)]
  · have hil : i < s.data.toList.length := by omega
    rw [byteAt_get s hil, cb] at hbt
    refine ⟨by omega, (i + 1, p, D, N, L, cp), ⟨by simp only; omega, by simp only; omega, ?_, g⟩, by simp only; omega, ⟨⟨rfl, rfl⟩, rfl, by simp only; omega⟩, rfl, rfl⟩
    simp only
    rw [take_snoc hil, wds_snoc_miss hbt hw, List.drop_append_of_le_length (by rw [List.length_take]; omega)]
  · obtain rfl : i = s.size := by omega
    obtain ⟨p1, p2⟩ := push s.size n L' cap c1 c2 c3 c4
    have hw' : wds c s.data.toList = D ++ [(s.data.toList.take s.size).drop p] := by
      rw [← hw, List.take_of_length_le (by omega)]
    rw [hw']
    exact ⟨(n, L', cap), p1, ⟨p2, rfl⟩, rfl, rfl⟩
def gSpl : EntryC := fun args H K => match args with
  | [.a (.c (.str s)), .a (.c (.int .u8 b))] => (s.size ≤ 1048576 ∧ 0 ≤ b ∧ b ≤ 255) ∧ withLenP H fun h => ∀ N L cp, Gq 1 (wds (UInt8.ofNat b.toNat) s.data.toList).length (encW (wds (UInt8.ofNat b.toNat) s.data.toList)) N L cp → K (.a (.c (.slc h 0 0 1 (wds (UInt8.ofNat b.toNat) s.data.toList).length cp))) (H ++ [.cells true 9 [.run [.str] N L]])
  | _ => Stuck "split"
theorem e_l01Split : EntryCOk Tryd.prog (TT mx) 9 gSpl := by
  refine ⟨fnOk Tryd.func9 (by kernel_rfl) rfl, ?_⟩
  intro args H K h n0 w0 β w vals hG hH hA
  unfold gSpl at h
  split at h
  · obtain ⟨hp, hk⟩ := h
    have hk := withLenP_sound hk
    refine (entry_fresh tt_ok (inlN_ok tt_ok C0_ok mixed (ILsp_ok).ok 4) C0_ok mixed Tryd.func9 [] (x_l01Split _ hp.1 _ hp.2) rfl (fun _ => rfl) (fun _ => rfl) trivial hG hH (by rw [map_self _ fun c hc => rnL_in0 _ c (List.all_eq_true.1 (show (List.all _ (inL 0)) = true from rfl) c hc)]; exact hA)).mono ?_
    rintro e w' ⟨v, γ, x, rfl, h4, h5, h6⟩
    exact ⟨v, γ, _, _, rfl, hk _ _ _ h4, h5, h6⟩
  · exact h.elim


def laySplitN_ren : Go.Shelf.Ren := ⟨fun | 147 => 14 | 221 => 22 | 268 => 31 | 138 => 32 | 143 => 33 | 195 => 45 | 197 => 46 | 218 => 47 | 219 => 48 | 260 => 63 | 217 => 64 | 225 => 65 | 224 => 66 | 267 => 67 | 266 => 82 | 314 => 83 | n => n, fun | 9 => 9 | 3 => 3 | 31 => 28 | 4 => 4 | 0 => 0 | 105 => 82 | 21 => 21 | 5 => 5 | 46 => 37 | 119 => 128 | 139 => 131 | 138 => 130 | 146 => 132 | 51 => 121 | n => n, fun | 1 => 0 | 3 => 4 | 4 => 5 | n => n⟩
theorem laySplitN : Go.Proofs.LaysM.n147 Tryd.prog laySplitN_ren := {
  mixed := by kernel_rfl
  f138 := Tryd.func32.trans (congrArg some (by kernel_rfl))
  f143 := Tryd.func33.trans (congrArg some (by kernel_rfl))
  f147 := Tryd.func14.trans (congrArg some (by kernel_rfl))
  f195 := Tryd.func45.trans (congrArg some (by kernel_rfl))
  f197 := Tryd.func46.trans (congrArg some (by kernel_rfl))
  f217 := Tryd.func64.trans (congrArg some (by kernel_rfl))
  f218 := Tryd.func47.trans (congrArg some (by kernel_rfl))
  f219 := Tryd.func48.trans (congrArg some (by kernel_rfl))
  f221 := Tryd.func22.trans (congrArg some (by kernel_rfl))
  f224 := Tryd.func66.trans (congrArg some (by kernel_rfl))
  f225 := Tryd.func65.trans (congrArg some (by kernel_rfl))
  f260 := Tryd.func63.trans (congrArg some (by kernel_rfl))
  f266 := Tryd.func82.trans (congrArg some (by kernel_rfl))
  f267 := Tryd.func67.trans (congrArg some (by kernel_rfl))
  f268 := Tryd.func31.trans (congrArg some (by kernel_rfl))
  f314 := Tryd.func83.trans (congrArg some (by kernel_rfl))
  t0 := Tryd.underlying0
  a0 := Tryd.isAgg0
  z0 := Tryd.sizeOf0
  v0 := Tryd.zeroValue0
  t3 := Tryd.underlying3
  a3 := Tryd.isAgg3
  z3 := Tryd.sizeOf3
  v3 := Tryd.zeroValue3
  t4 := Tryd.underlying4
  a4 := Tryd.isAgg4
  z4 := Tryd.sizeOf4
  v4 := Tryd.zeroValue4
  t5 := Tryd.underlying5
  a5 := Tryd.isAgg5
  z5 := Tryd.sizeOf5
  v5 := Tryd.zeroValue5
  t9 := Tryd.underlying9
  a9 := Tryd.isAgg9
  z9 := Tryd.sizeOf9
  v9 := Tryd.zeroValue9
  t21 := Tryd.underlying21
  a21 := Tryd.isAgg21
  z21 := Tryd.sizeOf21
  v21 := Tryd.zeroValue21
  t31 := Tryd.underlying28
  a31 := Tryd.isAgg28
  z31 := Tryd.sizeOf28
  v31 := Tryd.zeroValue28
  t46 := Tryd.underlying37
  a46 := Tryd.isAgg37
  z46 := Tryd.sizeOf37
  v46 := Tryd.zeroValue37
  t51 := Tryd.underlying121
  a51 := Tryd.isAgg121
  z51 := Tryd.sizeOf121
  v51 := Tryd.zeroValue121
  t105 := Tryd.underlying82
  a105 := Tryd.isAgg82
  z105 := Tryd.sizeOf82
  v105 := Tryd.zeroValue82
  t119 := Tryd.underlying128
  a119 := Tryd.isAgg128
  z119 := Tryd.sizeOf128
  t138 := Tryd.underlying130
  a138 := Tryd.isAgg130
  z138 := Tryd.sizeOf130
  v138 := Tryd.zeroValue130
  t139 := Tryd.underlying131
  a139 := Tryd.isAgg131
  z139 := Tryd.sizeOf131
  v139 := Tryd.zeroValue131
  t146 := Tryd.underlying132
  a146 := Tryd.isAgg132
  z146 := Tryd.sizeOf132
  v146 := Tryd.zeroValue132
  g1 := by kernel_rfl
  g3 := by kernel_rfl
  g4 := by kernel_rfl
  i0 := by kernel_rfl
  i3 := by kernel_rfl
  i4 := by kernel_rfl
  i5 := by kernel_rfl
  i9 := by kernel_rfl
  i21 := by kernel_rfl
  i31 := by kernel_rfl
  i46 := by kernel_rfl
  i51 := by kernel_rfl
  i105 := by kernel_rfl
  i138 := by kernel_rfl
  i139 := by kernel_rfl
  i146 := by kernel_rfl
  m1 := by kernel_rfl
  s1_3 := fun w h => Go.Proofs.cell_of_shapedOpen_int (zero := #[.int .i64 0]) (t := 3) h (of_decide_eq_true (by kernel_rfl)) (by kernel_rfl) rfl (by kernel_rfl) (by kernel_rfl) Tryd.underlying3
  m3 := by kernel_rfl
  m4 := by kernel_rfl }

/-- The pieces of a text, at most so many. -/
def spK (c : UInt8) (n : Nat) (s : ByteArray) : List (List UInt8) := Lib.splitK [c] 0 (min n (s.size + 1) - 1) s.data.toList
def gSpN : EntryC := fun args H K => match args with
  | [.a (.c (.str s)), .a (.c (.str sep)), .a (.c (.int .i64 n))] => (s.size ≤ 1048576 ∧ sep.size = 1 ∧ 1 ≤ n ∧ n ≤ 1000) ∧ withLenP H fun h => ∀ N L cp, Gq 1 (spK (sep.data.toList.getD 0 0) n.toNat s).length (encW (spK (sep.data.toList.getD 0 0) n.toNat s)) N L cp → K (.a (.c (.slc h 0 0 1 (spK (sep.data.toList.getD 0 0) n.toNat s).length cp))) (H ++ [.cells true 9 [.run [.str] N L]])
  | _ => Stuck "splitN"
theorem e_SplitN : EntryCOk Tryd.prog (TT mx) 14 gSpN := by
  refine ⟨fnOk Tryd.func14 (by kernel_rfl) rfl, ?_⟩
  intro args H K h n0 w0 β w vals hG hH hA
  unfold gSpN at h
  split at h
  · rename_i s sep n
    obtain ⟨⟨hs, h1, hn, hn2⟩, hk⟩ := h
    have hk := withLenP_sound hk
    obtain ⟨v1, r1, e1, hv1, v2, r2, rfl, hv2, v3, r3, rfl, hv3, hr⟩ := hA
    have hv1 : v1 = .string s := hv1
    have hv2 : v2 = .string sep := hv2
    have hv3 : v3 = .int .i64 n := hv3
    have hr : r3 = [] := hr
    subst hv1 hv2 hv3 hr
    obtain ⟨k, rfl⟩ := Int.eq_ofNat_of_zero_le (show 0 ≤ n by omega)
    rw [Int.toNat_natCast] at hk
    obtain rfl : vals = #[.string s, .string sep, .int .i64 k] := Array.toList_inj.1 e1
    obtain ⟨tm, fm, csm, g1, g2, _⟩ := hG 0 (.int .i64 (ivl (mx 0))) rfl w hH.ext
    have hm : w.cell? ⟨0, 0, none⟩ = some (.int .i64 (ivl (mx 0))) := by rw [cell_at g1]; exact g2
    refine (Any.strings_SplitN { laySplitN with } laySplitN.i9 s sep k (ivl (mx 0)) w (by omega) hm (by omega) (by omega) (by omega)).mono ?_
    rintro e w' ⟨rfl, rfl⟩
    have hd := Lib.splitB_data sep 0 (min k (s.size + 1) - 1) s
    have hsep : sep.data.toList = [sep.data.toList.getD 0 0] := by
      have hl := size_list sep
      rw [h1] at hl
      match hq : sep.data.toList, hl with
      | [x], _ => rfl
    rw [hsep] at hd
    generalize hB : Lib.splitB sep 0 (min k (s.size + 1) - 1) s = B at *
    have hlen : B.length = (spK (sep.data.toList.getD 0 0) k s).length := by
      rw [spK, ← hd, List.length_map]
    have hle : B.length ≤ min k (s.size + 1) := by
      have := Lib.splitB_length_le sep 0 (min k (s.size + 1) - 1) s
      rw [hB] at this; omega
    have hm0 : 1 ≤ min k (s.size + 1) := by omega
    have henc : encW (spK (sep.data.toList.getD 0 0) k s) = B.map encS := by
      rw [spK, ← hd, encW, List.map_map]
      exact List.map_congr_left fun x _ => by rw [Function.comp, bsl_of]
    refine ⟨_, [w.heap.size], _, _, rfl, hk (min k (s.size + 1)) (B.map encS ++ List.replicate (min k (s.size + 1) - B.length) 0) ((min k (s.size + 1) : Nat) : Int) ⟨by rw [← hlen]; omega, by omega, by rw [List.length_append, List.length_map, List.length_replicate]; omega, ?_⟩, ?_, ?_⟩
    · rw [henc, Nat.mul_one, ← hlen, List.take_append_of_le_length (by rw [List.length_map]; exact Nat.le_refl _), List.take_of_length_le (by rw [List.length_map]; exact Nat.le_refl _)]
    · refine hH.push ⟨_, [], (List.append_nil _).symm, ⟨by rw [List.length_append, List.length_map, List.length_replicate]; omega, ?_⟩, rfl⟩
      rw [runV_one, List.map_append, List.map_map, List.map_replicate]
      simp only [Lib.cellsOf]
      congr 1
      · exact List.map_congr_left fun x _ => by simp [Function.comp, EK.val, decS_encS]
      · rw [show EK.str.val 0 = Value.string ByteArray.empty from by rw [EK.val, decS_zero]]
    · refine ⟨by omega, by omega, by omega, .inl ⟨w.heap.size, by rw [← hH.len]; simp, ?_⟩⟩
      simp only [Nat.zero_add, Int.toNat_zero, Nat.zero_mul, Int.toNat_natCast]
      rw [hlen]
  · exact h.elim

end Go.Proofs.YtkkfnfhidhoajaaDoor
