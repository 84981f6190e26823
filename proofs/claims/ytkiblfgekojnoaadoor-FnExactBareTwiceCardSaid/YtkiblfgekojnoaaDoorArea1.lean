/- Twice the area: both sides. No conditions beyond the ranges of the kinds. -/
import Derived.Test.YtkiblfgekojnoaaDoorAt1
set_option linter.unusedSimpArgs false
set_option linter.unusedVariables false
namespace Go.Proofs.YtkiblfgekojnoaaDoor
open Go.Sx Go.RowKit

variable {e : Nat → Value}

def arT (n : Nat) (l : List Int) (k : Nat) : Int := (cor l k).getD 0 0 * (cor l ((k + 1) % n)).getD 1 0 - (cor l ((k + 1) % n)).getD 0 0 * (cor l k).getD 1 0
def arS (n : Nat) (l : List Int) : Nat → Int
  | 0 => 0
  | k + 1 => arS n l k + arT n l k

theorem arT_bd {n k : Nat} {l : List Int} (h : OkP n l) (hk : k < n) : ∃ a b : Int, arT n l k = a - b ∧ (-1000000 ≤ a ∧ a ≤ 1000000) ∧ (-1000000 ≤ b ∧ b ≤ 1000000) ∧ a = (cor l k).getD 0 0 * (cor l ((k + 1) % n)).getD 1 0 ∧ b = (cor l ((k + 1) % n)).getD 0 0 * (cor l k).getD 1 0 := by
  obtain ⟨a1, a2, a3, a4⟩ := h.pl k hk
  obtain ⟨b1, b2, b3, b4⟩ := h.pl ((k + 1) % n) (Nat.mod_lt _ (by omega))
  have m1 := mul_bd (m := 1000) a1 a2 b3 b4
  have m2 := mul_bd (m := 1000) b1 b2 a3 a4
  exact ⟨_, _, rfl, ⟨by omega, by omega⟩, ⟨by omega, by omega⟩, rfl, rfl⟩

theorem arS_bd {n : Nat} {l : List Int} (h : OkP n l) : ∀ k, k ≤ n → -(2000000 * (k : Int)) ≤ arS n l k ∧ arS n l k ≤ 2000000 * (k : Int)
  | 0, _ => by simp [arS]
  | k + 1, hk => by
    obtain ⟨i1, i2⟩ := arS_bd h k (by omega)
    obtain ⟨a, b, e0, ⟨a1, a2⟩, ⟨b1, b2⟩, _, _⟩ := arT_bd h (show k < n by omega)
    simp only [arS, e0]
    omega

def lmArS (n : Nat) (l : List Int) : LAnn := { ι := Nat, inv := fun _ k => k ≤ n, slots := fun _ k => [(3, .a (.c (.int .i64 (arS n l k)))), (4, .a (.c (.int .i64 k)))], blks := fun _ k => [], μ := fun _ k => n - k }
def lmArI (n : Nat) (l : List Int) : LAnn := { ι := Nat, inv := fun _ k => k ≤ n, slots := fun _ k => [(7, .a (.c (.int .i64 k)))], blks := fun _ k => [(1, [.int .i64 (arS n l k)])], μ := fun _ k => n - k }

noncomputable def ILa : List (FuncId × Func × (Nat → LM)) := [(93, Tryd.f93, U0)]
theorem ILa_ok : InlsOk Tryd.prog ILa := ⟨⟨Tryd.func93, by kernel_rfl⟩, trivial⟩

theorem x_l03Area (m n : Nat) (l : List Int) (cap : Int) (h1 : n ≤ 1048576) (h3 : n * 2 ≤ m) (h4 : l.length = m) (ok : OkP n l) : Fex true (TT e) (inlN true (TT e) C0 (lookI ILa) 4) C0 (fun _ => .inv (lmArS n l)) Tryd.f53 [.a (.c (.slc 0 0 0 2 n cap))] [.cells false 66 [.run [.i16] m l]] (fun lv _ => leL lv (.a (.c (.int .i64 (arS n l n))))) := by
  refine Go.Sx.by_eq (q := True ∧ True ∧ True ∧ (∃ (x : Nat), x ≤ n ∧ (Go.Sx.Cel.slc (0 : Nat) (0 : Nat) (0 : Int) (2 : Nat) (↑n : Int) cap = Go.Sx.Cel.slc (0 : Nat) (0 : Nat) (0 : Int) (2 : Nat) (↑n : Int) cap ∧ Go.Sx.Cel.val Go.undef = Go.Sx.Cel.val Go.undef ∧ (Go.IntKind.i64 = Go.IntKind.i64 ∧ (0 : Int) = (0 : Int)) ∧ (Go.IntKind.i64 = Go.IntKind.i64 ∧ (0 : Int) = arS n l x) ∧ (Go.IntKind.i64 = Go.IntKind.i64 ∧ (0 : Int) = (↑x : Int)) ∧ True ∧ True ∧ True ∧ True ∧ True ∧ True ∧ True ∧ True ∧ True ∧ True ∧ True ∧ True ∧ True ∧ True ∧ True ∧ True ∧ True ∧ True ∧ True ∧ True ∧ True ∧ True ∧ True ∧ True ∧ True ∧ True ∧ True ∧ True ∧ True ∧ True ∧ True ∧ True ∧ True ∧ True ∧ True ∧ True ∧ Go.Sx.Cel.val Go.undef = Go.Sx.Cel.val Go.undef ∧ True) ∧ (Bool.false = Bool.false ∧ (66 : Nat) = (66 : Nat) ∧ ([Go.Sx.EK.i16] = [Go.Sx.EK.i16] ∧ m = m ∧ l = l) ∧ True) ∧ True) ∧ ∀ (x : Nat), x ≤ n → True ∧ True ∧ True ∧ True ∧ (Decidable.decide ((↑x : Int) < (↑n : Int)) = Bool.true → True ∧ True ∧ True ∧ True ∧ True ∧ ((-9223372036854775808 : Int) ≤ (↑x : Int) + (1 : Int) ∧ (↑x : Int) + (1 : Int) ≤ (9223372036854775807 : Int)) ∧ True ∧ True ∧ (↑n : Int) ≠ (0 : Int) ∧ True ∧ ((0 : Int) ≤ Int.tmod ((↑x : Int) + (1 : Int)) (↑n : Int) ∧ Int.tmod ((↑x : Int) + (1 : Int)) (↑n : Int) < (↑n : Int)) ∧ ((0 : Int) ≤ (0 : Int) + Int.tmod ((↑x : Int) + (1 : Int)) (↑n : Int) ∧ Int.toNat ((0 : Int) + Int.tmod ((↑x : Int) + (1 : Int)) (↑n : Int)) * (2 : Nat) + (0 : Nat) + (2 : Nat) ≤ m) ∧ True ∧ True ∧ True ∧ True ∧ True ∧ ((0 : Int) ≤ (↑x : Int) ∧ (↑x : Int) < (↑n : Int)) ∧ True ∧ ((0 : Int) ≤ (0 : Int) + (↑x : Int) ∧ Int.toNat ((0 : Int) + (↑x : Int)) * (2 : Nat) + (0 : Nat) < m) ∧ ((-9223372036854775808 : Int) ≤ List.getD l (Int.toNat ((0 : Int) + (↑x : Int)) * (2 : Nat) + (0 : Nat)) (0 : Int) ∧ List.getD l (Int.toNat ((0 : Int) + (↑x : Int)) * (2 : Nat) + (0 : Nat)) (0 : Int) ≤ (9223372036854775807 : Int)) ∧ True ∧ True ∧ ((-9223372036854775808 : Int) ≤ List.getD (List.take (2 : Nat) (List.drop (Int.toNat ((0 : Int) + Int.tmod ((↑x : Int) + (1 : Int)) (↑n : Int)) * (2 : Nat) + (0 : Nat)) l)) (1 : Nat) (0 : Int) ∧ List.getD (List.take (2 : Nat) (List.drop (Int.toNat ((0 : Int) + Int.tmod ((↑x : Int) + (1 : Int)) (↑n : Int)) * (2 : Nat) + (0 : Nat)) l)) (1 : Nat) (0 : Int) ≤ (9223372036854775807 : Int)) ∧ ((-9223372036854775808 : Int) ≤ List.getD l (Int.toNat ((0 : Int) + (↑x : Int)) * (2 : Nat) + (0 : Nat)) (0 : Int) * List.getD (List.take (2 : Nat) (List.drop (Int.toNat ((0 : Int) + Int.tmod ((↑x : Int) + (1 : Int)) (↑n : Int)) * (2 : Nat) + (0 : Nat)) l)) (1 : Nat) (0 : Int) ∧ List.getD l (Int.toNat ((0 : Int) + (↑x : Int)) * (2 : Nat) + (0 : Nat)) (0 : Int) * List.getD (List.take (2 : Nat) (List.drop (Int.toNat ((0 : Int) + Int.tmod ((↑x : Int) + (1 : Int)) (↑n : Int)) * (2 : Nat) + (0 : Nat)) l)) (1 : Nat) (0 : Int) ≤ (9223372036854775807 : Int)) ∧ True ∧ True ∧ ((-9223372036854775808 : Int) ≤ List.getD (List.take (2 : Nat) (List.drop (Int.toNat ((0 : Int) + Int.tmod ((↑x : Int) + (1 : Int)) (↑n : Int)) * (2 : Nat) + (0 : Nat)) l)) (0 : Nat) (0 : Int) ∧ List.getD (List.take (2 : Nat) (List.drop (Int.toNat ((0 : Int) + Int.tmod ((↑x : Int) + (1 : Int)) (↑n : Int)) * (2 : Nat) + (0 : Nat)) l)) (0 : Nat) (0 : Int) ≤ (9223372036854775807 : Int)) ∧ True ∧ True ∧ ((0 : Int) ≤ (↑x : Int) ∧ (↑x : Int) < (↑n : Int)) ∧ True ∧ ((0 : Int) ≤ (0 : Int) + (↑x : Int) ∧ Int.toNat ((0 : Int) + (↑x : Int)) * (2 : Nat) + (1 : Nat) < m) ∧ ((-9223372036854775808 : Int) ≤ List.getD l (Int.toNat ((0 : Int) + (↑x : Int)) * (2 : Nat) + (1 : Nat)) (0 : Int) ∧ List.getD l (Int.toNat ((0 : Int) + (↑x : Int)) * (2 : Nat) + (1 : Nat)) (0 : Int) ≤ (9223372036854775807 : Int)) ∧ ((-9223372036854775808 : Int) ≤ List.getD (List.take (2 : Nat) (List.drop (Int.toNat ((0 : Int) + Int.tmod ((↑x : Int) + (1 : Int)) (↑n : Int)) * (2 : Nat) + (0 : Nat)) l)) (0 : Nat) (0 : Int) * List.getD l (Int.toNat ((0 : Int) + (↑x : Int)) * (2 : Nat) + (1 : Nat)) (0 : Int) ∧ List.getD (List.take (2 : Nat) (List.drop (Int.toNat ((0 : Int) + Int.tmod ((↑x : Int) + (1 : Int)) (↑n : Int)) * (2 : Nat) + (0 : Nat)) l)) (0 : Nat) (0 : Int) * List.getD l (Int.toNat ((0 : Int) + (↑x : Int)) * (2 : Nat) + (1 : Nat)) (0 : Int) ≤ (9223372036854775807 : Int)) ∧ ((-9223372036854775808 : Int) ≤ List.getD l (Int.toNat ((0 : Int) + (↑x : Int)) * (2 : Nat) + (0 : Nat)) (0 : Int) * List.getD (List.take (2 : Nat) (List.drop (Int.toNat ((0 : Int) + Int.tmod ((↑x : Int) + (1 : Int)) (↑n : Int)) * (2 : Nat) + (0 : Nat)) l)) (1 : Nat) (0 : Int) - List.getD (List.take (2 : Nat) (List.drop (Int.toNat ((0 : Int) + Int.tmod ((↑x : Int) + (1 : Int)) (↑n : Int)) * (2 : Nat) + (0 : Nat)) l)) (0 : Nat) (0 : Int) * List.getD l (Int.toNat ((0 : Int) + (↑x : Int)) * (2 : Nat) + (1 : Nat)) (0 : Int) ∧ List.getD l (Int.toNat ((0 : Int) + (↑x : Int)) * (2 : Nat) + (0 : Nat)) (0 : Int) * List.getD (List.take (2 : Nat) (List.drop (Int.toNat ((0 : Int) + Int.tmod ((↑x : Int) + (1 : Int)) (↑n : Int)) * (2 : Nat) + (0 : Nat)) l)) (1 : Nat) (0 : Int) - List.getD (List.take (2 : Nat) (List.drop (Int.toNat ((0 : Int) + Int.tmod ((↑x : Int) + (1 : Int)) (↑n : Int)) * (2 : Nat) + (0 : Nat)) l)) (0 : Nat) (0 : Int) * List.getD l (Int.toNat ((0 : Int) + (↑x : Int)) * (2 : Nat) + (1 : Nat)) (0 : Int) ≤ (9223372036854775807 : Int)) ∧ ((-9223372036854775808 : Int) ≤ arS n l x + (List.getD l (Int.toNat ((0 : Int) + (↑x : Int)) * (2 : Nat) + (0 : Nat)) (0 : Int) * List.getD (List.take (2 : Nat) (List.drop (Int.toNat ((0 : Int) + Int.tmod ((↑x : Int) + (1 : Int)) (↑n : Int)) * (2 : Nat) + (0 : Nat)) l)) (1 : Nat) (0 : Int) - List.getD (List.take (2 : Nat) (List.drop (Int.toNat ((0 : Int) + Int.tmod ((↑x : Int) + (1 : Int)) (↑n : Int)) * (2 : Nat) + (0 : Nat)) l)) (0 : Nat) (0 : Int) * List.getD l (Int.toNat ((0 : Int) + (↑x : Int)) * (2 : Nat) + (1 : Nat)) (0 : Int)) ∧ arS n l x + (List.getD l (Int.toNat ((0 : Int) + (↑x : Int)) * (2 : Nat) + (0 : Nat)) (0 : Int) * List.getD (List.take (2 : Nat) (List.drop (Int.toNat ((0 : Int) + Int.tmod ((↑x : Int) + (1 : Int)) (↑n : Int)) * (2 : Nat) + (0 : Nat)) l)) (1 : Nat) (0 : Int) - List.getD (List.take (2 : Nat) (List.drop (Int.toNat ((0 : Int) + Int.tmod ((↑x : Int) + (1 : Int)) (↑n : Int)) * (2 : Nat) + (0 : Nat)) l)) (0 : Nat) (0 : Int) * List.getD l (Int.toNat ((0 : Int) + (↑x : Int)) * (2 : Nat) + (1 : Nat)) (0 : Int)) ≤ (9223372036854775807 : Int)) ∧ True ∧ True ∧ ((-9223372036854775808 : Int) ≤ (↑x : Int) + (1 : Int) ∧ (↑x : Int) + (1 : Int) ≤ (9223372036854775807 : Int)) ∧ True ∧ ∃ (y : Nat), y ≤ n ∧ n - y < n - x ∧ (Go.Sx.Cel.slc (0 : Nat) (0 : Nat) (0 : Int) (2 : Nat) (↑n : Int) cap = Go.Sx.Cel.slc (0 : Nat) (0 : Nat) (0 : Int) (2 : Nat) (↑n : Int) cap ∧ Go.Sx.Cel.val Go.undef = Go.Sx.Cel.val Go.undef ∧ (Go.IntKind.i64 = Go.IntKind.i64 ∧ (0 : Int) = (0 : Int)) ∧ (Go.IntKind.i64 = Go.IntKind.i64 ∧ arS n l x + (List.getD l (Int.toNat ((0 : Int) + (↑x : Int)) * (2 : Nat) + (0 : Nat)) (0 : Int) * List.getD (List.take (2 : Nat) (List.drop (Int.toNat ((0 : Int) + Int.tmod ((↑x : Int) + (1 : Int)) (↑n : Int)) * (2 : Nat) + (0 : Nat)) l)) (1 : Nat) (0 : Int) - List.getD (List.take (2 : Nat) (List.drop (Int.toNat ((0 : Int) + Int.tmod ((↑x : Int) + (1 : Int)) (↑n : Int)) * (2 : Nat) + (0 : Nat)) l)) (0 : Nat) (0 : Int) * List.getD l (Int.toNat ((0 : Int) + (↑x : Int)) * (2 : Nat) + (1 : Nat)) (0 : Int)) = arS n l y) ∧ (Go.IntKind.i64 = Go.IntKind.i64 ∧ (↑x : Int) + (1 : Int) = (↑y : Int)) ∧ True ∧ True ∧ True ∧ True ∧ True ∧ True ∧ True ∧ True ∧ True ∧ True ∧ True ∧ True ∧ True ∧ True ∧ True ∧ True ∧ True ∧ True ∧ True ∧ True ∧ True ∧ True ∧ True ∧ True ∧ True ∧ True ∧ True ∧ True ∧ True ∧ True ∧ True ∧ True ∧ True ∧ True ∧ True ∧ True ∧ Go.Sx.Cel.val Go.undef = Go.Sx.Cel.val Go.undef ∧ True) ∧ (Bool.false = Bool.false ∧ (66 : Nat) = (66 : Nat) ∧ ([Go.Sx.EK.i16] = [Go.Sx.EK.i16] ∧ m = m ∧ l = l) ∧ True) ∧ True) ∧ (Decidable.decide ((↑x : Int) < (↑n : Int)) = Bool.false → True ∧ True ∧ Go.IntKind.i64 = Go.IntKind.i64 ∧ arS n l x = arS n l n)) (by kernel_rfl) ?_
  have ec : ∀ i, List.take 2 (List.drop (i * 2) l) = cor l i := fun _ => rfl
  simp only [true_and, and_true, and_self, decide_eq_true_eq, decide_eq_false_iff_not, Bool.not_eq_true', Bool.not_eq_false', Bool.not_true, Bool.not_false, beq_iff_eq, beq_eq_false_iff_ne, bne_iff_ne, bne_eq_false_iff_eq, ne_eq, not_true_eq_false, not_false_eq_true, false_implies, true_implies, implies_true, forall_const, exists_const, ↓reduceIte, Int.reduceEq, Int.toNat_natCast, Bool.false_eq_true, Bool.true_eq_false, reduceCtorEq, Int.zero_add, Nat.add_zero, ec, tmodN, Int.ofNat_eq_natCast]
  refine ⟨⟨0, by omega, rfl, rfl⟩, fun k hk => ⟨fun hlt => ?_, fun hge => by rw [show k = n by omega]⟩⟩
  have c0 : l.getD (k * 2) 0 = (cor l k).getD 0 0 := (cor0 l k).symm
  have c1 : l.getD (k * 2 + 1) 0 = (cor l k).getD 1 0 := (cor1 l k).symm
  simp only [c0, c1]
  have hm : (k + 1) % n < n := Nat.mod_lt _ (by omega)
  obtain ⟨a1, a2, a3, a4⟩ := ok.pl k (by omega)
  obtain ⟨b1, b2, b3, b4⟩ := ok.pl _ hm
  have m1 := mul_bd (m := 1000) a1 a2 b3 b4
  have m2 := mul_bd (m := 1000) b1 b2 a3 a4
  obtain ⟨s1, s2⟩ := arS_bd ok k hk
  have hi := ok.hi
  exact ⟨⟨by omega, by omega⟩, by omega, ⟨by omega, by omega⟩, ⟨by omega, by omega⟩, ⟨by omega, by omega⟩, ⟨by omega, by omega⟩, ⟨by omega, by omega⟩, ⟨by omega, by omega⟩, ⟨by omega, by omega⟩, ⟨by omega, by omega⟩, ⟨by omega, by omega⟩, ⟨by omega, by omega⟩, ⟨by omega, by omega⟩, ⟨by omega, by omega⟩, ⟨by omega, by omega⟩, ⟨by omega, by omega⟩, ⟨by omega, by omega⟩, k + 1, by omega, by omega, rfl, by omega⟩

noncomputable def ILe (n : Nat) (l : List Int) : List (FuncId × Func × (Nat → LM)) := [
  (94, Tryd.f94, U0),
  (111, Tryd.f111, fun _ => .inv (lmArI n l))]
theorem ILe_ok {n : Nat} {l : List Int} : InlsOk Tryd.prog (ILe n l) := ⟨⟨Tryd.func94, by kernel_rfl⟩, ⟨Tryd.func111, by kernel_rfl⟩, trivial⟩

theorem x_areaTwice (m n : Nat) (l : List Int) (cap : Int) (h1 : n ≤ 1048576) (h3 : n * 2 ≤ m) (h4 : l.length = m) (ok : OkP n l) : Fex true (TT e) (inlN true (TT e) Ca (lookI (ILe n l)) 4) Ca U0 Tryd.f56 [.a (.c (.slc 0 0 0 2 n cap))] [.cells false 66 [.run [.i16] m l]] (fun lv _ => leL lv (.a (.c (.int .i64 (arS n l n))))) := by
  refine Go.Sx.by_eq (q := True ∧ True ∧ True ∧ True ∧ True ∧ True ∧ True ∧ True ∧ True ∧ True ∧ True ∧ (∃ (x : Nat), x ≤ n ∧ (Go.Sx.Cel.yld (3 : Nat) = Go.Sx.Cel.yld (3 : Nat) ∧ Go.Sx.Cel.ptr (2 : Nat) (0 : Nat) = Go.Sx.Cel.ptr (2 : Nat) (0 : Nat) ∧ Go.Sx.Cel.val Go.undef = Go.Sx.Cel.val Go.undef ∧ True ∧ True ∧ Go.Sx.Cel.slc (0 : Nat) (0 : Nat) (0 : Int) (2 : Nat) (↑n : Int) cap = Go.Sx.Cel.slc (0 : Nat) (0 : Nat) (0 : Int) (2 : Nat) (↑n : Int) cap ∧ (Go.IntKind.i64 = Go.IntKind.i64 ∧ (↑n : Int) = (↑n : Int)) ∧ (Go.IntKind.i64 = Go.IntKind.i64 ∧ (0 : Int) = (↑x : Int)) ∧ True ∧ True ∧ True ∧ True ∧ True ∧ True ∧ True ∧ True ∧ True ∧ True ∧ True ∧ True ∧ True ∧ True) ∧ (Bool.false = Bool.false ∧ (66 : Nat) = (66 : Nat) ∧ ([Go.Sx.EK.i16] = [Go.Sx.EK.i16] ∧ m = m ∧ l = l) ∧ True) ∧ (Bool.true = Bool.true ∧ (2 : Nat) = (2 : Nat) ∧ (Go.IntKind.i64 = Go.IntKind.i64 ∧ (0 : Int) = arS n l x) ∧ True) ∧ (Bool.true = Bool.true ∧ (27 : Nat) = (27 : Nat) ∧ Go.Sx.Cel.slc (0 : Nat) (0 : Nat) (0 : Int) (2 : Nat) (↑n : Int) cap = Go.Sx.Cel.slc (0 : Nat) (0 : Nat) (0 : Int) (2 : Nat) (↑n : Int) cap ∧ True) ∧ (Go.LoopState.ready = Go.LoopState.ready ∧ (Option.none : Option Go.Code) = Option.none) ∧ True) ∧ ∀ (x : Nat), x ≤ n → True ∧ (Decidable.decide ((↑x : Int) < (↑n : Int)) = Bool.true → True ∧ ((0 : Int) ≤ (↑x : Int) ∧ (↑x : Int) < (↑n : Int)) ∧ ((0 : Int) ≤ (0 : Int) + (↑x : Int) ∧ Int.toNat ((0 : Int) + (↑x : Int)) * (2 : Nat) + (0 : Nat) + (2 : Nat) ≤ m) ∧ True ∧ True ∧ True ∧ True ∧ True ∧ True ∧ True ∧ ((-9223372036854775808 : Int) ≤ (↑x : Int) + (1 : Int) ∧ (↑x : Int) + (1 : Int) ≤ (9223372036854775807 : Int)) ∧ ((0 : Nat) = (0 : Nat) ∧ (0 : Int) = (0 : Int) ∧ (2 : Nat) = (2 : Nat) ∧ [Go.Sx.EK.i16] = [Go.Sx.EK.i16] ∧ (0 : Int) < (↑n : Int) ∧ (↑n : Int) ≤ (1048576 : Int) ∧ Int.toNat (↑n : Int) * (2 : Nat) ≤ m ∧ List.length l = m ∧ (0 : Int) ≤ (↑x : Int) + (1 : Int) ∧ (↑x : Int) + (1 : Int) ≤ (1048576 : Int)) ∧ True ∧ True ∧ True ∧ True ∧ True ∧ True ∧ True ∧ ((-9223372036854775808 : Int) ≤ List.getD (List.take (2 : Nat) (List.drop (Int.toNat ((0 : Int) + (↑x : Int)) * (2 : Nat) + (0 : Nat)) l)) (0 : Nat) (0 : Int) ∧ List.getD (List.take (2 : Nat) (List.drop (Int.toNat ((0 : Int) + (↑x : Int)) * (2 : Nat) + (0 : Nat)) l)) (0 : Nat) (0 : Int) ≤ (9223372036854775807 : Int)) ∧ True ∧ True ∧ ((-9223372036854775808 : Int) ≤ List.getD (cor l (Int.toNat ((↑x : Int) + (1 : Int)) % Int.toNat (↑n : Int))) (1 : Nat) (0 : Int) ∧ List.getD (cor l (Int.toNat ((↑x : Int) + (1 : Int)) % Int.toNat (↑n : Int))) (1 : Nat) (0 : Int) ≤ (9223372036854775807 : Int)) ∧ ((-9223372036854775808 : Int) ≤ List.getD (List.take (2 : Nat) (List.drop (Int.toNat ((0 : Int) + (↑x : Int)) * (2 : Nat) + (0 : Nat)) l)) (0 : Nat) (0 : Int) * List.getD (cor l (Int.toNat ((↑x : Int) + (1 : Int)) % Int.toNat (↑n : Int))) (1 : Nat) (0 : Int) ∧ List.getD (List.take (2 : Nat) (List.drop (Int.toNat ((0 : Int) + (↑x : Int)) * (2 : Nat) + (0 : Nat)) l)) (0 : Nat) (0 : Int) * List.getD (cor l (Int.toNat ((↑x : Int) + (1 : Int)) % Int.toNat (↑n : Int))) (1 : Nat) (0 : Int) ≤ (9223372036854775807 : Int)) ∧ True ∧ True ∧ ((-9223372036854775808 : Int) ≤ List.getD (cor l (Int.toNat ((↑x : Int) + (1 : Int)) % Int.toNat (↑n : Int))) (0 : Nat) (0 : Int) ∧ List.getD (cor l (Int.toNat ((↑x : Int) + (1 : Int)) % Int.toNat (↑n : Int))) (0 : Nat) (0 : Int) ≤ (9223372036854775807 : Int)) ∧ True ∧ True ∧ ((-9223372036854775808 : Int) ≤ List.getD (List.take (2 : Nat) (List.drop (Int.toNat ((0 : Int) + (↑x : Int)) * (2 : Nat) + (0 : Nat)) l)) (1 : Nat) (0 : Int) ∧ List.getD (List.take (2 : Nat) (List.drop (Int.toNat ((0 : Int) + (↑x : Int)) * (2 : Nat) + (0 : Nat)) l)) (1 : Nat) (0 : Int) ≤ (9223372036854775807 : Int)) ∧ ((-9223372036854775808 : Int) ≤ List.getD (cor l (Int.toNat ((↑x : Int) + (1 : Int)) % Int.toNat (↑n : Int))) (0 : Nat) (0 : Int) * List.getD (List.take (2 : Nat) (List.drop (Int.toNat ((0 : Int) + (↑x : Int)) * (2 : Nat) + (0 : Nat)) l)) (1 : Nat) (0 : Int) ∧ List.getD (cor l (Int.toNat ((↑x : Int) + (1 : Int)) % Int.toNat (↑n : Int))) (0 : Nat) (0 : Int) * List.getD (List.take (2 : Nat) (List.drop (Int.toNat ((0 : Int) + (↑x : Int)) * (2 : Nat) + (0 : Nat)) l)) (1 : Nat) (0 : Int) ≤ (9223372036854775807 : Int)) ∧ ((-9223372036854775808 : Int) ≤ List.getD (List.take (2 : Nat) (List.drop (Int.toNat ((0 : Int) + (↑x : Int)) * (2 : Nat) + (0 : Nat)) l)) (0 : Nat) (0 : Int) * List.getD (cor l (Int.toNat ((↑x : Int) + (1 : Int)) % Int.toNat (↑n : Int))) (1 : Nat) (0 : Int) - List.getD (cor l (Int.toNat ((↑x : Int) + (1 : Int)) % Int.toNat (↑n : Int))) (0 : Nat) (0 : Int) * List.getD (List.take (2 : Nat) (List.drop (Int.toNat ((0 : Int) + (↑x : Int)) * (2 : Nat) + (0 : Nat)) l)) (1 : Nat) (0 : Int) ∧ List.getD (List.take (2 : Nat) (List.drop (Int.toNat ((0 : Int) + (↑x : Int)) * (2 : Nat) + (0 : Nat)) l)) (0 : Nat) (0 : Int) * List.getD (cor l (Int.toNat ((↑x : Int) + (1 : Int)) % Int.toNat (↑n : Int))) (1 : Nat) (0 : Int) - List.getD (cor l (Int.toNat ((↑x : Int) + (1 : Int)) % Int.toNat (↑n : Int))) (0 : Nat) (0 : Int) * List.getD (List.take (2 : Nat) (List.drop (Int.toNat ((0 : Int) + (↑x : Int)) * (2 : Nat) + (0 : Nat)) l)) (1 : Nat) (0 : Int) ≤ (9223372036854775807 : Int)) ∧ ((-9223372036854775808 : Int) ≤ arS n l x + (List.getD (List.take (2 : Nat) (List.drop (Int.toNat ((0 : Int) + (↑x : Int)) * (2 : Nat) + (0 : Nat)) l)) (0 : Nat) (0 : Int) * List.getD (cor l (Int.toNat ((↑x : Int) + (1 : Int)) % Int.toNat (↑n : Int))) (1 : Nat) (0 : Int) - List.getD (cor l (Int.toNat ((↑x : Int) + (1 : Int)) % Int.toNat (↑n : Int))) (0 : Nat) (0 : Int) * List.getD (List.take (2 : Nat) (List.drop (Int.toNat ((0 : Int) + (↑x : Int)) * (2 : Nat) + (0 : Nat)) l)) (1 : Nat) (0 : Int)) ∧ arS n l x + (List.getD (List.take (2 : Nat) (List.drop (Int.toNat ((0 : Int) + (↑x : Int)) * (2 : Nat) + (0 : Nat)) l)) (0 : Nat) (0 : Int) * List.getD (cor l (Int.toNat ((↑x : Int) + (1 : Int)) % Int.toNat (↑n : Int))) (1 : Nat) (0 : Int) - List.getD (cor l (Int.toNat ((↑x : Int) + (1 : Int)) % Int.toNat (↑n : Int))) (0 : Nat) (0 : Int) * List.getD (List.take (2 : Nat) (List.drop (Int.toNat ((0 : Int) + (↑x : Int)) * (2 : Nat) + (0 : Nat)) l)) (1 : Nat) (0 : Int)) ≤ (9223372036854775807 : Int)) ∧ True ∧ True ∧ ((-9223372036854775808 : Int) ≤ (↑x : Int) + (1 : Int) ∧ (↑x : Int) + (1 : Int) ≤ (9223372036854775807 : Int)) ∧ True ∧ ∃ (y : Nat), y ≤ n ∧ n - y < n - x ∧ (Go.Sx.Cel.yld (3 : Nat) = Go.Sx.Cel.yld (3 : Nat) ∧ Go.Sx.Cel.ptr (2 : Nat) (0 : Nat) = Go.Sx.Cel.ptr (2 : Nat) (0 : Nat) ∧ Go.Sx.Cel.val Go.undef = Go.Sx.Cel.val Go.undef ∧ True ∧ True ∧ Go.Sx.Cel.slc (0 : Nat) (0 : Nat) (0 : Int) (2 : Nat) (↑n : Int) cap = Go.Sx.Cel.slc (0 : Nat) (0 : Nat) (0 : Int) (2 : Nat) (↑n : Int) cap ∧ (Go.IntKind.i64 = Go.IntKind.i64 ∧ (↑n : Int) = (↑n : Int)) ∧ (Go.IntKind.i64 = Go.IntKind.i64 ∧ (↑x : Int) + (1 : Int) = (↑y : Int)) ∧ True ∧ True ∧ True ∧ True ∧ True ∧ True ∧ True ∧ True ∧ True ∧ True ∧ True ∧ True ∧ True ∧ True) ∧ (Bool.false = Bool.false ∧ (66 : Nat) = (66 : Nat) ∧ ([Go.Sx.EK.i16] = [Go.Sx.EK.i16] ∧ m = m ∧ l = l) ∧ True) ∧ (Bool.true = Bool.true ∧ (2 : Nat) = (2 : Nat) ∧ (Go.IntKind.i64 = Go.IntKind.i64 ∧ arS n l x + (List.getD (List.take (2 : Nat) (List.drop (Int.toNat ((0 : Int) + (↑x : Int)) * (2 : Nat) + (0 : Nat)) l)) (0 : Nat) (0 : Int) * List.getD (cor l (Int.toNat ((↑x : Int) + (1 : Int)) % Int.toNat (↑n : Int))) (1 : Nat) (0 : Int) - List.getD (cor l (Int.toNat ((↑x : Int) + (1 : Int)) % Int.toNat (↑n : Int))) (0 : Nat) (0 : Int) * List.getD (List.take (2 : Nat) (List.drop (Int.toNat ((0 : Int) + (↑x : Int)) * (2 : Nat) + (0 : Nat)) l)) (1 : Nat) (0 : Int)) = arS n l y) ∧ True) ∧ (Bool.true = Bool.true ∧ (27 : Nat) = (27 : Nat) ∧ Go.Sx.Cel.slc (0 : Nat) (0 : Nat) (0 : Int) (2 : Nat) (↑n : Int) cap = Go.Sx.Cel.slc (0 : Nat) (0 : Nat) (0 : Int) (2 : Nat) (↑n : Int) cap ∧ True) ∧ (Go.LoopState.ready = Go.LoopState.ready ∧ (Option.none : Option Go.Code) = Option.none) ∧ True) ∧ (Decidable.decide ((↑x : Int) < (↑n : Int)) = Bool.false → True ∧ True ∧ Go.IntKind.i64 = Go.IntKind.i64 ∧ arS n l x = arS n l n)) (by kernel_rfl) ?_
  have ec : ∀ i, List.take 2 (List.drop (i * 2) l) = cor l i := fun _ => rfl
  simp only [true_and, and_true, and_self, decide_eq_true_eq, decide_eq_false_iff_not, Bool.not_eq_true', Bool.not_eq_false', Bool.not_true, Bool.not_false, beq_iff_eq, beq_eq_false_iff_ne, bne_iff_ne, bne_eq_false_iff_eq, ne_eq, not_true_eq_false, not_false_eq_true, false_implies, true_implies, implies_true, forall_const, exists_const, ↓reduceIte, Int.reduceEq, Int.toNat_natCast, Bool.false_eq_true, Bool.true_eq_false, reduceCtorEq, Int.zero_add, Nat.add_zero, ec, tmodN, Int.ofNat_eq_natCast]
  refine ⟨⟨0, by omega, rfl, rfl⟩, fun k hk => ⟨fun hlt => ?_, fun hge => by rw [show k = n by omega]⟩⟩
  have ek : ((k : Int) + 1).toNat = k + 1 := by omega
  simp only [ek]
  have hm : (k + 1) % n < n := Nat.mod_lt _ (by omega)
  obtain ⟨a1, a2, a3, a4⟩ := ok.pl k (by omega)
  obtain ⟨b1, b2, b3, b4⟩ := ok.pl _ hm
  have m1 := mul_bd (m := 1000) a1 a2 b3 b4
  have m2 := mul_bd (m := 1000) b1 b2 a3 a4
  obtain ⟨s1, s2⟩ := arS_bd ok k hk
  have hi := ok.hi
  exact ⟨⟨by omega, by omega⟩, ⟨by omega, by omega⟩, ⟨by omega, by omega⟩, ⟨by omega, by omega, h3, h4, by omega, by omega⟩, ⟨by omega, by omega⟩, ⟨by omega, by omega⟩, ⟨by omega, by omega⟩, ⟨by omega, by omega⟩, ⟨by omega, by omega⟩, ⟨by omega, by omega⟩, ⟨by omega, by omega⟩, ⟨by omega, by omega⟩, ⟨by omega, by omega⟩, k + 1, by omega, by omega, by omega, rfl⟩

def gArS : Entry := fun args H => match args with
  | [.a (.c (.slc id b z s len _))] => match getB H id with
    | .cells _ t [.run ks n l] => if t = 66 then some (b = 0 ∧ z = 0 ∧ s = 2 ∧ ks = [.i16] ∧ 0 ≤ len ∧ len ≤ 1048576 ∧ len.toNat * 2 ≤ n ∧ l.length = n ∧ OkP len.toNat l, .a (.c (.int .i64 (arS len.toNat l len.toNat)))) else none
    | _ => none
  | _ => none

theorem gArS_inv {args : List LV} {H : List Blk} {p : Prop} {r : LV} (he : gArS args H = some (p, r)) (hp : p) : ∃ (id m n : Nat) (o : Bool) (l : List Int) (cap : Int),
    args = [.a (.c (.slc id 0 0 2 n cap))] ∧ getB H id = .cells o 66 [.run [.i16] m l] ∧ r = .a (.c (.int .i64 (arS n l n))) ∧ n ≤ 1048576 ∧ n * 2 ≤ m ∧ l.length = m ∧ OkP n l := by
  unfold gArS at he
  split at he
  · split at he
    · rename_i id b z s len cap _ o t ks m l hg
      split at he
      · rename_i ht
        subst ht
        simp only [Option.some.injEq, Prod.mk.injEq] at he
        obtain ⟨rfl, rfl⟩ := he
        obtain ⟨rfl, rfl, rfl, rfl, h1, h2, h3, h4, h5⟩ := hp
        obtain ⟨n, rfl⟩ := Int.eq_ofNat_of_zero_le h1
        exact ⟨id, m, n, o, l, cap, rfl, hg, rfl, by omega, by simpa using h3, h4, by simpa using h5⟩
      · simp at he
    · simp at he
  · simp at he

theorem e_l03Area : EntryOk Tryd.prog (TT e) 53 gArS := by
  refine ⟨fnOk Tryd.func53 (by kernel_rfl) rfl, ?_⟩
  intro args H p r he hp n0 w0 β w vals hG hH hA
  obtain ⟨id, m, n, o, l, cap, rfl, hg, rfl, h1, h2, h3, h4⟩ := gArS_inv he hp
  exact entry_view tt_ok (inlN_ok tt_ok C0_ok mixed ILa_ok.ok 4) C0_ok mixed Tryd.func53 [id] (x_l03Area m n l cap h1 h2 h3 h4) rfl rfl ⟨.inr (by rw [hg]; rfl), trivial⟩ hG hH hA

theorem e_areaTwice : EntryOk Tryd.prog (TT e) 56 gArS := by
  refine ⟨fnOk Tryd.func56 (by kernel_rfl) rfl, ?_⟩
  intro args H p r he hp n0 w0 β w vals hG hH hA
  obtain ⟨id, m, n, o, l, cap, rfl, hg, rfl, h1, h2, h3, h4⟩ := gArS_inv he hp
  exact entry_view tt_ok (inlN_ok tt_ok Ca_ok mixed ILe_ok.ok 4) Ca_ok mixed Tryd.func56 [id] (x_areaTwice m n l cap h1 h2 h3 h4) rfl rfl ⟨.inr (by rw [hg]; rfl), trivial⟩ hG hH hA

noncomputable def Er : List (FuncId × Entry) := (53, gArS) :: (56, gArS) :: Ev
theorem Er_ok : EntriesOk Tryd.prog (TT e) Er := ⟨e_l03Area, e_areaTwice, Ev_ok⟩
noncomputable abbrev Cr : Ctr := ctrOfM Er Mv
theorem Cr_ok : CtrOk Tryd.prog (TT e) Cr := ctrOfM_ok Er_ok Mv_ok

noncomputable def arV (n : Nat) (l : List Int) : Int := if okB n l = true then arS n l n else 0
noncomputable def arE (n : Nat) (l : List Int) : Int := if okB n l = true then 0 else 1

noncomputable def ILr : List (FuncId × Func × (Nat → LM)) := [
  (55, Tryd.f55, U0)]
theorem ILr_ok : InlsOk Tryd.prog ILr := ⟨⟨Tryd.func55, by kernel_rfl⟩, trivial⟩

theorem x_sA (m n : Nat) (l : List Int) (cap : Int) (h1 : n ≤ 1048576) (h3 : n * 2 ≤ m) (h4 : l.length = m) (hw : wfl (n * 2) l) : Fex true (TT e) (inlN true (TT e) Cr (lookI ILr) 4) Cr U0 Tryd.f16 [.a (.c (.slc 0 0 0 2 n cap))] [.cells false 66 [.run [.i16] m l]] (fun lv _ => leL lv (.tup [.c (.int .i64 (arV n l)), .c (.int .i64 (arE n l))])) := by
  refine Go.Sx.by_eq (q := True ∧ True ∧ True ∧ ((0 : Nat) = (0 : Nat) ∧ (0 : Int) = (0 : Int) ∧ (2 : Nat) = (2 : Nat) ∧ [Go.Sx.EK.i16] = [Go.Sx.EK.i16] ∧ (0 : Int) ≤ (↑n : Int) ∧ (↑n : Int) ≤ (1048576 : Int) ∧ Int.toNat (↑n : Int) * (2 : Nat) ≤ m ∧ List.length l = m ∧ ∀ (i : Nat), i < Int.toNat (↑n : Int) * (2 : Nat) → (-32768 : Int) ≤ List.getD l i (0 : Int) ∧ List.getD l i (0 : Int) ≤ (32767 : Int)) ∧ True ∧ ((!okB (Int.toNat (↑n : Int)) l) = Bool.true → True ∧ True ∧ (Go.IntKind.i64 = Go.IntKind.i64 ∧ (0 : Int) = arV n l) ∧ (Go.IntKind.i64 = Go.IntKind.i64 ∧ (1 : Int) = arE n l) ∧ True) ∧ ((!okB (Int.toNat (↑n : Int)) l) = Bool.false → True ∧ ((0 : Nat) = (0 : Nat) ∧ (0 : Int) = (0 : Int) ∧ (2 : Nat) = (2 : Nat) ∧ [Go.Sx.EK.i16] = [Go.Sx.EK.i16] ∧ (0 : Int) ≤ (↑n : Int) ∧ (↑n : Int) ≤ (1048576 : Int) ∧ Int.toNat (↑n : Int) * (2 : Nat) ≤ m ∧ List.length l = m ∧ OkP (Int.toNat (↑n : Int)) l) ∧ True ∧ True ∧ (Go.IntKind.i64 = Go.IntKind.i64 ∧ arS (Int.toNat (↑n : Int)) l (Int.toNat (↑n : Int)) = arV n l) ∧ (Go.IntKind.i64 = Go.IntKind.i64 ∧ (0 : Int) = arE n l) ∧ True)) (by kernel_rfl) ?_
  simp only [true_and, and_true, and_self, decide_eq_true_eq, decide_eq_false_iff_not, Bool.not_eq_true', Bool.not_eq_false', Bool.not_true, Bool.not_false, beq_iff_eq, beq_eq_false_iff_ne, bne_iff_ne, bne_eq_false_iff_eq, ne_eq, not_true_eq_false, not_false_eq_true, false_implies, true_implies, implies_true, forall_const, exists_const, ↓reduceIte, Int.reduceEq, Int.toNat_natCast, Bool.false_eq_true, Bool.true_eq_false, reduceCtorEq, arV, arE]
  refine ⟨⟨by omega, by omega, h3, h4, hw⟩, fun hb => ?_, fun hb => ?_⟩
  · rw [hb]; exact ⟨rfl, rfl⟩
  · rw [hb]; exact ⟨⟨by omega, by omega, h3, h4, okB_t.1 hb⟩, rfl, rfl⟩

theorem x_iA (m n : Nat) (l : List Int) (cap : Int) (h1 : n ≤ 1048576) (h3 : n * 2 ≤ m) (h4 : l.length = m) (hw : wfl (n * 2) l) : Fex true (TT e) (inlN true (TT e) Cr (lookI ILr) 4) Cr U0 Tryd.f18 [.a (.c (.slc 0 0 0 2 n cap))] [.cells false 66 [.run [.i16] m l]] (fun lv _ => leL lv (.tup [.c (.int .i64 (arV n l)), .c (.int .i64 (arE n l))])) := by
  refine Go.Sx.by_eq (q := True ∧ True ∧ True ∧ True ∧ True ∧ True ∧ ((0 : Nat) = (0 : Nat) ∧ (0 : Int) = (0 : Int) ∧ (2 : Nat) = (2 : Nat) ∧ [Go.Sx.EK.i16] = [Go.Sx.EK.i16] ∧ (0 : Int) ≤ (↑n : Int) ∧ (↑n : Int) ≤ (1048576 : Int) ∧ Int.toNat (↑n : Int) * (2 : Nat) ≤ m ∧ List.length l = m ∧ ∀ (i : Nat), i < Int.toNat (↑n : Int) * (2 : Nat) → (-32768 : Int) ≤ List.getD l i (0 : Int) ∧ List.getD l i (0 : Int) ≤ (32767 : Int)) ∧ True ∧ ((!okB (Int.toNat (↑n : Int)) l) = Bool.true → True ∧ True ∧ True ∧ True ∧ True ∧ True ∧ True ∧ True ∧ (Go.IntKind.i64 = Go.IntKind.i64 ∧ (0 : Int) = arV n l) ∧ (Go.IntKind.i64 = Go.IntKind.i64 ∧ (1 : Int) = arE n l) ∧ True) ∧ ((!okB (Int.toNat (↑n : Int)) l) = Bool.false → True ∧ True ∧ ((0 : Nat) = (0 : Nat) ∧ (0 : Int) = (0 : Int) ∧ (2 : Nat) = (2 : Nat) ∧ [Go.Sx.EK.i16] = [Go.Sx.EK.i16] ∧ (0 : Int) ≤ (↑n : Int) ∧ (↑n : Int) ≤ (1048576 : Int) ∧ Int.toNat (↑n : Int) * (2 : Nat) ≤ m ∧ List.length l = m ∧ OkP (Int.toNat (↑n : Int)) l) ∧ True ∧ True ∧ True ∧ True ∧ True ∧ True ∧ (Go.IntKind.i64 = Go.IntKind.i64 ∧ arS (Int.toNat (↑n : Int)) l (Int.toNat (↑n : Int)) = arV n l) ∧ (Go.IntKind.i64 = Go.IntKind.i64 ∧ (0 : Int) = arE n l) ∧ True)) (by kernel_rfl) ?_
  simp only [true_and, and_true, and_self, decide_eq_true_eq, decide_eq_false_iff_not, Bool.not_eq_true', Bool.not_eq_false', Bool.not_true, Bool.not_false, beq_iff_eq, beq_eq_false_iff_ne, bne_iff_ne, bne_eq_false_iff_eq, ne_eq, not_true_eq_false, not_false_eq_true, false_implies, true_implies, implies_true, forall_const, exists_const, ↓reduceIte, Int.reduceEq, Int.toNat_natCast, Bool.false_eq_true, Bool.true_eq_false, reduceCtorEq, arV, arE]
  refine ⟨⟨by omega, by omega, h3, h4, hw⟩, fun hb => ?_, fun hb => ?_⟩
  · rw [hb]; exact ⟨rfl, rfl⟩
  · rw [hb]; exact ⟨⟨by omega, by omega, h3, h4, okB_t.1 hb⟩, rfl, rfl⟩


noncomputable def gArT : Entry := fun args H => match args with
  | [.a (.c (.slc id b z s len _))] => match getB H id with
    | .cells _ t [.run ks n l] => if t = 66 then some (b = 0 ∧ z = 0 ∧ s = 2 ∧ ks = [.i16] ∧ 0 ≤ len ∧ len ≤ 1048576 ∧ len.toNat * 2 ≤ n ∧ l.length = n ∧ wfl (len.toNat * 2) l, .tup [.c (.int .i64 (arV len.toNat l)), .c (.int .i64 (arE len.toNat l))]) else none
    | _ => none
  | _ => none

theorem gArT_inv {args : List LV} {H : List Blk} {p : Prop} {r : LV} (he : gArT args H = some (p, r)) (hp : p) : ∃ (id m n : Nat) (o : Bool) (l : List Int) (cap : Int),
    args = [.a (.c (.slc id 0 0 2 n cap))] ∧ getB H id = .cells o 66 [.run [.i16] m l] ∧ r = .tup [.c (.int .i64 (arV n l)), .c (.int .i64 (arE n l))] ∧ n ≤ 1048576 ∧ n * 2 ≤ m ∧ l.length = m ∧ wfl (n * 2) l := by
  unfold gArT at he
  split at he
  · split at he
    · rename_i id b z s len cap _ o t ks m l hg
      split at he
      · rename_i ht
        subst ht
        simp only [Option.some.injEq, Prod.mk.injEq] at he
        obtain ⟨rfl, rfl⟩ := he
        obtain ⟨rfl, rfl, rfl, rfl, h1, h2, h3, h4, h5⟩ := hp
        obtain ⟨n, rfl⟩ := Int.eq_ofNat_of_zero_le h1
        exact ⟨id, m, n, o, l, cap, rfl, hg, rfl, by omega, by simpa using h3, h4, by simpa using h5⟩
      · simp at he
    · simp at he
  · simp at he

theorem e_sA : EntryOk Tryd.prog (TT e) 16 gArT := by
  refine ⟨fnOk Tryd.func16 (by kernel_rfl) rfl, ?_⟩
  intro args H p r he hp n0 w0 β w vals hG hH hA
  obtain ⟨id, m, n, o, l, cap, rfl, hg, rfl, h1, h2, h3, h4⟩ := gArT_inv he hp
  exact entry_view tt_ok (inlN_ok tt_ok Cr_ok mixed ILr_ok.ok 4) Cr_ok mixed Tryd.func16 [id] (x_sA m n l cap h1 h2 h3 h4) rfl rfl ⟨.inr (by rw [hg]; rfl), trivial⟩ hG hH hA

theorem e_iA : EntryOk Tryd.prog (TT e) 18 gArT := by
  refine ⟨fnOk Tryd.func18 (by kernel_rfl) rfl, ?_⟩
  intro args H p r he hp n0 w0 β w vals hG hH hA
  obtain ⟨id, m, n, o, l, cap, rfl, hg, rfl, h1, h2, h3, h4⟩ := gArT_inv he hp
  exact entry_view tt_ok (inlN_ok tt_ok Cr_ok mixed ILr_ok.ok 4) Cr_ok mixed Tryd.func18 [id] (x_iA m n l cap h1 h2 h3 h4) rfl rfl ⟨.inr (by rw [hg]; rfl), trivial⟩ hG hH hA

noncomputable def Et : List (FuncId × Entry) := (16, gArT) :: (18, gArT) :: Er
theorem Et_ok : EntriesOk Tryd.prog (TT e) Et := ⟨e_sA, e_iA, Er_ok⟩
noncomputable abbrev Ct : Ctr := ctrOfM Et Mv
theorem Ct_ok : CtrOk Tryd.prog (TT e) Ct := ctrOfM_ok Et_ok Mv_ok

end Go.Proofs.YtkiblfgekojnoaaDoor
