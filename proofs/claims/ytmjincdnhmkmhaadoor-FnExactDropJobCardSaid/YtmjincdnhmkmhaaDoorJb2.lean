/- The first order of jobs: both sides. No conditions beyond the ranges of the kinds. -/
import Derived.Test.YtmjincdnhmkmhaaDoorJb1
import Derived.Test.YtmjincdnhmkmhaaDoorGqs
set_option linter.unusedSimpArgs false
set_option linter.unusedVariables false
namespace Go.Proofs.YtmjincdnhmkmhaaDoor
open Go.Sx Go.RowKit

/-- A number that a block holds: for annotations. -/
def Hb.slN (st : St) (id : Nat) : Int := match getB st.heap id with
  | .cells _ _ (.int _ n :: _) => n
  | .cells _ _ (.lit _ n :: _) => n
  | _ => 0

/-! ### The program's -/
def lmOdI (n : Nat) (l : List Int) : LAnn := { ι := Nat × Nat × List Int × Int, inv := fun _ x => x.1 ≤ n ∧ Gq 1 (od l n x.1).1.length (odI l n x.1) x.2.1 x.2.2.1 x.2.2.2, slots := fun _ x => [(8, .a (.c (.int .i64 x.1)))], blks := fun _ x => [(1, [.slc 3 0 0 1 (od l n x.1).1.length x.2.2.2]), (2, [.int .u16 (od l n x.1).2])], μ := fun _ x => n - x.1, kills := [], frs := fun _ x => [.cells true 2 [.run [.i64] x.2.1 x.2.2.1]], mv := fun st => [cellB st 1 0] }
def lmJbN (n : Nat) (l : List Int) : LAnn := { ι := Nat, inv := fun st k => k ≤ 12 ∧ ∀ j, j < k → (decide (j < n) && nxB l (Hb.slN st 2).toNat j) = false, slots := fun _ k => [(4, .a (.c (.int .i64 k)))], blks := fun _ _ => [], μ := fun _ k => 12 - k }
noncomputable def ILod (n : Nat) (l : List Int) : List (FuncId × Func × (Nat → LM)) := [
  (38, Tryd.f38, U0),
  (43, Tryd.f43, U0),
  (45, Tryd.f45, U0),
  (47, Tryd.f47, fun _ => .inv (lmJbN n l))]
theorem ILod_ok {n : Nat} {l : List Int} : InlsOk Tryd.prog (ILod n l) := ⟨⟨Tryd.func38, by kernel_rfl⟩, ⟨Tryd.func43, by kernel_rfl⟩, ⟨Tryd.func45, by kernel_rfl⟩, ⟨Tryd.func47, by kernel_rfl⟩, trivial⟩

theorem x_order (m n : Nat) (l : List Int) (cap : Int) (q : Jl n m l) : Fex true TT (inlN true TT Cj1 (lookI (ILod n l)) 6) Cj1 (fun _ => .inv (lmOdI n l)) Tryd.f32 [.a (.c (.slc 0 0 0 2 n cap))] [.cells false 53 [.run [.i64, .u16] m l]]
    (fun lv H' => ∃ x : Nat × List Int × Int, Gq 1 (od l n n).1.length (odI l n n) x.1 x.2.1 x.2.2 ∧ leSt ⟨[lv], H'⟩ ⟨[rnL ([0].length + ·) (.a (.c (.slc 0 0 0 1 (od l n n).1.length x.2.2)))], deadsN [0].length ++ [.cells true 2 [.run [.i64] x.1 x.2.1]]⟩ [0].length (resB lv)) := by
  refine Go.Sx.by_eq (q := True ∧ True ∧ True ∧ True ∧ True ∧ True ∧ True ∧ (∃ (x : Nat × Nat × List Int × Int), (x.fst ≤ n ∧ Gq (1 : Nat) (List.length (od l n x.fst).fst) (odI l n x.fst) x.snd.fst x.snd.snd.fst x.snd.snd.snd) ∧ (Cel.slc (0 : Nat) (0 : Nat) (0 : Int) (2 : Nat) (↑n : Int) cap = Cel.slc (0 : Nat) (0 : Nat) (0 : Int) (2 : Nat) (↑n : Int) cap ∧ Cel.val Go.undef = Cel.val Go.undef ∧ Cel.val (Go.Value.slice Option.none (0 : Nat) (0 : Nat)) = Cel.val (Go.Value.slice Option.none (0 : Nat) (0 : Nat)) ∧ Cel.ptr (1 : Nat) (0 : Nat) = Cel.ptr (1 : Nat) (0 : Nat) ∧ Cel.ptr (2 : Nat) (0 : Nat) = Cel.ptr (2 : Nat) (0 : Nat) ∧ True ∧ Cel.slc (0 : Nat) (0 : Nat) (0 : Int) (2 : Nat) (↑n : Int) cap = Cel.slc (0 : Nat) (0 : Nat) (0 : Int) (2 : Nat) (↑n : Int) cap ∧ (IntKind.i64 = IntKind.i64 ∧ (↑n : Int) = (↑n : Int)) ∧ (IntKind.i64 = IntKind.i64 ∧ (0 : Int) = (↑x.fst : Int)) ∧ True ∧ True ∧ True ∧ True ∧ Cel.val Go.undef = Cel.val Go.undef ∧ True ∧ True ∧ True ∧ True ∧ True ∧ True ∧ True ∧ True ∧ True ∧ Cel.val Go.undef = Cel.val Go.undef ∧ True) ∧ (Bool.false = Bool.false ∧ (53 : Nat) = (53 : Nat) ∧ ([EK.i64, EK.u16] = [EK.i64, EK.u16] ∧ m = m ∧ l = l) ∧ True) ∧ (Bool.true = Bool.true ∧ (65 : Nat) = (65 : Nat) ∧ ((0 : Int) = (0 : Int) ∧ (↑(List.length (od l n x.fst).fst) : Int) = (0 : Int) ∧ x.snd.snd.snd = (0 : Int)) ∧ True) ∧ (Bool.true = Bool.true ∧ (50 : Nat) = (50 : Nat) ∧ (IntKind.u16 = IntKind.u16 ∧ (0 : Int) = (↑(od l n x.fst).snd : Int)) ∧ True) ∧ (x.snd.fst = (0 : Nat) ∧ x.snd.snd.fst = []) ∧ True) ∧ ∀ (x : Nat × Nat × List Int × Int), x.fst ≤ n ∧ Gq (1 : Nat) (List.length (od l n x.fst).fst) (odI l n x.fst) x.snd.fst x.snd.snd.fst x.snd.snd.snd → True ∧ (Decidable.decide ((↑x.fst : Int) < (↑n : Int)) = Bool.true → True ∧ True ∧ True ∧ True ∧ True ∧ True ∧ True ∧ True ∧ True ∧ ((0 : Int) ≤ (↑n : Int) ∧ (↑n : Int) ≤ (12 : Int)) ∧ True ∧ True ∧ True ∧ True ∧ True ∧ (∃ (x_1 : Nat), (x_1 ≤ (12 : Nat) ∧ ∀ (j : Nat), j < x_1 → (Decidable.decide (j < n) && nxB l (Int.toNat (↑(od l n x.fst).snd : Int)) j) = Bool.false) ∧ (Cel.yld (9 : Nat) = Cel.yld (9 : Nat) ∧ Cel.ptr (8 : Nat) (0 : Nat) = Cel.ptr (8 : Nat) (0 : Nat) ∧ Cel.val Go.undef = Cel.val Go.undef ∧ True ∧ (IntKind.i64 = IntKind.i64 ∧ (0 : Int) = (↑x_1 : Int)) ∧ True ∧ True ∧ True ∧ True ∧ True ∧ True ∧ True ∧ True ∧ True ∧ True ∧ True ∧ True ∧ True) ∧ (Bool.false = Bool.false ∧ (53 : Nat) = (53 : Nat) ∧ ([EK.i64, EK.u16] = [EK.i64, EK.u16] ∧ m = m ∧ l = l) ∧ True) ∧ (Bool.true = Bool.true ∧ (65 : Nat) = (65 : Nat) ∧ Cel.slc (3 : Nat) (0 : Nat) (0 : Int) (1 : Nat) (↑(List.length (od l n x.fst).fst) : Int) x.snd.snd.snd = Cel.slc (3 : Nat) (0 : Nat) (0 : Int) (1 : Nat) (↑(List.length (od l n x.fst).fst) : Int) x.snd.snd.snd ∧ True) ∧ (Bool.true = Bool.true ∧ (50 : Nat) = (50 : Nat) ∧ (IntKind.u16 = IntKind.u16 ∧ (↑(od l n x.fst).snd : Int) = (↑(od l n x.fst).snd : Int)) ∧ True) ∧ (Bool.true = Bool.true ∧ (2 : Nat) = (2 : Nat) ∧ ([EK.i64] = [EK.i64] ∧ x.snd.fst = x.snd.fst ∧ x.snd.snd.fst = x.snd.snd.fst) ∧ True) ∧ (Bool.true = Bool.true ∧ (41 : Nat) = (41 : Nat) ∧ Cel.slc (0 : Nat) (0 : Nat) (0 : Int) (2 : Nat) (↑n : Int) cap = Cel.slc (0 : Nat) (0 : Nat) (0 : Int) (2 : Nat) (↑n : Int) cap ∧ True) ∧ (Bool.true = Bool.true ∧ (50 : Nat) = (50 : Nat) ∧ (IntKind.u16 = IntKind.u16 ∧ (↑(od l n x.fst).snd : Int) = (↑(od l n x.fst).snd : Int)) ∧ True) ∧ (Go.LoopState.ready = Go.LoopState.ready ∧ (Option.none : Option Go.Code) = Option.none) ∧ (Bool.true = Bool.true ∧ (47 : Nat) = (47 : Nat) ∧ Cel.yld (6 : Nat) = Cel.yld (6 : Nat) ∧ True) ∧ (Bool.true = Bool.true ∧ (50 : Nat) = (50 : Nat) ∧ (IntKind.u16 = IntKind.u16 ∧ (↑((2 : Nat) ^ Int.toNat (↑n : Int) - (1 : Nat)) : Int) = (↑((2 : Nat) ^ Int.toNat (↑n : Int) - (1 : Nat)) : Int)) ∧ True) ∧ (Go.LoopState.ready = Go.LoopState.ready ∧ (Option.none : Option Go.Code) = Option.none) ∧ True) ∧ ∀ (x_1 : Nat), (x_1 ≤ (12 : Nat) ∧ ∀ (j : Nat), j < x_1 → (Decidable.decide (j < n) && nxB l (Int.toNat (↑(od l n x.fst).snd : Int)) j) = Bool.false) → True ∧ (Decidable.decide ((↑x_1 : Int) < (12 : Int)) = Bool.true → True ∧ True ∧ True ∧ True ∧ (((0 : Int) ≤ (↑((2 : Nat) ^ Int.toNat (↑n : Int) - (1 : Nat)) : Int) ∧ (↑((2 : Nat) ^ Int.toNat (↑n : Int) - (1 : Nat)) : Int) ≤ (65535 : Int)) ∧ (0 : Int) ≤ (↑x_1 : Int) ∧ (↑x_1 : Int) < (16 : Int)) ∧ True ∧ (Nat.testBit (Int.toNat (↑((2 : Nat) ^ Int.toNat (↑n : Int) - (1 : Nat)) : Int)) (Int.toNat (↑x_1 : Int)) = Bool.true → True ∧ True ∧ True ∧ True ∧ True ∧ True ∧ (((53 : Nat) = (53 : Nat) ∧ (0 : Nat) = (0 : Nat) ∧ (0 : Int) = (0 : Int) ∧ (2 : Nat) = (2 : Nat) ∧ [EK.i64, EK.u16] = [EK.i64, EK.u16]) ∧ Jl (↑n : Int) m l ∧ ((0 : Int) ≤ (↑(od l n x.fst).snd : Int) ∧ (↑(od l n x.fst).snd : Int) ≤ (65535 : Int)) ∧ (0 : Int) ≤ (↑x_1 : Int) ∧ (↑x_1 : Int) < (16 : Int)) ∧ True ∧ ((Decidable.decide ((↑x_1 : Int) < (↑n : Int)) && nxB l (Int.toNat (↑(od l n x.fst).snd : Int)) (Int.toNat (↑x_1 : Int))) = Bool.true → True ∧ True ∧ True ∧ True ∧ True ∧ True ∧ ((Int.toNat (0 : Int) + Int.toNat (↑(List.length (od l n x.fst).fst) : Int)) * (1 : Nat) ≤ x.snd.fst ∧ (Int.toNat (0 : Int) + Int.toNat (↑(1 : Nat) : Int)) * (1 : Nat) ≤ (1 : Nat) ∧ ((↑(List.length (od l n x.fst).fst) : Int) + (↑(1 : Nat) : Int)) * (↑(8 : Nat) : Int) ≤ (140737488355328 : Int) ∧ (↑(List.length (od l n x.fst).fst) : Int) + (↑(1 : Nat) : Int) ≤ (9223372036854775807 : Int)) ∧ ((0 : Int) = (0 : Int) ∧ x.snd.fst = Int.toNat x.snd.snd.snd * (1 : Nat)) ∧ ∀ (n_1 : Nat) (L : List Int) (cap_1 : Int), (↑(List.length (od l n x.fst).fst) : Int) + (↑(1 : Nat) : Int) ≤ cap_1 → n_1 = Int.toNat cap_1 * (1 : Nat) → List.length L = n_1 → List.take (Int.toNat ((↑(List.length (od l n x.fst).fst) : Int) + (↑(1 : Nat) : Int)) * (1 : Nat)) L = List.take (Int.toNat (↑(List.length (od l n x.fst).fst) : Int) * (1 : Nat)) (List.drop (Int.toNat (0 : Int) * (1 : Nat)) x.snd.snd.fst) ++ List.take (Int.toNat (↑(1 : Nat) : Int) * (1 : Nat)) (List.drop (Int.toNat (0 : Int) * (1 : Nat)) [(↑x_1 : Int)]) → True ∧ True ∧ True ∧ ((0 : Int) ≤ (↑x_1 : Int) ∧ (↑x_1 : Int) < (16 : Int)) ∧ True ∧ True ∧ True ∧ True ∧ True ∧ True ∧ ((-9223372036854775808 : Int) ≤ (↑x.fst : Int) + (1 : Int) ∧ (↑x.fst : Int) + (1 : Int) ≤ (9223372036854775807 : Int)) ∧ True ∧ ∃ (y : Nat × Nat × List Int × Int), (y.fst ≤ n ∧ Gq (1 : Nat) (List.length (od l n y.fst).fst) (odI l n y.fst) y.snd.fst y.snd.snd.fst y.snd.snd.snd) ∧ n - y.fst < n - x.fst ∧ (Cel.slc (0 : Nat) (0 : Nat) (0 : Int) (2 : Nat) (↑n : Int) cap = Cel.slc (0 : Nat) (0 : Nat) (0 : Int) (2 : Nat) (↑n : Int) cap ∧ Cel.val Go.undef = Cel.val Go.undef ∧ Cel.val (Go.Value.slice Option.none (0 : Nat) (0 : Nat)) = Cel.val (Go.Value.slice Option.none (0 : Nat) (0 : Nat)) ∧ Cel.ptr (1 : Nat) (0 : Nat) = Cel.ptr (1 : Nat) (0 : Nat) ∧ Cel.ptr (2 : Nat) (0 : Nat) = Cel.ptr (2 : Nat) (0 : Nat) ∧ True ∧ Cel.slc (0 : Nat) (0 : Nat) (0 : Int) (2 : Nat) (↑n : Int) cap = Cel.slc (0 : Nat) (0 : Nat) (0 : Int) (2 : Nat) (↑n : Int) cap ∧ (IntKind.i64 = IntKind.i64 ∧ (↑n : Int) = (↑n : Int)) ∧ (IntKind.i64 = IntKind.i64 ∧ (↑x.fst : Int) + (1 : Int) = (↑y.fst : Int)) ∧ True ∧ True ∧ True ∧ True ∧ Cel.val Go.undef = Cel.val Go.undef ∧ True ∧ True ∧ True ∧ True ∧ True ∧ True ∧ True ∧ True ∧ True ∧ Cel.val Go.undef = Cel.val Go.undef ∧ True) ∧ (Bool.false = Bool.false ∧ (53 : Nat) = (53 : Nat) ∧ ([EK.i64, EK.u16] = [EK.i64, EK.u16] ∧ m = m ∧ l = l) ∧ True) ∧ (Bool.true = Bool.true ∧ (65 : Nat) = (65 : Nat) ∧ Cel.slc (11 : Nat) (0 : Nat) (0 : Int) (1 : Nat) ((↑(List.length (od l n x.fst).fst) : Int) + (↑(1 : Nat) : Int)) cap_1 = Cel.slc (11 : Nat) (0 : Nat) (0 : Int) (1 : Nat) (↑(List.length (od l n y.fst).fst) : Int) y.snd.snd.snd ∧ True) ∧ (Bool.true = Bool.true ∧ (50 : Nat) = (50 : Nat) ∧ (IntKind.u16 = IntKind.u16 ∧ bOr IntKind.u16 (↑(od l n x.fst).snd : Int) (↑((2 : Nat) ^ Int.toNat (↑x_1 : Int)) : Int) = (↑(od l n y.fst).snd : Int)) ∧ True) ∧ (Bool.true = Bool.true ∧ (2 : Nat) = (2 : Nat) ∧ ([EK.i64] = [EK.i64] ∧ n_1 = y.snd.fst ∧ L = y.snd.snd.fst) ∧ True) ∧ True) ∧ ((Decidable.decide ((↑x_1 : Int) < (↑n : Int)) && nxB l (Int.toNat (↑(od l n x.fst).snd : Int)) (Int.toNat (↑x_1 : Int))) = !Bool.true → True ∧ True ∧ True ∧ ((-9223372036854775808 : Int) ≤ (↑x_1 : Int) + (1 : Int) ∧ (↑x_1 : Int) + (1 : Int) ≤ (9223372036854775807 : Int)) ∧ True ∧ ∃ (y : Nat), (y ≤ (12 : Nat) ∧ ∀ (j : Nat), j < y → (Decidable.decide (j < n) && nxB l (Int.toNat (↑(od l n x.fst).snd : Int)) j) = Bool.false) ∧ (12 : Nat) - y < (12 : Nat) - x_1 ∧ (Cel.yld (9 : Nat) = Cel.yld (9 : Nat) ∧ Cel.ptr (8 : Nat) (0 : Nat) = Cel.ptr (8 : Nat) (0 : Nat) ∧ Cel.val Go.undef = Cel.val Go.undef ∧ True ∧ (IntKind.i64 = IntKind.i64 ∧ (↑x_1 : Int) + (1 : Int) = (↑y : Int)) ∧ True ∧ True ∧ True ∧ True ∧ True ∧ True ∧ True ∧ True ∧ True ∧ True ∧ True ∧ True ∧ True) ∧ (Bool.false = Bool.false ∧ (53 : Nat) = (53 : Nat) ∧ ([EK.i64, EK.u16] = [EK.i64, EK.u16] ∧ m = m ∧ l = l) ∧ True) ∧ (Bool.true = Bool.true ∧ (65 : Nat) = (65 : Nat) ∧ Cel.slc (3 : Nat) (0 : Nat) (0 : Int) (1 : Nat) (↑(List.length (od l n x.fst).fst) : Int) x.snd.snd.snd = Cel.slc (3 : Nat) (0 : Nat) (0 : Int) (1 : Nat) (↑(List.length (od l n x.fst).fst) : Int) x.snd.snd.snd ∧ True) ∧ (Bool.true = Bool.true ∧ (50 : Nat) = (50 : Nat) ∧ (IntKind.u16 = IntKind.u16 ∧ (↑(od l n x.fst).snd : Int) = (↑(od l n x.fst).snd : Int)) ∧ True) ∧ (Bool.true = Bool.true ∧ (2 : Nat) = (2 : Nat) ∧ ([EK.i64] = [EK.i64] ∧ x.snd.fst = x.snd.fst ∧ x.snd.snd.fst = x.snd.snd.fst) ∧ True) ∧ (Bool.true = Bool.true ∧ (41 : Nat) = (41 : Nat) ∧ Cel.slc (0 : Nat) (0 : Nat) (0 : Int) (2 : Nat) (↑n : Int) cap = Cel.slc (0 : Nat) (0 : Nat) (0 : Int) (2 : Nat) (↑n : Int) cap ∧ True) ∧ (Bool.true = Bool.true ∧ (50 : Nat) = (50 : Nat) ∧ (IntKind.u16 = IntKind.u16 ∧ (↑(od l n x.fst).snd : Int) = (↑(od l n x.fst).snd : Int)) ∧ True) ∧ (Go.LoopState.ready = Go.LoopState.ready ∧ (Option.none : Option Go.Code) = Option.none) ∧ (Bool.true = Bool.true ∧ (47 : Nat) = (47 : Nat) ∧ Cel.yld (6 : Nat) = Cel.yld (6 : Nat) ∧ True) ∧ (Bool.true = Bool.true ∧ (50 : Nat) = (50 : Nat) ∧ (IntKind.u16 = IntKind.u16 ∧ (↑((2 : Nat) ^ Int.toNat (↑n : Int) - (1 : Nat)) : Int) = (↑((2 : Nat) ^ Int.toNat (↑n : Int) - (1 : Nat)) : Int)) ∧ True) ∧ (Go.LoopState.ready = Go.LoopState.ready ∧ (Option.none : Option Go.Code) = Option.none) ∧ True)) ∧ (Nat.testBit (Int.toNat (↑((2 : Nat) ^ Int.toNat (↑n : Int) - (1 : Nat)) : Int)) (Int.toNat (↑x_1 : Int)) = !Bool.true → True ∧ ((-9223372036854775808 : Int) ≤ (↑x_1 : Int) + (1 : Int) ∧ (↑x_1 : Int) + (1 : Int) ≤ (9223372036854775807 : Int)) ∧ True ∧ ∃ (y : Nat), (y ≤ (12 : Nat) ∧ ∀ (j : Nat), j < y → (Decidable.decide (j < n) && nxB l (Int.toNat (↑(od l n x.fst).snd : Int)) j) = Bool.false) ∧ (12 : Nat) - y < (12 : Nat) - x_1 ∧ (Cel.yld (9 : Nat) = Cel.yld (9 : Nat) ∧ Cel.ptr (8 : Nat) (0 : Nat) = Cel.ptr (8 : Nat) (0 : Nat) ∧ Cel.val Go.undef = Cel.val Go.undef ∧ True ∧ (IntKind.i64 = IntKind.i64 ∧ (↑x_1 : Int) + (1 : Int) = (↑y : Int)) ∧ True ∧ True ∧ True ∧ True ∧ True ∧ True ∧ True ∧ True ∧ True ∧ True ∧ True ∧ True ∧ True) ∧ (Bool.false = Bool.false ∧ (53 : Nat) = (53 : Nat) ∧ ([EK.i64, EK.u16] = [EK.i64, EK.u16] ∧ m = m ∧ l = l) ∧ True) ∧ (Bool.true = Bool.true ∧ (65 : Nat) = (65 : Nat) ∧ Cel.slc (3 : Nat) (0 : Nat) (0 : Int) (1 : Nat) (↑(List.length (od l n x.fst).fst) : Int) x.snd.snd.snd = Cel.slc (3 : Nat) (0 : Nat) (0 : Int) (1 : Nat) (↑(List.length (od l n x.fst).fst) : Int) x.snd.snd.snd ∧ True) ∧ (Bool.true = Bool.true ∧ (50 : Nat) = (50 : Nat) ∧ (IntKind.u16 = IntKind.u16 ∧ (↑(od l n x.fst).snd : Int) = (↑(od l n x.fst).snd : Int)) ∧ True) ∧ (Bool.true = Bool.true ∧ (2 : Nat) = (2 : Nat) ∧ ([EK.i64] = [EK.i64] ∧ x.snd.fst = x.snd.fst ∧ x.snd.snd.fst = x.snd.snd.fst) ∧ True) ∧ (Bool.true = Bool.true ∧ (41 : Nat) = (41 : Nat) ∧ Cel.slc (0 : Nat) (0 : Nat) (0 : Int) (2 : Nat) (↑n : Int) cap = Cel.slc (0 : Nat) (0 : Nat) (0 : Int) (2 : Nat) (↑n : Int) cap ∧ True) ∧ (Bool.true = Bool.true ∧ (50 : Nat) = (50 : Nat) ∧ (IntKind.u16 = IntKind.u16 ∧ (↑(od l n x.fst).snd : Int) = (↑(od l n x.fst).snd : Int)) ∧ True) ∧ (Go.LoopState.ready = Go.LoopState.ready ∧ (Option.none : Option Go.Code) = Option.none) ∧ (Bool.true = Bool.true ∧ (47 : Nat) = (47 : Nat) ∧ Cel.yld (6 : Nat) = Cel.yld (6 : Nat) ∧ True) ∧ (Bool.true = Bool.true ∧ (50 : Nat) = (50 : Nat) ∧ (IntKind.u16 = IntKind.u16 ∧ (↑((2 : Nat) ^ Int.toNat (↑n : Int) - (1 : Nat)) : Int) = (↑((2 : Nat) ^ Int.toNat (↑n : Int) - (1 : Nat)) : Int)) ∧ True) ∧ (Go.LoopState.ready = Go.LoopState.ready ∧ (Option.none : Option Go.Code) = Option.none) ∧ True)) ∧ (Decidable.decide ((↑x_1 : Int) < (12 : Int)) = Bool.false → ((-9223372036854775808 : Int) ≤ (↑x.fst : Int) + (1 : Int) ∧ (↑x.fst : Int) + (1 : Int) ≤ (9223372036854775807 : Int)) ∧ True ∧ ∃ (y : Nat × Nat × List Int × Int), (y.fst ≤ n ∧ Gq (1 : Nat) (List.length (od l n y.fst).fst) (odI l n y.fst) y.snd.fst y.snd.snd.fst y.snd.snd.snd) ∧ n - y.fst < n - x.fst ∧ (Cel.slc (0 : Nat) (0 : Nat) (0 : Int) (2 : Nat) (↑n : Int) cap = Cel.slc (0 : Nat) (0 : Nat) (0 : Int) (2 : Nat) (↑n : Int) cap ∧ Cel.val Go.undef = Cel.val Go.undef ∧ Cel.val (Go.Value.slice Option.none (0 : Nat) (0 : Nat)) = Cel.val (Go.Value.slice Option.none (0 : Nat) (0 : Nat)) ∧ Cel.ptr (1 : Nat) (0 : Nat) = Cel.ptr (1 : Nat) (0 : Nat) ∧ Cel.ptr (2 : Nat) (0 : Nat) = Cel.ptr (2 : Nat) (0 : Nat) ∧ True ∧ Cel.slc (0 : Nat) (0 : Nat) (0 : Int) (2 : Nat) (↑n : Int) cap = Cel.slc (0 : Nat) (0 : Nat) (0 : Int) (2 : Nat) (↑n : Int) cap ∧ (IntKind.i64 = IntKind.i64 ∧ (↑n : Int) = (↑n : Int)) ∧ (IntKind.i64 = IntKind.i64 ∧ (↑x.fst : Int) + (1 : Int) = (↑y.fst : Int)) ∧ True ∧ True ∧ True ∧ True ∧ Cel.val Go.undef = Cel.val Go.undef ∧ True ∧ True ∧ True ∧ True ∧ True ∧ True ∧ True ∧ True ∧ True ∧ Cel.val Go.undef = Cel.val Go.undef ∧ True) ∧ (Bool.false = Bool.false ∧ (53 : Nat) = (53 : Nat) ∧ ([EK.i64, EK.u16] = [EK.i64, EK.u16] ∧ m = m ∧ l = l) ∧ True) ∧ (Bool.true = Bool.true ∧ (65 : Nat) = (65 : Nat) ∧ Cel.slc (3 : Nat) (0 : Nat) (0 : Int) (1 : Nat) (↑(List.length (od l n x.fst).fst) : Int) x.snd.snd.snd = Cel.slc (3 : Nat) (0 : Nat) (0 : Int) (1 : Nat) (↑(List.length (od l n y.fst).fst) : Int) y.snd.snd.snd ∧ True) ∧ (Bool.true = Bool.true ∧ (50 : Nat) = (50 : Nat) ∧ (IntKind.u16 = IntKind.u16 ∧ (↑(od l n x.fst).snd : Int) = (↑(od l n y.fst).snd : Int)) ∧ True) ∧ (Bool.true = Bool.true ∧ (2 : Nat) = (2 : Nat) ∧ ([EK.i64] = [EK.i64] ∧ x.snd.fst = y.snd.fst ∧ x.snd.snd.fst = y.snd.snd.fst) ∧ True) ∧ True)) ∧ (Decidable.decide ((↑x.fst : Int) < (↑n : Int)) = Bool.false → True ∧ True ∧ ∃ (x_1 : Nat × List Int × Int), Gq (1 : Nat) (List.length (od l n n).fst) (odI l n n) x_1.fst x_1.snd.fst x_1.snd.snd ∧ (Cel.slc (3 : Nat) (0 : Nat) (0 : Int) (1 : Nat) (↑(List.length (od l n x.fst).fst) : Int) x.snd.snd.snd = Cel.slc (3 : Nat) (0 : Nat) (0 : Int) (1 : Nat) (↑(List.length (od l n n).fst) : Int) x_1.snd.snd ∧ True) ∧ True ∧ (Bool.true = Bool.true ∧ (2 : Nat) = (2 : Nat) ∧ ([EK.i64] = [EK.i64] ∧ x.snd.fst = x_1.fst ∧ x.snd.snd.fst = x_1.snd.fst) ∧ True) ∧ True)) (by kernel_rfl) ?_
  simp only [true_and, and_true, and_self, decide_eq_true_eq, decide_eq_false_iff_not, Bool.not_eq_true', Bool.not_eq_false', Bool.not_true, Bool.not_false, beq_iff_eq, beq_eq_false_iff_ne, bne_iff_ne, bne_eq_false_iff_eq, ne_eq, not_true_eq_false, not_false_eq_true, false_implies, true_implies, implies_true, forall_const, exists_const, ↓reduceIte, Int.reduceEq, Int.toNat_natCast, Bool.false_eq_true, Bool.true_eq_false, reduceCtorEq, Int.zero_add, Nat.add_zero, Nat.mul_one, Cel.slc.injEq, List.drop_zero, Int.toNat_zero, List.take_succ_cons, List.take_zero, Int.ofNat_eq_natCast, Nat.zero_add, Int.toNat_natCast, Nat.testBit_two_pow_sub_one]
  obtain ⟨_, q1, q2, q3, jw⟩ := id q
  refine ⟨⟨(0, 0, [], 0), ⟨by simp only; omega, Gq.nil⟩, rfl, ⟨rfl, rfl⟩, rfl, rfl, rfl⟩, ?_⟩
  rintro ⟨r, N, L, cp⟩ ⟨hr, g⟩
  simp only at hr g ⊢
  have hT := od_lt (l := l) (n := n) (r := r) (by omega)
  have pl := (od_p l n r).le
  have gr := g.room
  have ge := g.e
  rw [Nat.mul_one] at gr ge
  have hw := pow_lt16 (k := n) (by omega)
  refine ⟨fun hlt => ⟨by omega, ⟨0, ⟨by omega, fun j hj => by omega⟩, rfl⟩, ?_⟩, fun hge => ?_⟩
  · rintro k ⟨hk, hp⟩
    have stp : (decide (k < n) && nxB l (od l n r).2 k) = false → k < 12 → ∃ y : Nat, (y ≤ 12 ∧ ∀ j, j < y → (decide (j < n) && nxB l (od l n r).2 j) = false) ∧ 12 - y < 12 - k ∧ (k : Int) + 1 = (y : Int) := fun hno hk12 => ⟨k + 1, ⟨by omega, fun j hj => by
      rcases (show j < k ∨ j = k by omega) with h | rfl
      · exact hp j h
      · exact hno⟩, by omega, by omega⟩
    refine ⟨fun hk12 => ⟨⟨by omega, by omega⟩, fun hb => ⟨⟨q, by omega, by omega⟩, fun hy => ⟨by omega, ge, ?_⟩, fun hno => ?_⟩, fun hb => ?_⟩, fun hk12 => ?_⟩
    · intro n' L' cp' c1 c2 c3 c4
      rw [Bool.and_eq_true, decide_eq_true_eq] at hy
      have hkn : k < n := by omega
      have hnx : nx l n (od l n r).2 = some k := nx_is hkn hy.2 fun j hj => by
        have := hp j hj
        rwa [decide_eq_true (by omega), Bool.true_and] at this
      have eo := od_some hnx
      refine ⟨by omega, by omega, (r + 1, n', L', cp'), ⟨by simp only; omega, ?_⟩, by simp only; omega, by simp, ⟨?_, rfl⟩, ?_, rfl, rfl⟩
      · simp only
        rw [odI_push hnx, eo, List.length_append, List.length_singleton]
        have e : ((((od l n r).1.length : Int) + ((1 : Nat) : Int)).toNat) = (od l n r).1.length + 1 := by omega
        rw [e] at c4
        exact g.push (by omega) (by omega) c3 (by rw [Nat.mul_one, Nat.mul_one]; exact c4)
      · simp only
        rw [eo, List.length_append, List.length_singleton]; omega
      · simp only
        rw [eo, bOr16 hT (pow_lt16 (by omega))]
    · exact ⟨by omega, stp (by simpa using hno) (by omega)⟩
    · refine ⟨by omega, stp ?_ (by omega)⟩
      rw [decide_eq_false (by simpa using hb)]; rfl
    · have hnx : nx l n (od l n r).2 = none := nx_no fun j hj => by
        have := hp j (by omega)
        rwa [decide_eq_true hj, Bool.true_and] at this
      have eo := od_stay hnx 1
      refine ⟨by omega, (r + 1, N, L, cp), ⟨by simp only; omega, ?_⟩, by simp only; omega, by simp, ⟨?_, rfl⟩, ?_, rfl, rfl⟩
      · simp only
        rw [odI_stay hnx, eo]; exact g
      · simp only
        rw [eo]
      · simp only
        rw [eo]
  · obtain rfl : r = n := by omega
    exact ⟨(N, L, cp), g, ⟨rfl, rfl⟩, rfl, rfl⟩

def gOrdI : EntryC := fun args H K => match args with
  | [.a (.c (.slc id b z s len _))] => match getB H id with
    | .cells _ t [.run ks m l] => ((t = 53 ∧ b = 0 ∧ z = 0 ∧ s = 2 ∧ ks = [.i64, .u16]) ∧ Jl len m l) ∧
      withLenP H fun h => ∀ N L cp, Gq 1 (od l len.toNat len.toNat).1.length (odI l len.toNat len.toNat) N L cp → K (.a (.c (.slc h 0 0 1 (od l len.toNat len.toNat).1.length cp))) (H ++ [.cells true 2 [.run [.i64] N L]])
    | _ => Stuck "order"
  | [.a (.c (.val (.slice none 0 0)))] => withLenP H fun h => ∀ N L cp, Gq 1 0 [] N L cp → K (.a (.c (.slc h 0 0 1 0 cp))) (H ++ [.cells true 2 [.run [.i64] N L]])
  | _ => Stuck "order"

theorem x_order0 : Fex true TT (inlN true TT Cj1 (lookI ILz) 6) Cj1 (fun _ => .unroll 1) Tryd.f32 [.a (.c (.val (.slice none 0 0)))] []
    (fun lv H' => ∃ x : Nat × List Int × Int, Gq 1 0 [] x.1 x.2.1 x.2.2 ∧ leSt ⟨[lv], H'⟩ ⟨[rnL (([] : List Nat).length + ·) (.a (.c (.slc 0 0 0 1 0 x.2.2)))], deadsN ([] : List Nat).length ++ [.cells true 2 [.run [.i64] x.1 x.2.1]]⟩ ([] : List Nat).length (resB lv)) := by
  refine Go.Sx.by_eq (q := True ∧ True ∧ True ∧ True ∧ True ∧ True ∧ True ∧ True ∧ True ∧ True ∧ ∃ (x : Nat × List Int × Int), Gq (1 : Nat) (0 : Nat) [] x.fst x.snd.fst x.snd.snd ∧ (((0 : Int) = (0 : Int) ∧ (0 : Int) = (0 : Int) ∧ x.snd.snd = (0 : Int)) ∧ True) ∧ (x.fst = (0 : Nat) ∧ x.snd.fst = []) ∧ True) (by kernel_rfl) ?_
  simp only [true_and, and_true, and_self, decide_eq_true_eq, decide_eq_false_iff_not, Bool.not_eq_true', Bool.not_eq_false', Bool.not_true, Bool.not_false, beq_iff_eq, beq_eq_false_iff_ne, bne_iff_ne, bne_eq_false_iff_eq, ne_eq, not_true_eq_false, not_false_eq_true, false_implies, true_implies, implies_true, forall_const, exists_const, ↓reduceIte, Int.reduceEq, Int.toNat_natCast, Bool.false_eq_true, Bool.true_eq_false, reduceCtorEq]
  exact ⟨(0, [], 0), Gq.nil, by simp⟩

theorem e_order : EntryCOk Tryd.prog TT 32 gOrdI := by
  refine ⟨fnOk Tryd.func32 (by kernel_rfl) rfl, ?_⟩
  intro args H K h n0 w0 β w vals hG hH hA
  unfold gOrdI at h
  split at h
  · split at h
    · rename_i id b z s len cap _ o t ks m l hg
      obtain ⟨⟨⟨rfl, rfl, rfl, rfl, rfl⟩, q⟩, hk⟩ := h
      have hk := withLenP_sound hk
      obtain ⟨n, rfl⟩ := Int.eq_ofNat_of_zero_le q.lo
      refine (entry_fresh tt_ok (inlN_ok tt_ok Cj1_ok mixed (ILod_ok (n := n) (l := l)).ok 6) Cj1_ok mixed Tryd.func32 [id] (x_order m n l cap q) rfl (fun _ => rfl) (fun _ => rfl) ⟨.inr (by rw [hg]; rfl), trivial⟩ hG hH hA).mono ?_
      rintro e w' ⟨v, γ, x, rfl, h4, h5, h6⟩
      exact ⟨v, γ, _, _, rfl, hk _ _ _ h4, h5, h6⟩
    · exact h.elim
  · have hk := withLenP_sound h
    refine (entry_fresh tt_ok (inlN_ok tt_ok Cj1_ok mixed ILz_ok.ok 6) Cj1_ok mixed Tryd.func32 [] x_order0 rfl (fun _ => rfl) (fun _ => rfl) trivial hG hH (by rw [map_self _ fun c hc => rnL_in0 _ c (List.all_eq_true.1 (show (List.all _ (inL 0)) = true from rfl) c hc)]; exact hA)).mono ?_
    rintro e w' ⟨v, γ, x, rfl, h4, h5, h6⟩
    exact ⟨v, γ, _, _, rfl, hk _ _ _ h4, h5, h6⟩
  · exact h.elim

/-! ### The specification's -/
/-- The least one of the last ones that may be taken, or -1. -/
def dn (l : List Int) (n T : Nat) : Nat → Int
  | 0 => -1
  | k + 1 => if nxB l T (n - 1 - k) = true then ((n - 1 - k : Nat) : Int) else dn l n T k
theorem dn_p (l : List Int) (n T : Nat) : ∀ k, k ≤ n → (dn l n T k = -1 ∧ ∀ j, n - k ≤ j → j < n → nxB l T j = false) ∨ ∃ i : Nat, dn l n T k = (i : Int) ∧ n - k ≤ i ∧ i < n ∧ nxB l T i = true ∧ ∀ j, n - k ≤ j → j < i → nxB l T j = false
  | 0, _ => .inl ⟨rfl, fun j h1 h2 => by omega⟩
  | k + 1, hk => by
    unfold dn
    by_cases h : nxB l T (n - 1 - k) = true
    · rw [if_pos h]
      exact .inr ⟨n - 1 - k, rfl, by omega, by omega, h, fun j h1 h2 => by omega⟩
    · rw [if_neg h]
      have h := Bool.eq_false_iff.2 h
      rcases dn_p l n T k (by omega) with ⟨h1, h2⟩ | ⟨i, h1, h2, h3, h4, h5⟩
      · refine .inl ⟨h1, fun j g1 g2 => ?_⟩
        rcases (show n - k ≤ j ∨ j = n - 1 - k by omega) with g | rfl
        · exact h2 j g g2
        · exact h
      · refine .inr ⟨i, h1, by omega, h3, h4, fun j g1 g2 => ?_⟩
        rcases (show n - k ≤ j ∨ j = n - 1 - k by omega) with g | rfl
        · exact h5 j g g2
        · exact h
theorem dn_end {l : List Int} {n T : Nat} : (dn l n T n = -1 ∧ nx l n T = none) ∨ ∃ i : Nat, dn l n T n = (i : Int) ∧ nx l n T = some i := by
  rcases dn_p l n T n (Nat.le_refl _) with ⟨h1, h2⟩ | ⟨i, h1, h2, h3, h4, h5⟩
  · exact .inl ⟨h1, nx_no fun j hj => h2 j (by omega) hj⟩
  · exact .inr ⟨i, h1, nx_is h3 h4 fun j hj => h5 j (by omega) hj⟩

/-- What the order is: all of it, or nothing. -/
noncomputable def odV (l : List Int) (n : Nat) : List Int := open Classical in if ∀ k, k < n → k ∈ (od l n n).1 then odI l n n else []
noncomputable def odK (l : List Int) (n : Nat) : Nat := open Classical in if ∀ k, k < n → k ∈ (od l n n).1 then n else 0
noncomputable def odB (l : List Int) (n : Nat) : Bool := open Classical in decide (∀ k, k < n → k ∈ (od l n n).1)
theorem od_no {l : List Int} {n : Nat} (h : ¬ ∀ k, k < n → k ∈ (od l n n).1) : odK l n = 0 ∧ odV l n = [] ∧ odB l n = false := by
  refine ⟨?_, ?_, ?_⟩
  · rw [odK, if_neg h]
  · rw [odV, if_neg h]
  · rw [odB, decide_eq_false h]
theorem od_all {l : List Int} {n : Nat} (h : ∀ k, k < n → k ∈ (od l n n).1) : odK l n = n ∧ odV l n = odI l n n ∧ odB l n = true := by
  refine ⟨?_, ?_, ?_⟩
  · rw [odK, if_pos h]
  · rw [odV, if_pos h]
  · rw [odB, decide_eq_true h]
def lmOdS (n : Nat) (l : List Int) : LAnn := { ι := Nat × Nat × List Int × Int, inv := fun _ x => x.1 ≤ n ∧ (od l n x.1).1.length = x.1 ∧ Gq 1 x.1 (odI l n x.1) x.2.1 x.2.2.1 x.2.2.2, slots := fun _ x => [(4, .a (.c (.slc 2 0 0 1 x.1 x.2.2.2))), (5, .a (.c (.int .u16 (od l n x.1).2)))], blks := fun _ _ => [], μ := fun _ x => n - x.1, kills := [1], frs := fun _ x => [.cells true 2 [.run [.i64] x.2.1 x.2.2.1]], mv := fun st => [slotB st 4] }
def lmDn (n : Nat) (l : List Int) : LAnn := { ι := Nat, inv := fun _ k => k ≤ n, slots := fun st k => [(6, .a (.c (.int .i64 (dn l n (slotI st 5).toNat k)))), (7, .a (.c (.int .i64 ((n : Int) - 1 - k))))], blks := fun _ _ => [], μ := fun _ k => n - k }
theorem x_l07Order (m n : Nat) (l : List Int) (cap : Int) (q : Jl n m l) : Fex true TT (inlN true TT Cj1 (lookI ILz) 6) Cj1 (fun r => if r = 3 then .inv (lmOdS n l) else .inv (lmDn n l)) Tryd.f30 [.a (.c (.slc 0 0 0 2 n cap))] [.cells false 35 [.run [.i8, .u16] m l]]
    (fun lv H' => ∃ x : Nat × List Int × Int, Gq 1 (odK l n) (odV l n) x.1 x.2.1 x.2.2 ∧ leSt ⟨[lv], H'⟩ ⟨[rnL ([0].length + ·) (.tup [.c (.slc 0 0 0 1 (odK l n) x.2.2), .c (.bool (odB l n))])], deadsN [0].length ++ [.cells true 2 [.run [.i64] x.1 x.2.1]]⟩ [0].length (resB lv)) := by
  refine Go.Sx.by_eq (q := True ∧ True ∧ True ∧ True ∧ True ∧ (∃ (x : Nat × Nat × List Int × Int), (x.fst ≤ n ∧ List.length (od l n x.fst).fst = x.fst ∧ Gq (1 : Nat) x.fst (odI l n x.fst) x.snd.fst x.snd.snd.fst x.snd.snd.snd) ∧ (Cel.slc (0 : Nat) (0 : Nat) (0 : Int) (2 : Nat) (↑n : Int) cap = Cel.slc (0 : Nat) (0 : Nat) (0 : Int) (2 : Nat) (↑n : Int) cap ∧ Cel.val Go.undef = Cel.val Go.undef ∧ True ∧ True ∧ Cel.slc (1 : Nat) (0 : Nat) (0 : Int) (1 : Nat) (0 : Int) (0 : Int) = Cel.slc (1 : Nat) (0 : Nat) (0 : Int) (1 : Nat) (↑x.fst : Int) x.snd.snd.snd ∧ (IntKind.u16 = IntKind.u16 ∧ (0 : Int) = (↑(od l n x.fst).snd : Int)) ∧ True ∧ True ∧ Cel.slc (1 : Nat) (0 : Nat) (0 : Int) (1 : Nat) (0 : Int) (0 : Int) = Cel.slc (1 : Nat) (0 : Nat) (0 : Int) (1 : Nat) (0 : Int) (0 : Int) ∧ True ∧ True ∧ True ∧ True ∧ True ∧ True ∧ True ∧ True ∧ True ∧ True ∧ True ∧ True ∧ True ∧ True ∧ True ∧ True ∧ True ∧ True ∧ True ∧ True ∧ True ∧ True ∧ True ∧ True ∧ True ∧ True ∧ True ∧ True ∧ True ∧ True ∧ True ∧ True ∧ True ∧ True ∧ True ∧ True ∧ True ∧ True ∧ True ∧ True ∧ True ∧ Cel.val Go.undef = Cel.val Go.undef ∧ True) ∧ (Bool.false = Bool.false ∧ (35 : Nat) = (35 : Nat) ∧ ([EK.i8, EK.u16] = [EK.i8, EK.u16] ∧ m = m ∧ l = l) ∧ True) ∧ True ∧ (Bool.true = Bool.true ∧ (2 : Nat) = (2 : Nat) ∧ ([EK.i64] = [EK.i64] ∧ (0 : Nat) = x.snd.fst ∧ [] = x.snd.snd.fst) ∧ True) ∧ True) ∧ ∀ (x : Nat × Nat × List Int × Int), x.fst ≤ n ∧ List.length (od l n x.fst).fst = x.fst ∧ Gq (1 : Nat) x.fst (odI l n x.fst) x.snd.fst x.snd.snd.fst x.snd.snd.snd → True ∧ True ∧ True ∧ True ∧ True ∧ (Decidable.decide ((↑x.fst : Int) < (↑n : Int)) = Bool.true → True ∧ True ∧ True ∧ ((-9223372036854775808 : Int) ≤ (↑n : Int) - (1 : Int) ∧ (↑n : Int) - (1 : Int) ≤ (9223372036854775807 : Int)) ∧ True ∧ (∃ (x_1 : Nat), x_1 ≤ n ∧ (Cel.slc (0 : Nat) (0 : Nat) (0 : Int) (2 : Nat) (↑n : Int) cap = Cel.slc (0 : Nat) (0 : Nat) (0 : Int) (2 : Nat) (↑n : Int) cap ∧ Cel.val Go.undef = Cel.val Go.undef ∧ True ∧ True ∧ Cel.slc (2 : Nat) (0 : Nat) (0 : Int) (1 : Nat) (↑x.fst : Int) x.snd.snd.snd = Cel.slc (2 : Nat) (0 : Nat) (0 : Int) (1 : Nat) (↑x.fst : Int) x.snd.snd.snd ∧ (IntKind.u16 = IntKind.u16 ∧ (↑(od l n x.fst).snd : Int) = (↑(od l n x.fst).snd : Int)) ∧ (IntKind.i64 = IntKind.i64 ∧ (-1 : Int) = dn l n (Int.toNat (↑(od l n x.fst).snd : Int)) x_1) ∧ (IntKind.i64 = IntKind.i64 ∧ (↑n : Int) - (1 : Int) = (↑n : Int) - (1 : Int) - (↑x_1 : Int)) ∧ Cel.slc (1 : Nat) (0 : Nat) (0 : Int) (1 : Nat) (0 : Int) (0 : Int) = Cel.slc (1 : Nat) (0 : Nat) (0 : Int) (1 : Nat) (0 : Int) (0 : Int) ∧ Cel.slc (2 : Nat) (0 : Nat) (0 : Int) (1 : Nat) (↑x.fst : Int) x.snd.snd.snd = Cel.slc (2 : Nat) (0 : Nat) (0 : Int) (1 : Nat) (↑x.fst : Int) x.snd.snd.snd ∧ (IntKind.i64 = IntKind.i64 ∧ (↑x.fst : Int) = (↑x.fst : Int)) ∧ Cel.slc (0 : Nat) (0 : Nat) (0 : Int) (2 : Nat) (↑n : Int) cap = Cel.slc (0 : Nat) (0 : Nat) (0 : Int) (2 : Nat) (↑n : Int) cap ∧ (IntKind.i64 = IntKind.i64 ∧ (↑n : Int) = (↑n : Int)) ∧ Decidable.decide ((↑x.fst : Int) < (↑n : Int)) = Decidable.decide ((↑x.fst : Int) < (↑n : Int)) ∧ Cel.slc (0 : Nat) (0 : Nat) (0 : Int) (2 : Nat) (↑n : Int) cap = Cel.slc (0 : Nat) (0 : Nat) (0 : Int) (2 : Nat) (↑n : Int) cap ∧ (IntKind.i64 = IntKind.i64 ∧ (↑n : Int) = (↑n : Int)) ∧ (IntKind.i64 = IntKind.i64 ∧ (↑n : Int) - (1 : Int) = (↑n : Int) - (1 : Int)) ∧ True ∧ True ∧ True ∧ True ∧ True ∧ True ∧ True ∧ True ∧ True ∧ True ∧ True ∧ True ∧ True ∧ True ∧ True ∧ True ∧ True ∧ True ∧ True ∧ True ∧ True ∧ True ∧ True ∧ True ∧ True ∧ True ∧ True ∧ True ∧ True ∧ True ∧ True ∧ True ∧ True ∧ Cel.val Go.undef = Cel.val Go.undef ∧ True) ∧ (Bool.false = Bool.false ∧ (35 : Nat) = (35 : Nat) ∧ ([EK.i8, EK.u16] = [EK.i8, EK.u16] ∧ m = m ∧ l = l) ∧ True) ∧ True ∧ (Bool.true = Bool.true ∧ (2 : Nat) = (2 : Nat) ∧ ([EK.i64] = [EK.i64] ∧ x.snd.fst = x.snd.fst ∧ x.snd.snd.fst = x.snd.snd.fst) ∧ True) ∧ True) ∧ ∀ (x_1 : Nat), x_1 ≤ n → True ∧ True ∧ (Decidable.decide ((0 : Int) ≤ (↑n : Int) - (1 : Int) - (↑x_1 : Int)) = Bool.true → True ∧ True ∧ True ∧ ((0 : Int) ≤ IntKind.wrap IntKind.u64 ((↑n : Int) - (1 : Int) - (↑x_1 : Int)) ∧ Int.toNat (IntKind.wrap IntKind.u64 ((↑n : Int) - (1 : Int) - (↑x_1 : Int))) ≤ IntKind.bits IntKind.u16) ∧ (2 : Int) ≠ (0 : Int) ∧ True ∧ True ∧ ((Int.tmod (bShr (↑(od l n x.fst).snd : Int) (IntKind.wrap IntKind.u64 ((↑n : Int) - (1 : Int) - (↑x_1 : Int)))) (2 : Int) == (0 : Int)) = Bool.true → True ∧ True ∧ ((0 : Int) ≤ (↑n : Int) - (1 : Int) - (↑x_1 : Int) ∧ (↑n : Int) - (1 : Int) - (↑x_1 : Int) < (↑n : Int)) ∧ True ∧ ((0 : Int) ≤ (0 : Int) + ((↑n : Int) - (1 : Int) - (↑x_1 : Int)) ∧ Int.toNat ((0 : Int) + ((↑n : Int) - (1 : Int) - (↑x_1 : Int))) * (2 : Nat) + (1 : Nat) < m) ∧ True ∧ True ∧ True ∧ True ∧ ((bNot IntKind.u16 (List.getD l (Int.toNat ((0 : Int) + ((↑n : Int) - (1 : Int) - (↑x_1 : Int))) * (2 : Nat) + (1 : Nat)) (0 : Int)) (↑(od l n x.fst).snd : Int) == (0 : Int)) = Bool.true → True ∧ True ∧ True ∧ ((-9223372036854775808 : Int) ≤ (↑n : Int) - (1 : Int) - (↑x_1 : Int) - (1 : Int) ∧ (↑n : Int) - (1 : Int) - (↑x_1 : Int) - (1 : Int) ≤ (9223372036854775807 : Int)) ∧ True ∧ ∃ (y : Nat), y ≤ n ∧ n - y < n - x_1 ∧ (Cel.slc (0 : Nat) (0 : Nat) (0 : Int) (2 : Nat) (↑n : Int) cap = Cel.slc (0 : Nat) (0 : Nat) (0 : Int) (2 : Nat) (↑n : Int) cap ∧ Cel.val Go.undef = Cel.val Go.undef ∧ True ∧ True ∧ Cel.slc (2 : Nat) (0 : Nat) (0 : Int) (1 : Nat) (↑x.fst : Int) x.snd.snd.snd = Cel.slc (2 : Nat) (0 : Nat) (0 : Int) (1 : Nat) (↑x.fst : Int) x.snd.snd.snd ∧ (IntKind.u16 = IntKind.u16 ∧ (↑(od l n x.fst).snd : Int) = (↑(od l n x.fst).snd : Int)) ∧ (IntKind.i64 = IntKind.i64 ∧ (↑n : Int) - (1 : Int) - (↑x_1 : Int) = dn l n (Int.toNat (↑(od l n x.fst).snd : Int)) y) ∧ (IntKind.i64 = IntKind.i64 ∧ (↑n : Int) - (1 : Int) - (↑x_1 : Int) - (1 : Int) = (↑n : Int) - (1 : Int) - (↑y : Int)) ∧ Cel.slc (1 : Nat) (0 : Nat) (0 : Int) (1 : Nat) (0 : Int) (0 : Int) = Cel.slc (1 : Nat) (0 : Nat) (0 : Int) (1 : Nat) (0 : Int) (0 : Int) ∧ Cel.slc (2 : Nat) (0 : Nat) (0 : Int) (1 : Nat) (↑x.fst : Int) x.snd.snd.snd = Cel.slc (2 : Nat) (0 : Nat) (0 : Int) (1 : Nat) (↑x.fst : Int) x.snd.snd.snd ∧ (IntKind.i64 = IntKind.i64 ∧ (↑x.fst : Int) = (↑x.fst : Int)) ∧ Cel.slc (0 : Nat) (0 : Nat) (0 : Int) (2 : Nat) (↑n : Int) cap = Cel.slc (0 : Nat) (0 : Nat) (0 : Int) (2 : Nat) (↑n : Int) cap ∧ (IntKind.i64 = IntKind.i64 ∧ (↑n : Int) = (↑n : Int)) ∧ Decidable.decide ((↑x.fst : Int) < (↑n : Int)) = Decidable.decide ((↑x.fst : Int) < (↑n : Int)) ∧ Cel.slc (0 : Nat) (0 : Nat) (0 : Int) (2 : Nat) (↑n : Int) cap = Cel.slc (0 : Nat) (0 : Nat) (0 : Int) (2 : Nat) (↑n : Int) cap ∧ (IntKind.i64 = IntKind.i64 ∧ (↑n : Int) = (↑n : Int)) ∧ (IntKind.i64 = IntKind.i64 ∧ (↑n : Int) - (1 : Int) = (↑n : Int) - (1 : Int)) ∧ True ∧ True ∧ True ∧ True ∧ True ∧ True ∧ True ∧ True ∧ True ∧ True ∧ True ∧ True ∧ True ∧ True ∧ True ∧ True ∧ True ∧ True ∧ True ∧ True ∧ True ∧ True ∧ True ∧ True ∧ True ∧ True ∧ True ∧ True ∧ True ∧ True ∧ True ∧ True ∧ True ∧ Cel.val Go.undef = Cel.val Go.undef ∧ True) ∧ (Bool.false = Bool.false ∧ (35 : Nat) = (35 : Nat) ∧ ([EK.i8, EK.u16] = [EK.i8, EK.u16] ∧ m = m ∧ l = l) ∧ True) ∧ True ∧ (Bool.true = Bool.true ∧ (2 : Nat) = (2 : Nat) ∧ ([EK.i64] = [EK.i64] ∧ x.snd.fst = x.snd.fst ∧ x.snd.snd.fst = x.snd.snd.fst) ∧ True) ∧ True) ∧ ((bNot IntKind.u16 (List.getD l (Int.toNat ((0 : Int) + ((↑n : Int) - (1 : Int) - (↑x_1 : Int))) * (2 : Nat) + (1 : Nat)) (0 : Int)) (↑(od l n x.fst).snd : Int) == (0 : Int)) = Bool.false → True ∧ ((-9223372036854775808 : Int) ≤ (↑n : Int) - (1 : Int) - (↑x_1 : Int) - (1 : Int) ∧ (↑n : Int) - (1 : Int) - (↑x_1 : Int) - (1 : Int) ≤ (9223372036854775807 : Int)) ∧ True ∧ ∃ (y : Nat), y ≤ n ∧ n - y < n - x_1 ∧ (Cel.slc (0 : Nat) (0 : Nat) (0 : Int) (2 : Nat) (↑n : Int) cap = Cel.slc (0 : Nat) (0 : Nat) (0 : Int) (2 : Nat) (↑n : Int) cap ∧ Cel.val Go.undef = Cel.val Go.undef ∧ True ∧ True ∧ Cel.slc (2 : Nat) (0 : Nat) (0 : Int) (1 : Nat) (↑x.fst : Int) x.snd.snd.snd = Cel.slc (2 : Nat) (0 : Nat) (0 : Int) (1 : Nat) (↑x.fst : Int) x.snd.snd.snd ∧ (IntKind.u16 = IntKind.u16 ∧ (↑(od l n x.fst).snd : Int) = (↑(od l n x.fst).snd : Int)) ∧ (IntKind.i64 = IntKind.i64 ∧ dn l n (Int.toNat (↑(od l n x.fst).snd : Int)) x_1 = dn l n (Int.toNat (↑(od l n x.fst).snd : Int)) y) ∧ (IntKind.i64 = IntKind.i64 ∧ (↑n : Int) - (1 : Int) - (↑x_1 : Int) - (1 : Int) = (↑n : Int) - (1 : Int) - (↑y : Int)) ∧ Cel.slc (1 : Nat) (0 : Nat) (0 : Int) (1 : Nat) (0 : Int) (0 : Int) = Cel.slc (1 : Nat) (0 : Nat) (0 : Int) (1 : Nat) (0 : Int) (0 : Int) ∧ Cel.slc (2 : Nat) (0 : Nat) (0 : Int) (1 : Nat) (↑x.fst : Int) x.snd.snd.snd = Cel.slc (2 : Nat) (0 : Nat) (0 : Int) (1 : Nat) (↑x.fst : Int) x.snd.snd.snd ∧ (IntKind.i64 = IntKind.i64 ∧ (↑x.fst : Int) = (↑x.fst : Int)) ∧ Cel.slc (0 : Nat) (0 : Nat) (0 : Int) (2 : Nat) (↑n : Int) cap = Cel.slc (0 : Nat) (0 : Nat) (0 : Int) (2 : Nat) (↑n : Int) cap ∧ (IntKind.i64 = IntKind.i64 ∧ (↑n : Int) = (↑n : Int)) ∧ Decidable.decide ((↑x.fst : Int) < (↑n : Int)) = Decidable.decide ((↑x.fst : Int) < (↑n : Int)) ∧ Cel.slc (0 : Nat) (0 : Nat) (0 : Int) (2 : Nat) (↑n : Int) cap = Cel.slc (0 : Nat) (0 : Nat) (0 : Int) (2 : Nat) (↑n : Int) cap ∧ (IntKind.i64 = IntKind.i64 ∧ (↑n : Int) = (↑n : Int)) ∧ (IntKind.i64 = IntKind.i64 ∧ (↑n : Int) - (1 : Int) = (↑n : Int) - (1 : Int)) ∧ True ∧ True ∧ True ∧ True ∧ True ∧ True ∧ True ∧ True ∧ True ∧ True ∧ True ∧ True ∧ True ∧ True ∧ True ∧ True ∧ True ∧ True ∧ True ∧ True ∧ True ∧ True ∧ True ∧ True ∧ True ∧ True ∧ True ∧ True ∧ True ∧ True ∧ True ∧ True ∧ True ∧ Cel.val Go.undef = Cel.val Go.undef ∧ True) ∧ (Bool.false = Bool.false ∧ (35 : Nat) = (35 : Nat) ∧ ([EK.i8, EK.u16] = [EK.i8, EK.u16] ∧ m = m ∧ l = l) ∧ True) ∧ True ∧ (Bool.true = Bool.true ∧ (2 : Nat) = (2 : Nat) ∧ ([EK.i64] = [EK.i64] ∧ x.snd.fst = x.snd.fst ∧ x.snd.snd.fst = x.snd.snd.fst) ∧ True) ∧ True)) ∧ ((Int.tmod (bShr (↑(od l n x.fst).snd : Int) (IntKind.wrap IntKind.u64 ((↑n : Int) - (1 : Int) - (↑x_1 : Int)))) (2 : Int) == (0 : Int)) = !Bool.true → True ∧ True ∧ ((-9223372036854775808 : Int) ≤ (↑n : Int) - (1 : Int) - (↑x_1 : Int) - (1 : Int) ∧ (↑n : Int) - (1 : Int) - (↑x_1 : Int) - (1 : Int) ≤ (9223372036854775807 : Int)) ∧ True ∧ ∃ (y : Nat), y ≤ n ∧ n - y < n - x_1 ∧ (Cel.slc (0 : Nat) (0 : Nat) (0 : Int) (2 : Nat) (↑n : Int) cap = Cel.slc (0 : Nat) (0 : Nat) (0 : Int) (2 : Nat) (↑n : Int) cap ∧ Cel.val Go.undef = Cel.val Go.undef ∧ True ∧ True ∧ Cel.slc (2 : Nat) (0 : Nat) (0 : Int) (1 : Nat) (↑x.fst : Int) x.snd.snd.snd = Cel.slc (2 : Nat) (0 : Nat) (0 : Int) (1 : Nat) (↑x.fst : Int) x.snd.snd.snd ∧ (IntKind.u16 = IntKind.u16 ∧ (↑(od l n x.fst).snd : Int) = (↑(od l n x.fst).snd : Int)) ∧ (IntKind.i64 = IntKind.i64 ∧ dn l n (Int.toNat (↑(od l n x.fst).snd : Int)) x_1 = dn l n (Int.toNat (↑(od l n x.fst).snd : Int)) y) ∧ (IntKind.i64 = IntKind.i64 ∧ (↑n : Int) - (1 : Int) - (↑x_1 : Int) - (1 : Int) = (↑n : Int) - (1 : Int) - (↑y : Int)) ∧ Cel.slc (1 : Nat) (0 : Nat) (0 : Int) (1 : Nat) (0 : Int) (0 : Int) = Cel.slc (1 : Nat) (0 : Nat) (0 : Int) (1 : Nat) (0 : Int) (0 : Int) ∧ Cel.slc (2 : Nat) (0 : Nat) (0 : Int) (1 : Nat) (↑x.fst : Int) x.snd.snd.snd = Cel.slc (2 : Nat) (0 : Nat) (0 : Int) (1 : Nat) (↑x.fst : Int) x.snd.snd.snd ∧ (IntKind.i64 = IntKind.i64 ∧ (↑x.fst : Int) = (↑x.fst : Int)) ∧ Cel.slc (0 : Nat) (0 : Nat) (0 : Int) (2 : Nat) (↑n : Int) cap = Cel.slc (0 : Nat) (0 : Nat) (0 : Int) (2 : Nat) (↑n : Int) cap ∧ (IntKind.i64 = IntKind.i64 ∧ (↑n : Int) = (↑n : Int)) ∧ Decidable.decide ((↑x.fst : Int) < (↑n : Int)) = Decidable.decide ((↑x.fst : Int) < (↑n : Int)) ∧ Cel.slc (0 : Nat) (0 : Nat) (0 : Int) (2 : Nat) (↑n : Int) cap = Cel.slc (0 : Nat) (0 : Nat) (0 : Int) (2 : Nat) (↑n : Int) cap ∧ (IntKind.i64 = IntKind.i64 ∧ (↑n : Int) = (↑n : Int)) ∧ (IntKind.i64 = IntKind.i64 ∧ (↑n : Int) - (1 : Int) = (↑n : Int) - (1 : Int)) ∧ True ∧ True ∧ True ∧ True ∧ True ∧ True ∧ True ∧ True ∧ True ∧ True ∧ True ∧ True ∧ True ∧ True ∧ True ∧ True ∧ True ∧ True ∧ True ∧ True ∧ True ∧ True ∧ True ∧ True ∧ True ∧ True ∧ True ∧ True ∧ True ∧ True ∧ True ∧ True ∧ True ∧ Cel.val Go.undef = Cel.val Go.undef ∧ True) ∧ (Bool.false = Bool.false ∧ (35 : Nat) = (35 : Nat) ∧ ([EK.i8, EK.u16] = [EK.i8, EK.u16] ∧ m = m ∧ l = l) ∧ True) ∧ True ∧ (Bool.true = Bool.true ∧ (2 : Nat) = (2 : Nat) ∧ ([EK.i64] = [EK.i64] ∧ x.snd.fst = x.snd.fst ∧ x.snd.snd.fst = x.snd.snd.fst) ∧ True) ∧ True)) ∧ (Decidable.decide ((0 : Int) ≤ (↑n : Int) - (1 : Int) - (↑x_1 : Int)) = Bool.false → True ∧ True ∧ (Decidable.decide (dn l n (Int.toNat (↑(od l n x.fst).snd : Int)) x_1 < (0 : Int)) = Bool.true → True ∧ True ∧ True ∧ ∃ (x : Nat × List Int × Int), Gq (1 : Nat) (odK l n) (odV l n) x.fst x.snd.fst x.snd.snd ∧ ((Cel.slc (3 : Nat) (0 : Nat) (0 : Int) (1 : Nat) (0 : Int) (0 : Int) = Cel.slc (3 : Nat) (0 : Nat) (0 : Int) (1 : Nat) (↑(odK l n) : Int) x.snd.snd ∧ odB l n = Bool.false ∧ True) ∧ True) ∧ True ∧ (Bool.true = Bool.true ∧ (2 : Nat) = (2 : Nat) ∧ ([EK.i64] = [EK.i64] ∧ (0 : Nat) = x.fst ∧ [] = x.snd.fst) ∧ True) ∧ True) ∧ (Decidable.decide (dn l n (Int.toNat (↑(od l n x.fst).snd : Int)) x_1 < (0 : Int)) = Bool.false → True ∧ True ∧ True ∧ ((Int.toNat (0 : Int) + Int.toNat (↑x.fst : Int)) * (1 : Nat) ≤ x.snd.fst ∧ (Int.toNat (0 : Int) + Int.toNat (↑(1 : Nat) : Int)) * (1 : Nat) ≤ (1 : Nat) ∧ ((↑x.fst : Int) + (↑(1 : Nat) : Int)) * (↑(8 : Nat) : Int) ≤ (140737488355328 : Int) ∧ (↑x.fst : Int) + (↑(1 : Nat) : Int) ≤ (9223372036854775807 : Int)) ∧ ((0 : Int) = (0 : Int) ∧ x.snd.fst = Int.toNat x.snd.snd.snd * (1 : Nat)) ∧ ∀ (n_1 : Nat) (L : List Int) (cap_1 : Int), (↑x.fst : Int) + (↑(1 : Nat) : Int) ≤ cap_1 → n_1 = Int.toNat cap_1 * (1 : Nat) → List.length L = n_1 → List.take (Int.toNat ((↑x.fst : Int) + (↑(1 : Nat) : Int)) * (1 : Nat)) L = List.take (Int.toNat (↑x.fst : Int) * (1 : Nat)) (List.drop (Int.toNat (0 : Int) * (1 : Nat)) x.snd.snd.fst) ++ List.take (Int.toNat (↑(1 : Nat) : Int) * (1 : Nat)) (List.drop (Int.toNat (0 : Int) * (1 : Nat)) [dn l n (Int.toNat (↑(od l n x.fst).snd : Int)) x_1]) → True ∧ True ∧ True ∧ True ∧ ((0 : Int) ≤ IntKind.wrap IntKind.u64 (dn l n (Int.toNat (↑(od l n x.fst).snd : Int)) x_1) ∧ Int.toNat (IntKind.wrap IntKind.u64 (dn l n (Int.toNat (↑(od l n x.fst).snd : Int)) x_1)) ≤ IntKind.bits IntKind.u16) ∧ True ∧ True ∧ ∃ (y : Nat × Nat × List Int × Int), (y.fst ≤ n ∧ List.length (od l n y.fst).fst = y.fst ∧ Gq (1 : Nat) y.fst (odI l n y.fst) y.snd.fst y.snd.snd.fst y.snd.snd.snd) ∧ n - y.fst < n - x.fst ∧ (Cel.slc (0 : Nat) (0 : Nat) (0 : Int) (2 : Nat) (↑n : Int) cap = Cel.slc (0 : Nat) (0 : Nat) (0 : Int) (2 : Nat) (↑n : Int) cap ∧ Cel.val Go.undef = Cel.val Go.undef ∧ True ∧ True ∧ Cel.slc (4 : Nat) (0 : Nat) (0 : Int) (1 : Nat) ((↑x.fst : Int) + (↑(1 : Nat) : Int)) cap_1 = Cel.slc (4 : Nat) (0 : Nat) (0 : Int) (1 : Nat) (↑y.fst : Int) y.snd.snd.snd ∧ (IntKind.u16 = IntKind.u16 ∧ bOr IntKind.u16 (↑(od l n x.fst).snd : Int) (bShl IntKind.u16 (1 : Int) (IntKind.wrap IntKind.u64 (dn l n (Int.toNat (↑(od l n x.fst).snd : Int)) x_1))) = (↑(od l n y.fst).snd : Int)) ∧ True ∧ True ∧ Cel.slc (1 : Nat) (0 : Nat) (0 : Int) (1 : Nat) (0 : Int) (0 : Int) = Cel.slc (1 : Nat) (0 : Nat) (0 : Int) (1 : Nat) (0 : Int) (0 : Int) ∧ True ∧ True ∧ True ∧ True ∧ True ∧ True ∧ True ∧ True ∧ True ∧ True ∧ True ∧ True ∧ True ∧ True ∧ True ∧ True ∧ True ∧ True ∧ True ∧ True ∧ True ∧ True ∧ True ∧ True ∧ True ∧ True ∧ True ∧ True ∧ True ∧ True ∧ True ∧ True ∧ True ∧ True ∧ True ∧ True ∧ True ∧ True ∧ True ∧ True ∧ True ∧ Cel.val Go.undef = Cel.val Go.undef ∧ True) ∧ (Bool.false = Bool.false ∧ (35 : Nat) = (35 : Nat) ∧ ([EK.i8, EK.u16] = [EK.i8, EK.u16] ∧ m = m ∧ l = l) ∧ True) ∧ True ∧ (Bool.true = Bool.true ∧ (2 : Nat) = (2 : Nat) ∧ ([EK.i64] = [EK.i64] ∧ n_1 = y.snd.fst ∧ L = y.snd.snd.fst) ∧ True) ∧ True))) ∧ (Decidable.decide ((↑x.fst : Int) < (↑n : Int)) = Bool.false → True ∧ True ∧ True ∧ ∃ (x_1 : Nat × List Int × Int), Gq (1 : Nat) (odK l n) (odV l n) x_1.fst x_1.snd.fst x_1.snd.snd ∧ ((Cel.slc (2 : Nat) (0 : Nat) (0 : Int) (1 : Nat) (↑x.fst : Int) x.snd.snd.snd = Cel.slc (2 : Nat) (0 : Nat) (0 : Int) (1 : Nat) (↑(odK l n) : Int) x_1.snd.snd ∧ odB l n = Bool.true ∧ True) ∧ True) ∧ True ∧ (Bool.true = Bool.true ∧ (2 : Nat) = (2 : Nat) ∧ ([EK.i64] = [EK.i64] ∧ x.snd.fst = x_1.fst ∧ x.snd.snd.fst = x_1.snd.fst) ∧ True) ∧ True)) (by kernel_rfl) ?_
  simp only [true_and, and_true, and_self, decide_eq_true_eq, decide_eq_false_iff_not, Bool.not_eq_true', Bool.not_eq_false', Bool.not_true, Bool.not_false, beq_iff_eq, beq_eq_false_iff_ne, bne_iff_ne, bne_eq_false_iff_eq, ne_eq, not_true_eq_false, not_false_eq_true, false_implies, true_implies, implies_true, forall_const, exists_const, ↓reduceIte, Int.reduceEq, Int.toNat_natCast, Bool.false_eq_true, Bool.true_eq_false, reduceCtorEq, Int.zero_add, Nat.add_zero, Nat.mul_one, Cel.slc.injEq, List.drop_zero, Int.toNat_zero, List.take_succ_cons, List.take_zero, Int.ofNat_eq_natCast, Nat.zero_add, Int.toNat_natCast]
  obtain ⟨_, q1, q2, q3, jw⟩ := id q
  rw [Int.toNat_natCast] at jw
  refine ⟨⟨(0, 0, [], 0), ⟨by simp only; omega, rfl, Gq.nil⟩, ⟨⟨rfl, rfl⟩, rfl⟩, rfl, rfl⟩, ?_⟩
  rintro ⟨r, N, L, cp⟩ ⟨hr, hl, g⟩
  simp only at hr hl g ⊢
  have hT := od_lt (l := l) (n := n) (r := r) (by omega)
  have gr := g.room
  have ge := g.e
  rw [Nat.mul_one] at gr ge
  refine ⟨fun hlt => ⟨by omega, ⟨0, by omega, rfl, by omega⟩, ?_⟩, fun hge => ?_⟩
  · intro k hk
    refine ⟨fun h0 => ?_, fun h0 => ?_⟩
    · have ei : (n : Int) - 1 - (k : Int) = ((n - 1 - k : Nat) : Int) := by omega
      obtain ⟨e1, e2⟩ := jw.af (k := n - 1 - k) (by omega)
      simp only [ei, Int.toNat_natCast, e1]
      rw [u64w (by omega) (by omega), bShr_bit]
      have stp : ∀ z : Int, z = dn l n (od l n r).2 (k + 1) → ∃ y : Nat, y ≤ n ∧ n - y < n - k ∧ z = dn l n (od l n r).2 y ∧ ((n - 1 - k : Nat) : Int) - 1 = (n : Int) - 1 - (y : Int) := fun z hz => ⟨k + 1, by omega, by omega, hz, by omega⟩
      refine ⟨⟨by omega, by simp only [IntKind.bits]; omega⟩, fun hb => ⟨by omega, by omega, fun hc => ⟨by omega, stp _ ?_⟩, fun hc => ⟨by omega, stp _ ?_⟩⟩, fun hb => ⟨by omega, stp _ ?_⟩⟩
      · have hb : (od l n r).2.testBit (n - 1 - k) = false := by
          cases h : (od l n r).2.testBit (n - 1 - k)
          · rfl
          · rw [h] at hb; simp at hb
        rw [dn, if_pos]
        rw [nxB, hb]
        simp only [Bool.not_false, Bool.true_and, decide_eq_true_eq]
        exact (bNot16 e2 hT).1 hc
      · have hb : (od l n r).2.testBit (n - 1 - k) = false := by
          cases h : (od l n r).2.testBit (n - 1 - k)
          · rfl
          · rw [h] at hb; simp at hb
        rw [dn, if_neg]
        rw [nxB, hb]
        simp only [Bool.not_false, Bool.true_and, decide_eq_true_eq]
        exact fun hh => hc ((bNot16 e2 hT).2 hh)
      · have hb : (od l n r).2.testBit (n - 1 - k) = true := by
          cases h : (od l n r).2.testBit (n - 1 - k)
          · rw [h] at hb; simp at hb
          · rfl
        rw [dn, if_neg]
        rw [nxB, hb]
        simp
    · obtain rfl : k = n := by omega
      rcases dn_end (l := l) (n := k) (T := (od l k r).2) with ⟨h1, h2⟩ | ⟨i, h1, h2⟩
      · rw [h1]
        refine ⟨fun _ => ?_, fun hh => absurd (by decide) hh⟩
        obtain ⟨z1, z2, z3⟩ := od_no (od_short (by omega) h2)
        rw [z1, z2, z3]
        exact ⟨(0, [], 0), Gq.nil, ⟨⟨rfl, rfl⟩, rfl⟩, rfl, rfl⟩
      · rw [h1]
        have hi := (nx_some h2).1
        refine ⟨fun hh => by omega, fun _ => ⟨by omega, ge, ?_⟩⟩
        intro n' L' cp' c1 c2 c3 c4
        have eo := od_some h2
        rw [u64w (by omega) (by omega)]
        refine ⟨⟨by omega, by rw [Int.toNat_natCast]; simp only [IntKind.bits]; omega⟩, (r + 1, n', L', cp'), ⟨by simp only; omega, ?_, ?_⟩, by simp only; omega, ⟨⟨?_, rfl⟩, ?_⟩, rfl, rfl⟩
        · simp only
          rw [eo, List.length_append, List.length_singleton, hl]
        · simp only
          rw [odI_push h2]
          have e : (((r : Int) + ((1 : Nat) : Int)).toNat) = r + 1 := by omega
          rw [e] at c4
          exact g.push (by omega) (by omega) c3 (by rw [Nat.mul_one, Nat.mul_one]; exact c4)
        · simp
        · simp only
          rw [eo, bShl1 (by omega), bOr16 hT (pow_lt16 (by omega))]
  · obtain rfl : r = n := by omega
    obtain ⟨z1, z2, z3⟩ := od_all (od_full hl)
    rw [z1, z2, z3]
    exact ⟨(N, L, cp), g, ⟨⟨rfl, rfl⟩, rfl⟩, rfl, rfl⟩

noncomputable def gOrdS : EntryC := fun args H K => match args with
  | [.a (.c (.slc id b z s len _))] => match getB H id with
    | .cells _ t [.run ks m l] => ((t = 35 ∧ b = 0 ∧ z = 0 ∧ s = 2 ∧ ks = [.i8, .u16]) ∧ Jl len m l) ∧
      withLenP H fun h => ∀ N L cp, Gq 1 (odK l len.toNat) (odV l len.toNat) N L cp → K (.tup [.c (.slc h 0 0 1 (odK l len.toNat) cp), .c (.bool (odB l len.toNat))]) (H ++ [.cells true 2 [.run [.i64] N L]])
    | _ => Stuck "order"
  | _ => Stuck "order"
theorem e_l07Order : EntryCOk Tryd.prog TT 30 gOrdS := by
  refine ⟨fnOk Tryd.func30 (by kernel_rfl) rfl, ?_⟩
  intro args H K h n0 w0 β w vals hG hH hA
  unfold gOrdS at h
  split at h
  · split at h
    · rename_i id b z s len cap _ o t ks m l hg
      obtain ⟨⟨⟨rfl, rfl, rfl, rfl, rfl⟩, q⟩, hk⟩ := h
      have hk := withLenP_sound hk
      obtain ⟨n, rfl⟩ := Int.eq_ofNat_of_zero_le q.lo
      refine (entry_fresh tt_ok (inlN_ok tt_ok Cj1_ok mixed ILz_ok.ok 6) Cj1_ok mixed Tryd.func30 [id] (x_l07Order m n l cap q) rfl (fun _ => rfl) (fun _ => rfl) ⟨.inr (by rw [hg]; rfl), trivial⟩ hG hH hA).mono ?_
      rintro e w' ⟨v, γ, x, rfl, h4, h5, h6⟩
      exact ⟨v, γ, _, _, rfl, hk _ _ _ h4, h5, h6⟩
    · exact h.elim
  · exact h.elim

noncomputable def Mj2 : List (FuncId × EntryC) := (32, gOrdI) ::
  (30, gOrdS) ::
  []
theorem Mj2_ok : EntriesCOk Tryd.prog TT Mj2 := ⟨e_order,
  e_l07Order,
  trivial⟩
noncomputable abbrev Cj2 : Ctr := ctrOfM Ej1 Mj2
theorem Cj2_ok : CtrOk Tryd.prog TT Cj2 := ctrOfM_ok Ej1_ok Mj2_ok

end Go.Proofs.YtmjincdnhmkmhaaDoor
