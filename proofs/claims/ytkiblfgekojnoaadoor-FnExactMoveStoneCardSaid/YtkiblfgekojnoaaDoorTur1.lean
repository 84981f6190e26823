/- TurnStone: both sides. No conditions beyond the ranges of the kinds. -/
import Derived.Test.YtkiblfgekojnoaaDoorMst
set_option linter.unusedSimpArgs false
set_option linter.unusedVariables false
namespace Go.Proofs.YtkiblfgekojnoaaDoor
open Go.Sx Go.RowKit

variable {e : Nat → Value}

/-- A stone that is turned. -/
def tuC (l : List Int) (i : Nat) : Int := if i % 2 = 0 then -(l.getD (i + 1) 0) else l.getD (i - 1) 0
noncomputable def tuK (n : Nat) (l : List Int) : Nat := if okB n l then n else 0
noncomputable def tuF (n : Nat) (l : List Int) : List Int := mkN (tuK n l * 2) (tuC l)
noncomputable def tuE (n : Nat) (l : List Int) : Int := if okB n l then 0 else 1

def lmTuS (n : Nat) (l : List Int) : LAnn := { ι := Nat × Nat × List Int × Int, inv := fun _ x => x.1 ≤ n ∧ Gs x.1 (mkN (x.1 * 2) (tuC l)) x.2.1 x.2.2.1 x.2.2.2, slots := fun _ x => [(4, .a (.c (.slc 2 0 0 2 x.1 x.2.2.2))), (5, .a (.c (.int .i64 x.1)))], blks := fun _ _ => [], μ := fun _ x => n - x.1, kills := [1], frs := fun _ x => [.cells true 66 [.run [.i16] x.2.1 x.2.2.1]], mv := fun st => [slotB st 4] }
noncomputable def ILtz  : List (FuncId × Func × (Nat → LM)) := [
  ]
theorem ILtz_ok  : InlsOk Tryd.prog ILtz := trivial

theorem x_TurnS (m n : Nat) (l : List Int) (cap : Int) (h0 : (n : Int) ≤ cap) (h1 : n ≤ 1048576) (h3 : n * 2 ≤ m) (h4 : l.length = m) (hw : wfl (n * 2) l) : Fex true (TT e) (inlN true (TT e) Cv (lookI ILtz) 4) Cv (fun _ => .inv (lmTuS n l)) Tryd.f28 [.a (.c (.slc 0 0 0 2 n cap))] [.cells false 66 [.run [.i16] m l]]
    (fun lv H' => ∃ x : Nat × List Int × Int, Gs (tuK n l) (tuF n l) x.1 x.2.1 x.2.2 ∧ leSt ⟨[lv], H'⟩ ⟨[rnL ([0].length + ·) (.tup [.c (.slc 0 0 0 2 (tuK n l) x.2.2), .c (.int .i64 (tuE n l))])], deadsN [0].length ++ [.cells true 66 [.run [.i16] x.1 x.2.1]]⟩ [0].length (resB lv)) := by

  refine Go.Sx.by_eq (q := True ∧ True ∧ True ∧ ((0 : Nat) = (0 : Nat) ∧ (0 : Int) = (0 : Int) ∧ (2 : Nat) = (2 : Nat) ∧ [Go.Sx.EK.i16] = [Go.Sx.EK.i16] ∧ (0 : Int) ≤ (↑n : Int) ∧ (↑n : Int) ≤ (1048576 : Int) ∧ Int.toNat (↑n : Int) * (2 : Nat) ≤ m ∧ List.length l = m ∧ ∀ (i : Nat), i < Int.toNat (↑n : Int) * (2 : Nat) → (-32768 : Int) ≤ List.getD l i (0 : Int) ∧ List.getD l i (0 : Int) ≤ (32767 : Int)) ∧ True ∧ ((!okB (Int.toNat (↑n : Int)) l) = Bool.true → True ∧ True ∧ True ∧ ∃ (x : Nat × List Int × Int), Gs (tuK n l) (tuF n l) x.fst x.snd.fst x.snd.snd ∧ ((Go.Sx.Cel.slc (1 : Nat) (0 : Nat) (0 : Int) (2 : Nat) (0 : Int) (0 : Int) = Go.Sx.Cel.slc (1 : Nat) (0 : Nat) (0 : Int) (2 : Nat) (↑(tuK n l) : Int) x.snd.snd ∧ (Go.IntKind.i64 = Go.IntKind.i64 ∧ (1 : Int) = tuE n l) ∧ True) ∧ True) ∧ True ∧ (Bool.true = Bool.true ∧ (66 : Nat) = (66 : Nat) ∧ ([Go.Sx.EK.i16] = [Go.Sx.EK.i16] ∧ (0 : Nat) = x.fst ∧ [] = x.snd.fst) ∧ True) ∧ True) ∧ ((!okB (Int.toNat (↑n : Int)) l) = Bool.false → True ∧ True ∧ True ∧ (∃ (x : Nat × Nat × List Int × Int), (x.fst ≤ n ∧ Gs x.fst (mkN (x.fst * (2 : Nat)) (tuC l)) x.snd.fst x.snd.snd.fst x.snd.snd.snd) ∧ (Go.Sx.Cel.slc (0 : Nat) (0 : Nat) (0 : Int) (2 : Nat) (↑n : Int) cap = Go.Sx.Cel.slc (0 : Nat) (0 : Nat) (0 : Int) (2 : Nat) (↑n : Int) cap ∧ Go.Sx.Cel.val Go.undef = Go.Sx.Cel.val Go.undef ∧ Go.Sx.Cel.val (Go.Value.slice Option.none (0 : Nat) (0 : Nat)) = Go.Sx.Cel.val (Go.Value.slice Option.none (0 : Nat) (0 : Nat)) ∧ (Go.IntKind.i64 = Go.IntKind.i64 ∧ (0 : Int) = (0 : Int)) ∧ Go.Sx.Cel.slc (1 : Nat) (0 : Nat) (0 : Int) (2 : Nat) (0 : Int) (0 : Int) = Go.Sx.Cel.slc (1 : Nat) (0 : Nat) (0 : Int) (2 : Nat) (↑x.fst : Int) x.snd.snd.snd ∧ (Go.IntKind.i64 = Go.IntKind.i64 ∧ (0 : Int) = (↑x.fst : Int)) ∧ Go.Sx.Cel.slc (0 : Nat) (0 : Nat) (0 : Int) (2 : Nat) (↑n : Int) cap = Go.Sx.Cel.slc (0 : Nat) (0 : Nat) (0 : Int) (2 : Nat) (↑n : Int) cap ∧ okB (Int.toNat (↑n : Int)) l = okB (Int.toNat (↑n : Int)) l ∧ (!okB (Int.toNat (↑n : Int)) l) = !okB (Int.toNat (↑n : Int)) l ∧ Go.Sx.Cel.val Go.undef = Go.Sx.Cel.val Go.undef ∧ Go.Sx.Cel.slc (1 : Nat) (0 : Nat) (0 : Int) (2 : Nat) (0 : Int) (0 : Int) = Go.Sx.Cel.slc (1 : Nat) (0 : Nat) (0 : Int) (2 : Nat) (0 : Int) (0 : Int) ∧ True ∧ True ∧ True ∧ True ∧ True ∧ True ∧ True ∧ True ∧ True ∧ True ∧ True ∧ True ∧ True ∧ True ∧ True ∧ True ∧ True ∧ True ∧ True ∧ True ∧ True ∧ Go.Sx.Cel.val Go.undef = Go.Sx.Cel.val Go.undef ∧ True) ∧ (Bool.false = Bool.false ∧ (66 : Nat) = (66 : Nat) ∧ ([Go.Sx.EK.i16] = [Go.Sx.EK.i16] ∧ m = m ∧ l = l) ∧ True) ∧ True ∧ (Bool.true = Bool.true ∧ (66 : Nat) = (66 : Nat) ∧ ([Go.Sx.EK.i16] = [Go.Sx.EK.i16] ∧ (0 : Nat) = x.snd.fst ∧ [] = x.snd.snd.fst) ∧ True) ∧ True) ∧ ∀ (x : Nat × Nat × List Int × Int), x.fst ≤ n ∧ Gs x.fst (mkN (x.fst * (2 : Nat)) (tuC l)) x.snd.fst x.snd.snd.fst x.snd.snd.snd → True ∧ True ∧ True ∧ True ∧ (Decidable.decide ((↑x.fst : Int) < (↑n : Int)) = Bool.true → True ∧ True ∧ True ∧ ((0 : Int) ≤ (↑x.fst : Int) ∧ (↑x.fst : Int) < (↑n : Int)) ∧ True ∧ ((0 : Int) ≤ (0 : Int) + (↑x.fst : Int) ∧ Int.toNat ((0 : Int) + (↑x.fst : Int)) * (2 : Nat) + (1 : Nat) < m) ∧ True ∧ True ∧ True ∧ ((0 : Int) ≤ (↑x.fst : Int) ∧ (↑x.fst : Int) < (↑n : Int)) ∧ True ∧ ((0 : Int) ≤ (0 : Int) + (↑x.fst : Int) ∧ Int.toNat ((0 : Int) + (↑x.fst : Int)) * (2 : Nat) + (0 : Nat) < m) ∧ True ∧ True ∧ ((Int.toNat (0 : Int) + Int.toNat (↑x.fst : Int)) * (2 : Nat) ≤ x.snd.fst ∧ (Int.toNat (0 : Int) + Int.toNat (↑(1 : Nat) : Int)) * (2 : Nat) ≤ (2 : Nat) ∧ ((↑x.fst : Int) + (↑(1 : Nat) : Int)) * (↑(4 : Nat) : Int) ≤ (140737488355328 : Int) ∧ (↑x.fst : Int) + (↑(1 : Nat) : Int) ≤ (9223372036854775807 : Int)) ∧ ((0 : Int) = (0 : Int) ∧ x.snd.fst = Int.toNat x.snd.snd.snd * (2 : Nat)) ∧ ∀ (n_1 : Nat) (L : List Int) (cap_1 : Int), (↑x.fst : Int) + (↑(1 : Nat) : Int) ≤ cap_1 → n_1 = Int.toNat cap_1 * (2 : Nat) → List.length L = n_1 → List.take (Int.toNat ((↑x.fst : Int) + (↑(1 : Nat) : Int)) * (2 : Nat)) L = List.take (Int.toNat (↑x.fst : Int) * (2 : Nat)) (List.drop (Int.toNat (0 : Int) * (2 : Nat)) x.snd.snd.fst) ++ List.take (Int.toNat (↑(1 : Nat) : Int) * (2 : Nat)) (List.drop (Int.toNat (0 : Int) * (2 : Nat)) [Go.IntKind.wrap Go.IntKind.i16 ((0 : Int) - List.getD l (Int.toNat ((0 : Int) + (↑x.fst : Int)) * (2 : Nat) + (1 : Nat)) (0 : Int)), List.getD l (Int.toNat ((0 : Int) + (↑x.fst : Int)) * (2 : Nat) + (0 : Nat)) (0 : Int)]) → True ∧ True ∧ ((-9223372036854775808 : Int) ≤ (↑x.fst : Int) + (1 : Int) ∧ (↑x.fst : Int) + (1 : Int) ≤ (9223372036854775807 : Int)) ∧ True ∧ ∃ (y : Nat × Nat × List Int × Int), (y.fst ≤ n ∧ Gs y.fst (mkN (y.fst * (2 : Nat)) (tuC l)) y.snd.fst y.snd.snd.fst y.snd.snd.snd) ∧ n - y.fst < n - x.fst ∧ (Go.Sx.Cel.slc (0 : Nat) (0 : Nat) (0 : Int) (2 : Nat) (↑n : Int) cap = Go.Sx.Cel.slc (0 : Nat) (0 : Nat) (0 : Int) (2 : Nat) (↑n : Int) cap ∧ Go.Sx.Cel.val Go.undef = Go.Sx.Cel.val Go.undef ∧ Go.Sx.Cel.val (Go.Value.slice Option.none (0 : Nat) (0 : Nat)) = Go.Sx.Cel.val (Go.Value.slice Option.none (0 : Nat) (0 : Nat)) ∧ (Go.IntKind.i64 = Go.IntKind.i64 ∧ (0 : Int) = (0 : Int)) ∧ Go.Sx.Cel.slc (4 : Nat) (0 : Nat) (0 : Int) (2 : Nat) ((↑x.fst : Int) + (↑(1 : Nat) : Int)) cap_1 = Go.Sx.Cel.slc (4 : Nat) (0 : Nat) (0 : Int) (2 : Nat) (↑y.fst : Int) y.snd.snd.snd ∧ (Go.IntKind.i64 = Go.IntKind.i64 ∧ (↑x.fst : Int) + (1 : Int) = (↑y.fst : Int)) ∧ Go.Sx.Cel.slc (0 : Nat) (0 : Nat) (0 : Int) (2 : Nat) (↑n : Int) cap = Go.Sx.Cel.slc (0 : Nat) (0 : Nat) (0 : Int) (2 : Nat) (↑n : Int) cap ∧ okB (Int.toNat (↑n : Int)) l = okB (Int.toNat (↑n : Int)) l ∧ (!okB (Int.toNat (↑n : Int)) l) = !okB (Int.toNat (↑n : Int)) l ∧ Go.Sx.Cel.val Go.undef = Go.Sx.Cel.val Go.undef ∧ Go.Sx.Cel.slc (1 : Nat) (0 : Nat) (0 : Int) (2 : Nat) (0 : Int) (0 : Int) = Go.Sx.Cel.slc (1 : Nat) (0 : Nat) (0 : Int) (2 : Nat) (0 : Int) (0 : Int) ∧ True ∧ True ∧ True ∧ True ∧ True ∧ True ∧ True ∧ True ∧ True ∧ True ∧ True ∧ True ∧ True ∧ True ∧ True ∧ True ∧ True ∧ True ∧ True ∧ True ∧ True ∧ Go.Sx.Cel.val Go.undef = Go.Sx.Cel.val Go.undef ∧ True) ∧ (Bool.false = Bool.false ∧ (66 : Nat) = (66 : Nat) ∧ ([Go.Sx.EK.i16] = [Go.Sx.EK.i16] ∧ m = m ∧ l = l) ∧ True) ∧ True ∧ (Bool.true = Bool.true ∧ (66 : Nat) = (66 : Nat) ∧ ([Go.Sx.EK.i16] = [Go.Sx.EK.i16] ∧ n_1 = y.snd.fst ∧ L = y.snd.snd.fst) ∧ True) ∧ True) ∧ (Decidable.decide ((↑x.fst : Int) < (↑n : Int)) = Bool.false → True ∧ True ∧ True ∧ ∃ (x_1 : Nat × List Int × Int), Gs (tuK n l) (tuF n l) x_1.fst x_1.snd.fst x_1.snd.snd ∧ ((Go.Sx.Cel.slc (2 : Nat) (0 : Nat) (0 : Int) (2 : Nat) (↑x.fst : Int) x.snd.snd.snd = Go.Sx.Cel.slc (2 : Nat) (0 : Nat) (0 : Int) (2 : Nat) (↑(tuK n l) : Int) x_1.snd.snd ∧ (Go.IntKind.i64 = Go.IntKind.i64 ∧ (0 : Int) = tuE n l) ∧ True) ∧ True) ∧ True ∧ (Bool.true = Bool.true ∧ (66 : Nat) = (66 : Nat) ∧ ([Go.Sx.EK.i16] = [Go.Sx.EK.i16] ∧ x.snd.fst = x_1.fst ∧ x.snd.snd.fst = x_1.snd.fst) ∧ True) ∧ True))) (by kernel_rfl) ?_
  have ec : ∀ i, List.take 2 (List.drop (i * 2) l) = cor l i := fun _ => rfl
  simp only [true_and, and_true, and_self, decide_eq_true_eq, decide_eq_false_iff_not, Bool.not_eq_true', Bool.not_eq_false', Bool.not_true, Bool.not_false, beq_iff_eq, beq_eq_false_iff_ne, bne_iff_ne, bne_eq_false_iff_eq, ne_eq, not_true_eq_false, not_false_eq_true, false_implies, true_implies, implies_true, forall_const, exists_const, ↓reduceIte, Int.reduceEq, Int.toNat_natCast, Bool.false_eq_true, Bool.true_eq_false, reduceCtorEq, Int.zero_add, Nat.add_zero, ec, Int.ofNat_eq_natCast, Int.toNat_natCast, Cel.slc.injEq]
  refine ⟨⟨by omega, by omega, h3, h4, hw⟩, fun hb => fr_err (by simp [tuK, hb]) (by simp [tuF, tuK, hb, mkN]) (by simp [tuE, hb]), fun hb => ⟨⟨(0, 0, [], 0), ⟨by omega, by simpa [mkN] using Gs.nil⟩, ⟨⟨rfl, rfl⟩, rfl⟩, rfl, rfl⟩, ?_⟩⟩
  have ok := okB_t.1 hb
  have hn8 := ok.hi
  have k0 : tuK n l = n := by simp [tuK, hb]
  have f0 : tuF n l = mkN (n * 2) (tuC l) := by rw [tuF, k0]
  have e0 : tuE n l = 0 := by simp [tuE, hb]
  rintro ⟨i, N, L, cp⟩ ⟨hi, g⟩
  simp only at hi g ⊢
  have hr := g.room
  refine ⟨fun hlt => ?_, fun hge => ?_⟩
  · obtain ⟨p1, p2, p3, p4⟩ := ok.pl i (by omega)
    have c0 := cor0 l i
    have c1 := cor1 l i
    rw [i16w (by omega) (by omega)]
    refine ⟨by omega, by omega, by omega, by omega, ⟨by omega, by omega, by omega, by omega⟩, by have := g.e; omega, fun n' L' cap' q1 q2 q3 q4 => ⟨by omega, (i + 1, n', L', cap'), ⟨by simp only; omega, ?_⟩, by simp only; omega, ⟨⟨by simp, rfl⟩, by simp⟩, rfl, rfl⟩⟩
    simp only
    rw [mkN_two]
    refine g.push q1 q2 q3 ?_
    refine (show List.take ((i + 1) * 2) L' = _ from q4).trans ?_
    simp [tuC]
  · obtain rfl : i = n := by omega
    exact ⟨(N, L, cp), by rw [k0, f0]; exact g, ⟨⟨by rw [k0], rfl⟩, e0.symm⟩, rfl, rfl⟩

def chF (n : Nat) (f : Nat → Int) (k : Nat) (i : Nat) : Int := if i < k * 2 then f i else 0
theorem ch_step {n k : Nat} {f : Nat → Int} {x y : Int} (hk : k < n) (hx : x = f (k * 2)) (hy : y = f (k * 2 + 1)) :
    List.take (k * 2) (mkN (n * 2) (chF n f k)) ++ [x, y] ++ List.drop (k * 2 + 2) (mkN (n * 2) (chF n f k)) = mkN (n * 2) (chF n f (k + 1)) := by
  subst hx hy
  refine mkN_put rfl (by omega) (fun i hi hne => ?_) fun j hj => ?_
  · simp only [chF]
    by_cases h : i < k * 2
    · rw [if_pos h, if_pos (by omega)]
    · rw [if_neg h, if_neg (by omega)]
  · simp only [List.length_cons, List.length_nil] at hj
    rcases (show j = 0 ∨ j = 1 by omega) with rfl | rfl <;> simp [chF] <;> omega
def lmCh (n : Nat) (f : Nat → Int) : LAnn := { ι := Nat, inv := fun _ k => k ≤ n, slots := fun _ k => [(13, .a (.c (.int .i64 k)))], blks := fun st k => [(slotB st 5, [.run [.i16] (n * 2) (mkN (n * 2) (chF n f k))])], μ := fun _ k => n - k }
noncomputable def ILti (n : Nat) (l : List Int) : List (FuncId × Func × (Nat → LM)) := [
  (65, Tryd.f65, U0),
  (71, Tryd.f71, U0),
  (103, Tryd.f103, U0),
  (69, Tryd.f69, fun _ => .inv (lmCh n (tuC l)))]
theorem ILti_ok {n : Nat} {l : List Int} : InlsOk Tryd.prog (ILti n l) := ⟨⟨Tryd.func65, by kernel_rfl⟩, ⟨Tryd.func71, by kernel_rfl⟩, ⟨Tryd.func103, by kernel_rfl⟩, ⟨Tryd.func69, by kernel_rfl⟩, trivial⟩

theorem x_TurnI (m n : Nat) (l : List Int) (cap : Int) (h0 : (n : Int) ≤ cap) (h1 : n ≤ 1048576) (h3 : n * 2 ≤ m) (h4 : l.length = m) (hw : wfl (n * 2) l) : Fex true (TT e) (inlN true (TT e) Cv (lookI (ILti n l)) 5) Cv U0 Tryd.f29 [.a (.c (.slc 0 0 0 2 n cap))] [.cells false 66 [.run [.i16] m l]]
    (fun lv H' => ∃ x : Nat × List Int × Int, Gs (tuK n l) (tuF n l) x.1 x.2.1 x.2.2 ∧ leSt ⟨[lv], H'⟩ ⟨[rnL ([0].length + ·) (.tup [.c (.slc 0 0 0 2 (tuK n l) x.2.2), .c (.int .i64 (tuE n l))])], deadsN [0].length ++ [.cells true 66 [.run [.i16] x.1 x.2.1]]⟩ [0].length (resB lv)) := by

  refine Go.Sx.by_eq (q := True ∧ True ∧ True ∧ True ∧ True ∧ True ∧ ((0 : Nat) = (0 : Nat) ∧ (0 : Int) = (0 : Int) ∧ (2 : Nat) = (2 : Nat) ∧ [Go.Sx.EK.i16] = [Go.Sx.EK.i16] ∧ (0 : Int) ≤ (↑n : Int) ∧ (↑n : Int) ≤ (1048576 : Int) ∧ Int.toNat (↑n : Int) * (2 : Nat) ≤ m ∧ List.length l = m ∧ ∀ (i : Nat), i < Int.toNat (↑n : Int) * (2 : Nat) → (-32768 : Int) ≤ List.getD l i (0 : Int) ∧ List.getD l i (0 : Int) ≤ (32767 : Int)) ∧ True ∧ ((!okB (Int.toNat (↑n : Int)) l) = Bool.true → True ∧ True ∧ True ∧ True ∧ True ∧ True ∧ True ∧ True ∧ ∃ (x : Nat × List Int × Int), Gs (tuK n l) (tuF n l) x.fst x.snd.fst x.snd.snd ∧ ((((0 : Int) = (0 : Int) ∧ (↑(tuK n l) : Int) = (0 : Int) ∧ x.snd.snd = (0 : Int)) ∧ (Go.IntKind.i64 = Go.IntKind.i64 ∧ (1 : Int) = tuE n l) ∧ True) ∧ True) ∧ True ∧ (x.fst = (0 : Nat) ∧ x.snd.fst = []) ∧ True) ∧ ((!okB (Int.toNat (↑n : Int)) l) = Bool.false → True ∧ True ∧ True ∧ True ∧ True ∧ True ∧ True ∧ ((0 : Int) ≤ (↑n : Int) ∧ (↑n : Int) ≤ (↑n : Int) ∧ (↑n : Int) ≤ (9223372036854775807 : Int) ∧ (↑(4 : Nat) : Int) * (↑n : Int) ≤ (281474976710656 : Int)) ∧ True ∧ True ∧ True ∧ True ∧ (∃ (x : Nat), x ≤ n ∧ (Go.Sx.Cel.slc (0 : Nat) (0 : Nat) (0 : Int) (2 : Nat) (↑n : Int) cap = Go.Sx.Cel.slc (0 : Nat) (0 : Nat) (0 : Int) (2 : Nat) (↑n : Int) cap ∧ Go.Sx.Cel.fn (Go.Fn.func (103 : Nat)) [] = Go.Sx.Cel.fn (Go.Fn.func (103 : Nat)) [] ∧ Go.Sx.Cel.val Go.undef = Go.Sx.Cel.val Go.undef ∧ Go.Sx.Cel.val Go.undef = Go.Sx.Cel.val Go.undef ∧ Go.Sx.Cel.val (Go.Value.slice Option.none (0 : Nat) (0 : Nat)) = Go.Sx.Cel.val (Go.Value.slice Option.none (0 : Nat) (0 : Nat)) ∧ Go.Sx.Cel.slc (1 : Nat) (0 : Nat) (0 : Int) (2 : Nat) (↑n : Int) (↑n : Int) = Go.Sx.Cel.slc (1 : Nat) (0 : Nat) (0 : Int) (2 : Nat) (↑n : Int) (↑n : Int) ∧ True ∧ True ∧ Go.Sx.Cel.slc (0 : Nat) (0 : Nat) (0 : Int) (2 : Nat) (↑n : Int) cap = Go.Sx.Cel.slc (0 : Nat) (0 : Nat) (0 : Int) (2 : Nat) (↑n : Int) cap ∧ (Go.IntKind.i64 = Go.IntKind.i64 ∧ (↑n : Int) = (↑n : Int)) ∧ Go.Sx.Cel.slc (1 : Nat) (0 : Nat) (0 : Int) (2 : Nat) (↑n : Int) (↑n : Int) = Go.Sx.Cel.slc (1 : Nat) (0 : Nat) (0 : Int) (2 : Nat) (↑n : Int) (↑n : Int) ∧ Go.Sx.Cel.slc (0 : Nat) (0 : Nat) (0 : Int) (2 : Nat) (↑n : Int) cap = Go.Sx.Cel.slc (0 : Nat) (0 : Nat) (0 : Int) (2 : Nat) (↑n : Int) cap ∧ (Go.IntKind.i64 = Go.IntKind.i64 ∧ (↑n : Int) = (↑n : Int)) ∧ (Go.IntKind.i64 = Go.IntKind.i64 ∧ (0 : Int) = (↑x : Int)) ∧ True ∧ True ∧ True ∧ True ∧ True ∧ True ∧ True ∧ True ∧ True ∧ True ∧ True ∧ Go.Sx.Cel.val Go.undef = Go.Sx.Cel.val Go.undef ∧ True) ∧ (Bool.false = Bool.false ∧ (66 : Nat) = (66 : Nat) ∧ ([Go.Sx.EK.i16] = [Go.Sx.EK.i16] ∧ m = m ∧ l = l) ∧ True) ∧ (Bool.true = Bool.true ∧ (66 : Nat) = (66 : Nat) ∧ ([Go.Sx.EK.i16] = [Go.Sx.EK.i16] ∧ Int.toNat (↑n : Int) * (2 : Nat) = n * (2 : Nat) ∧ List.replicate (Int.toNat (↑n : Int) * (2 : Nat)) (0 : Int) = mkN (n * (2 : Nat)) (chF n (tuC l) x)) ∧ True) ∧ True) ∧ ∀ (x : Nat), x ≤ n → True ∧ (Decidable.decide ((↑x : Int) < (↑n : Int)) = Bool.true → True ∧ ((0 : Int) ≤ (↑x : Int) ∧ (↑x : Int) < (↑n : Int)) ∧ ((0 : Int) ≤ (0 : Int) + (↑x : Int) ∧ Int.toNat ((0 : Int) + (↑x : Int)) * (2 : Nat) + (0 : Nat) + (2 : Nat) ≤ m) ∧ True ∧ True ∧ True ∧ True ∧ True ∧ True ∧ True ∧ True ∧ True ∧ True ∧ True ∧ True ∧ True ∧ True ∧ True ∧ True ∧ ((0 : Int) ≤ (↑x : Int) ∧ (↑x : Int) < (↑n : Int)) ∧ ((0 : Int) ≤ (0 : Int) + (↑x : Int) ∧ Int.toNat ((0 : Int) + (↑x : Int)) * (2 : Nat) + (0 : Nat) + (2 : Nat) ≤ n * (2 : Nat)) ∧ ((-9223372036854775808 : Int) ≤ (↑x : Int) + (1 : Int) ∧ (↑x : Int) + (1 : Int) ≤ (9223372036854775807 : Int)) ∧ True ∧ ∃ (y : Nat), y ≤ n ∧ n - y < n - x ∧ (Go.Sx.Cel.slc (0 : Nat) (0 : Nat) (0 : Int) (2 : Nat) (↑n : Int) cap = Go.Sx.Cel.slc (0 : Nat) (0 : Nat) (0 : Int) (2 : Nat) (↑n : Int) cap ∧ Go.Sx.Cel.fn (Go.Fn.func (103 : Nat)) [] = Go.Sx.Cel.fn (Go.Fn.func (103 : Nat)) [] ∧ Go.Sx.Cel.val Go.undef = Go.Sx.Cel.val Go.undef ∧ Go.Sx.Cel.val Go.undef = Go.Sx.Cel.val Go.undef ∧ Go.Sx.Cel.val (Go.Value.slice Option.none (0 : Nat) (0 : Nat)) = Go.Sx.Cel.val (Go.Value.slice Option.none (0 : Nat) (0 : Nat)) ∧ Go.Sx.Cel.slc (1 : Nat) (0 : Nat) (0 : Int) (2 : Nat) (↑n : Int) (↑n : Int) = Go.Sx.Cel.slc (1 : Nat) (0 : Nat) (0 : Int) (2 : Nat) (↑n : Int) (↑n : Int) ∧ True ∧ True ∧ Go.Sx.Cel.slc (0 : Nat) (0 : Nat) (0 : Int) (2 : Nat) (↑n : Int) cap = Go.Sx.Cel.slc (0 : Nat) (0 : Nat) (0 : Int) (2 : Nat) (↑n : Int) cap ∧ (Go.IntKind.i64 = Go.IntKind.i64 ∧ (↑n : Int) = (↑n : Int)) ∧ Go.Sx.Cel.slc (1 : Nat) (0 : Nat) (0 : Int) (2 : Nat) (↑n : Int) (↑n : Int) = Go.Sx.Cel.slc (1 : Nat) (0 : Nat) (0 : Int) (2 : Nat) (↑n : Int) (↑n : Int) ∧ Go.Sx.Cel.slc (0 : Nat) (0 : Nat) (0 : Int) (2 : Nat) (↑n : Int) cap = Go.Sx.Cel.slc (0 : Nat) (0 : Nat) (0 : Int) (2 : Nat) (↑n : Int) cap ∧ (Go.IntKind.i64 = Go.IntKind.i64 ∧ (↑n : Int) = (↑n : Int)) ∧ (Go.IntKind.i64 = Go.IntKind.i64 ∧ (↑x : Int) + (1 : Int) = (↑y : Int)) ∧ True ∧ True ∧ True ∧ True ∧ True ∧ True ∧ True ∧ True ∧ True ∧ True ∧ True ∧ Go.Sx.Cel.val Go.undef = Go.Sx.Cel.val Go.undef ∧ True) ∧ (Bool.false = Bool.false ∧ (66 : Nat) = (66 : Nat) ∧ ([Go.Sx.EK.i16] = [Go.Sx.EK.i16] ∧ m = m ∧ l = l) ∧ True) ∧ (Bool.true = Bool.true ∧ (66 : Nat) = (66 : Nat) ∧ ([Go.Sx.EK.i16] = [Go.Sx.EK.i16] ∧ n * (2 : Nat) = n * (2 : Nat) ∧ List.take (Int.toNat ((0 : Int) + (↑x : Int)) * (2 : Nat) + (0 : Nat)) (mkN (n * (2 : Nat)) (chF n (tuC l) x)) ++ [Go.IntKind.wrap Go.IntKind.i16 ((0 : Int) - List.getD (List.take (2 : Nat) (List.drop (Int.toNat ((0 : Int) + (↑x : Int)) * (2 : Nat) + (0 : Nat)) l)) (1 : Nat) (0 : Int)), List.getD (List.take (2 : Nat) (List.drop (Int.toNat ((0 : Int) + (↑x : Int)) * (2 : Nat) + (0 : Nat)) l)) (0 : Nat) (0 : Int)] ++ List.drop (Int.toNat ((0 : Int) + (↑x : Int)) * (2 : Nat) + (0 : Nat) + (2 : Nat)) (mkN (n * (2 : Nat)) (chF n (tuC l) x)) = mkN (n * (2 : Nat)) (chF n (tuC l) y)) ∧ True) ∧ True) ∧ (Decidable.decide ((↑x : Int) < (↑n : Int)) = Bool.false → True ∧ True ∧ True ∧ True ∧ True ∧ True ∧ True ∧ True ∧ True ∧ ∃ (x_1 : Nat × List Int × Int), Gs (tuK n l) (tuF n l) x_1.fst x_1.snd.fst x_1.snd.snd ∧ ((Go.Sx.Cel.slc (1 : Nat) (0 : Nat) (0 : Int) (2 : Nat) (↑n : Int) (↑n : Int) = Go.Sx.Cel.slc (1 : Nat) (0 : Nat) (0 : Int) (2 : Nat) (↑(tuK n l) : Int) x_1.snd.snd ∧ (Go.IntKind.i64 = Go.IntKind.i64 ∧ (0 : Int) = tuE n l) ∧ True) ∧ True) ∧ True ∧ (Bool.true = Bool.true ∧ (66 : Nat) = (66 : Nat) ∧ ([Go.Sx.EK.i16] = [Go.Sx.EK.i16] ∧ n * (2 : Nat) = x_1.fst ∧ mkN (n * (2 : Nat)) (chF n (tuC l) x) = x_1.snd.fst) ∧ True) ∧ True))) (by kernel_rfl) ?_
  have ec : ∀ i, List.take 2 (List.drop (i * 2) l) = cor l i := fun _ => rfl
  simp only [true_and, and_true, and_self, decide_eq_true_eq, decide_eq_false_iff_not, Bool.not_eq_true', Bool.not_eq_false', Bool.not_true, Bool.not_false, beq_iff_eq, beq_eq_false_iff_ne, bne_iff_ne, bne_eq_false_iff_eq, ne_eq, not_true_eq_false, not_false_eq_true, false_implies, true_implies, implies_true, forall_const, exists_const, ↓reduceIte, Int.reduceEq, Int.toNat_natCast, Bool.false_eq_true, Bool.true_eq_false, reduceCtorEq, Int.zero_add, Nat.add_zero, ec, Int.ofNat_eq_natCast, Int.toNat_natCast, Cel.slc.injEq]
  refine ⟨⟨by omega, by omega, h3, h4, hw⟩, fun hb => fr_err' (by simp [tuK, hb]) (by simp [tuF, tuK, hb, mkN]) (by simp [tuE, hb]), fun hb => ?_⟩
  have ok := okB_t.1 hb
  have hn8 := ok.hi
  have k0 : tuK n l = n := by simp [tuK, hb]
  have f0 : tuF n l = mkN (n * 2) (tuC l) := by rw [tuF, k0]
  have e0 : tuE n l = 0 := by simp [tuE, hb]
  refine ⟨by omega, ⟨0, by omega, rfl, mkN_zero fun i hi => by simp [chF]⟩, ?_⟩
  intro k hk
  refine ⟨fun hlt => ⟨by omega, by omega, by omega, by omega, by omega, k + 1, by omega, by omega, by omega, ?_⟩, fun hge => ?_⟩
  · obtain ⟨p1, p2, p3, p4⟩ := ok.pl k (by omega)
    rw [i16w (by omega) (by omega)]
    exact ch_step (by omega) (by rw [cor1]; simp [tuC]) (by rw [cor0]; simp only [tuC]; rw [if_neg (by omega)]; rfl)
  · obtain rfl : k = n := by omega
    have hc : mkN (k * 2) (chF k (tuC l) k) = mkN (k * 2) (tuC l) := mkN_congr fun i hi => by rw [chF, if_pos (by omega)]
    exact ⟨(k * 2, mkN (k * 2) (tuC l), k), by rw [k0, f0]; exact Gs.full, ⟨⟨by rw [k0], rfl⟩, e0.symm⟩, rfl, hc⟩

theorem e_TurnS : EntryCOk Tryd.prog (TT e) 28 (gFr tuK tuF tuE) := by
  refine ⟨fnOk Tryd.func28 (by kernel_rfl) rfl, ?_⟩
  intro args H K hh n0 w0 β w vals hG hH hA
  unfold gFr at hh
  split at hh
  · split at hh
    · rename_i id b z s len cap _ o t ks n l hg
      obtain ⟨⟨⟨rfl, rfl, rfl, rfl, rfl⟩, h1, h0, h2, h3, h4, h5⟩, hk⟩ := hh
      have hk := withLenP_sound hk
      obtain ⟨len, rfl⟩ := Int.eq_ofNat_of_zero_le h1
      refine (entry_fresh tt_ok (inlN_ok tt_ok Cv_ok mixed ILtz_ok.ok 4) Cv_ok mixed Tryd.func28 [id] (x_TurnS n len l cap h0 (by omega) (by simpa using h3) h4 (by simpa using h5)) rfl (fun _ => rfl) (fun _ => rfl) ⟨.inr (by rw [hg]; rfl), trivial⟩ hG hH hA).mono ?_
      rintro e w' ⟨v, γ, x, rfl, h4, h5, h6⟩
      exact ⟨v, γ, _, _, rfl, hk _ _ _ h4, h5, h6⟩
    · exact hh.elim
  · exact hh.elim

theorem e_TurnI : EntryCOk Tryd.prog (TT e) 29 (gFr tuK tuF tuE) := by
  refine ⟨fnOk Tryd.func29 (by kernel_rfl) rfl, ?_⟩
  intro args H K hh n0 w0 β w vals hG hH hA
  unfold gFr at hh
  split at hh
  · split at hh
    · rename_i id b z s len cap _ o t ks n l hg
      obtain ⟨⟨⟨rfl, rfl, rfl, rfl, rfl⟩, h1, h0, h2, h3, h4, h5⟩, hk⟩ := hh
      have hk := withLenP_sound hk
      obtain ⟨len, rfl⟩ := Int.eq_ofNat_of_zero_le h1
      refine (entry_fresh tt_ok (inlN_ok tt_ok Cv_ok mixed ILti_ok.ok 5) Cv_ok mixed Tryd.func29 [id] (x_TurnI n len l cap h0 (by omega) (by simpa using h3) h4 (by simpa using h5)) rfl (fun _ => rfl) (fun _ => rfl) ⟨.inr (by rw [hg]; rfl), trivial⟩ hG hH hA).mono ?_
      rintro e w' ⟨v, γ, x, rfl, h4, h5, h6⟩
      exact ⟨v, γ, _, _, rfl, hk _ _ _ h4, h5, h6⟩
    · exact hh.elim
  · exact hh.elim

noncomputable def Mtu : List (FuncId × EntryC) := (28, gFr tuK tuF tuE) :: (29, gFr tuK tuF tuE) :: Mv
theorem Mtu_ok : EntriesCOk Tryd.prog (TT e) Mtu := ⟨e_TurnS, e_TurnI, Mv_ok⟩
noncomputable abbrev Ctu : Ctr := ctrOfM Ev Mtu
theorem Ctu_ok : CtrOk Tryd.prog (TT e) Ctu := ctrOfM_ok Ev_ok Mtu_ok

end Go.Proofs.YtkiblfgekojnoaaDoor
