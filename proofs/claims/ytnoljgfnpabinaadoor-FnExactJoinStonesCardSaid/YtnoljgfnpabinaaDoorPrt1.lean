/- So many corners from one on: both sides, as contracts. No conditions beyond the ranges of the kinds. -/
import Derived.Test.YtnoljgfnpabinaaDoorTur1
set_option linter.unusedSimpArgs false
set_option linter.unusedVariables false
namespace Go.Proofs.YtnoljgfnpabinaaDoor
open Go.Sx Go.RowKit

variable {e : Nat → Value}

theorem cor_two {l : List Int} {i : Nat} (h : i * 2 + 2 ≤ l.length) : cor l i = [(cor l i).getD 0 0, (cor l i).getD 1 0] := by
  have hc := cor_len h
  refine list_ext (by rw [hc]; rfl) fun j hj => ?_
  simp only [List.length_cons, List.length_nil] at hj
  rcases (show j = 0 ∨ j = 1 by omega) with rfl | rfl <;> rfl
theorem pt_push {n k f : Nat} {l : List Int} (hl : n * 2 ≤ l.length) (hn : 0 < n) : mkN ((k + 1) * 2) (ptF n l f (k + 1)) = mkN (k * 2) (ptF n l f k) ++ cor l ((f + k) % n) := by
  have hm : (f + k) % n < n := Nat.mod_lt _ hn
  rw [mkN_two, cor_two (l := l) (i := (f + k) % n) (by omega)]
  congr 1
  · refine mkN_congr fun i hi => ?_
    rw [ptF, ptF, if_pos (by omega), if_pos hi]
  · rw [ptF, ptF, if_pos (by omega), if_pos (by omega), show k * 2 / 2 = k by omega, show (k * 2 + 1) / 2 = k by omega, show k * 2 % 2 = 0 by omega, show (k * 2 + 1) % 2 = 1 by omega]

/-- How many corners there are from one up to another one. -/
def ctN (n f t : Nat) : Nat := (t + n - f) % n + 1
theorem ctN_eq {n f t : Nat} (hf : f < n) (ht : t < n) : ctN n f t = (if f ≤ t then t - f else t + n - f) + 1 := by
  unfold ctN
  split
  · rw [Nat.mod_eq_sub_mod (by omega), Nat.mod_eq_of_lt (by omega)]; omega
  · rw [Nat.mod_eq_of_lt (by omega)]
theorem ct_at {n f t k : Nat} (hf : f < n) (ht : t < n) (hk : k < ctN n f t) : (f + k) % n = t ↔ k + 1 = ctN n f t := by
  rw [ctN_eq hf ht] at hk ⊢
  rw [md hf (by split at hk <;> omega)]
  split at hk <;> split <;> omega

def lmPs (n : Nat) (l : List Int) (f t : Nat) : LAnn := { ι := Nat × Nat × List Int × Int, inv := fun _ x => x.1 < ctN n f t ∧ Gs x.1 (mkN (x.1 * 2) (ptF n l f x.1)) x.2.1 x.2.2.1 x.2.2.2, slots := fun _ x => [(7, .a (.c (.slc 2 0 0 2 x.1 x.2.2.2))), (9, .a (.c (.int .i64 ((f + x.1) % n : Nat))))], blks := fun _ _ => [], μ := fun _ x => ctN n f t - x.1, kills := [1], frs := fun _ x => [.cells true 35 [.run [.i16] x.2.1 x.2.2.1]], mv := fun st => [slotB st 7] }

theorem x_partS (m n f t : Nat) (l : List Int) (cap : Int) (h1 : n ≤ 1048576) (h3 : n * 2 ≤ m) (h4 : l.length = m) (hf : f < n) (ht : t < n) : Fex true (TT e) (inlN true (TT e) C0 (lookI ILtz) 4) C0 (fun _ => .inv (lmPs n l f t)) Tryd.f13 [.a (.c (.slc 0 0 0 2 n cap)), .a (.c (.int .i64 f)), .a (.c (.int .i64 t))] [.cells false 35 [.run [.i16] m l]]
    (fun lv H' => ∃ x : Nat × List Int × Int, Gs (ctN n f t) (mkN (ctN n f t * 2) (ptF n l f (ctN n f t))) x.1 x.2.1 x.2.2 ∧ leSt ⟨[lv], H'⟩ ⟨[rnL ([0].length + ·) (.a (.c (.slc 0 0 0 2 (ctN n f t) x.2.2)))], deadsN [0].length ++ [.cells true 35 [.run [.i16] x.1 x.2.1]]⟩ [0].length (resB lv)) := by
  refine Go.Sx.by_eq (q := True ∧ True ∧ True ∧ True ∧ True ∧ True ∧ True ∧ True ∧ (∃ (x : Nat × Nat × List Int × Int), (x.fst < ctN n f t ∧ Gs x.fst (mkN (x.fst * (2 : Nat)) (ptF n l f x.fst)) x.snd.fst x.snd.snd.fst x.snd.snd.snd) ∧ (Cel.slc (0 : Nat) (0 : Nat) (0 : Int) (2 : Nat) (↑n : Int) cap = Cel.slc (0 : Nat) (0 : Nat) (0 : Int) (2 : Nat) (↑n : Int) cap ∧ (IntKind.i64 = IntKind.i64 ∧ (↑f : Int) = (↑f : Int)) ∧ (IntKind.i64 = IntKind.i64 ∧ (↑t : Int) = (↑t : Int)) ∧ Cel.val Go.undef = Cel.val Go.undef ∧ Cel.val Go.undef = Cel.val Go.undef ∧ Cel.val Go.undef = Cel.val Go.undef ∧ True ∧ Cel.slc (1 : Nat) (0 : Nat) (0 : Int) (2 : Nat) (0 : Int) (0 : Int) = Cel.slc (1 : Nat) (0 : Nat) (0 : Int) (2 : Nat) (↑x.fst : Int) x.snd.snd.snd ∧ (IntKind.i64 = IntKind.i64 ∧ (↑n : Int) = (↑n : Int)) ∧ (IntKind.i64 = IntKind.i64 ∧ (↑f : Int) = (↑((f + x.fst) % n) : Int)) ∧ Cel.slc (1 : Nat) (0 : Nat) (0 : Int) (2 : Nat) (0 : Int) (0 : Int) = Cel.slc (1 : Nat) (0 : Nat) (0 : Int) (2 : Nat) (0 : Int) (0 : Int) ∧ Cel.slc (0 : Nat) (0 : Nat) (0 : Int) (2 : Nat) (↑n : Int) cap = Cel.slc (0 : Nat) (0 : Nat) (0 : Int) (2 : Nat) (↑n : Int) cap ∧ (IntKind.i64 = IntKind.i64 ∧ (↑n : Int) = (↑n : Int)) ∧ (IntKind.i64 = IntKind.i64 ∧ (↑f : Int) = (↑f : Int)) ∧ True ∧ True ∧ True ∧ True ∧ True ∧ True ∧ True ∧ True ∧ True ∧ True ∧ True ∧ True ∧ True ∧ True ∧ True ∧ True) ∧ (Bool.false = Bool.false ∧ (35 : Nat) = (35 : Nat) ∧ ([EK.i16] = [EK.i16] ∧ m = m ∧ l = l) ∧ True) ∧ True ∧ (Bool.true = Bool.true ∧ (35 : Nat) = (35 : Nat) ∧ ([EK.i16] = [EK.i16] ∧ (0 : Nat) = x.snd.fst ∧ [] = x.snd.snd.fst) ∧ True) ∧ True) ∧ ∀ (x : Nat × Nat × List Int × Int), x.fst < ctN n f t ∧ Gs x.fst (mkN (x.fst * (2 : Nat)) (ptF n l f x.fst)) x.snd.fst x.snd.snd.fst x.snd.snd.snd → True ∧ True ∧ True ∧ ((0 : Int) ≤ (↑((f + x.fst) % n) : Int) ∧ (↑((f + x.fst) % n) : Int) < (↑n : Int)) ∧ ((0 : Int) ≤ (0 : Int) + (↑((f + x.fst) % n) : Int) ∧ Int.toNat ((0 : Int) + (↑((f + x.fst) % n) : Int)) * (2 : Nat) + (0 : Nat) + (2 : Nat) ≤ m) ∧ True ∧ ((Int.toNat (0 : Int) + Int.toNat (↑x.fst : Int)) * (2 : Nat) ≤ x.snd.fst ∧ (Int.toNat (0 : Int) + Int.toNat (↑(1 : Nat) : Int)) * (2 : Nat) ≤ (2 : Nat) ∧ ((↑x.fst : Int) + (↑(1 : Nat) : Int)) * (↑(4 : Nat) : Int) ≤ (140737488355328 : Int) ∧ (↑x.fst : Int) + (↑(1 : Nat) : Int) ≤ (9223372036854775807 : Int)) ∧ ((0 : Int) = (0 : Int) ∧ x.snd.fst = Int.toNat x.snd.snd.snd * (2 : Nat)) ∧ ∀ (n_1 : Nat) (L : List Int) (cap_1 : Int), (↑x.fst : Int) + (↑(1 : Nat) : Int) ≤ cap_1 → n_1 = Int.toNat cap_1 * (2 : Nat) → List.length L = n_1 → List.take (Int.toNat ((↑x.fst : Int) + (↑(1 : Nat) : Int)) * (2 : Nat)) L = List.take (Int.toNat (↑x.fst : Int) * (2 : Nat)) (List.drop (Int.toNat (0 : Int) * (2 : Nat)) x.snd.snd.fst) ++ List.take (Int.toNat (↑(1 : Nat) : Int) * (2 : Nat)) (List.drop (Int.toNat (0 : Int) * (2 : Nat)) (List.take (2 : Nat) (List.drop (Int.toNat ((0 : Int) + (↑((f + x.fst) % n) : Int)) * (2 : Nat) + (0 : Nat)) l) ++ [])) → True ∧ True ∧ True ∧ True ∧ (((↑((f + x.fst) % n) : Int) == (↑t : Int)) = Bool.true → True ∧ True ∧ ∃ (x_1 : Nat × List Int × Int), Gs (ctN n f t) (mkN (ctN n f t * (2 : Nat)) (ptF n l f (ctN n f t))) x_1.fst x_1.snd.fst x_1.snd.snd ∧ (Cel.slc (4 : Nat) (0 : Nat) (0 : Int) (2 : Nat) ((↑x.fst : Int) + (↑(1 : Nat) : Int)) cap_1 = Cel.slc (4 : Nat) (0 : Nat) (0 : Int) (2 : Nat) (↑(ctN n f t) : Int) x_1.snd.snd ∧ True) ∧ True ∧ (Bool.true = Bool.true ∧ (35 : Nat) = (35 : Nat) ∧ ([EK.i16] = [EK.i16] ∧ n_1 = x_1.fst ∧ L = x_1.snd.fst) ∧ True) ∧ True) ∧ (((↑((f + x.fst) % n) : Int) == (↑t : Int)) = Bool.false → True ∧ ((-9223372036854775808 : Int) ≤ (↑((f + x.fst) % n) : Int) + (1 : Int) ∧ (↑((f + x.fst) % n) : Int) + (1 : Int) ≤ (9223372036854775807 : Int)) ∧ True ∧ (↑n : Int) ≠ (0 : Int) ∧ True ∧ ∃ (y : Nat × Nat × List Int × Int), (y.fst < ctN n f t ∧ Gs y.fst (mkN (y.fst * (2 : Nat)) (ptF n l f y.fst)) y.snd.fst y.snd.snd.fst y.snd.snd.snd) ∧ ctN n f t - y.fst < ctN n f t - x.fst ∧ (Cel.slc (0 : Nat) (0 : Nat) (0 : Int) (2 : Nat) (↑n : Int) cap = Cel.slc (0 : Nat) (0 : Nat) (0 : Int) (2 : Nat) (↑n : Int) cap ∧ (IntKind.i64 = IntKind.i64 ∧ (↑f : Int) = (↑f : Int)) ∧ (IntKind.i64 = IntKind.i64 ∧ (↑t : Int) = (↑t : Int)) ∧ Cel.val Go.undef = Cel.val Go.undef ∧ Cel.val Go.undef = Cel.val Go.undef ∧ Cel.val Go.undef = Cel.val Go.undef ∧ True ∧ Cel.slc (4 : Nat) (0 : Nat) (0 : Int) (2 : Nat) ((↑x.fst : Int) + (↑(1 : Nat) : Int)) cap_1 = Cel.slc (4 : Nat) (0 : Nat) (0 : Int) (2 : Nat) (↑y.fst : Int) y.snd.snd.snd ∧ (IntKind.i64 = IntKind.i64 ∧ (↑n : Int) = (↑n : Int)) ∧ (IntKind.i64 = IntKind.i64 ∧ Int.tmod ((↑((f + x.fst) % n) : Int) + (1 : Int)) (↑n : Int) = (↑((f + y.fst) % n) : Int)) ∧ Cel.slc (1 : Nat) (0 : Nat) (0 : Int) (2 : Nat) (0 : Int) (0 : Int) = Cel.slc (1 : Nat) (0 : Nat) (0 : Int) (2 : Nat) (0 : Int) (0 : Int) ∧ Cel.slc (0 : Nat) (0 : Nat) (0 : Int) (2 : Nat) (↑n : Int) cap = Cel.slc (0 : Nat) (0 : Nat) (0 : Int) (2 : Nat) (↑n : Int) cap ∧ (IntKind.i64 = IntKind.i64 ∧ (↑n : Int) = (↑n : Int)) ∧ (IntKind.i64 = IntKind.i64 ∧ (↑f : Int) = (↑f : Int)) ∧ True ∧ True ∧ True ∧ True ∧ True ∧ True ∧ True ∧ True ∧ True ∧ True ∧ True ∧ True ∧ True ∧ True ∧ True ∧ True) ∧ (Bool.false = Bool.false ∧ (35 : Nat) = (35 : Nat) ∧ ([EK.i16] = [EK.i16] ∧ m = m ∧ l = l) ∧ True) ∧ True ∧ (Bool.true = Bool.true ∧ (35 : Nat) = (35 : Nat) ∧ ([EK.i16] = [EK.i16] ∧ n_1 = y.snd.fst ∧ L = y.snd.snd.fst) ∧ True) ∧ True)) (by kernel_rfl) ?_
  have ec : ∀ i, List.take 2 (List.drop (i * 2) l) = cor l i := fun _ => rfl
  simp only [true_and, and_true, and_self, decide_eq_true_eq, decide_eq_false_iff_not, Bool.not_eq_true', Bool.not_eq_false', Bool.not_true, Bool.not_false, beq_iff_eq, beq_eq_false_iff_ne, bne_iff_ne, bne_eq_false_iff_eq, ne_eq, not_true_eq_false, not_false_eq_true, false_implies, true_implies, implies_true, forall_const, exists_const, ↓reduceIte, Int.reduceEq, Int.toNat_natCast, Bool.false_eq_true, Bool.true_eq_false, reduceCtorEq, Int.zero_add, Nat.add_zero, ec, Int.ofNat_eq_natCast, Int.toNat_natCast, Cel.slc.injEq, tmodN]
  have hn : 0 < n := by omega
  refine ⟨⟨(0, 0, [], 0), ⟨by unfold ctN; omega, by simpa [mkN] using Gs.nil⟩, ⟨⟨rfl, rfl⟩, by simp only [Nat.add_zero, Nat.mod_eq_of_lt hf]⟩, rfl, rfl⟩, ?_⟩
  rintro ⟨k, N, L, cp⟩ ⟨hk, g⟩
  simp only at hk g ⊢
  have hr := g.room
  have hm : (f + k) % n < n := Nat.mod_lt _ hn
  have hcn := ctN_eq hf ht
  have ctn : ctN n f t ≤ n := by rw [hcn]; split <;> omega
  have tc : List.take 2 (cor l ((f + k) % n)) = cor l ((f + k) % n) := List.take_of_length_le (by rw [cor_len (by omega)]; omega)
  refine ⟨by omega, by omega, ⟨by omega, by omega, by omega, by omega⟩, by have := g.e; omega, fun n' L' cap' q1 q2 q3 q4 => ?_⟩
  have g' : Gs (k + 1) (mkN ((k + 1) * 2) (ptF n l f (k + 1))) n' L' cap' := by
    rw [pt_push (by omega) hn]
    refine g.push q1 q2 q3 ?_
    refine (show List.take ((k + 1) * 2) L' = _ from q4).trans ?_
    simp [tc]
  have hat := ct_at hf ht hk
  refine ⟨fun hc => ?_, fun hc => ⟨by omega, by omega, (k + 1, n', L', cap'), ⟨?_, g'⟩, by simp only; omega, ⟨⟨by simp, rfl⟩, ?_⟩, rfl, rfl⟩⟩
  · have e1 : k + 1 = ctN n f t := hat.1 (by omega)
    rw [e1] at g'
    exact ⟨(n', L', cap'), g', ⟨by omega, rfl⟩, rfl, rfl⟩
  · simp only
    have : ¬ k + 1 = ctN n f t := fun h => hc (by rw [hat.2 h])
    omega
  · simp only
    rw [Nat.mod_add_mod, Nat.add_assoc]

noncomputable def ILpt  : List (FuncId × Func × (Nat → LM)) := [
  (26, Tryd.f26, U0)]
theorem ILpt_ok  : InlsOk Tryd.prog ILpt := ⟨⟨Tryd.func26, by kernel_rfl⟩, trivial⟩
theorem x_partI (m n f c : Nat) (l : List Int) (cap : Int) (h0 : 0 < n) (h1 : n ≤ 1048576) (h3 : n * 2 ≤ m) (h4 : l.length = m) (hf : f ≤ 1048576) (hc : c ≤ 1048576) : Fex true (TT e) (inlN true (TT e) C0 (lookI ILpt) 4) C0 (fun _ => .inv (lmPt n l)) Tryd.f27 [.a (.c (.slc 0 0 0 2 n cap)), .a (.c (.int .i64 f)), .a (.c (.int .i64 c))] [.cells false 35 [.run [.i16] m l]]
    (fun lv H' => ∃ x : Nat × List Int × Int, Gs c (mkN (c * 2) (ptF n l f c)) x.1 x.2.1 x.2.2 ∧ leSt ⟨[lv], H'⟩ ⟨[rnL ([0].length + ·) (.a (.c (.slc 0 0 0 2 c x.2.2)))], deadsN [0].length ++ [.cells true 35 [.run [.i16] x.1 x.2.1]]⟩ [0].length (resB lv)) := by
  refine Go.Sx.by_eq (q := True ∧ True ∧ ((0 : Int) ≤ (↑c : Int) ∧ (↑c : Int) ≤ (↑c : Int) ∧ (↑c : Int) ≤ (9223372036854775807 : Int) ∧ (↑(4 : Nat) : Int) * (↑c : Int) ≤ (281474976710656 : Int)) ∧ True ∧ True ∧ True ∧ (∃ (x : Nat), x ≤ Int.toNat (↑c : Int) ∧ (Cel.slc (0 : Nat) (0 : Nat) (0 : Int) (2 : Nat) (↑n : Int) cap = Cel.slc (0 : Nat) (0 : Nat) (0 : Int) (2 : Nat) (↑n : Int) cap ∧ (IntKind.i64 = IntKind.i64 ∧ (↑f : Int) = (↑f : Int)) ∧ (IntKind.i64 = IntKind.i64 ∧ (↑c : Int) = (↑c : Int)) ∧ Cel.val Go.undef = Cel.val Go.undef ∧ Cel.val Go.undef = Cel.val Go.undef ∧ Cel.val Go.undef = Cel.val Go.undef ∧ Cel.val (Go.Value.slice Option.none (0 : Nat) (0 : Nat)) = Cel.val (Go.Value.slice Option.none (0 : Nat) (0 : Nat)) ∧ Cel.slc (1 : Nat) (0 : Nat) (0 : Int) (2 : Nat) (↑c : Int) (↑c : Int) = Cel.slc (1 : Nat) (0 : Nat) (0 : Int) (2 : Nat) (↑c : Int) (↑c : Int) ∧ True ∧ (IntKind.i64 = IntKind.i64 ∧ (↑c : Int) = (↑c : Int)) ∧ Cel.slc (1 : Nat) (0 : Nat) (0 : Int) (2 : Nat) (↑c : Int) (↑c : Int) = Cel.slc (1 : Nat) (0 : Nat) (0 : Int) (2 : Nat) (↑c : Int) (↑c : Int) ∧ (IntKind.i64 = IntKind.i64 ∧ (↑c : Int) = (↑c : Int)) ∧ (IntKind.i64 = IntKind.i64 ∧ (0 : Int) = (↑x : Int)) ∧ True ∧ True ∧ True ∧ True ∧ True ∧ True ∧ True ∧ True ∧ True ∧ True ∧ True ∧ Cel.val Go.undef = Cel.val Go.undef ∧ True) ∧ (Bool.false = Bool.false ∧ (35 : Nat) = (35 : Nat) ∧ ([EK.i16] = [EK.i16] ∧ m = m ∧ l = l) ∧ True) ∧ (Bool.true = Bool.true ∧ (35 : Nat) = (35 : Nat) ∧ ([EK.i16] = [EK.i16] ∧ Int.toNat (↑c : Int) * (2 : Nat) = Int.toNat (↑c : Int) * (2 : Nat) ∧ List.replicate (Int.toNat (↑c : Int) * (2 : Nat)) (0 : Int) = mkN (Int.toNat (↑c : Int) * (2 : Nat)) (ptF n l (Int.toNat (↑f : Int)) x)) ∧ True) ∧ True) ∧ ∀ (x : Nat), x ≤ Int.toNat (↑c : Int) → True ∧ (Decidable.decide ((↑x : Int) < (↑c : Int)) = Bool.true → True ∧ True ∧ True ∧ True ∧ True ∧ True ∧ True ∧ ((-9223372036854775808 : Int) ≤ (↑f : Int) + (↑x : Int) ∧ (↑f : Int) + (↑x : Int) ≤ (9223372036854775807 : Int)) ∧ True ∧ True ∧ True ∧ True ∧ True ∧ True ∧ True ∧ ((-9223372036854775808 : Int) ≤ (↑f : Int) + (↑x : Int) + (↑n : Int) ∧ (↑f : Int) + (↑x : Int) + (↑n : Int) ≤ (9223372036854775807 : Int)) ∧ True ∧ (↑n : Int) ≠ (0 : Int) ∧ ((0 : Int) ≤ Int.tmod ((↑f : Int) + (↑x : Int) + (↑n : Int)) (↑n : Int) ∧ Int.tmod ((↑f : Int) + (↑x : Int) + (↑n : Int)) (↑n : Int) < (↑n : Int)) ∧ ((0 : Int) ≤ (0 : Int) + Int.tmod ((↑f : Int) + (↑x : Int) + (↑n : Int)) (↑n : Int) ∧ Int.toNat ((0 : Int) + Int.tmod ((↑f : Int) + (↑x : Int) + (↑n : Int)) (↑n : Int)) * (2 : Nat) + (0 : Nat) + (2 : Nat) ≤ m) ∧ True ∧ ((0 : Int) ≤ (↑x : Int) ∧ (↑x : Int) < (↑c : Int)) ∧ ((0 : Int) ≤ (0 : Int) + (↑x : Int) ∧ Int.toNat ((0 : Int) + (↑x : Int)) * (2 : Nat) + (0 : Nat) + (2 : Nat) ≤ Int.toNat (↑c : Int) * (2 : Nat)) ∧ ((-9223372036854775808 : Int) ≤ (↑x : Int) + (1 : Int) ∧ (↑x : Int) + (1 : Int) ≤ (9223372036854775807 : Int)) ∧ True ∧ ∃ (y : Nat), y ≤ Int.toNat (↑c : Int) ∧ Int.toNat (↑c : Int) - y < Int.toNat (↑c : Int) - x ∧ (Cel.slc (0 : Nat) (0 : Nat) (0 : Int) (2 : Nat) (↑n : Int) cap = Cel.slc (0 : Nat) (0 : Nat) (0 : Int) (2 : Nat) (↑n : Int) cap ∧ (IntKind.i64 = IntKind.i64 ∧ (↑f : Int) = (↑f : Int)) ∧ (IntKind.i64 = IntKind.i64 ∧ (↑c : Int) = (↑c : Int)) ∧ Cel.val Go.undef = Cel.val Go.undef ∧ Cel.val Go.undef = Cel.val Go.undef ∧ Cel.val Go.undef = Cel.val Go.undef ∧ Cel.val (Go.Value.slice Option.none (0 : Nat) (0 : Nat)) = Cel.val (Go.Value.slice Option.none (0 : Nat) (0 : Nat)) ∧ Cel.slc (1 : Nat) (0 : Nat) (0 : Int) (2 : Nat) (↑c : Int) (↑c : Int) = Cel.slc (1 : Nat) (0 : Nat) (0 : Int) (2 : Nat) (↑c : Int) (↑c : Int) ∧ True ∧ (IntKind.i64 = IntKind.i64 ∧ (↑c : Int) = (↑c : Int)) ∧ Cel.slc (1 : Nat) (0 : Nat) (0 : Int) (2 : Nat) (↑c : Int) (↑c : Int) = Cel.slc (1 : Nat) (0 : Nat) (0 : Int) (2 : Nat) (↑c : Int) (↑c : Int) ∧ (IntKind.i64 = IntKind.i64 ∧ (↑c : Int) = (↑c : Int)) ∧ (IntKind.i64 = IntKind.i64 ∧ (↑x : Int) + (1 : Int) = (↑y : Int)) ∧ True ∧ True ∧ True ∧ True ∧ True ∧ True ∧ True ∧ True ∧ True ∧ True ∧ True ∧ Cel.val Go.undef = Cel.val Go.undef ∧ True) ∧ (Bool.false = Bool.false ∧ (35 : Nat) = (35 : Nat) ∧ ([EK.i16] = [EK.i16] ∧ m = m ∧ l = l) ∧ True) ∧ (Bool.true = Bool.true ∧ (35 : Nat) = (35 : Nat) ∧ ([EK.i16] = [EK.i16] ∧ Int.toNat (↑c : Int) * (2 : Nat) = Int.toNat (↑c : Int) * (2 : Nat) ∧ List.take (Int.toNat ((0 : Int) + (↑x : Int)) * (2 : Nat) + (0 : Nat)) (mkN (Int.toNat (↑c : Int) * (2 : Nat)) (ptF n l (Int.toNat (↑f : Int)) x)) ++ (List.take (2 : Nat) (List.drop (Int.toNat ((0 : Int) + Int.tmod ((↑f : Int) + (↑x : Int) + (↑n : Int)) (↑n : Int)) * (2 : Nat) + (0 : Nat)) l) ++ []) ++ List.drop (Int.toNat ((0 : Int) + (↑x : Int)) * (2 : Nat) + (0 : Nat) + (2 : Nat)) (mkN (Int.toNat (↑c : Int) * (2 : Nat)) (ptF n l (Int.toNat (↑f : Int)) x)) = mkN (Int.toNat (↑c : Int) * (2 : Nat)) (ptF n l (Int.toNat (↑f : Int)) y)) ∧ True) ∧ True) ∧ (Decidable.decide ((↑x : Int) < (↑c : Int)) = Bool.false → True ∧ True ∧ ∃ (x_1 : Nat × List Int × Int), Gs c (mkN (c * (2 : Nat)) (ptF n l f c)) x_1.fst x_1.snd.fst x_1.snd.snd ∧ (Cel.slc (1 : Nat) (0 : Nat) (0 : Int) (2 : Nat) (↑c : Int) (↑c : Int) = Cel.slc (1 : Nat) (0 : Nat) (0 : Int) (2 : Nat) (↑c : Int) x_1.snd.snd ∧ True) ∧ True ∧ (Bool.true = Bool.true ∧ (35 : Nat) = (35 : Nat) ∧ ([EK.i16] = [EK.i16] ∧ Int.toNat (↑c : Int) * (2 : Nat) = x_1.fst ∧ mkN (Int.toNat (↑c : Int) * (2 : Nat)) (ptF n l (Int.toNat (↑f : Int)) x) = x_1.snd.fst) ∧ True) ∧ True)) (by kernel_rfl) ?_
  have ec : ∀ i, List.take 2 (List.drop (i * 2) l) = cor l i := fun _ => rfl
  simp only [true_and, and_true, and_self, decide_eq_true_eq, decide_eq_false_iff_not, Bool.not_eq_true', Bool.not_eq_false', Bool.not_true, Bool.not_false, beq_iff_eq, beq_eq_false_iff_ne, bne_iff_ne, bne_eq_false_iff_eq, ne_eq, not_true_eq_false, not_false_eq_true, false_implies, true_implies, implies_true, forall_const, exists_const, ↓reduceIte, Int.reduceEq, Int.toNat_natCast, Bool.false_eq_true, Bool.true_eq_false, reduceCtorEq, Int.zero_add, Nat.add_zero, ec, Int.ofNat_eq_natCast, Int.toNat_natCast, Cel.slc.injEq, tmodP]
  refine ⟨by omega, ⟨0, by omega, rfl, mkN_zero fun _ _ => by simp [ptF]⟩, ?_⟩
  intro k hk
  have hm : (f + k) % n < n := Nat.mod_lt _ h0
  refine ⟨fun hlt => ⟨by omega, by omega, by omega, by omega, by omega, by omega, by omega, by omega, k + 1, by omega, by omega, by omega, put_ptF (by omega) h0 (by omega)⟩, fun hge => ?_⟩
  obtain rfl : k = c := by omega
  exact ⟨(k * 2, mkN (k * 2) (ptF n l f k), k), Gs.full, rfl, rfl, rfl⟩

def gPtS : EntryC := fun args H K => match args with
  | [.a (.c (.slc id b z s len _)), .a (.c (.int .i64 f)), .a (.c (.int .i64 u))] => match getB H id with
    | .cells _ t [.run ks n l] => ((t = 35 ∧ b = 0 ∧ z = 0 ∧ s = 2 ∧ ks = [.i16]) ∧ 0 ≤ len ∧ len ≤ 1048576 ∧ len.toNat * 2 ≤ n ∧ l.length = n ∧ 0 ≤ f ∧ f < len ∧ 0 ≤ u ∧ u < len) ∧
      withLenP H fun m => ∀ N L cp, Gs (ctN len.toNat f.toNat u.toNat) (mkN (ctN len.toNat f.toNat u.toNat * 2) (ptF len.toNat l f.toNat (ctN len.toNat f.toNat u.toNat))) N L cp → K (.a (.c (.slc m 0 0 2 (ctN len.toNat f.toNat u.toNat) cp))) (H ++ [.cells true 35 [.run [.i16] N L]])
    | _ => Stuck "part"
  | _ => Stuck "part"
theorem e_partS : EntryCOk Tryd.prog (TT e) 13 gPtS := by
  refine ⟨fnOk Tryd.func13 (by kernel_rfl) rfl, ?_⟩
  intro args H K hh n0 w0 β w vals hG hH hA
  unfold gPtS at hh
  split at hh
  · split at hh
    · rename_i id b z s len _ f u _ o t ks n l hg
      obtain ⟨⟨⟨rfl, rfl, rfl, rfl, rfl⟩, h1, h2, h3, h4, h5, h6, h7, h8⟩, hk⟩ := hh
      have hk := withLenP_sound hk
      obtain ⟨len, rfl⟩ := Int.eq_ofNat_of_zero_le h1
      obtain ⟨f, rfl⟩ := Int.eq_ofNat_of_zero_le h5
      obtain ⟨u, rfl⟩ := Int.eq_ofNat_of_zero_le h7
      refine (entry_fresh tt_ok (inlN_ok tt_ok C0_ok mixed ILtz_ok.ok 4) C0_ok mixed Tryd.func13 [id] (x_partS n len f u l _ (by omega) (by simpa using h3) h4 (by omega) (by omega)) rfl (fun _ => rfl) (fun _ => rfl) ⟨.inr (by rw [hg]; rfl), trivial⟩ hG hH hA).mono ?_
      rintro e w' ⟨v, γ, x, rfl, h4, h5, h6⟩
      exact ⟨v, γ, _, _, rfl, hk _ _ _ h4, h5, h6⟩
    · exact hh.elim
  · exact hh.elim
def gPtI : EntryC := fun args H K => match args with
  | [.a (.c (.slc id b z s len _)), .a (.c (.int .i64 f)), .a (.c (.int .i64 c))] => match getB H id with
    | .cells _ t [.run ks n l] => ((t = 35 ∧ b = 0 ∧ z = 0 ∧ s = 2 ∧ ks = [.i16]) ∧ 0 < len ∧ len ≤ 1048576 ∧ len.toNat * 2 ≤ n ∧ l.length = n ∧ 0 ≤ f ∧ f ≤ 1048576 ∧ 0 ≤ c ∧ c ≤ 1048576) ∧
      withLenP H fun m => ∀ N L cp, Gs c.toNat (mkN (c.toNat * 2) (ptF len.toNat l f.toNat c.toNat)) N L cp → K (.a (.c (.slc m 0 0 2 c.toNat cp))) (H ++ [.cells true 35 [.run [.i16] N L]])
    | _ => Stuck "part"
  | _ => Stuck "part"
theorem e_partI : EntryCOk Tryd.prog (TT e) 27 gPtI := by
  refine ⟨fnOk Tryd.func27 (by kernel_rfl) rfl, ?_⟩
  intro args H K hh n0 w0 β w vals hG hH hA
  unfold gPtI at hh
  split at hh
  · split at hh
    · rename_i id b z s len _ f c _ o t ks n l hg
      obtain ⟨⟨⟨rfl, rfl, rfl, rfl, rfl⟩, h1, h2, h3, h4, h5, h6, h7, h8⟩, hk⟩ := hh
      have hk := withLenP_sound hk
      obtain ⟨len, rfl⟩ := Int.eq_ofNat_of_zero_le (Int.le_of_lt h1)
      obtain ⟨f, rfl⟩ := Int.eq_ofNat_of_zero_le h5
      obtain ⟨c, rfl⟩ := Int.eq_ofNat_of_zero_le h7
      refine (entry_fresh tt_ok (inlN_ok tt_ok C0_ok mixed ILpt_ok.ok 4) C0_ok mixed Tryd.func27 [id] (x_partI n len f c l _ (by omega) (by omega) (by simpa using h3) h4 (by omega) (by omega)) rfl (fun _ => rfl) (fun _ => rfl) ⟨.inr (by rw [hg]; rfl), trivial⟩ hG hH hA).mono ?_
      rintro e w' ⟨v, γ, x, rfl, h4, h5, h6⟩
      exact ⟨v, γ, _, _, rfl, hk _ _ _ h4, h5, h6⟩
    · exact hh.elim
  · exact hh.elim
noncomputable def Mpt : List (FuncId × EntryC) := (13, gPtS) :: (27, gPtI) :: Mv
theorem Mpt_ok : EntriesCOk Tryd.prog (TT e) Mpt := ⟨e_partS, e_partI, Mv_ok⟩
noncomputable abbrev Cpt : Ctr := ctrOfM Ev Mpt
theorem Cpt_ok : CtrOk Tryd.prog (TT e) Cpt := ctrOfM_ok Ev_ok Mpt_ok

end Go.Proofs.YtnoljgfnpabinaaDoor
