/- Valid palettes, and how far tones are apart: both sides. No conditions beyond the ranges of the kinds. -/
import Derived.Test.YtaaohciojedncaaPal1
set_option linter.unusedSimpArgs false
set_option linter.unusedVariables false
namespace Go.Proofs.Ytaaohciojedncaa
open Go.Sx Go.RowKit

/-! ### Valid palettes -/
/-- A palette is valid. -/
structure PalP (n : Nat) (l : List Int) : Prop where
  lo : 1 ≤ n
  hi : n ≤ 15
  df : ∀ i, i < n → ∀ k, k < i → rcd 3 l i ≠ rcd 3 l k
open Classical in
noncomputable def palB (n : Nat) (l : List Int) : Bool := decide (PalP n l)
theorem palB_t {n : Nat} {l : List Int} : palB n l = true ↔ PalP n l := by simp [palB]
theorem palB_f {n : Nat} {l : List Int} : palB n l = false ↔ ¬ PalP n l := by simp [palB]

/-- The map of the first tones. -/
def mpT (l : List Int) : Nat → List (List Int × Int)
  | 0 => []
  | k + 1 => mpPut (mpT l k) (rcd 3 l k) 1

theorem mpPut_length {x : List Int} {v : Int} : ∀ {L : List (List Int × Int)}, (mpPut L x v).length = if mpHas L x then L.length else L.length + 1
  | [] => rfl
  | p :: r => by
    unfold mpPut mpHas
    by_cases h : x == p.1
    · simp [h]
    · simp only [h, Bool.false_eq_true, ↓reduceIte, List.length_cons, mpPut_length (L := r), Bool.false_or]
      split <;> rfl
theorem mpHas_put {x y : List Int} {v : Int} : ∀ {L : List (List Int × Int)}, mpHas (mpPut L x v) y = (y == x || mpHas L y)
  | [] => by simp [mpPut, mpHas]
  | (a, b) :: r => by
    have ih := mpHas_put (x := x) (y := y) (v := v) (L := r)
    unfold mpPut
    by_cases h : x = a
    · subst h
      simp only [beq_self_eq_true, ↓reduceIte, mpHas]
      cases (y == x) <;> simp
    · have h' : (x == a) = false := by simp [h]
      simp only [h', Bool.false_eq_true, ↓reduceIte, mpHas, ih]
      cases (y == x) <;> cases (y == a) <;> simp
theorem mpT_has {l : List Int} {y : List Int} : ∀ {k : Nat}, mpHas (mpT l k) y = true ↔ ∃ i, i < k ∧ rcd 3 l i = y
  | 0 => by simp [mpT, mpHas]
  | k + 1 => by
    rw [mpT, mpHas_put, Bool.or_eq_true, beq_iff_eq, mpT_has (k := k)]
    constructor
    · rintro (h | ⟨i, hi, h⟩)
      · exact ⟨k, by omega, h.symm⟩
      · exact ⟨i, by omega, h⟩
    · rintro ⟨i, hi, h⟩
      rcases (show i = k ∨ i < k by omega) with rfl | h'
      · exact .inl h.symm
      · exact .inr ⟨i, h', h⟩
theorem mpT_le {l : List Int} : ∀ {k : Nat}, (mpT l k).length ≤ k
  | 0 => by simp [mpT]
  | k + 1 => by
    have := mpT_le (l := l) (k := k)
    rw [mpT, mpPut_length]
    split <;> omega
theorem mpT_len {l : List Int} : ∀ {k : Nat}, (mpT l k).length = k ↔ ∀ i, i < k → ∀ j, j < i → rcd 3 l i ≠ rcd 3 l j
  | 0 => by simp [mpT]
  | k + 1 => by
    have h1 := mpT_le (l := l) (k := k)
    have h2 := mpT_len (l := l) (k := k)
    rw [mpT, mpPut_length]
    constructor
    · intro h
      split at h
      · omega
      · rename_i hh
        have hh : ¬ ∃ i, i < k ∧ rcd 3 l i = rcd 3 l k := fun e => hh (mpT_has.2 e)
        intro i hi j hj
        rcases (show i = k ∨ i < k by omega) with rfl | h'
        · exact fun e => hh ⟨j, hj, e.symm⟩
        · exact h2.1 (by omega) i h' j hj
    · intro h
      have e := h2.2 fun i hi j hj => h i (by omega) j hj
      rw [if_neg]
      · omega
      · intro hh
        obtain ⟨i, hi, e⟩ := mpT_has.1 hh
        exact h k (by omega) i hi e.symm

def lmPalI (n : Nat) (l : List Int) (t blk : Nat) : LAnn := { ι := Nat, inv := fun _ k => k ≤ n, slots := fun _ k => [(t, .a (.c (.int .i64 ((k : Int) - 1))))], blks := fun _ _ => [], μ := fun _ k => n - k }

/-- The lights of a list's records are bytes. -/
def byl (n : Nat) (l : List Int) : Prop := ∀ i, i < n → 0 ≤ l.getD i 0 ∧ l.getD i 0 ≤ 255

theorem byl_tb {n m i : Nat} {l : List Int} (h : byl (n * 3) l) (hm : n * 3 ≤ m) (hl : l.length = m) (hi : i < n) : TBl (rcd 3 l i) :=
  ⟨rcd_len (by omega), fun j hj => by rw [rcd_get hj]; exact h _ (by omega)⟩

/-! ### How far tones are apart -/
def far (a b : List Int) : Int := 3 * ((a.getD 0 0 - b.getD 0 0) * (a.getD 0 0 - b.getD 0 0)) + 6 * ((a.getD 1 0 - b.getD 1 0) * (a.getD 1 0 - b.getD 1 0)) + (a.getD 2 0 - b.getD 2 0) * (a.getD 2 0 - b.getD 2 0)
theorem far_bd {a b : List Int} (r : TBl a) (s : TBl b) : 0 ≤ far a b ∧ far a b ≤ 650250 := by
  have a0 := r.b 0 (by omega); have a1 := r.b 1 (by omega); have a2 := r.b 2 (by omega)
  have b0 := s.b 0 (by omega); have b1 := s.b 1 (by omega); have b2 := s.b 2 (by omega)
  have q1 := sq (x := a.getD 0 0 - b.getD 0 0) (by omega) (by omega)
  have q2 := sq (x := a.getD 1 0 - b.getD 1 0) (by omega) (by omega)
  have q3 := sq (x := a.getD 2 0 - b.getD 2 0) (by omega) (by omega)
  unfold far; omega

theorem x_lightsOf (a : List Int) (r : TBl a) : Fex true TT (inlN true TT C0 (lookI []) 4) C0 U0 Try.f39 [tonL a] [] (fun lv _ => leL lv (ligL a)) := by
  have a0 := r.b 0 (by omega); have a1 := r.b 1 (by omega); have a2 := r.b 2 (by omega)
  obtain ⟨x, y, z, rfl⟩ := list3 r.len
  simp only [List.getD_cons_zero, List.getD_cons_succ] at a0 a1 a2
  refine Go.Sx.by_eq (q := True ∧ True ∧ True ∧ True ∧ ((-9223372036854775808 : Int) ≤ List.getD [x, y, z] (0 : Nat) (0 : Int) ∧ List.getD [x, y, z] (0 : Nat) (0 : Int) ≤ (9223372036854775807 : Int)) ∧ True ∧ True ∧ ((-9223372036854775808 : Int) ≤ List.getD [x, y, z] (1 : Nat) (0 : Int) ∧ List.getD [x, y, z] (1 : Nat) (0 : Int) ≤ (9223372036854775807 : Int)) ∧ True ∧ True ∧ ((-9223372036854775808 : Int) ≤ List.getD [x, y, z] (2 : Nat) (0 : Int) ∧ List.getD [x, y, z] (2 : Nat) (0 : Int) ≤ (9223372036854775807 : Int)) ∧ True ∧ True ∧ ([EK.i64] = [EK.i64] ∧ (3 : Nat) = (3 : Nat) ∧ List.set (List.set (List.set (List.replicate (3 : Nat) (0 : Int)) ((0 : Nat) * (1 : Nat)) (List.getD [x, y, z] (0 : Nat) (0 : Int))) ((1 : Nat) * (1 : Nat)) (List.getD [x, y, z] (1 : Nat) (0 : Int))) ((2 : Nat) * (1 : Nat)) (List.getD [x, y, z] (2 : Nat) (0 : Int)) = [x, y, z]) ∧ True) (by kernel_rfl) ?_
  simp
  omega

theorem x_minus (a b : List Int) (r : TBl a) (s : TBl b) : Fex true TT (inlN true TT C0 (lookI []) 4) C0 (fun _ => .unroll 4) Try.f27 [ligL a, tonL b] [] (fun lv _ => leL lv (ligL [a.getD 0 0 - b.getD 0 0, a.getD 1 0 - b.getD 1 0, a.getD 2 0 - b.getD 2 0])) := by
  have a0 := r.b 0 (by omega); have a1 := r.b 1 (by omega); have a2 := r.b 2 (by omega)
  have b0 := s.b 0 (by omega); have b1 := s.b 1 (by omega); have b2 := s.b 2 (by omega)
  obtain ⟨x, y, z, rfl⟩ := list3 r.len
  obtain ⟨x', y', z', rfl⟩ := list3 s.len
  simp only [List.getD_cons_zero, List.getD_cons_succ] at a0 a1 a2 b0 b1 b2
  have w1 : IntKind.i64.wrap 1 = 1 := by decide
  have w2 : IntKind.i64.wrap 2 = 2 := by decide
  refine Go.Sx.by_eq (q := True ∧ True ∧ True ∧ True ∧ True ∧ True ∧ True ∧ True ∧ True ∧ True ∧ True ∧ True ∧ True ∧ True ∧ ((-9223372036854775808 : Int) ≤ List.getD [x', y', z'] (Int.toNat (0 : Int) * (1 : Nat)) (0 : Int) ∧ List.getD [x', y', z'] (Int.toNat (0 : Int) * (1 : Nat)) (0 : Int) ≤ (9223372036854775807 : Int)) ∧ ((-9223372036854775808 : Int) ≤ List.getD [x, y, z] (0 : Nat) (0 : Int) - List.getD [x', y', z'] (Int.toNat (0 : Int) * (1 : Nat)) (0 : Int) ∧ List.getD [x, y, z] (0 : Nat) (0 : Int) - List.getD [x', y', z'] (Int.toNat (0 : Int) * (1 : Nat)) (0 : Int) ≤ (9223372036854775807 : Int)) ∧ True ∧ True ∧ True ∧ True ∧ True ∧ True ∧ True ∧ True ∧ True ∧ True ∧ True ∧ True ∧ True ∧ ((-9223372036854775808 : Int) ≤ List.getD [x', y', z'] (Int.toNat (IntKind.wrap IntKind.i64 ((0 : Int) + (1 : Int))) * (1 : Nat)) (0 : Int) ∧ List.getD [x', y', z'] (Int.toNat (IntKind.wrap IntKind.i64 ((0 : Int) + (1 : Int))) * (1 : Nat)) (0 : Int) ≤ (9223372036854775807 : Int)) ∧ ((-9223372036854775808 : Int) ≤ List.getD (List.set [x, y, z] (0 : Nat) (List.getD [x, y, z] (0 : Nat) (0 : Int) - List.getD [x', y', z'] (Int.toNat (0 : Int) * (1 : Nat)) (0 : Int))) (1 : Nat) (0 : Int) - List.getD [x', y', z'] (Int.toNat (IntKind.wrap IntKind.i64 ((0 : Int) + (1 : Int))) * (1 : Nat)) (0 : Int) ∧ List.getD (List.set [x, y, z] (0 : Nat) (List.getD [x, y, z] (0 : Nat) (0 : Int) - List.getD [x', y', z'] (Int.toNat (0 : Int) * (1 : Nat)) (0 : Int))) (1 : Nat) (0 : Int) - List.getD [x', y', z'] (Int.toNat (IntKind.wrap IntKind.i64 ((0 : Int) + (1 : Int))) * (1 : Nat)) (0 : Int) ≤ (9223372036854775807 : Int)) ∧ True ∧ True ∧ True ∧ True ∧ True ∧ True ∧ True ∧ True ∧ True ∧ True ∧ True ∧ True ∧ True ∧ ((-9223372036854775808 : Int) ≤ List.getD [x', y', z'] (Int.toNat (IntKind.wrap IntKind.i64 (IntKind.wrap IntKind.i64 ((0 : Int) + (1 : Int)) + (1 : Int))) * (1 : Nat)) (0 : Int) ∧ List.getD [x', y', z'] (Int.toNat (IntKind.wrap IntKind.i64 (IntKind.wrap IntKind.i64 ((0 : Int) + (1 : Int)) + (1 : Int))) * (1 : Nat)) (0 : Int) ≤ (9223372036854775807 : Int)) ∧ ((-9223372036854775808 : Int) ≤ List.getD (List.set (List.set [x, y, z] (0 : Nat) (List.getD [x, y, z] (0 : Nat) (0 : Int) - List.getD [x', y', z'] (Int.toNat (0 : Int) * (1 : Nat)) (0 : Int))) (1 : Nat) (List.getD (List.set [x, y, z] (0 : Nat) (List.getD [x, y, z] (0 : Nat) (0 : Int) - List.getD [x', y', z'] (Int.toNat (0 : Int) * (1 : Nat)) (0 : Int))) (1 : Nat) (0 : Int) - List.getD [x', y', z'] (Int.toNat (IntKind.wrap IntKind.i64 ((0 : Int) + (1 : Int))) * (1 : Nat)) (0 : Int))) (2 : Nat) (0 : Int) - List.getD [x', y', z'] (Int.toNat (IntKind.wrap IntKind.i64 (IntKind.wrap IntKind.i64 ((0 : Int) + (1 : Int)) + (1 : Int))) * (1 : Nat)) (0 : Int) ∧ List.getD (List.set (List.set [x, y, z] (0 : Nat) (List.getD [x, y, z] (0 : Nat) (0 : Int) - List.getD [x', y', z'] (Int.toNat (0 : Int) * (1 : Nat)) (0 : Int))) (1 : Nat) (List.getD (List.set [x, y, z] (0 : Nat) (List.getD [x, y, z] (0 : Nat) (0 : Int) - List.getD [x', y', z'] (Int.toNat (0 : Int) * (1 : Nat)) (0 : Int))) (1 : Nat) (0 : Int) - List.getD [x', y', z'] (Int.toNat (IntKind.wrap IntKind.i64 ((0 : Int) + (1 : Int))) * (1 : Nat)) (0 : Int))) (2 : Nat) (0 : Int) - List.getD [x', y', z'] (Int.toNat (IntKind.wrap IntKind.i64 (IntKind.wrap IntKind.i64 ((0 : Int) + (1 : Int)) + (1 : Int))) * (1 : Nat)) (0 : Int) ≤ (9223372036854775807 : Int)) ∧ True ∧ True ∧ True ∧ True ∧ True ∧ True ∧ True ∧ ([EK.i64] = [EK.i64] ∧ (3 : Nat) = (3 : Nat) ∧ List.set (List.set (List.set [x, y, z] (0 : Nat) (List.getD [x, y, z] (0 : Nat) (0 : Int) - List.getD [x', y', z'] (Int.toNat (0 : Int) * (1 : Nat)) (0 : Int))) (1 : Nat) (List.getD (List.set [x, y, z] (0 : Nat) (List.getD [x, y, z] (0 : Nat) (0 : Int) - List.getD [x', y', z'] (Int.toNat (0 : Int) * (1 : Nat)) (0 : Int))) (1 : Nat) (0 : Int) - List.getD [x', y', z'] (Int.toNat (IntKind.wrap IntKind.i64 ((0 : Int) + (1 : Int))) * (1 : Nat)) (0 : Int))) (2 : Nat) (List.getD (List.set (List.set [x, y, z] (0 : Nat) (List.getD [x, y, z] (0 : Nat) (0 : Int) - List.getD [x', y', z'] (Int.toNat (0 : Int) * (1 : Nat)) (0 : Int))) (1 : Nat) (List.getD (List.set [x, y, z] (0 : Nat) (List.getD [x, y, z] (0 : Nat) (0 : Int) - List.getD [x', y', z'] (Int.toNat (0 : Int) * (1 : Nat)) (0 : Int))) (1 : Nat) (0 : Int) - List.getD [x', y', z'] (Int.toNat (IntKind.wrap IntKind.i64 ((0 : Int) + (1 : Int))) * (1 : Nat)) (0 : Int))) (2 : Nat) (0 : Int) - List.getD [x', y', z'] (Int.toNat (IntKind.wrap IntKind.i64 (IntKind.wrap IntKind.i64 ((0 : Int) + (1 : Int)) + (1 : Int))) * (1 : Nat)) (0 : Int)) = [List.getD [x, y, z] (0 : Nat) (0 : Int) - List.getD [x', y', z'] (0 : Nat) (0 : Int), List.getD [x, y, z] (1 : Nat) (0 : Int) - List.getD [x', y', z'] (1 : Nat) (0 : Int), List.getD [x, y, z] (2 : Nat) (0 : Int) - List.getD [x', y', z'] (2 : Nat) (0 : Int)]) ∧ True) (by kernel_rfl) ?_
  simp [w1, w2]
  omega

def gLights : Entry := fun args _ => match args with
  | [.a (.agg [.run [.u8] 3 a])] => some (TBl a, ligL a)
  | _ => none
def gMinus : Entry := fun args _ => match args with
  | [.a (.agg [.run [.i64] 3 a]), .a (.agg [.run [.u8] 3 b])] => some (TBl a ∧ TBl b, ligL [a.getD 0 0 - b.getD 0 0, a.getD 1 0 - b.getD 1 0, a.getD 2 0 - b.getD 2 0])
  | _ => none
theorem e_lightsOf : EntryOk Try.prog TT 39 gLights := by
  refine ⟨fnOk Try.func39 (by kernel_rfl) rfl, ?_⟩
  intro args H p r he hp n0 w0 β w vals hG hH hA
  unfold gLights at he
  split at he
  · simp only [Option.some.injEq, Prod.mk.injEq] at he
    obtain ⟨rfl, rfl⟩ := he
    exact entry_bare tt_ok (inlN_ok tt_ok C0_ok mixed (ILz_ok).ok 4) C0_ok mixed Try.func39 (x_lightsOf _ hp) rfl rfl hG hH hA
  · simp at he

theorem e_minus : EntryOk Try.prog TT 27 gMinus := by
  refine ⟨fnOk Try.func27 (by kernel_rfl) rfl, ?_⟩
  intro args H p r he hp n0 w0 β w vals hG hH hA
  unfold gMinus at he
  split at he
  · simp only [Option.some.injEq, Prod.mk.injEq] at he
    obtain ⟨rfl, rfl⟩ := he
    exact entry_bare tt_ok (inlN_ok tt_ok C0_ok mixed (ILz_ok).ok 4) C0_ok mixed Try.func27 (x_minus _ _ hp.1 hp.2) rfl rfl hG hH hA
  · simp at he

def Ep1 : List (FuncId × Entry) := [(39, gLights), (27, gMinus)]
theorem Ep1_ok : EntriesOk Try.prog TT Ep1 := ⟨e_lightsOf, e_minus, trivial⟩
abbrev Cp1 : Ctr := ctrOf Ep1
theorem Cp1_ok : CtrOk Try.prog TT Cp1 := ctrOf_ok Ep1_ok

theorem x_FarOfI (a b : List Int) (r : TBl a) (s : TBl b) : Fex true TT (inlN true TT Cp1 (lookI ILz) 4) Cp1 U0 Try.f47 [tonL a, tonL b] [] (fun lv _ => leL lv (.a (.c (.int .i64 (far a b))))) := by
  have a0 := r.b 0 (by omega); have a1 := r.b 1 (by omega); have a2 := r.b 2 (by omega)
  have b0 := s.b 0 (by omega); have b1 := s.b 1 (by omega); have b2 := s.b 2 (by omega)
  refine Go.Sx.by_eq (q := True ∧ True ∧ True ∧ True ∧ TBl a ∧ True ∧ (TBl a ∧ TBl b) ∧ True ∧ True ∧ True ∧ ((-9223372036854775808 : Int) ≤ (3 : Int) * List.getD [List.getD a (0 : Nat) (0 : Int) - List.getD b (0 : Nat) (0 : Int), List.getD a (1 : Nat) (0 : Int) - List.getD b (1 : Nat) (0 : Int), List.getD a (2 : Nat) (0 : Int) - List.getD b (2 : Nat) (0 : Int)] (0 : Nat) (0 : Int) ∧ (3 : Int) * List.getD [List.getD a (0 : Nat) (0 : Int) - List.getD b (0 : Nat) (0 : Int), List.getD a (1 : Nat) (0 : Int) - List.getD b (1 : Nat) (0 : Int), List.getD a (2 : Nat) (0 : Int) - List.getD b (2 : Nat) (0 : Int)] (0 : Nat) (0 : Int) ≤ (9223372036854775807 : Int)) ∧ True ∧ True ∧ ((-9223372036854775808 : Int) ≤ (3 : Int) * List.getD [List.getD a (0 : Nat) (0 : Int) - List.getD b (0 : Nat) (0 : Int), List.getD a (1 : Nat) (0 : Int) - List.getD b (1 : Nat) (0 : Int), List.getD a (2 : Nat) (0 : Int) - List.getD b (2 : Nat) (0 : Int)] (0 : Nat) (0 : Int) * List.getD [List.getD a (0 : Nat) (0 : Int) - List.getD b (0 : Nat) (0 : Int), List.getD a (1 : Nat) (0 : Int) - List.getD b (1 : Nat) (0 : Int), List.getD a (2 : Nat) (0 : Int) - List.getD b (2 : Nat) (0 : Int)] (0 : Nat) (0 : Int) ∧ (3 : Int) * List.getD [List.getD a (0 : Nat) (0 : Int) - List.getD b (0 : Nat) (0 : Int), List.getD a (1 : Nat) (0 : Int) - List.getD b (1 : Nat) (0 : Int), List.getD a (2 : Nat) (0 : Int) - List.getD b (2 : Nat) (0 : Int)] (0 : Nat) (0 : Int) * List.getD [List.getD a (0 : Nat) (0 : Int) - List.getD b (0 : Nat) (0 : Int), List.getD a (1 : Nat) (0 : Int) - List.getD b (1 : Nat) (0 : Int), List.getD a (2 : Nat) (0 : Int) - List.getD b (2 : Nat) (0 : Int)] (0 : Nat) (0 : Int) ≤ (9223372036854775807 : Int)) ∧ True ∧ True ∧ ((-9223372036854775808 : Int) ≤ (6 : Int) * List.getD [List.getD a (0 : Nat) (0 : Int) - List.getD b (0 : Nat) (0 : Int), List.getD a (1 : Nat) (0 : Int) - List.getD b (1 : Nat) (0 : Int), List.getD a (2 : Nat) (0 : Int) - List.getD b (2 : Nat) (0 : Int)] (1 : Nat) (0 : Int) ∧ (6 : Int) * List.getD [List.getD a (0 : Nat) (0 : Int) - List.getD b (0 : Nat) (0 : Int), List.getD a (1 : Nat) (0 : Int) - List.getD b (1 : Nat) (0 : Int), List.getD a (2 : Nat) (0 : Int) - List.getD b (2 : Nat) (0 : Int)] (1 : Nat) (0 : Int) ≤ (9223372036854775807 : Int)) ∧ True ∧ True ∧ ((-9223372036854775808 : Int) ≤ (6 : Int) * List.getD [List.getD a (0 : Nat) (0 : Int) - List.getD b (0 : Nat) (0 : Int), List.getD a (1 : Nat) (0 : Int) - List.getD b (1 : Nat) (0 : Int), List.getD a (2 : Nat) (0 : Int) - List.getD b (2 : Nat) (0 : Int)] (1 : Nat) (0 : Int) * List.getD [List.getD a (0 : Nat) (0 : Int) - List.getD b (0 : Nat) (0 : Int), List.getD a (1 : Nat) (0 : Int) - List.getD b (1 : Nat) (0 : Int), List.getD a (2 : Nat) (0 : Int) - List.getD b (2 : Nat) (0 : Int)] (1 : Nat) (0 : Int) ∧ (6 : Int) * List.getD [List.getD a (0 : Nat) (0 : Int) - List.getD b (0 : Nat) (0 : Int), List.getD a (1 : Nat) (0 : Int) - List.getD b (1 : Nat) (0 : Int), List.getD a (2 : Nat) (0 : Int) - List.getD b (2 : Nat) (0 : Int)] (1 : Nat) (0 : Int) * List.getD [List.getD a (0 : Nat) (0 : Int) - List.getD b (0 : Nat) (0 : Int), List.getD a (1 : Nat) (0 : Int) - List.getD b (1 : Nat) (0 : Int), List.getD a (2 : Nat) (0 : Int) - List.getD b (2 : Nat) (0 : Int)] (1 : Nat) (0 : Int) ≤ (9223372036854775807 : Int)) ∧ ((-9223372036854775808 : Int) ≤ (3 : Int) * List.getD [List.getD a (0 : Nat) (0 : Int) - List.getD b (0 : Nat) (0 : Int), List.getD a (1 : Nat) (0 : Int) - List.getD b (1 : Nat) (0 : Int), List.getD a (2 : Nat) (0 : Int) - List.getD b (2 : Nat) (0 : Int)] (0 : Nat) (0 : Int) * List.getD [List.getD a (0 : Nat) (0 : Int) - List.getD b (0 : Nat) (0 : Int), List.getD a (1 : Nat) (0 : Int) - List.getD b (1 : Nat) (0 : Int), List.getD a (2 : Nat) (0 : Int) - List.getD b (2 : Nat) (0 : Int)] (0 : Nat) (0 : Int) + (6 : Int) * List.getD [List.getD a (0 : Nat) (0 : Int) - List.getD b (0 : Nat) (0 : Int), List.getD a (1 : Nat) (0 : Int) - List.getD b (1 : Nat) (0 : Int), List.getD a (2 : Nat) (0 : Int) - List.getD b (2 : Nat) (0 : Int)] (1 : Nat) (0 : Int) * List.getD [List.getD a (0 : Nat) (0 : Int) - List.getD b (0 : Nat) (0 : Int), List.getD a (1 : Nat) (0 : Int) - List.getD b (1 : Nat) (0 : Int), List.getD a (2 : Nat) (0 : Int) - List.getD b (2 : Nat) (0 : Int)] (1 : Nat) (0 : Int) ∧ (3 : Int) * List.getD [List.getD a (0 : Nat) (0 : Int) - List.getD b (0 : Nat) (0 : Int), List.getD a (1 : Nat) (0 : Int) - List.getD b (1 : Nat) (0 : Int), List.getD a (2 : Nat) (0 : Int) - List.getD b (2 : Nat) (0 : Int)] (0 : Nat) (0 : Int) * List.getD [List.getD a (0 : Nat) (0 : Int) - List.getD b (0 : Nat) (0 : Int), List.getD a (1 : Nat) (0 : Int) - List.getD b (1 : Nat) (0 : Int), List.getD a (2 : Nat) (0 : Int) - List.getD b (2 : Nat) (0 : Int)] (0 : Nat) (0 : Int) + (6 : Int) * List.getD [List.getD a (0 : Nat) (0 : Int) - List.getD b (0 : Nat) (0 : Int), List.getD a (1 : Nat) (0 : Int) - List.getD b (1 : Nat) (0 : Int), List.getD a (2 : Nat) (0 : Int) - List.getD b (2 : Nat) (0 : Int)] (1 : Nat) (0 : Int) * List.getD [List.getD a (0 : Nat) (0 : Int) - List.getD b (0 : Nat) (0 : Int), List.getD a (1 : Nat) (0 : Int) - List.getD b (1 : Nat) (0 : Int), List.getD a (2 : Nat) (0 : Int) - List.getD b (2 : Nat) (0 : Int)] (1 : Nat) (0 : Int) ≤ (9223372036854775807 : Int)) ∧ True ∧ True ∧ True ∧ True ∧ ((-9223372036854775808 : Int) ≤ List.getD [List.getD a (0 : Nat) (0 : Int) - List.getD b (0 : Nat) (0 : Int), List.getD a (1 : Nat) (0 : Int) - List.getD b (1 : Nat) (0 : Int), List.getD a (2 : Nat) (0 : Int) - List.getD b (2 : Nat) (0 : Int)] (2 : Nat) (0 : Int) * List.getD [List.getD a (0 : Nat) (0 : Int) - List.getD b (0 : Nat) (0 : Int), List.getD a (1 : Nat) (0 : Int) - List.getD b (1 : Nat) (0 : Int), List.getD a (2 : Nat) (0 : Int) - List.getD b (2 : Nat) (0 : Int)] (2 : Nat) (0 : Int) ∧ List.getD [List.getD a (0 : Nat) (0 : Int) - List.getD b (0 : Nat) (0 : Int), List.getD a (1 : Nat) (0 : Int) - List.getD b (1 : Nat) (0 : Int), List.getD a (2 : Nat) (0 : Int) - List.getD b (2 : Nat) (0 : Int)] (2 : Nat) (0 : Int) * List.getD [List.getD a (0 : Nat) (0 : Int) - List.getD b (0 : Nat) (0 : Int), List.getD a (1 : Nat) (0 : Int) - List.getD b (1 : Nat) (0 : Int), List.getD a (2 : Nat) (0 : Int) - List.getD b (2 : Nat) (0 : Int)] (2 : Nat) (0 : Int) ≤ (9223372036854775807 : Int)) ∧ ((-9223372036854775808 : Int) ≤ (3 : Int) * List.getD [List.getD a (0 : Nat) (0 : Int) - List.getD b (0 : Nat) (0 : Int), List.getD a (1 : Nat) (0 : Int) - List.getD b (1 : Nat) (0 : Int), List.getD a (2 : Nat) (0 : Int) - List.getD b (2 : Nat) (0 : Int)] (0 : Nat) (0 : Int) * List.getD [List.getD a (0 : Nat) (0 : Int) - List.getD b (0 : Nat) (0 : Int), List.getD a (1 : Nat) (0 : Int) - List.getD b (1 : Nat) (0 : Int), List.getD a (2 : Nat) (0 : Int) - List.getD b (2 : Nat) (0 : Int)] (0 : Nat) (0 : Int) + (6 : Int) * List.getD [List.getD a (0 : Nat) (0 : Int) - List.getD b (0 : Nat) (0 : Int), List.getD a (1 : Nat) (0 : Int) - List.getD b (1 : Nat) (0 : Int), List.getD a (2 : Nat) (0 : Int) - List.getD b (2 : Nat) (0 : Int)] (1 : Nat) (0 : Int) * List.getD [List.getD a (0 : Nat) (0 : Int) - List.getD b (0 : Nat) (0 : Int), List.getD a (1 : Nat) (0 : Int) - List.getD b (1 : Nat) (0 : Int), List.getD a (2 : Nat) (0 : Int) - List.getD b (2 : Nat) (0 : Int)] (1 : Nat) (0 : Int) + List.getD [List.getD a (0 : Nat) (0 : Int) - List.getD b (0 : Nat) (0 : Int), List.getD a (1 : Nat) (0 : Int) - List.getD b (1 : Nat) (0 : Int), List.getD a (2 : Nat) (0 : Int) - List.getD b (2 : Nat) (0 : Int)] (2 : Nat) (0 : Int) * List.getD [List.getD a (0 : Nat) (0 : Int) - List.getD b (0 : Nat) (0 : Int), List.getD a (1 : Nat) (0 : Int) - List.getD b (1 : Nat) (0 : Int), List.getD a (2 : Nat) (0 : Int) - List.getD b (2 : Nat) (0 : Int)] (2 : Nat) (0 : Int) ∧ (3 : Int) * List.getD [List.getD a (0 : Nat) (0 : Int) - List.getD b (0 : Nat) (0 : Int), List.getD a (1 : Nat) (0 : Int) - List.getD b (1 : Nat) (0 : Int), List.getD a (2 : Nat) (0 : Int) - List.getD b (2 : Nat) (0 : Int)] (0 : Nat) (0 : Int) * List.getD [List.getD a (0 : Nat) (0 : Int) - List.getD b (0 : Nat) (0 : Int), List.getD a (1 : Nat) (0 : Int) - List.getD b (1 : Nat) (0 : Int), List.getD a (2 : Nat) (0 : Int) - List.getD b (2 : Nat) (0 : Int)] (0 : Nat) (0 : Int) + (6 : Int) * List.getD [List.getD a (0 : Nat) (0 : Int) - List.getD b (0 : Nat) (0 : Int), List.getD a (1 : Nat) (0 : Int) - List.getD b (1 : Nat) (0 : Int), List.getD a (2 : Nat) (0 : Int) - List.getD b (2 : Nat) (0 : Int)] (1 : Nat) (0 : Int) * List.getD [List.getD a (0 : Nat) (0 : Int) - List.getD b (0 : Nat) (0 : Int), List.getD a (1 : Nat) (0 : Int) - List.getD b (1 : Nat) (0 : Int), List.getD a (2 : Nat) (0 : Int) - List.getD b (2 : Nat) (0 : Int)] (1 : Nat) (0 : Int) + List.getD [List.getD a (0 : Nat) (0 : Int) - List.getD b (0 : Nat) (0 : Int), List.getD a (1 : Nat) (0 : Int) - List.getD b (1 : Nat) (0 : Int), List.getD a (2 : Nat) (0 : Int) - List.getD b (2 : Nat) (0 : Int)] (2 : Nat) (0 : Int) * List.getD [List.getD a (0 : Nat) (0 : Int) - List.getD b (0 : Nat) (0 : Int), List.getD a (1 : Nat) (0 : Int) - List.getD b (1 : Nat) (0 : Int), List.getD a (2 : Nat) (0 : Int) - List.getD b (2 : Nat) (0 : Int)] (2 : Nat) (0 : Int) ≤ (9223372036854775807 : Int)) ∧ True ∧ IntKind.i64 = IntKind.i64 ∧ (3 : Int) * List.getD [List.getD a (0 : Nat) (0 : Int) - List.getD b (0 : Nat) (0 : Int), List.getD a (1 : Nat) (0 : Int) - List.getD b (1 : Nat) (0 : Int), List.getD a (2 : Nat) (0 : Int) - List.getD b (2 : Nat) (0 : Int)] (0 : Nat) (0 : Int) * List.getD [List.getD a (0 : Nat) (0 : Int) - List.getD b (0 : Nat) (0 : Int), List.getD a (1 : Nat) (0 : Int) - List.getD b (1 : Nat) (0 : Int), List.getD a (2 : Nat) (0 : Int) - List.getD b (2 : Nat) (0 : Int)] (0 : Nat) (0 : Int) + (6 : Int) * List.getD [List.getD a (0 : Nat) (0 : Int) - List.getD b (0 : Nat) (0 : Int), List.getD a (1 : Nat) (0 : Int) - List.getD b (1 : Nat) (0 : Int), List.getD a (2 : Nat) (0 : Int) - List.getD b (2 : Nat) (0 : Int)] (1 : Nat) (0 : Int) * List.getD [List.getD a (0 : Nat) (0 : Int) - List.getD b (0 : Nat) (0 : Int), List.getD a (1 : Nat) (0 : Int) - List.getD b (1 : Nat) (0 : Int), List.getD a (2 : Nat) (0 : Int) - List.getD b (2 : Nat) (0 : Int)] (1 : Nat) (0 : Int) + List.getD [List.getD a (0 : Nat) (0 : Int) - List.getD b (0 : Nat) (0 : Int), List.getD a (1 : Nat) (0 : Int) - List.getD b (1 : Nat) (0 : Int), List.getD a (2 : Nat) (0 : Int) - List.getD b (2 : Nat) (0 : Int)] (2 : Nat) (0 : Int) * List.getD [List.getD a (0 : Nat) (0 : Int) - List.getD b (0 : Nat) (0 : Int), List.getD a (1 : Nat) (0 : Int) - List.getD b (1 : Nat) (0 : Int), List.getD a (2 : Nat) (0 : Int) - List.getD b (2 : Nat) (0 : Int)] (2 : Nat) (0 : Int) = far a b) (by kernel_rfl) ?_
  have q1 := sq (x := a.getD 0 0 - b.getD 0 0) (by omega) (by omega)
  have q2 := sq (x := a.getD 1 0 - b.getD 1 0) (by omega) (by omega)
  have q3 := sq (x := a.getD 2 0 - b.getD 2 0) (by omega) (by omega)
  simp only [List.getD_cons_zero, List.getD_cons_succ, far, Int.mul_assoc]
  repeat' (first | exact r | exact s | apply And.intro)
  all_goals first | trivial | omega

theorem x_l02Far (a b : List Int) (r : TBl a) (s : TBl b) : Fex true TT (inlN true TT Cp1 (lookI ILz) 4) Cp1 U0 Try.f37 [tonL a, tonL b] [] (fun lv _ => leL lv (.a (.c (.int .i64 (far a b))))) := by
  have a0 := r.b 0 (by omega); have a1 := r.b 1 (by omega); have a2 := r.b 2 (by omega)
  have b0 := s.b 0 (by omega); have b1 := s.b 1 (by omega); have b2 := s.b 2 (by omega)
  refine Go.Sx.by_eq (q := True ∧ True ∧ True ∧ True ∧ True ∧ ((-9223372036854775808 : Int) ≤ List.getD a (0 : Nat) (0 : Int) ∧ List.getD a (0 : Nat) (0 : Int) ≤ (9223372036854775807 : Int)) ∧ True ∧ True ∧ ((-9223372036854775808 : Int) ≤ List.getD b (0 : Nat) (0 : Int) ∧ List.getD b (0 : Nat) (0 : Int) ≤ (9223372036854775807 : Int)) ∧ ((-9223372036854775808 : Int) ≤ List.getD a (0 : Nat) (0 : Int) - List.getD b (0 : Nat) (0 : Int) ∧ List.getD a (0 : Nat) (0 : Int) - List.getD b (0 : Nat) (0 : Int) ≤ (9223372036854775807 : Int)) ∧ True ∧ True ∧ True ∧ ((-9223372036854775808 : Int) ≤ List.getD a (1 : Nat) (0 : Int) ∧ List.getD a (1 : Nat) (0 : Int) ≤ (9223372036854775807 : Int)) ∧ True ∧ True ∧ ((-9223372036854775808 : Int) ≤ List.getD b (1 : Nat) (0 : Int) ∧ List.getD b (1 : Nat) (0 : Int) ≤ (9223372036854775807 : Int)) ∧ ((-9223372036854775808 : Int) ≤ List.getD a (1 : Nat) (0 : Int) - List.getD b (1 : Nat) (0 : Int) ∧ List.getD a (1 : Nat) (0 : Int) - List.getD b (1 : Nat) (0 : Int) ≤ (9223372036854775807 : Int)) ∧ True ∧ True ∧ True ∧ ((-9223372036854775808 : Int) ≤ List.getD a (2 : Nat) (0 : Int) ∧ List.getD a (2 : Nat) (0 : Int) ≤ (9223372036854775807 : Int)) ∧ True ∧ True ∧ ((-9223372036854775808 : Int) ≤ List.getD b (2 : Nat) (0 : Int) ∧ List.getD b (2 : Nat) (0 : Int) ≤ (9223372036854775807 : Int)) ∧ ((-9223372036854775808 : Int) ≤ List.getD a (2 : Nat) (0 : Int) - List.getD b (2 : Nat) (0 : Int) ∧ List.getD a (2 : Nat) (0 : Int) - List.getD b (2 : Nat) (0 : Int) ≤ (9223372036854775807 : Int)) ∧ True ∧ True ∧ ((-9223372036854775808 : Int) ≤ (3 : Int) * (List.getD a (0 : Nat) (0 : Int) - List.getD b (0 : Nat) (0 : Int)) ∧ (3 : Int) * (List.getD a (0 : Nat) (0 : Int) - List.getD b (0 : Nat) (0 : Int)) ≤ (9223372036854775807 : Int)) ∧ True ∧ ((-9223372036854775808 : Int) ≤ (3 : Int) * (List.getD a (0 : Nat) (0 : Int) - List.getD b (0 : Nat) (0 : Int)) * (List.getD a (0 : Nat) (0 : Int) - List.getD b (0 : Nat) (0 : Int)) ∧ (3 : Int) * (List.getD a (0 : Nat) (0 : Int) - List.getD b (0 : Nat) (0 : Int)) * (List.getD a (0 : Nat) (0 : Int) - List.getD b (0 : Nat) (0 : Int)) ≤ (9223372036854775807 : Int)) ∧ True ∧ ((-9223372036854775808 : Int) ≤ (6 : Int) * (List.getD a (1 : Nat) (0 : Int) - List.getD b (1 : Nat) (0 : Int)) ∧ (6 : Int) * (List.getD a (1 : Nat) (0 : Int) - List.getD b (1 : Nat) (0 : Int)) ≤ (9223372036854775807 : Int)) ∧ True ∧ ((-9223372036854775808 : Int) ≤ (6 : Int) * (List.getD a (1 : Nat) (0 : Int) - List.getD b (1 : Nat) (0 : Int)) * (List.getD a (1 : Nat) (0 : Int) - List.getD b (1 : Nat) (0 : Int)) ∧ (6 : Int) * (List.getD a (1 : Nat) (0 : Int) - List.getD b (1 : Nat) (0 : Int)) * (List.getD a (1 : Nat) (0 : Int) - List.getD b (1 : Nat) (0 : Int)) ≤ (9223372036854775807 : Int)) ∧ ((-9223372036854775808 : Int) ≤ (3 : Int) * (List.getD a (0 : Nat) (0 : Int) - List.getD b (0 : Nat) (0 : Int)) * (List.getD a (0 : Nat) (0 : Int) - List.getD b (0 : Nat) (0 : Int)) + (6 : Int) * (List.getD a (1 : Nat) (0 : Int) - List.getD b (1 : Nat) (0 : Int)) * (List.getD a (1 : Nat) (0 : Int) - List.getD b (1 : Nat) (0 : Int)) ∧ (3 : Int) * (List.getD a (0 : Nat) (0 : Int) - List.getD b (0 : Nat) (0 : Int)) * (List.getD a (0 : Nat) (0 : Int) - List.getD b (0 : Nat) (0 : Int)) + (6 : Int) * (List.getD a (1 : Nat) (0 : Int) - List.getD b (1 : Nat) (0 : Int)) * (List.getD a (1 : Nat) (0 : Int) - List.getD b (1 : Nat) (0 : Int)) ≤ (9223372036854775807 : Int)) ∧ True ∧ True ∧ ((-9223372036854775808 : Int) ≤ (List.getD a (2 : Nat) (0 : Int) - List.getD b (2 : Nat) (0 : Int)) * (List.getD a (2 : Nat) (0 : Int) - List.getD b (2 : Nat) (0 : Int)) ∧ (List.getD a (2 : Nat) (0 : Int) - List.getD b (2 : Nat) (0 : Int)) * (List.getD a (2 : Nat) (0 : Int) - List.getD b (2 : Nat) (0 : Int)) ≤ (9223372036854775807 : Int)) ∧ ((-9223372036854775808 : Int) ≤ (3 : Int) * (List.getD a (0 : Nat) (0 : Int) - List.getD b (0 : Nat) (0 : Int)) * (List.getD a (0 : Nat) (0 : Int) - List.getD b (0 : Nat) (0 : Int)) + (6 : Int) * (List.getD a (1 : Nat) (0 : Int) - List.getD b (1 : Nat) (0 : Int)) * (List.getD a (1 : Nat) (0 : Int) - List.getD b (1 : Nat) (0 : Int)) + (List.getD a (2 : Nat) (0 : Int) - List.getD b (2 : Nat) (0 : Int)) * (List.getD a (2 : Nat) (0 : Int) - List.getD b (2 : Nat) (0 : Int)) ∧ (3 : Int) * (List.getD a (0 : Nat) (0 : Int) - List.getD b (0 : Nat) (0 : Int)) * (List.getD a (0 : Nat) (0 : Int) - List.getD b (0 : Nat) (0 : Int)) + (6 : Int) * (List.getD a (1 : Nat) (0 : Int) - List.getD b (1 : Nat) (0 : Int)) * (List.getD a (1 : Nat) (0 : Int) - List.getD b (1 : Nat) (0 : Int)) + (List.getD a (2 : Nat) (0 : Int) - List.getD b (2 : Nat) (0 : Int)) * (List.getD a (2 : Nat) (0 : Int) - List.getD b (2 : Nat) (0 : Int)) ≤ (9223372036854775807 : Int)) ∧ True ∧ IntKind.i64 = IntKind.i64 ∧ (3 : Int) * (List.getD a (0 : Nat) (0 : Int) - List.getD b (0 : Nat) (0 : Int)) * (List.getD a (0 : Nat) (0 : Int) - List.getD b (0 : Nat) (0 : Int)) + (6 : Int) * (List.getD a (1 : Nat) (0 : Int) - List.getD b (1 : Nat) (0 : Int)) * (List.getD a (1 : Nat) (0 : Int) - List.getD b (1 : Nat) (0 : Int)) + (List.getD a (2 : Nat) (0 : Int) - List.getD b (2 : Nat) (0 : Int)) * (List.getD a (2 : Nat) (0 : Int) - List.getD b (2 : Nat) (0 : Int)) = far a b) (by kernel_rfl) ?_
  have q1 := sq (x := a.getD 0 0 - b.getD 0 0) (by omega) (by omega)
  have q2 := sq (x := a.getD 1 0 - b.getD 1 0) (by omega) (by omega)
  have q3 := sq (x := a.getD 2 0 - b.getD 2 0) (by omega) (by omega)
  simp only [far, Int.mul_assoc]
  repeat' apply And.intro
  all_goals first | trivial | omega

def gFar : Entry := fun args _ => match args with
  | [.a (.agg [.run [.u8] 3 a]), .a (.agg [.run [.u8] 3 b])] => some (TBl a ∧ TBl b, .a (.c (.int .i64 (far a b))))
  | _ => none
theorem e_FarOfI : EntryOk Try.prog TT 47 gFar := by
  refine ⟨fnOk Try.func47 (by kernel_rfl) rfl, ?_⟩
  intro args H p r he hp n0 w0 β w vals hG hH hA
  unfold gFar at he
  split at he
  · simp only [Option.some.injEq, Prod.mk.injEq] at he
    obtain ⟨rfl, rfl⟩ := he
    exact entry_bare tt_ok (inlN_ok tt_ok Cp1_ok mixed (ILz_ok).ok 4) Cp1_ok mixed Try.func47 (x_FarOfI _ _ hp.1 hp.2) rfl rfl hG hH hA
  · simp at he

theorem e_l02Far : EntryOk Try.prog TT 37 gFar := by
  refine ⟨fnOk Try.func37 (by kernel_rfl) rfl, ?_⟩
  intro args H p r he hp n0 w0 β w vals hG hH hA
  unfold gFar at he
  split at he
  · simp only [Option.some.injEq, Prod.mk.injEq] at he
    obtain ⟨rfl, rfl⟩ := he
    exact entry_bare tt_ok (inlN_ok tt_ok Cp1_ok mixed (ILz_ok).ok 4) Cp1_ok mixed Try.func37 (x_l02Far _ _ hp.1 hp.2) rfl rfl hG hH hA
  · simp at he


/-! ### The nearest tone -/
/-- The first index at which a function of numbers below a bound is least. -/
def leastAt (f : Nat → Int) : Nat → Nat
  | 0 => 0
  | k + 1 => if f k < f (leastAt f k) then k else leastAt f k
theorem leastAt_one (f : Nat → Int) : leastAt f 1 = 0 := by simp [leastAt]
theorem leastAt_lt {f : Nat → Int} : ∀ {k : Nat}, 0 < k → leastAt f k < k
  | k + 1, _ => by
    unfold leastAt
    split
    · omega
    · by_cases h : k = 0
      · subst h; simp [leastAt]
      · have := leastAt_lt (f := f) (k := k) (by omega); omega
def farAt (l a : List Int) (i : Nat) : Int := far (rcd 3 l i) a

def nearR (n : Nat) (l a : List Int) : LV := .tup [.c (.int .i64 ((leastAt (farAt l a) n : Nat) + 1)), .c (.int .i64 (farAt l a (leastAt (farAt l a) n)))]

end Go.Proofs.Ytaaohciojedncaa
