/- Valid palettes, both sides. No conditions beyond the ranges of the kinds. -/
import Derived.Test.YtdefimnflpceeaaDoorPal1
set_option linter.unusedSimpArgs false
set_option linter.unusedVariables false
namespace Go.Proofs.YtdefimnflpceeaaDoor
open Go.Sx Go.RowKit
variable {mx : Nat → Value}

/-! ### Valid palettes -/
/-- A palette is valid. -/
structure PalP (n : Nat) (l : List Int) : Prop where
  lo : 1 ≤ n
  hi : n ≤ 15
  df : ∀ i, i < n → ∀ k, k < i → rcd 3 l i ≠ rcd 3 l k
open Classical in
noncomputable def palB (n : Nat) (l : List Int) : Bool := decide (PalP n l)
theorem palB_t {n : Nat} {l : List Int} : palB n l = true ↔ PalP n l := by simp [palB]
theorem palB_f {n : Nat} {l : List Int} : palB n l = false ↔ ¬ PalP n l := by simp [palB]

/-- The map of the first tones. -/
def mpT (l : List Int) : Nat → List (List Int × Int)
  | 0 => []
  | k + 1 => mpPut (mpT l k) (rcd 3 l k) 1

theorem mpPut_length {x : List Int} {v : Int} : ∀ {L : List (List Int × Int)}, (mpPut L x v).length = if mpHas L x then L.length else L.length + 1
  | [] => rfl
  | p :: r => by
    unfold mpPut mpHas
    by_cases h : x == p.1
    · simp [h]
    · simp only [h, Bool.false_eq_true, ↓reduceIte, List.length_cons, mpPut_length (L := r), Bool.false_or]
      split <;> rfl
theorem mpHas_put {x y : List Int} {v : Int} : ∀ {L : List (List Int × Int)}, mpHas (mpPut L x v) y = (y == x || mpHas L y)
  | [] => by simp [mpPut, mpHas]
  | (a, b) :: r => by
    have ih := mpHas_put (x := x) (y := y) (v := v) (L := r)
    unfold mpPut
    by_cases h : x = a
    · subst h
      simp only [beq_self_eq_true, ↓reduceIte, mpHas]
      cases (y == x) <;> simp
    · have h' : (x == a) = false := by simp [h]
      simp only [h', Bool.false_eq_true, ↓reduceIte, mpHas, ih]
      cases (y == x) <;> cases (y == a) <;> simp
theorem mpT_has {l : List Int} {y : List Int} : ∀ {k : Nat}, mpHas (mpT l k) y = true ↔ ∃ i, i < k ∧ rcd 3 l i = y
  | 0 => by simp [mpT, mpHas]
  | k + 1 => by
    rw [mpT, mpHas_put, Bool.or_eq_true, beq_iff_eq, mpT_has (k := k)]
    constructor
    · rintro (h | ⟨i, hi, h⟩)
      · exact ⟨k, by omega, h.symm⟩
      · exact ⟨i, by omega, h⟩
    · rintro ⟨i, hi, h⟩
      rcases (show i = k ∨ i < k by omega) with rfl | h'
      · exact .inl h.symm
      · exact .inr ⟨i, h', h⟩
theorem mpT_le {l : List Int} : ∀ {k : Nat}, (mpT l k).length ≤ k
  | 0 => by simp [mpT]
  | k + 1 => by
    have := mpT_le (l := l) (k := k)
    rw [mpT, mpPut_length]
    split <;> omega
theorem mpT_len {l : List Int} : ∀ {k : Nat}, (mpT l k).length = k ↔ ∀ i, i < k → ∀ j, j < i → rcd 3 l i ≠ rcd 3 l j
  | 0 => by simp [mpT]
  | k + 1 => by
    have h1 := mpT_le (l := l) (k := k)
    have h2 := mpT_len (l := l) (k := k)
    rw [mpT, mpPut_length]
    constructor
    · intro h
      split at h
      · omega
      · rename_i hh
        have hh : ¬ ∃ i, i < k ∧ rcd 3 l i = rcd 3 l k := fun e => hh (mpT_has.2 e)
        intro i hi j hj
        rcases (show i = k ∨ i < k by omega) with rfl | h'
        · exact fun e => hh ⟨j, hj, e.symm⟩
        · exact h2.1 (by omega) i h' j hj
    · intro h
      have e := h2.2 fun i hi j hj => h i (by omega) j hj
      rw [if_neg]
      · omega
      · intro hh
        obtain ⟨i, hi, e⟩ := mpT_has.1 hh
        exact h k (by omega) i hi e.symm

def lmPalI (n : Nat) (l : List Int) (t blk : Nat) : LAnn := { ι := Nat, inv := fun _ k => k ≤ n, slots := fun _ k => [(t, .a (.c (.int .i64 ((k : Int) - 1))))], blks := fun _ _ => [], μ := fun _ k => n - k }

/-- The lights of a list's records are bytes. -/
def byl (n : Nat) (l : List Int) : Prop := ∀ i, i < n → 0 ≤ l.getD i 0 ∧ l.getD i 0 ≤ 255

theorem byl_tb {n m i : Nat} {l : List Int} (h : byl (n * 3) l) (hm : n * 3 ≤ m) (hl : l.length = m) (hi : i < n) : TBl (rcd 3 l i) :=
  ⟨rcd_len (by omega), fun j hj => by rw [rcd_get hj]; exact h _ (by omega)⟩

/-! ### How far tones are apart -/

def mapB (st : St) (t : Nat) : Nat := match getL st.tmps t with
  | .a (.c (.mpr id)) => id
  | _ => 9999

/-! ### ValidPalette of the specification -/
def lmPalO (n : Nat) (l : List Int) : LAnn := { ι := Nat, inv := fun _ k => k ≤ n ∧ ∀ i, i < k → ∀ j, j < i → rcd 3 l i ≠ rcd 3 l j, slots := fun _ k => [(3, .a (.c (.int .i64 k)))], blks := fun _ _ => [], μ := fun _ k => n - k }
def lmPalN (n : Nat) (l : List Int) : LAnn := { ι := Nat, inv := fun st k => (k : Int) ≤ slotI st 3 ∧ ∀ j, j < k → rcd 3 l (slotI st 3).toNat ≠ rcd 3 l j, slots := fun _ k => [(4, .a (.c (.int .i64 k)))], blks := fun _ _ => [], μ := fun _ k => n - k }
noncomputable def ILpi (n : Nat) (l : List Int) : List (FuncId × Func × (Nat → LM)) := [
  (20, Tryd.f20, U0),
  (17, Tryd.f17, fun r => if r = 5 then .inv (lmPalN n l) else .inv (lmPalO n l))]
theorem ILpi_ok {n : Nat} {l : List Int} : InlsOk Tryd.prog (ILpi n l) := ⟨⟨Tryd.func20, by kernel_rfl⟩, ⟨Tryd.func17, by kernel_rfl⟩, trivial⟩

theorem x_ValidPaletteS (m n : Nat) (l : List Int) (cap : Int) (h1 : n ≤ 1048576) (h3 : n * 3 ≤ m) (h4 : l.length = m) : Fex true (TT mx) (inlN true (TT mx) C0 (lookI (ILpi n l)) 4) C0 U0 Tryd.f11 [.a (.c (.slc 0 0 0 3 n cap))] [.cells false 32 [.run [.u8] m l]] (fun lv _ => leL lv (.a (.c (.bool (palB n l))))) := by
  refine Go.Sx.by_eq (q := True ∧ True ∧ True ∧ True ∧ True ∧ (Decidable.decide ((↑n : Int) ≤ (15 : Int)) = Bool.true → True ∧ True ∧ True ∧ (∃ (x : Nat), (x ≤ n ∧ ∀ (i : Nat), i < x → ∀ (j : Nat), j < i → rcd (3 : Nat) l i ≠ rcd (3 : Nat) l j) ∧ (Go.Sx.Cel.slc (0 : Nat) (0 : Nat) (0 : Int) (3 : Nat) (↑n : Int) cap = Go.Sx.Cel.slc (0 : Nat) (0 : Nat) (0 : Int) (3 : Nat) (↑n : Int) cap ∧ Go.Sx.Cel.val Go.undef = Go.Sx.Cel.val Go.undef ∧ True ∧ (Go.IntKind.i64 = Go.IntKind.i64 ∧ (0 : Int) = (↑x : Int)) ∧ True ∧ True ∧ True ∧ True ∧ True ∧ True ∧ True ∧ True ∧ True ∧ True ∧ True ∧ True ∧ True ∧ True ∧ True ∧ True ∧ True ∧ True ∧ True ∧ True ∧ True ∧ Go.Sx.Cel.val Go.undef = Go.Sx.Cel.val Go.undef ∧ Go.Sx.Cel.val Go.undef = Go.Sx.Cel.val Go.undef ∧ Go.Sx.Cel.val Go.undef = Go.Sx.Cel.val Go.undef ∧ True) ∧ (Bool.false = Bool.false ∧ (32 : Nat) = (32 : Nat) ∧ ([Go.Sx.EK.u8] = [Go.Sx.EK.u8] ∧ m = m ∧ l = l) ∧ True) ∧ True) ∧ ∀ (x : Nat), (x ≤ n ∧ ∀ (i : Nat), i < x → ∀ (j : Nat), j < i → rcd (3 : Nat) l i ≠ rcd (3 : Nat) l j) → True ∧ True ∧ True ∧ True ∧ (Decidable.decide ((↑x : Int) < (↑n : Int)) = Bool.true → True ∧ (∃ (x_1 : Nat), ((↑x_1 : Int) ≤ (↑x : Int) ∧ ∀ (j : Nat), j < x_1 → rcd (3 : Nat) l (Int.toNat (↑x : Int)) ≠ rcd (3 : Nat) l j) ∧ (Go.Sx.Cel.slc (0 : Nat) (0 : Nat) (0 : Int) (3 : Nat) (↑n : Int) cap = Go.Sx.Cel.slc (0 : Nat) (0 : Nat) (0 : Int) (3 : Nat) (↑n : Int) cap ∧ Go.Sx.Cel.val Go.undef = Go.Sx.Cel.val Go.undef ∧ True ∧ (Go.IntKind.i64 = Go.IntKind.i64 ∧ (↑x : Int) = (↑x : Int)) ∧ (Go.IntKind.i64 = Go.IntKind.i64 ∧ (0 : Int) = (↑x_1 : Int)) ∧ (Go.IntKind.i64 = Go.IntKind.i64 ∧ (↑x : Int) = (↑x : Int)) ∧ Go.Sx.Cel.slc (0 : Nat) (0 : Nat) (0 : Int) (3 : Nat) (↑n : Int) cap = Go.Sx.Cel.slc (0 : Nat) (0 : Nat) (0 : Int) (3 : Nat) (↑n : Int) cap ∧ (Go.IntKind.i64 = Go.IntKind.i64 ∧ (↑n : Int) = (↑n : Int)) ∧ Decidable.decide ((↑x : Int) < (↑n : Int)) = Decidable.decide ((↑x : Int) < (↑n : Int)) ∧ True ∧ True ∧ True ∧ True ∧ True ∧ True ∧ True ∧ True ∧ True ∧ True ∧ True ∧ True ∧ True ∧ True ∧ True ∧ True ∧ Go.Sx.Cel.val Go.undef = Go.Sx.Cel.val Go.undef ∧ Go.Sx.Cel.val Go.undef = Go.Sx.Cel.val Go.undef ∧ Go.Sx.Cel.val Go.undef = Go.Sx.Cel.val Go.undef ∧ True) ∧ (Bool.false = Bool.false ∧ (32 : Nat) = (32 : Nat) ∧ ([Go.Sx.EK.u8] = [Go.Sx.EK.u8] ∧ m = m ∧ l = l) ∧ True) ∧ True) ∧ ∀ (x_1 : Nat), ((↑x_1 : Int) ≤ (↑x : Int) ∧ ∀ (j : Nat), j < x_1 → rcd (3 : Nat) l (Int.toNat (↑x : Int)) ≠ rcd (3 : Nat) l j) → True ∧ True ∧ True ∧ (Decidable.decide ((↑x_1 : Int) < (↑x : Int)) = Bool.true → True ∧ True ∧ ((0 : Int) ≤ (↑x : Int) ∧ (↑x : Int) < (↑n : Int)) ∧ ((0 : Int) ≤ (0 : Int) + (↑x : Int) ∧ Int.toNat ((0 : Int) + (↑x : Int)) * (3 : Nat) + (0 : Nat) + (3 : Nat) ≤ m) ∧ True ∧ True ∧ ((0 : Int) ≤ (↑x_1 : Int) ∧ (↑x_1 : Int) < (↑n : Int)) ∧ ((0 : Int) ≤ (0 : Int) + (↑x_1 : Int) ∧ Int.toNat ((0 : Int) + (↑x_1 : Int)) * (3 : Nat) + (0 : Nat) + (3 : Nat) ≤ m) ∧ True ∧ ((List.take (3 : Nat) (List.drop (Int.toNat ((0 : Int) + (↑x : Int)) * (3 : Nat) + (0 : Nat)) l) == List.take (3 : Nat) (List.drop (Int.toNat ((0 : Int) + (↑x_1 : Int)) * (3 : Nat) + (0 : Nat)) l)) = Bool.true → True ∧ True ∧ True ∧ palB n l = Bool.false) ∧ ((List.take (3 : Nat) (List.drop (Int.toNat ((0 : Int) + (↑x : Int)) * (3 : Nat) + (0 : Nat)) l) == List.take (3 : Nat) (List.drop (Int.toNat ((0 : Int) + (↑x_1 : Int)) * (3 : Nat) + (0 : Nat)) l)) = Bool.false → True ∧ ((-9223372036854775808 : Int) ≤ (↑x_1 : Int) + (1 : Int) ∧ (↑x_1 : Int) + (1 : Int) ≤ (9223372036854775807 : Int)) ∧ True ∧ ∃ (y : Nat), ((↑y : Int) ≤ (↑x : Int) ∧ ∀ (j : Nat), j < y → rcd (3 : Nat) l (Int.toNat (↑x : Int)) ≠ rcd (3 : Nat) l j) ∧ n - y < n - x_1 ∧ (Go.Sx.Cel.slc (0 : Nat) (0 : Nat) (0 : Int) (3 : Nat) (↑n : Int) cap = Go.Sx.Cel.slc (0 : Nat) (0 : Nat) (0 : Int) (3 : Nat) (↑n : Int) cap ∧ Go.Sx.Cel.val Go.undef = Go.Sx.Cel.val Go.undef ∧ True ∧ (Go.IntKind.i64 = Go.IntKind.i64 ∧ (↑x : Int) = (↑x : Int)) ∧ (Go.IntKind.i64 = Go.IntKind.i64 ∧ (↑x_1 : Int) + (1 : Int) = (↑y : Int)) ∧ (Go.IntKind.i64 = Go.IntKind.i64 ∧ (↑x : Int) = (↑x : Int)) ∧ Go.Sx.Cel.slc (0 : Nat) (0 : Nat) (0 : Int) (3 : Nat) (↑n : Int) cap = Go.Sx.Cel.slc (0 : Nat) (0 : Nat) (0 : Int) (3 : Nat) (↑n : Int) cap ∧ (Go.IntKind.i64 = Go.IntKind.i64 ∧ (↑n : Int) = (↑n : Int)) ∧ Decidable.decide ((↑x : Int) < (↑n : Int)) = Decidable.decide ((↑x : Int) < (↑n : Int)) ∧ True ∧ True ∧ True ∧ True ∧ True ∧ True ∧ True ∧ True ∧ True ∧ True ∧ True ∧ True ∧ True ∧ True ∧ True ∧ True ∧ Go.Sx.Cel.val Go.undef = Go.Sx.Cel.val Go.undef ∧ Go.Sx.Cel.val Go.undef = Go.Sx.Cel.val Go.undef ∧ Go.Sx.Cel.val Go.undef = Go.Sx.Cel.val Go.undef ∧ True) ∧ (Bool.false = Bool.false ∧ (32 : Nat) = (32 : Nat) ∧ ([Go.Sx.EK.u8] = [Go.Sx.EK.u8] ∧ m = m ∧ l = l) ∧ True) ∧ True)) ∧ (Decidable.decide ((↑x_1 : Int) < (↑x : Int)) = Bool.false → True ∧ ((-9223372036854775808 : Int) ≤ (↑x : Int) + (1 : Int) ∧ (↑x : Int) + (1 : Int) ≤ (9223372036854775807 : Int)) ∧ True ∧ ∃ (y : Nat), (y ≤ n ∧ ∀ (i : Nat), i < y → ∀ (j : Nat), j < i → rcd (3 : Nat) l i ≠ rcd (3 : Nat) l j) ∧ n - y < n - x ∧ (Go.Sx.Cel.slc (0 : Nat) (0 : Nat) (0 : Int) (3 : Nat) (↑n : Int) cap = Go.Sx.Cel.slc (0 : Nat) (0 : Nat) (0 : Int) (3 : Nat) (↑n : Int) cap ∧ Go.Sx.Cel.val Go.undef = Go.Sx.Cel.val Go.undef ∧ True ∧ (Go.IntKind.i64 = Go.IntKind.i64 ∧ (↑x : Int) + (1 : Int) = (↑y : Int)) ∧ True ∧ True ∧ True ∧ True ∧ True ∧ True ∧ True ∧ True ∧ True ∧ True ∧ True ∧ True ∧ True ∧ True ∧ True ∧ True ∧ True ∧ True ∧ True ∧ True ∧ True ∧ Go.Sx.Cel.val Go.undef = Go.Sx.Cel.val Go.undef ∧ Go.Sx.Cel.val Go.undef = Go.Sx.Cel.val Go.undef ∧ Go.Sx.Cel.val Go.undef = Go.Sx.Cel.val Go.undef ∧ True) ∧ (Bool.false = Bool.false ∧ (32 : Nat) = (32 : Nat) ∧ ([Go.Sx.EK.u8] = [Go.Sx.EK.u8] ∧ m = m ∧ l = l) ∧ True) ∧ True)) ∧ (Decidable.decide ((↑x : Int) < (↑n : Int)) = Bool.false → True ∧ True ∧ True ∧ True ∧ True ∧ True ∧ True ∧ (Decidable.decide ((1 : Int) ≤ (↑n : Int)) = Bool.true → True ∧ True ∧ True ∧ True ∧ True ∧ True ∧ True ∧ True ∧ Decidable.decide ((↑n : Int) ≤ (15 : Int)) = palB n l) ∧ (Decidable.decide ((1 : Int) ≤ (↑n : Int)) = !Bool.true → True ∧ True ∧ True ∧ True ∧ True ∧ palB n l = Bool.false))) ∧ (Decidable.decide ((↑n : Int) ≤ (15 : Int)) = !Bool.true → True ∧ True ∧ palB n l = Bool.false)) (by kernel_rfl) ?_
  have er : ∀ k, List.take 3 (List.drop (k * 3) l) = rcd 3 l k := fun _ => rfl
  simp only [true_and, and_true, and_self, decide_eq_true_eq, decide_eq_false_iff_not, Bool.not_eq_true', Bool.not_eq_false', Bool.not_true, Bool.not_false, beq_iff_eq, beq_eq_false_iff_ne, bne_iff_ne, bne_eq_false_iff_eq, ne_eq, not_true_eq_false, not_false_eq_true, false_implies, true_implies, implies_true, forall_const, exists_const, ↓reduceIte, Int.reduceEq, Int.toNat_natCast, Bool.false_eq_true, Bool.true_eq_false, reduceCtorEq, Int.zero_add, Nat.add_zero, Int.ofNat_eq_natCast, er]
  refine ⟨fun h15 => ⟨⟨0, ⟨by omega, fun i hi => by omega⟩, rfl⟩, ?_⟩, fun h => palB_f.2 fun p => by have := p.hi; omega⟩
  rintro i ⟨hi, hp⟩
  refine ⟨fun hlt => ⟨⟨0, ⟨by omega, fun j hj => by omega⟩, rfl⟩, ?_⟩, fun hge => ⟨fun h => ?_, fun h => palB_f.2 fun p => by have := p.lo; omega⟩⟩
  · rintro k ⟨hk, hq⟩
    refine ⟨fun hlt' => ⟨by omega, by omega, by omega, by omega, fun hc => palB_f.2 fun p => p.df i (by omega) k (by omega) hc, fun hc => ⟨by omega, k + 1, ⟨by omega, fun j hj => ?_⟩, by omega, by omega⟩⟩, fun hge' => ⟨by omega, i + 1, ⟨by omega, fun i' hi' j hj => ?_⟩, by omega, by omega⟩⟩
    · rcases (show j < k ∨ j = k by omega) with h | rfl
      · exact hq j h
      · exact hc
    · rcases (show i' < i ∨ i' = i by omega) with h | rfl
      · exact hp i' h j hj
      · exact hq j (by omega)
  · rw [palB_t.2 ⟨by omega, by omega, fun a ha b hb => hp a (by omega) b hb⟩]
    simp; omega

/-! ### ValidPalette of the program -/
def lmPalM (n : Nat) (l : List Int) : LAnn := { ι := Nat, inv := fun _ k => k ≤ n, slots := fun _ k => [(3, .a (.c (.mpr 2))), (17, .a (.c (.int .i64 k)))], blks := fun _ _ => [], μ := fun _ k => n - k, kills := [1], frs := fun _ k => [.mp true [.u8, .u8, .u8] .bool (mpT l k)], mv := fun st => [mapB st 3] }

theorem x_ValidPaletteI (m n : Nat) (l : List Int) (cap : Int) (h1 : n ≤ 1048576) (h3 : n * 3 ≤ m) (h4 : l.length = m) : Fex true (TT mx) (inlN true (TT mx) C0 (lookI ILz) 4) C0 (fun _ => .inv (lmPalM n l)) Tryd.f14 [.a (.c (.slc 0 0 0 3 n cap))] [.cells false 32 [.run [.u8] m l]] (fun lv _ => leL lv (.a (.c (.bool (palB n l))))) := by
  refine Go.Sx.by_eq (q := True ∧ True ∧ True ∧ True ∧ True ∧ (Decidable.decide ((↑n : Int) < (1 : Int)) = Bool.false → True ∧ True ∧ True ∧ True ∧ (Decidable.decide ((15 : Int) < (↑n : Int)) = Bool.true → True ∧ palB n l = Bool.false) ∧ (Decidable.decide ((15 : Int) < (↑n : Int)) = Bool.false → True ∧ True ∧ True ∧ True ∧ True ∧ (∃ (x : Nat), x ≤ n ∧ (Go.Sx.Cel.slc (0 : Nat) (0 : Nat) (0 : Int) (3 : Nat) (↑n : Int) cap = Go.Sx.Cel.slc (0 : Nat) (0 : Nat) (0 : Int) (3 : Nat) (↑n : Int) cap ∧ Go.Sx.Cel.val Go.undef = Go.Sx.Cel.val Go.undef ∧ True ∧ Go.Sx.Cel.mpr (1 : Nat) = Go.Sx.Cel.mpr (1 : Nat) ∧ Go.Sx.Cel.val Go.undef = Go.Sx.Cel.val Go.undef ∧ True ∧ Go.Sx.Cel.slc (0 : Nat) (0 : Nat) (0 : Int) (3 : Nat) (↑n : Int) cap = Go.Sx.Cel.slc (0 : Nat) (0 : Nat) (0 : Int) (3 : Nat) (↑n : Int) cap ∧ (Go.IntKind.i64 = Go.IntKind.i64 ∧ (↑n : Int) = (↑n : Int)) ∧ Decidable.decide ((↑n : Int) < (1 : Int)) = Decidable.decide ((↑n : Int) < (1 : Int)) ∧ True ∧ Go.Sx.Cel.slc (0 : Nat) (0 : Nat) (0 : Int) (3 : Nat) (↑n : Int) cap = Go.Sx.Cel.slc (0 : Nat) (0 : Nat) (0 : Int) (3 : Nat) (↑n : Int) cap ∧ (Go.IntKind.i64 = Go.IntKind.i64 ∧ (↑n : Int) = (↑n : Int)) ∧ Decidable.decide ((15 : Int) < (↑n : Int)) = Decidable.decide ((15 : Int) < (↑n : Int)) ∧ Decidable.decide ((15 : Int) < (↑n : Int)) = Decidable.decide ((15 : Int) < (↑n : Int)) ∧ Go.Sx.Cel.mpr (1 : Nat) = Go.Sx.Cel.mpr (1 : Nat) ∧ Go.Sx.Cel.slc (0 : Nat) (0 : Nat) (0 : Int) (3 : Nat) (↑n : Int) cap = Go.Sx.Cel.slc (0 : Nat) (0 : Nat) (0 : Int) (3 : Nat) (↑n : Int) cap ∧ (Go.IntKind.i64 = Go.IntKind.i64 ∧ (↑n : Int) = (↑n : Int)) ∧ (Go.IntKind.i64 = Go.IntKind.i64 ∧ (0 : Int) = (↑x : Int)) ∧ True ∧ True ∧ True ∧ True ∧ True ∧ True ∧ Go.Sx.Cel.val Go.undef = Go.Sx.Cel.val Go.undef ∧ Go.Sx.Cel.val Go.undef = Go.Sx.Cel.val Go.undef ∧ Go.Sx.Cel.val Go.undef = Go.Sx.Cel.val Go.undef ∧ Go.Sx.Cel.val Go.undef = Go.Sx.Cel.val Go.undef ∧ Go.Sx.Cel.val Go.undef = Go.Sx.Cel.val Go.undef ∧ True) ∧ (Bool.false = Bool.false ∧ (32 : Nat) = (32 : Nat) ∧ ([Go.Sx.EK.u8] = [Go.Sx.EK.u8] ∧ m = m ∧ l = l) ∧ True) ∧ True ∧ (Bool.true = Bool.true ∧ [Go.Sx.EK.u8, Go.Sx.EK.u8, Go.Sx.EK.u8] = [Go.Sx.EK.u8, Go.Sx.EK.u8, Go.Sx.EK.u8] ∧ Go.Sx.EK.bool = Go.Sx.EK.bool ∧ [] = mpT l x) ∧ True) ∧ ∀ (x : Nat), x ≤ n → True ∧ (Decidable.decide ((↑x : Int) < (↑n : Int)) = Bool.true → ((0 : Int) ≤ (↑x : Int) ∧ (↑x : Int) < (↑n : Int)) ∧ ((0 : Int) ≤ (0 : Int) + (↑x : Int) ∧ Int.toNat ((0 : Int) + (↑x : Int)) * (3 : Nat) + (0 : Nat) + (3 : Nat) ≤ m) ∧ True ∧ True ∧ True ∧ True ∧ True ∧ ((-9223372036854775808 : Int) ≤ (↑x : Int) + (1 : Int) ∧ (↑x : Int) + (1 : Int) ≤ (9223372036854775807 : Int)) ∧ True ∧ ∃ (y : Nat), y ≤ n ∧ n - y < n - x ∧ (Go.Sx.Cel.slc (0 : Nat) (0 : Nat) (0 : Int) (3 : Nat) (↑n : Int) cap = Go.Sx.Cel.slc (0 : Nat) (0 : Nat) (0 : Int) (3 : Nat) (↑n : Int) cap ∧ Go.Sx.Cel.val Go.undef = Go.Sx.Cel.val Go.undef ∧ True ∧ Go.Sx.Cel.mpr (2 : Nat) = Go.Sx.Cel.mpr (2 : Nat) ∧ Go.Sx.Cel.val Go.undef = Go.Sx.Cel.val Go.undef ∧ True ∧ Go.Sx.Cel.slc (0 : Nat) (0 : Nat) (0 : Int) (3 : Nat) (↑n : Int) cap = Go.Sx.Cel.slc (0 : Nat) (0 : Nat) (0 : Int) (3 : Nat) (↑n : Int) cap ∧ (Go.IntKind.i64 = Go.IntKind.i64 ∧ (↑n : Int) = (↑n : Int)) ∧ Decidable.decide ((↑n : Int) < (1 : Int)) = Decidable.decide ((↑n : Int) < (1 : Int)) ∧ True ∧ Go.Sx.Cel.slc (0 : Nat) (0 : Nat) (0 : Int) (3 : Nat) (↑n : Int) cap = Go.Sx.Cel.slc (0 : Nat) (0 : Nat) (0 : Int) (3 : Nat) (↑n : Int) cap ∧ (Go.IntKind.i64 = Go.IntKind.i64 ∧ (↑n : Int) = (↑n : Int)) ∧ Decidable.decide ((15 : Int) < (↑n : Int)) = Decidable.decide ((15 : Int) < (↑n : Int)) ∧ Decidable.decide ((15 : Int) < (↑n : Int)) = Decidable.decide ((15 : Int) < (↑n : Int)) ∧ Go.Sx.Cel.mpr (1 : Nat) = Go.Sx.Cel.mpr (1 : Nat) ∧ Go.Sx.Cel.slc (0 : Nat) (0 : Nat) (0 : Int) (3 : Nat) (↑n : Int) cap = Go.Sx.Cel.slc (0 : Nat) (0 : Nat) (0 : Int) (3 : Nat) (↑n : Int) cap ∧ (Go.IntKind.i64 = Go.IntKind.i64 ∧ (↑n : Int) = (↑n : Int)) ∧ (Go.IntKind.i64 = Go.IntKind.i64 ∧ (↑x : Int) + (1 : Int) = (↑y : Int)) ∧ True ∧ True ∧ True ∧ True ∧ True ∧ True ∧ Go.Sx.Cel.val Go.undef = Go.Sx.Cel.val Go.undef ∧ Go.Sx.Cel.val Go.undef = Go.Sx.Cel.val Go.undef ∧ Go.Sx.Cel.val Go.undef = Go.Sx.Cel.val Go.undef ∧ Go.Sx.Cel.val Go.undef = Go.Sx.Cel.val Go.undef ∧ Go.Sx.Cel.val Go.undef = Go.Sx.Cel.val Go.undef ∧ True) ∧ (Bool.false = Bool.false ∧ (32 : Nat) = (32 : Nat) ∧ ([Go.Sx.EK.u8] = [Go.Sx.EK.u8] ∧ m = m ∧ l = l) ∧ True) ∧ True ∧ (Bool.true = Bool.true ∧ [Go.Sx.EK.u8, Go.Sx.EK.u8, Go.Sx.EK.u8] = [Go.Sx.EK.u8, Go.Sx.EK.u8, Go.Sx.EK.u8] ∧ Go.Sx.EK.bool = Go.Sx.EK.bool ∧ Go.Sx.mpPut (mpT l x) (List.take (3 : Nat) (List.drop (Int.toNat ((0 : Int) + (↑x : Int)) * (3 : Nat) + (0 : Nat)) l) ++ []) (1 : Int) = mpT l y) ∧ True) ∧ (Decidable.decide ((↑x : Int) < (↑n : Int)) = Bool.false → True ∧ True ∧ True ∧ True ∧ True ∧ True ∧ ((↑(List.length (mpT l x)) : Int) == (↑n : Int)) = palB n l))) ∧ (Decidable.decide ((↑n : Int) < (1 : Int)) = !Bool.false → True ∧ True ∧ palB n l = Bool.false)) (by kernel_rfl) ?_
  have er : ∀ k, List.take 3 (List.drop (k * 3) l) = rcd 3 l k := fun _ => rfl
  simp only [true_and, and_true, and_self, decide_eq_true_eq, decide_eq_false_iff_not, Bool.not_eq_true', Bool.not_eq_false', Bool.not_true, Bool.not_false, beq_iff_eq, beq_eq_false_iff_ne, bne_iff_ne, bne_eq_false_iff_eq, ne_eq, not_true_eq_false, not_false_eq_true, false_implies, true_implies, implies_true, forall_const, exists_const, ↓reduceIte, Int.reduceEq, Int.toNat_natCast, Bool.false_eq_true, Bool.true_eq_false, reduceCtorEq, Int.zero_add, Nat.add_zero, Int.ofNat_eq_natCast, er, List.append_nil]
  refine ⟨fun hlo => ⟨fun h => palB_f.2 fun p => by have := p.hi; omega, fun h15 => ⟨⟨0, by omega, rfl, rfl⟩, ?_⟩⟩, fun h => palB_f.2 fun p => by have := p.lo; omega⟩
  intro k hk
  refine ⟨fun hlt => ⟨by omega, by omega, by omega, k + 1, by omega, by omega, by omega, rfl⟩, fun hge => ?_⟩
  obtain rfl : k = n := by omega
  rw [Bool.eq_iff_iff, beq_iff_eq, palB_t]
  constructor
  · intro h
    exact ⟨by omega, by omega, mpT_len.1 (by omega)⟩
  · intro p
    have := mpT_len.2 p.df
    omega

noncomputable def gPal : Entry := fun args H => match args with
  | [.a (.c (.slc id b z s len _))] => match getB H id with
    | .cells _ t [.run ks n l] => some ((t = 32 ∧ b = 0 ∧ z = 0 ∧ s = 3 ∧ ks = [.u8]) ∧ 0 ≤ len ∧ len ≤ 1048576 ∧ len.toNat * 3 ≤ n ∧ l.length = n, .a (.c (.bool (palB len.toNat l))))
    | _ => none
  | _ => none
theorem gPal_inv {args : List LV} {H : List Blk} {p : Prop} {r : LV} (he : gPal args H = some (p, r)) (hp : p) : ∃ (id m n : Nat) (o : Bool) (l : List Int) (cap : Int),
    args = [.a (.c (.slc id 0 0 3 n cap))] ∧ getB H id = .cells o 32 [.run [.u8] m l] ∧ r = .a (.c (.bool (palB n l))) ∧ n ≤ 1048576 ∧ n * 3 ≤ m ∧ l.length = m := by
  unfold gPal at he
  split at he
  · split at he
    · rename_i id b z s len cap _ o t ks m l hg
      simp only [Option.some.injEq, Prod.mk.injEq] at he
      obtain ⟨rfl, rfl⟩ := he
      obtain ⟨⟨rfl, rfl, rfl, rfl, rfl⟩, h1, h2, h3, h4⟩ := hp
      obtain ⟨n, rfl⟩ := Int.eq_ofNat_of_zero_le h1
      exact ⟨id, m, n, o, l, cap, rfl, hg, rfl, by omega, by simpa using h3, h4⟩
    · simp at he
  · simp at he

theorem e_ValidPaletteS : EntryOk Tryd.prog (TT mx) 11 gPal := by
  refine ⟨fnOk Tryd.func11 (by kernel_rfl) rfl, ?_⟩
  intro args H p r he hp n0 w0 β w vals hG hH hA
  obtain ⟨id, m, n, o, l, cap, rfl, hg, rfl, h1, h2, h3⟩ := gPal_inv he hp
  exact entry_view tt_ok (inlN_ok tt_ok C0_ok mixed ILpi_ok.ok 4) C0_ok mixed Tryd.func11 [id] (x_ValidPaletteS m n l cap h1 h2 h3) rfl rfl ⟨.inr (by rw [hg]; rfl), trivial⟩ hG hH hA
theorem e_ValidPaletteI : EntryOk Tryd.prog (TT mx) 14 gPal := by
  refine ⟨fnOk Tryd.func14 (by kernel_rfl) rfl, ?_⟩
  intro args H p r he hp n0 w0 β w vals hG hH hA
  obtain ⟨id, m, n, o, l, cap, rfl, hg, rfl, h1, h2, h3⟩ := gPal_inv he hp
  exact entry_view tt_ok (inlN_ok tt_ok C0_ok mixed ILz_ok.ok 4) C0_ok mixed Tryd.func14 [id] (x_ValidPaletteI m n l cap h1 h2 h3) rfl rfl ⟨.inr (by rw [hg]; rfl), trivial⟩ hG hH hA

/-! ### Palettes compared -/
theorem ws_byl {n : Nat} {l : List Int} {len cap : Int} (ws : WS [.u8] 3 n l len cap) : byl (len.toNat * 3) (l.take (len.toNat * 3)) := by
  intro i hi
  rw [getD_take' hi]
  have h := ws.wf i (by have := ws.hn; omega)
  simp only [List.length_cons, List.length_nil, Nat.zero_add, Nat.mod_one, List.getD_cons_zero] at h
  simpa [Lit.wf, IntKind.min, IntKind.max, IntKind.signed, IntKind.bits] using h

noncomputable def Epv : List (FuncId × Entry) := (6, gEqR 32 3 [.u8]) :: (11, gPal) :: (14, gPal) :: Ep0
theorem Epv_ok : EntriesOk Tryd.prog (TT mx) Epv := ⟨e_eqPalette, e_ValidPaletteS, e_ValidPaletteI, Ep0_ok⟩

end Go.Proofs.YtdefimnflpceeaaDoor
