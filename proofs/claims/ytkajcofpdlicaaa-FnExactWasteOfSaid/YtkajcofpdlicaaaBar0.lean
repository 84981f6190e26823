/- Bars: what is asked of pieces and indices. No conditions beyond the ranges of the kinds. -/
import Derived.Test.YtkajcofpdlicaaaI64
set_option linter.unusedSimpArgs false
set_option linter.unusedVariables false
namespace Go.Proofs.Ytkajcofpdlicaaa
open Go.Sx Go.RowKit

noncomputable def ILn  : List (FuncId × Func × (Nat → LM)) := [
  ]
theorem ILn_ok  : InlsOk Try.prog ILn := trivial
/-- A slice of numbers that is looked at: its memory begins with it. -/
structure Sl64 (len : Int) (n : Nat) (l : List Int) : Prop where
  lo : 0 ≤ len
  hi : len ≤ 1048576
  le : len.toNat ≤ n
  ln : l.length = n

theorem x_l00In (a b c : Int) : Fex true TT (inlN true TT C0 (lookI ILn) 4) C0 U0 Try.f104 [.a (.c (.int .i64 a)), .a (.c (.int .i64 b)), .a (.c (.int .i64 c))] [] (fun lv _ => leL lv (.a (.c (.bool (decide (b ≤ a) && decide (a ≤ c)))))) := by
  refine Go.Sx.by_eq (q := True ∧ True ∧ True ∧ True ∧ True ∧ (Decidable.decide (b ≤ a) = Bool.true → True ∧ True ∧ True ∧ True ∧ True ∧ Decidable.decide (a ≤ c) = (Decidable.decide (b ≤ a) && Decidable.decide (a ≤ c))) ∧ (Decidable.decide (b ≤ a) = !Bool.true → True ∧ True ∧ (Decidable.decide (b ≤ a) && Decidable.decide (a ≤ c)) = Bool.false)) (by kernel_rfl) ?_
  cases h0 : decide (b ≤ a) <;> simp_all
def gIn : Entry := fun args _ => match args with
  | [.a (.c (.int .i64 a)), .a (.c (.int .i64 b)), .a (.c (.int .i64 c))] => some (True, .a (.c (.bool (decide (b ≤ a) && decide (a ≤ c)))))
  | [.a (.c (.int .i64 a)), .a (.c (.lit .i64 b)), .a (.c (.int .i64 c))] => some (True, .a (.c (.bool (decide (b ≤ a) && decide (a ≤ c)))))
  | _ => none

def hasB (l : List Int) (n : Nat) (v : Int) : Bool := (List.range n).any fun i => l.getD i 0 == v
theorem hasB_t {l : List Int} {n : Nat} {v : Int} : hasB l n v = true ↔ ∃ i, i < n ∧ l.getD i 0 = v := by simp [hasB]
theorem hasB_f {l : List Int} {n : Nat} {v : Int} : hasB l n v = false ↔ ∀ i, i < n → l.getD i 0 ≠ v := by simp [hasB]

theorem hasB_succ {l : List Int} {n : Nat} {v : Int} : hasB l (n + 1) v = (hasB l n v || l.getD n 0 == v) := by simp [hasB, List.range_succ, List.any_append]

def lmHas (n : Nat) (l : List Int) (v : Int) : LAnn := { ι := Nat, inv := fun _ k => k ≤ n ∧ ∀ i, i < k → l.getD i 0 ≠ v, slots := fun _ k => [(5, .a (.c (.int .i64 k)))], blks := fun _ _ => [], μ := fun _ k => n - k }
theorem x_l00Has (m n : Nat) (l : List Int) (v cap : Int) (h1 : n ≤ 1048576) (h3 : n ≤ m) (h4 : l.length = m) : Fex true TT (inlN true TT C0 (lookI ILn) 4) C0 (fun _ => .inv (lmHas n l v)) Try.f183 [.a (.c (.slc 0 0 0 1 n cap)), .a (.c (.int .i64 v))] [.cells false 2 [.run [.i64] m l]] (fun lv _ => leL lv (.a (.c (.bool (hasB l n v))))) := by
  refine Go.Sx.by_eq (q := True ∧ True ∧ (∃ (x : Nat), (x ≤ n ∧ ∀ (i : Nat), i < x → List.getD l i (0 : Int) ≠ v) ∧ (Go.Sx.Cel.slc (0 : Nat) (0 : Nat) (0 : Int) (1 : Nat) (↑n : Int) cap = Go.Sx.Cel.slc (0 : Nat) (0 : Nat) (0 : Int) (1 : Nat) (↑n : Int) cap ∧ (Go.IntKind.i64 = Go.IntKind.i64 ∧ v = v) ∧ Go.Sx.Cel.val Go.undef = Go.Sx.Cel.val Go.undef ∧ Go.Sx.Cel.val Go.undef = Go.Sx.Cel.val Go.undef ∧ True ∧ (Go.IntKind.i64 = Go.IntKind.i64 ∧ (0 : Int) = (↑x : Int)) ∧ True ∧ True ∧ True ∧ True ∧ True ∧ True ∧ True ∧ True ∧ True ∧ True ∧ True ∧ True ∧ True) ∧ (Bool.false = Bool.false ∧ (2 : Nat) = (2 : Nat) ∧ ([Go.Sx.EK.i64] = [Go.Sx.EK.i64] ∧ m = m ∧ l = l) ∧ True) ∧ True) ∧ ∀ (x : Nat), (x ≤ n ∧ ∀ (i : Nat), i < x → List.getD l i (0 : Int) ≠ v) → True ∧ True ∧ True ∧ True ∧ (Decidable.decide ((↑x : Int) < (↑n : Int)) = Bool.true → True ∧ True ∧ ((0 : Int) ≤ (↑x : Int) ∧ (↑x : Int) < (↑n : Int)) ∧ ((0 : Int) ≤ (0 : Int) + (↑x : Int) ∧ Int.toNat ((0 : Int) + (↑x : Int)) < m) ∧ True ∧ True ∧ ((List.getD l (Int.toNat ((0 : Int) + (↑x : Int))) (0 : Int) == v) = Bool.true → True ∧ hasB l n v = Bool.true) ∧ ((List.getD l (Int.toNat ((0 : Int) + (↑x : Int))) (0 : Int) == v) = Bool.false → True ∧ ((-9223372036854775808 : Int) ≤ (↑x : Int) + (1 : Int) ∧ (↑x : Int) + (1 : Int) ≤ (9223372036854775807 : Int)) ∧ True ∧ ∃ (y : Nat), (y ≤ n ∧ ∀ (i : Nat), i < y → List.getD l i (0 : Int) ≠ v) ∧ n - y < n - x ∧ (Go.Sx.Cel.slc (0 : Nat) (0 : Nat) (0 : Int) (1 : Nat) (↑n : Int) cap = Go.Sx.Cel.slc (0 : Nat) (0 : Nat) (0 : Int) (1 : Nat) (↑n : Int) cap ∧ (Go.IntKind.i64 = Go.IntKind.i64 ∧ v = v) ∧ Go.Sx.Cel.val Go.undef = Go.Sx.Cel.val Go.undef ∧ Go.Sx.Cel.val Go.undef = Go.Sx.Cel.val Go.undef ∧ True ∧ (Go.IntKind.i64 = Go.IntKind.i64 ∧ (↑x : Int) + (1 : Int) = (↑y : Int)) ∧ True ∧ True ∧ True ∧ True ∧ True ∧ True ∧ True ∧ True ∧ True ∧ True ∧ True ∧ True ∧ True) ∧ (Bool.false = Bool.false ∧ (2 : Nat) = (2 : Nat) ∧ ([Go.Sx.EK.i64] = [Go.Sx.EK.i64] ∧ m = m ∧ l = l) ∧ True) ∧ True)) ∧ (Decidable.decide ((↑x : Int) < (↑n : Int)) = Bool.false → True ∧ hasB l n v = Bool.false)) (by kernel_rfl) ?_
  simp only [true_and, and_true, and_self, decide_eq_true_eq, decide_eq_false_iff_not, Bool.not_eq_true', Bool.not_eq_false', Bool.not_true, Bool.not_false, beq_iff_eq, beq_eq_false_iff_ne, bne_iff_ne, bne_eq_false_iff_eq, ne_eq, not_true_eq_false, not_false_eq_true, false_implies, true_implies, implies_true, forall_const, exists_const, ↓reduceIte, Int.reduceEq, Int.toNat_natCast, Bool.false_eq_true, Bool.true_eq_false, reduceCtorEq, Int.zero_add, Nat.add_zero, Int.ofNat_eq_natCast, Int.toNat_natCast]
  refine ⟨⟨0, ⟨by omega, fun i hi => by omega⟩, rfl⟩, ?_⟩
  rintro k ⟨hk, hp⟩
  refine ⟨fun hlt => ⟨by omega, by omega, fun he => hasB_t.2 ⟨k, by omega, he⟩, fun he => ⟨by omega, k + 1, ⟨by omega, fun i hi => ?_⟩, by omega, by omega⟩⟩, fun hge => hasB_f.2 fun i hi => hp i (by omega)⟩
  rcases (show i < k ∨ i = k by omega) with h | rfl
  · exact hp i h
  · exact he

def gHas : Entry := fun args H => match args with
  | [.a (.c (.slc id b z s len _)), .a (.c (.int .i64 v))] => match getB H id with
    | .cells _ t [.run ks n l] => some ((t = 2 ∧ b = 0 ∧ z = 0 ∧ s = 1 ∧ ks = [.i64]) ∧ Sl64 len n l, .a (.c (.bool (hasB l len.toNat v))))
    | _ => none
  | _ => none
theorem gHas_inv {args : List LV} {H : List Blk} {p : Prop} {r : LV} (he : gHas args H = some (p, r)) (hp : p) : ∃ (id m n : Nat) (o : Bool) (l : List Int) (cap v : Int),
    args = [.a (.c (.slc id 0 0 1 n cap)), .a (.c (.int .i64 v))] ∧ getB H id = .cells o 2 [.run [.i64] m l] ∧ r = .a (.c (.bool (hasB l n v))) ∧ n ≤ 1048576 ∧ n ≤ m ∧ l.length = m := by
  unfold gHas at he
  split at he
  · split at he
    · rename_i id b z s len cap v _ o t ks m l hg
      simp only [Option.some.injEq, Prod.mk.injEq] at he
      obtain ⟨rfl, rfl⟩ := he
      obtain ⟨⟨rfl, rfl, rfl, rfl, rfl⟩, h1, h2, h3, h4⟩ := hp
      obtain ⟨n, rfl⟩ := Int.eq_ofNat_of_zero_le h1
      exact ⟨id, m, n, o, l, cap, v, rfl, hg, rfl, by omega, by simpa using h3, h4⟩
    · simp at he
  · simp at he
theorem e_l00Has : EntryOk Try.prog TT 183 gHas := by
  refine ⟨fnOk Try.func183 (by kernel_rfl) rfl, ?_⟩
  intro args H p r he hp n0 w0 β w vals hG hH hA
  obtain ⟨id, m, n, o, l, cap, v, rfl, hg, rfl, h1, h2, h3⟩ := gHas_inv he hp
  exact entry_view tt_ok (inlN_ok tt_ok C0_ok mixed (ILn_ok).ok 4) C0_ok mixed Try.func183 [id] (x_l00Has m n l v cap h1 h2 h3) rfl rfl ⟨.inr (by rw [hg]; rfl), trivial⟩ hG hH hA

theorem e_l00In : EntryOk Try.prog TT 104 gIn := by
  refine ⟨fnOk Try.func104 (by kernel_rfl) rfl, ?_⟩
  intro args H p r he hp n0 w0 β w vals hG hH hA
  unfold gIn at he
  split at he
  · simp only [Option.some.injEq, Prod.mk.injEq] at he
    obtain ⟨rfl, rfl⟩ := he
    exact entry_bare tt_ok (inlN_ok tt_ok C0_ok mixed (ILn_ok).ok 4) C0_ok mixed Try.func104 (x_l00In _ _ _) rfl rfl hG hH hA
  · simp only [Option.some.injEq, Prod.mk.injEq] at he
    obtain ⟨rfl, rfl⟩ := he
    exact entry_bare tt_ok (inlN_ok tt_ok C0_ok mixed (ILn_ok).ok 4) C0_ok mixed Try.func104 (x_l00In _ _ _) rfl rfl hG hH hA
  · simp at he
def Eb0 : List (FuncId × Entry) := [(183, gHas), (104, gIn)]
theorem Eb0_ok : EntriesOk Try.prog TT Eb0 := ⟨e_l00Has, e_l00In, trivial⟩
abbrev Cb0 : Ctr := ctrOf Eb0
theorem Cb0_ok : CtrOk Try.prog TT Cb0 := ctrOf_ok Eb0_ok

/-! ### What is asked of pieces and bars -/
structure SwP (L saw : Int) (n : Nat) (p : List Int) : Prop where
  len : 1 ≤ L ∧ L ≤ 10000
  saw : 0 ≤ saw ∧ saw ≤ 10000
  hi : n ≤ 14
  ok : ∀ i, i < n → 1 ≤ p.getD i 0 ∧ p.getD i 0 ≤ L
open Classical in
noncomputable def swB (L saw : Int) (n : Nat) (p : List Int) : Bool := decide (SwP L saw n p)
theorem swB_t {L saw : Int} {n : Nat} {p : List Int} : swB L saw n p = true ↔ SwP L saw n p := by simp [swB]
theorem swB_f {L saw : Int} {n : Nat} {p : List Int} : swB L saw n p = false ↔ ¬ SwP L saw n p := by simp [swB]
structure IxP (n m : Nat) (b : List Int) : Prop where
  ok : ∀ i, i < m → (0 ≤ b.getD i 0 ∧ b.getD i 0 < n) ∧ ∀ j, j < i → b.getD j 0 ≠ b.getD i 0
open Classical in
noncomputable def ixB (n m : Nat) (b : List Int) : Bool := decide (IxP n m b)
theorem ixB_t {n m : Nat} {b : List Int} : ixB n m b = true ↔ IxP n m b := by simp [ixB]
theorem ixB_f {n m : Nat} {b : List Int} : ixB n m b = false ↔ ¬ IxP n m b := by simp [ixB]

/-- What is used of a bar. -/
def useE (saw : Int) (p b : List Int) : Nat → Int
  | 0 => 0
  | k + 1 => useE saw p b k + (if k = 0 then 0 else saw) + p.getD (b.getD k 0).toNat 0
def smP (p b : List Int) : Nat → Int
  | 0 => 0
  | k + 1 => smP p b k + p.getD (b.getD k 0).toNat 0
theorem useE_sm {saw : Int} {p b : List Int} : ∀ {k : Nat}, useE saw p b (k + 1) = (k : Int) * saw + smP p b (k + 1)
  | 0 => by simp [useE, smP]
  | k + 1 => by
    rw [useE, useE_sm (k := k), smP, if_neg (by omega)]
    have : ((k + 1 : Nat) : Int) * saw = (k : Int) * saw + saw := by rw [Int.natCast_succ, Int.add_mul, Int.one_mul]
    rw [this]
    rw [smP, smP]; omega
theorem use_bd {saw : Int} {p b : List Int} {n m : Nat} (hs : 0 ≤ saw ∧ saw ≤ 10000) (hp : ∀ i, i < n → 1 ≤ p.getD i 0 ∧ p.getD i 0 ≤ 10000) (hb : ∀ i, i < m → 0 ≤ b.getD i 0 ∧ b.getD i 0 < n) : ∀ {k : Nat}, k ≤ m → (0 ≤ useE saw p b k ∧ useE saw p b k ≤ 20000 * (k : Int)) ∧ 0 ≤ smP p b k ∧ smP p b k ≤ 10000 * (k : Int)
  | 0, _ => ⟨⟨Int.le_refl 0, Int.le_refl 0⟩, Int.le_refl 0, Int.le_refl 0⟩
  | k + 1, h => by
    obtain ⟨h1, h2⟩ := use_bd hs hp hb (k := k) (by omega)
    have h3 := hb k (by omega)
    have h4 := hp (b.getD k 0).toNat (by omega)
    rw [useE, smP]
    split <;> omega


def lmSw (t n : Nat) (p : List Int) (L : Int) : LAnn := { ι := Nat, inv := fun _ k => k ≤ n ∧ ∀ i, i < k → 1 ≤ p.getD i 0 ∧ p.getD i 0 ≤ L, slots := fun _ k => [(t, .a (.c (.int .i64 k)))], blks := fun _ _ => [], μ := fun _ k => n - k }
def lmIx (n m : Nat) (b : List Int) : LAnn := { ι := Nat, inv := fun _ k => k ≤ m ∧ IxP n k b, slots := fun _ k => [(5, .a (.c (.int .i64 k)))], blks := fun _ _ => [], μ := fun _ k => m - k }
def lmUse (saw : Int) (p : List Int) (m : Nat) (b : List Int) : LAnn := { ι := Nat, inv := fun _ k => k ≤ m, slots := fun _ k => [(7, .a (.c (.int .i64 (useE saw p b k)))), (8, .a (.c (.int .i64 k)))], blks := fun _ _ => [], μ := fun _ k => m - k }
theorem ix_bad {n m k : Nat} {b : List Int} (hk : k < m) (h : ¬ ((0 ≤ b.getD k 0 ∧ b.getD k 0 < n) ∧ ∀ j, j < k → b.getD j 0 ≠ b.getD k 0)) : ixB n m b = false := ixB_f.2 fun p => h (p.ok k hk)
theorem ix_step {n k : Nat} {b : List Int} (p : IxP n k b) (h : 0 ≤ b.getD k 0 ∧ b.getD k 0 < n) (hh : hasB b k (b.getD k 0) = false) : IxP n (k + 1) b := ⟨fun i hi => by
  rcases (show i < k ∨ i = k by omega) with h' | rfl
  · exact p.ok i h'
  · exact ⟨h, hasB_f.1 hh⟩⟩

theorem x_l04Indexed (M m : Nat) (b : List Int) (n : Nat) (cap : Int) (g1 : m ≤ 1048576) (g2 : m ≤ M) (g3 : b.length = M) (gc : (m : Int) ≤ cap) (hn' : n ≤ 1048576) : Fex true TT (inlN true TT Cb0 (lookI ILn) 4) Cb0 (fun _ => .inv (lmIx n m b)) Try.f162 [.a (.c (.slc 0 0 0 1 m cap)), .a (.c (.int .i64 n))] [.cells false 2 [.run [.i64] M b]] (fun lv _ => leL lv (.a (.c (.bool (ixB n m b))))) := by
  refine Go.Sx.by_eq (q := True ∧ True ∧ (∃ (x : Nat), (x ≤ m ∧ IxP n x b) ∧ (Go.Sx.Cel.slc (0 : Nat) (0 : Nat) (0 : Int) (1 : Nat) (↑m : Int) cap = Go.Sx.Cel.slc (0 : Nat) (0 : Nat) (0 : Int) (1 : Nat) (↑m : Int) cap ∧ (Go.IntKind.i64 = Go.IntKind.i64 ∧ (↑n : Int) = (↑n : Int)) ∧ Go.Sx.Cel.val Go.undef = Go.Sx.Cel.val Go.undef ∧ Go.Sx.Cel.val Go.undef = Go.Sx.Cel.val Go.undef ∧ True ∧ (Go.IntKind.i64 = Go.IntKind.i64 ∧ (0 : Int) = (↑x : Int)) ∧ True ∧ True ∧ True ∧ True ∧ True ∧ True ∧ True ∧ True ∧ True ∧ True ∧ True ∧ True ∧ True ∧ True ∧ True ∧ True ∧ True ∧ True ∧ True ∧ True ∧ True ∧ True ∧ True ∧ True ∧ True) ∧ (Bool.false = Bool.false ∧ (2 : Nat) = (2 : Nat) ∧ ([Go.Sx.EK.i64] = [Go.Sx.EK.i64] ∧ M = M ∧ b = b) ∧ True) ∧ True) ∧ ∀ (x : Nat), x ≤ m ∧ IxP n x b → True ∧ True ∧ True ∧ True ∧ (Decidable.decide ((↑x : Int) < (↑m : Int)) = Bool.true → True ∧ True ∧ ((0 : Int) ≤ (↑x : Int) ∧ (↑x : Int) < (↑m : Int)) ∧ ((0 : Int) ≤ (0 : Int) + (↑x : Int) ∧ Int.toNat ((0 : Int) + (↑x : Int)) < M) ∧ True ∧ ((-9223372036854775808 : Int) ≤ (↑n : Int) - (1 : Int) ∧ (↑n : Int) - (1 : Int) ≤ (9223372036854775807 : Int)) ∧ True ∧ True ∧ True ∧ ((!(Decidable.decide ((0 : Int) ≤ List.getD b (Int.toNat ((0 : Int) + (↑x : Int))) (0 : Int)) && Decidable.decide (List.getD b (Int.toNat ((0 : Int) + (↑x : Int))) (0 : Int) ≤ (↑n : Int) - (1 : Int)))) = Bool.false → True ∧ True ∧ ((0 : Int) ≤ (0 : Int) ∧ (0 : Int) ≤ (↑x : Int) ∧ (↑x : Int) ≤ cap ∧ cap ≤ cap) ∧ True ∧ True ∧ ((0 : Int) ≤ (↑x : Int) ∧ (↑x : Int) < (↑m : Int)) ∧ ((0 : Int) ≤ (0 : Int) + (↑x : Int) ∧ Int.toNat ((0 : Int) + (↑x : Int)) < M) ∧ (((2 : Nat) = (2 : Nat) ∧ (0 : Nat) = (0 : Nat) ∧ (0 : Int) + (0 : Int) = (0 : Int) ∧ (1 : Nat) = (1 : Nat) ∧ [Go.Sx.EK.i64] = [Go.Sx.EK.i64]) ∧ Sl64 ((↑x : Int) - (0 : Int)) M b) ∧ True ∧ (hasB b (Int.toNat ((↑x : Int) - (0 : Int))) (List.getD b (Int.toNat ((0 : Int) + (↑x : Int))) (0 : Int)) = Bool.true → True ∧ ixB n m b = Bool.false) ∧ (hasB b (Int.toNat ((↑x : Int) - (0 : Int))) (List.getD b (Int.toNat ((0 : Int) + (↑x : Int))) (0 : Int)) = Bool.false → True ∧ ((-9223372036854775808 : Int) ≤ (↑x : Int) + (1 : Int) ∧ (↑x : Int) + (1 : Int) ≤ (9223372036854775807 : Int)) ∧ True ∧ ∃ (y : Nat), (y ≤ m ∧ IxP n y b) ∧ m - y < m - x ∧ (Go.Sx.Cel.slc (0 : Nat) (0 : Nat) (0 : Int) (1 : Nat) (↑m : Int) cap = Go.Sx.Cel.slc (0 : Nat) (0 : Nat) (0 : Int) (1 : Nat) (↑m : Int) cap ∧ (Go.IntKind.i64 = Go.IntKind.i64 ∧ (↑n : Int) = (↑n : Int)) ∧ Go.Sx.Cel.val Go.undef = Go.Sx.Cel.val Go.undef ∧ Go.Sx.Cel.val Go.undef = Go.Sx.Cel.val Go.undef ∧ True ∧ (Go.IntKind.i64 = Go.IntKind.i64 ∧ (↑x : Int) + (1 : Int) = (↑y : Int)) ∧ True ∧ True ∧ True ∧ True ∧ True ∧ True ∧ True ∧ True ∧ True ∧ True ∧ True ∧ True ∧ True ∧ True ∧ True ∧ True ∧ True ∧ True ∧ True ∧ True ∧ True ∧ True ∧ True ∧ True ∧ True) ∧ (Bool.false = Bool.false ∧ (2 : Nat) = (2 : Nat) ∧ ([Go.Sx.EK.i64] = [Go.Sx.EK.i64] ∧ M = M ∧ b = b) ∧ True) ∧ True)) ∧ ((!(Decidable.decide ((0 : Int) ≤ List.getD b (Int.toNat ((0 : Int) + (↑x : Int))) (0 : Int)) && Decidable.decide (List.getD b (Int.toNat ((0 : Int) + (↑x : Int))) (0 : Int) ≤ (↑n : Int) - (1 : Int)))) = !Bool.false → True ∧ True ∧ ixB n m b = Bool.false)) ∧ (Decidable.decide ((↑x : Int) < (↑m : Int)) = Bool.false → True ∧ ixB n m b = Bool.true)) (by kernel_rfl) ?_
  simp only [true_and, and_true, and_self, decide_eq_true_eq, decide_eq_false_iff_not, Bool.not_eq_true', Bool.not_eq_false', Bool.not_true, Bool.not_false, beq_iff_eq, beq_eq_false_iff_ne, bne_iff_ne, bne_eq_false_iff_eq, ne_eq, not_true_eq_false, not_false_eq_true, false_implies, true_implies, implies_true, forall_const, exists_const, ↓reduceIte, Int.reduceEq, Int.toNat_natCast, Bool.false_eq_true, Bool.true_eq_false, reduceCtorEq, Int.zero_add, Nat.add_zero, Int.ofNat_eq_natCast, Int.toNat_natCast, Nat.mul_one, Int.sub_zero, Bool.and_eq_true, Bool.and_eq_false_iff]
  refine ⟨⟨0, ⟨by omega, ⟨fun i hi => by omega⟩⟩, rfl⟩, ?_⟩
  rintro k ⟨hk, hp⟩
  refine ⟨fun hlt => ?_, fun hge => ixB_t.2 ⟨fun i hi => hp.ok i (by omega)⟩⟩
  have bad : ¬ ((0 ≤ b.getD k 0 ∧ b.getD k 0 < n) ∧ ∀ j, j < k → b.getD j 0 ≠ b.getD k 0) → ixB n m b = false := ix_bad (by omega)
  have bad2 : hasB b k (b.getD k 0) = true → ixB n m b = false := fun h => bad fun q => by obtain ⟨j, h1, h2⟩ := hasB_t.1 h; exact q.2 j h1 h2
  have stp : (0 ≤ b.getD k 0 ∧ b.getD k 0 < n) → hasB b k (b.getD k 0) = false → ∃ y : Nat, (y ≤ m ∧ IxP n y b) ∧ m - y < m - k ∧ (k : Int) + 1 = (y : Int) := fun h1 h2 => ⟨k + 1, ⟨by omega, ix_step hp h1 h2⟩, by omega, by omega⟩
  repeat' (first | omega | exact bad2 | exact ⟨by omega, by omega, by omega, g3⟩ | exact stp (by omega) (by assumption) | exact bad (fun q => by have := q.1; omega) | apply And.intro | intro _)

noncomputable def gIx : Entry := fun args H => match args with
  | [.a (.c (.slc id b z s len cap)), .a (.c (.int .i64 n))] => match getB H id with
    | .cells _ t [.run ks M l] => some ((t = 2 ∧ b = 0 ∧ z = 0 ∧ s = 1 ∧ ks = [.i64]) ∧ Sl64 len M l ∧ len ≤ cap ∧ 0 ≤ n ∧ n ≤ 1048576, .a (.c (.bool (ixB n.toNat len.toNat l))))
    | _ => none
  | _ => none
theorem gIx_inv {args : List LV} {H : List Blk} {p : Prop} {r : LV} (he : gIx args H = some (p, r)) (hp : p) : ∃ (id M m n : Nat) (o : Bool) (l : List Int) (cap : Int),
    args = [.a (.c (.slc id 0 0 1 m cap)), .a (.c (.int .i64 n))] ∧ getB H id = .cells o 2 [.run [.i64] M l] ∧ r = .a (.c (.bool (ixB n m l))) ∧ m ≤ 1048576 ∧ m ≤ M ∧ l.length = M ∧ (m : Int) ≤ cap ∧ n ≤ 1048576 := by
  unfold gIx at he
  split at he
  · split at he
    · rename_i id b z s len cap n _ o t ks M l hg
      simp only [Option.some.injEq, Prod.mk.injEq] at he
      obtain ⟨rfl, rfl⟩ := he
      obtain ⟨⟨rfl, rfl, rfl, rfl, rfl⟩, ⟨h1, h2, h3, h4⟩, h5, h6, h7⟩ := hp
      obtain ⟨m, rfl⟩ := Int.eq_ofNat_of_zero_le h1
      obtain ⟨n, rfl⟩ := Int.eq_ofNat_of_zero_le h6
      exact ⟨id, M, m, n, o, l, cap, rfl, hg, rfl, by omega, by simpa using h3, h4, h5, by omega⟩
    · simp at he
  · simp at he
theorem e_l04Indexed : EntryOk Try.prog TT 162 gIx := by
  refine ⟨fnOk Try.func162 (by kernel_rfl) rfl, ?_⟩
  intro args H p r he hp n0 w0 β w vals hG hH hA
  obtain ⟨id, M, m, n, o, l, cap, rfl, hg, rfl, h1, h2, h3, h4, h5⟩ := gIx_inv he hp
  exact entry_view tt_ok (inlN_ok tt_ok Cb0_ok mixed (ILn_ok).ok 4) Cb0_ok mixed Try.func162 [id] (x_l04Indexed M m l n cap h1 h2 h3 h4 h5) rfl rfl ⟨.inr (by rw [hg]; rfl), trivial⟩ hG hH hA

noncomputable def Eb1 : List (FuncId × Entry) := (162, gIx) :: Eb0
theorem Eb1_ok : EntriesOk Try.prog TT Eb1 := ⟨e_l04Indexed, Eb0_ok⟩
noncomputable abbrev Cb1 : Ctr := ctrOf Eb1
theorem Cb1_ok : CtrOk Try.prog TT Cb1 := ctrOf_ok Eb1_ok

/-- Which indices there have been. -/
def fndF (b : List Int) (k j : Nat) : Int := if hasB b k (j : Int) then 1 else 0
def lmFo (m : Nat) (b : List Int) (n : Nat) : LAnn := { ι := Nat, inv := fun _ k => k ≤ m ∧ IxP n k b, slots := fun _ k => [(10, .a (.c (.int .i64 k)))], blks := fun _ k => [(5, [.run [.bool] 14 (mkN 14 (fndF b k))])], μ := fun _ k => m - k }
def lmUsI (saw : Int) (p : List Int) (m : Nat) (b : List Int) : LAnn := { ι := Nat, inv := fun _ k => k ≤ m, slots := fun _ k => [(5, .a (.c (.int .i64 (((m : Int) - 1) * saw + smP p b k)))), (19, .a (.c (.int .i64 k)))], blks := fun _ _ => [], μ := fun _ k => m - k }

end Go.Proofs.Ytkajcofpdlicaaa
