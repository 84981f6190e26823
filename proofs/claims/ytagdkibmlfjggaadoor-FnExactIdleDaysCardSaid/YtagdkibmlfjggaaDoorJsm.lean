/- The sum of the days of a set of jobs. No conditions beyond the ranges of the kinds. -/
import Derived.Test.YtagdkibmlfjggaaDoorJmx
set_option linter.unusedSimpArgs false
set_option linter.unusedVariables false
namespace Go.Proofs.YtagdkibmlfjggaaDoor
open Go.Sx Go.RowKit

/-! ### Sums of days -/
def smS (l : List Int) (s : Nat) : Nat → Int
  | 0 => 0
  | c + 1 => if s.testBit c = true then smS l s c + dy l c else smS l s c
theorem smS_b {n : Nat} {l : List Int} (v : VJ n l) {s : Nat} (hs : ∀ c, s.testBit c = true → c < n) : ∀ c, 0 ≤ smS l s c ∧ smS l s c ≤ 30 * c
  | 0 => by simp [smS]
  | c + 1 => by
    have ih := smS_b v hs c
    unfold smS
    split
    · rename_i h; have := v.dy c (hs c h); omega
    · omega
theorem smS_all {l : List Int} {n : Nat} : ∀ d, smS l (2 ^ n - 1) (n + d) = smS l (2 ^ n - 1) n
  | 0 => rfl
  | d + 1 => by
    show smS l (2 ^ n - 1) (n + d + 1) = _
    rw [smS, if_neg (by rw [Nat.testBit_two_pow_sub_one]; simp)]
    exact smS_all d
theorem Sm.sm {n : Nat} {l l' : List Int} (h : Sm n l l') {s : Nat} (hs : ∀ c, s.testBit c = true → c < n) : ∀ c, smS l s c = smS l' s c
  | 0 => rfl
  | c + 1 => by
    rw [smS, smS, Sm.sm h hs c]
    by_cases hb : s.testBit c = true
    · rw [if_pos hb, if_pos hb, h.dy (hs c hb)]
    · rw [if_neg hb, if_neg hb]
def lmSm (l : List Int) (s : Nat) : LAnn := { ι := Nat, inv := fun _ k => k ≤ 12, slots := fun _ k => [(4, .a (.c (.int .i64 k)))], blks := fun _ k => [(2, [.int .i64 (smS l s k)])], μ := fun _ k => 12 - k }
noncomputable def ILsm (l : List Int) (s : Nat) : List (FuncId × Func × (Nat → LM)) := [
  (57, Tryd.f57, U0),
  (90, Tryd.f90, fun _ => .inv (lmSm l s))]
theorem ILsm_ok {l : List Int} {s : Nat} : InlsOk Tryd.prog (ILsm l s) := ⟨⟨Tryd.func57, by kernel_rfl⟩, ⟨Tryd.func90, by kernel_rfl⟩, trivial⟩
theorem x_sum (m n : Nat) (l : List Int) (cap : Int) (s : Nat) (q : Jl n m l) (v : VJ n l) (hs : ∀ c, s.testBit c = true → c < n) : Fex true TT (inlN true TT Cjm (lookI (ILsm l s)) 6) Cjm U0 Tryd.f83 [.a (.c (.slc 0 0 0 2 n cap)), .a (.c (.int .u16 s))] [.cells false 80 [.run [.i64, .u16] m l]] (fun lv _ => leL lv (.a (.c (.int .i64 (smS l s 12))))) := by
  refine Go.Sx.by_eq (q := True ∧ True ∧ True ∧ True ∧ True ∧ True ∧ True ∧ True ∧ True ∧ True ∧ (∃ (x : Nat), x ≤ (12 : Nat) ∧ (Go.Sx.Cel.yld (4 : Nat) = Go.Sx.Cel.yld (4 : Nat) ∧ Go.Sx.Cel.ptr (3 : Nat) (0 : Nat) = Go.Sx.Cel.ptr (3 : Nat) (0 : Nat) ∧ Go.Sx.Cel.val Go.undef = Go.Sx.Cel.val Go.undef ∧ True ∧ (Go.IntKind.i64 = Go.IntKind.i64 ∧ (0 : Int) = (↑x : Int)) ∧ True ∧ True ∧ True ∧ True ∧ True ∧ True ∧ True ∧ True ∧ True ∧ True ∧ True ∧ True ∧ True) ∧ (Bool.false = Bool.false ∧ (80 : Nat) = (80 : Nat) ∧ ([Go.Sx.EK.i64, Go.Sx.EK.u16] = [Go.Sx.EK.i64, Go.Sx.EK.u16] ∧ m = m ∧ l = l) ∧ True) ∧ (Bool.true = Bool.true ∧ (68 : Nat) = (68 : Nat) ∧ Go.Sx.Cel.slc (0 : Nat) (0 : Nat) (0 : Int) (2 : Nat) (↑n : Int) cap = Go.Sx.Cel.slc (0 : Nat) (0 : Nat) (0 : Int) (2 : Nat) (↑n : Int) cap ∧ True) ∧ (Bool.true = Bool.true ∧ (2 : Nat) = (2 : Nat) ∧ (Go.IntKind.i64 = Go.IntKind.i64 ∧ (0 : Int) = smS l s x) ∧ True) ∧ (Bool.true = Bool.true ∧ (78 : Nat) = (78 : Nat) ∧ (Go.IntKind.u16 = Go.IntKind.u16 ∧ (↑s : Int) = (↑s : Int)) ∧ True) ∧ (Go.LoopState.ready = Go.LoopState.ready ∧ (Option.none : Option Go.Code) = Option.none) ∧ True) ∧ ∀ (x : Nat), x ≤ (12 : Nat) → True ∧ (Decidable.decide ((↑x : Int) < (12 : Int)) = Bool.true → True ∧ True ∧ True ∧ True ∧ (((0 : Int) ≤ (↑s : Int) ∧ (↑s : Int) ≤ (65535 : Int)) ∧ (0 : Int) ≤ (↑x : Int) ∧ (↑x : Int) < (16 : Int)) ∧ True ∧ (Nat.testBit (Int.toNat (↑s : Int)) (Int.toNat (↑x : Int)) = Bool.true → True ∧ True ∧ True ∧ True ∧ True ∧ ((0 : Int) ≤ (↑x : Int) ∧ (↑x : Int) < (↑n : Int)) ∧ True ∧ ((0 : Int) ≤ (0 : Int) + (↑x : Int) ∧ Int.toNat ((0 : Int) + (↑x : Int)) * (2 : Nat) + (0 : Nat) < m) ∧ True ∧ ((-9223372036854775808 : Int) ≤ smS l s x + List.getD l (Int.toNat ((0 : Int) + (↑x : Int)) * (2 : Nat) + (0 : Nat)) (0 : Int) ∧ smS l s x + List.getD l (Int.toNat ((0 : Int) + (↑x : Int)) * (2 : Nat) + (0 : Nat)) (0 : Int) ≤ (9223372036854775807 : Int)) ∧ True ∧ True ∧ True ∧ ((-9223372036854775808 : Int) ≤ (↑x : Int) + (1 : Int) ∧ (↑x : Int) + (1 : Int) ≤ (9223372036854775807 : Int)) ∧ True ∧ ∃ (y : Nat), y ≤ (12 : Nat) ∧ (12 : Nat) - y < (12 : Nat) - x ∧ (Go.Sx.Cel.yld (4 : Nat) = Go.Sx.Cel.yld (4 : Nat) ∧ Go.Sx.Cel.ptr (3 : Nat) (0 : Nat) = Go.Sx.Cel.ptr (3 : Nat) (0 : Nat) ∧ Go.Sx.Cel.val Go.undef = Go.Sx.Cel.val Go.undef ∧ True ∧ (Go.IntKind.i64 = Go.IntKind.i64 ∧ (↑x : Int) + (1 : Int) = (↑y : Int)) ∧ True ∧ True ∧ True ∧ True ∧ True ∧ True ∧ True ∧ True ∧ True ∧ True ∧ True ∧ True ∧ True) ∧ (Bool.false = Bool.false ∧ (80 : Nat) = (80 : Nat) ∧ ([Go.Sx.EK.i64, Go.Sx.EK.u16] = [Go.Sx.EK.i64, Go.Sx.EK.u16] ∧ m = m ∧ l = l) ∧ True) ∧ (Bool.true = Bool.true ∧ (68 : Nat) = (68 : Nat) ∧ Go.Sx.Cel.slc (0 : Nat) (0 : Nat) (0 : Int) (2 : Nat) (↑n : Int) cap = Go.Sx.Cel.slc (0 : Nat) (0 : Nat) (0 : Int) (2 : Nat) (↑n : Int) cap ∧ True) ∧ (Bool.true = Bool.true ∧ (2 : Nat) = (2 : Nat) ∧ (Go.IntKind.i64 = Go.IntKind.i64 ∧ smS l s x + List.getD l (Int.toNat ((0 : Int) + (↑x : Int)) * (2 : Nat) + (0 : Nat)) (0 : Int) = smS l s y) ∧ True) ∧ (Bool.true = Bool.true ∧ (78 : Nat) = (78 : Nat) ∧ (Go.IntKind.u16 = Go.IntKind.u16 ∧ (↑s : Int) = (↑s : Int)) ∧ True) ∧ (Go.LoopState.ready = Go.LoopState.ready ∧ (Option.none : Option Go.Code) = Option.none) ∧ True) ∧ (Nat.testBit (Int.toNat (↑s : Int)) (Int.toNat (↑x : Int)) = !Bool.true → True ∧ ((-9223372036854775808 : Int) ≤ (↑x : Int) + (1 : Int) ∧ (↑x : Int) + (1 : Int) ≤ (9223372036854775807 : Int)) ∧ True ∧ ∃ (y : Nat), y ≤ (12 : Nat) ∧ (12 : Nat) - y < (12 : Nat) - x ∧ (Go.Sx.Cel.yld (4 : Nat) = Go.Sx.Cel.yld (4 : Nat) ∧ Go.Sx.Cel.ptr (3 : Nat) (0 : Nat) = Go.Sx.Cel.ptr (3 : Nat) (0 : Nat) ∧ Go.Sx.Cel.val Go.undef = Go.Sx.Cel.val Go.undef ∧ True ∧ (Go.IntKind.i64 = Go.IntKind.i64 ∧ (↑x : Int) + (1 : Int) = (↑y : Int)) ∧ True ∧ True ∧ True ∧ True ∧ True ∧ True ∧ True ∧ True ∧ True ∧ True ∧ True ∧ True ∧ True) ∧ (Bool.false = Bool.false ∧ (80 : Nat) = (80 : Nat) ∧ ([Go.Sx.EK.i64, Go.Sx.EK.u16] = [Go.Sx.EK.i64, Go.Sx.EK.u16] ∧ m = m ∧ l = l) ∧ True) ∧ (Bool.true = Bool.true ∧ (68 : Nat) = (68 : Nat) ∧ Go.Sx.Cel.slc (0 : Nat) (0 : Nat) (0 : Int) (2 : Nat) (↑n : Int) cap = Go.Sx.Cel.slc (0 : Nat) (0 : Nat) (0 : Int) (2 : Nat) (↑n : Int) cap ∧ True) ∧ (Bool.true = Bool.true ∧ (2 : Nat) = (2 : Nat) ∧ (Go.IntKind.i64 = Go.IntKind.i64 ∧ smS l s x = smS l s y) ∧ True) ∧ (Bool.true = Bool.true ∧ (78 : Nat) = (78 : Nat) ∧ (Go.IntKind.u16 = Go.IntKind.u16 ∧ (↑s : Int) = (↑s : Int)) ∧ True) ∧ (Go.LoopState.ready = Go.LoopState.ready ∧ (Option.none : Option Go.Code) = Option.none) ∧ True)) ∧ (Decidable.decide ((↑x : Int) < (12 : Int)) = Bool.false → True ∧ True ∧ Go.IntKind.i64 = Go.IntKind.i64 ∧ smS l s x = smS l s (12 : Nat))) (by kernel_rfl) ?_
  simp only [true_and, and_true, and_self, decide_eq_true_eq, decide_eq_false_iff_not, Bool.not_eq_true', Bool.not_eq_false', Bool.not_true, Bool.not_false, beq_iff_eq, beq_eq_false_iff_ne, bne_iff_ne, bne_eq_false_iff_eq, ne_eq, not_true_eq_false, not_false_eq_true, false_implies, true_implies, implies_true, forall_const, exists_const, ↓reduceIte, Int.reduceEq, Int.toNat_natCast, Bool.false_eq_true, Bool.true_eq_false, reduceCtorEq, Int.zero_add, Nat.add_zero, Int.ofNat_eq_natCast, Int.toNat_natCast, Nat.mul_one]
  have hn12 := v.hi
  obtain ⟨_, q1, q2, q3, jw⟩ := id q
  rw [Int.toNat_natCast] at q2 jw
  have hlt2 : s < 2 ^ n := by
    apply Nat.lt_pow_two_of_testBit
    intro i hi
    rw [Bool.eq_false_iff]
    intro h
    have := hs i h
    omega
  have hw := pow_lt16 (k := n) (by omega)
  refine ⟨⟨0, by omega, rfl, rfl⟩, ?_⟩
  intro k hk
  have hb := smS_b v hs k
  refine ⟨fun hlt => ⟨by omega, fun hbit => ?_, fun hbit => ⟨by omega, k + 1, by omega, by omega, by omega, by rw [smS, if_neg (by rw [hbit]; simp)]⟩⟩, fun hge => ?_⟩
  · have hkn := hs k hbit
    have hd := v.dy k hkn
    have hdj : dy l k = l.getD (k * 2) 0 := rfl
    rw [hdj] at hd
    exact ⟨by omega, by omega, by omega, by omega, k + 1, by omega, by omega, by omega, by rw [smS, if_pos hbit, hdj]⟩
  · obtain rfl : k = 12 := by omega
    rfl
noncomputable def gSm : Entry := fun args H => match args with
  | [.a (.c (.slc id b z st len _)), .a (.c (.int .u16 s))] => match getB H id with
    | .cells _ t [.run ks m l] => some ((t = 80 ∧ b = 0 ∧ z = 0 ∧ st = 2 ∧ ks = [.i64, .u16]) ∧ Jl len m l ∧ VJ len.toNat l ∧ 0 ≤ s ∧ ∀ c, s.toNat.testBit c = true → c < len.toNat, .a (.c (.int .i64 (smS l s.toNat 12))))
    | _ => none
  | _ => none
theorem gSm_inv {args : List LV} {H : List Blk} {p : Prop} {r : LV} (he : gSm args H = some (p, r)) (hp : p) : ∃ (id m n : Nat) (o : Bool) (l : List Int) (cap : Int) (s : Nat),
    args = [.a (.c (.slc id 0 0 2 n cap)), .a (.c (.int .u16 s))] ∧ getB H id = .cells o 80 [.run [.i64, .u16] m l] ∧ r = .a (.c (.int .i64 (smS l s 12))) ∧ Jl n m l ∧ VJ n l ∧ ∀ c, s.testBit c = true → c < n := by
  unfold gSm at he
  split at he
  · split at he
    · rename_i id b z st len cap s _ o t ks m l hg
      simp only [Option.some.injEq, Prod.mk.injEq] at he
      obtain ⟨rfl, rfl⟩ := he
      obtain ⟨⟨rfl, rfl, rfl, rfl, rfl⟩, h1, h2, h3, h4⟩ := hp
      obtain ⟨n, rfl⟩ := Int.eq_ofNat_of_zero_le h1.lo
      obtain ⟨s, rfl⟩ := Int.eq_ofNat_of_zero_le h3
      exact ⟨id, m, n, o, l, cap, s, rfl, hg, rfl, h1, h2, h4⟩
    · simp at he
  · simp at he
theorem e_sum : EntryOk Tryd.prog TT 83 gSm := by
  refine ⟨fnOk Tryd.func83 (by kernel_rfl) rfl, ?_⟩
  intro args H p r he hp n0 w0 β w vals hG hH hA
  obtain ⟨id, m, n, o, l, cap, s, rfl, hg, rfl, q, v, hs⟩ := gSm_inv he hp
  exact entry_view tt_ok (inlN_ok tt_ok Cjm_ok mixed ((ILsm_ok (l := l) (s := s))).ok 6) Cjm_ok mixed Tryd.func83 [id] (x_sum m n l cap s q v hs) rfl rfl ⟨.inr (by rw [hg]; rfl), trivial⟩ hG hH hA


end Go.Proofs.YtagdkibmlfjggaaDoor
