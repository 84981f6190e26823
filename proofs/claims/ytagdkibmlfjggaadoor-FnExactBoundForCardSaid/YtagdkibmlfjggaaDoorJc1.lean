/- Crews, sums and bounds: both sides. No conditions beyond the ranges of the kinds. -/
import Derived.Test.YtagdkibmlfjggaaDoorJb9
set_option linter.unusedSimpArgs false
set_option linter.unusedVariables false
namespace Go.Proofs.YtagdkibmlfjggaaDoor
open Go.Sx Go.RowKit

/-! ### What is asked for -/
noncomputable def akE (n : Nat) (l : List Int) (h : Int) : Int := if vjB n l = true then (if 1 ≤ h ∧ h ≤ 4 then 0 else 2) else 1
noncomputable def ILah  : List (FuncId × Func × (Nat → LM)) := [
  (98, Tryd.f98, U0)]
theorem ILah_ok  : InlsOk Tryd.prog ILah := ⟨⟨Tryd.func98, by kernel_rfl⟩, trivial⟩
theorem x_l07Asked (m n : Nat) (l : List Int) (cap h : Int) (q : Jx n m l) : Fex true TT (inlN true TT Cj9 (lookI ILah) 6) Cj9 U0 Tryd.f66 [.a (.c (.slc 0 0 0 2 n cap)), .a (.c (.int .i64 h))] [.cells false 64 [.run [.i8, .u16] m l]] (fun lv _ => leL lv (.a (.c (.int .i64 (akE n l h))))) := by
  refine Go.Sx.by_eq (q := True ∧ True ∧ (((64 : Nat) = (64 : Nat) ∧ (0 : Nat) = (0 : Nat) ∧ (0 : Int) = (0 : Int) ∧ (2 : Nat) = (2 : Nat) ∧ [Go.Sx.EK.i8, Go.Sx.EK.u16] = [Go.Sx.EK.i8, Go.Sx.EK.u16]) ∧ (0 : Int) ≤ (↑n : Int) ∧ Jx (Int.toNat (↑n : Int)) m l) ∧ True ∧ ((!vjB (Int.toNat (↑n : Int)) l) = Bool.true → True ∧ Go.IntKind.i64 = Go.IntKind.i64 ∧ (1 : Int) = akE n l h) ∧ ((!vjB (Int.toNat (↑n : Int)) l) = Bool.false → True ∧ True ∧ True ∧ True ∧ True ∧ True ∧ ((!(Decidable.decide ((1 : Int) ≤ h) && Decidable.decide (h ≤ (4 : Int)))) = Bool.true → True ∧ Go.IntKind.i64 = Go.IntKind.i64 ∧ (2 : Int) = akE n l h) ∧ ((!(Decidable.decide ((1 : Int) ≤ h) && Decidable.decide (h ≤ (4 : Int)))) = Bool.false → True ∧ Go.IntKind.i64 = Go.IntKind.i64 ∧ (0 : Int) = akE n l h))) (by kernel_rfl) ?_
  simp only [true_and, and_true, and_self, decide_eq_true_eq, decide_eq_false_iff_not, Bool.not_eq_true', Bool.not_eq_false', Bool.not_true, Bool.not_false, beq_iff_eq, beq_eq_false_iff_ne, bne_iff_ne, bne_eq_false_iff_eq, ne_eq, not_true_eq_false, not_false_eq_true, false_implies, true_implies, implies_true, forall_const, exists_const, ↓reduceIte, Int.reduceEq, Int.toNat_natCast, Bool.false_eq_true, Bool.true_eq_false, reduceCtorEq, Int.zero_add, Nat.add_zero, Int.ofNat_eq_natCast, Int.toNat_natCast, Nat.mul_one, Bool.and_eq_true, Bool.and_eq_false_iff]
  refine ⟨⟨by omega, q⟩, fun hv => ?_, fun hv => ⟨fun hh => ?_, fun hh => ?_⟩⟩
  · rw [akE, hv]; rfl
  · rw [akE, if_pos hv, if_neg (by omega)]
  · rw [akE, if_pos hv, if_pos (by omega)]
noncomputable def gAk : Entry := fun args H => match args with
  | [.a (.c (.slc id b z s len _)), .a (.c (.int .i64 h))] => match getB H id with
    | .cells _ t [.run ks m l] => some ((t = 64 ∧ b = 0 ∧ z = 0 ∧ s = 2 ∧ ks = [.i8, .u16]) ∧ 0 ≤ len ∧ Jx len.toNat m l, .a (.c (.int .i64 (akE len.toNat l h))))
    | _ => none
  | _ => none
theorem gAk_inv {args : List LV} {H : List Blk} {p : Prop} {r : LV} (he : gAk args H = some (p, r)) (hp : p) : ∃ (id m n : Nat) (o : Bool) (l : List Int) (cap h : Int),
    args = [.a (.c (.slc id 0 0 2 n cap)), .a (.c (.int .i64 h))] ∧ getB H id = .cells o 64 [.run [.i8, .u16] m l] ∧ r = .a (.c (.int .i64 (akE n l h))) ∧ Jx n m l := by
  unfold gAk at he
  split at he
  · split at he
    · rename_i id b z s len cap h _ o t ks m l hg
      simp only [Option.some.injEq, Prod.mk.injEq] at he
      obtain ⟨rfl, rfl⟩ := he
      obtain ⟨⟨rfl, rfl, rfl, rfl, rfl⟩, h1, h2⟩ := hp
      obtain ⟨n, rfl⟩ := Int.eq_ofNat_of_zero_le h1
      exact ⟨id, m, n, o, l, cap, h, rfl, hg, rfl, h2⟩
    · simp at he
  · simp at he
theorem e_l07Asked : EntryOk Tryd.prog TT 66 gAk := by
  refine ⟨fnOk Tryd.func66 (by kernel_rfl) rfl, ?_⟩
  intro args H p r he hp n0 w0 β w vals hG hH hA
  obtain ⟨id, m, n, o, l, cap, h, rfl, hg, rfl, q⟩ := gAk_inv he hp
  exact entry_view tt_ok (inlN_ok tt_ok Cj9_ok mixed (ILah_ok).ok 6) Cj9_ok mixed Tryd.func66 [id] (x_l07Asked m n l cap h q) rfl rfl ⟨.inr (by rw [hg]; rfl), trivial⟩ hG hH hA


/-! ### Sums of days -/
def smS (l : List Int) (s : Nat) : Nat → Int
  | 0 => 0
  | c + 1 => if s.testBit c = true then smS l s c + dy l c else smS l s c
theorem smS_b {n : Nat} {l : List Int} (v : VJ n l) {s : Nat} (hs : ∀ c, s.testBit c = true → c < n) : ∀ c, 0 ≤ smS l s c ∧ smS l s c ≤ 30 * c
  | 0 => by simp [smS]
  | c + 1 => by
    have ih := smS_b v hs c
    unfold smS
    split
    · rename_i h; have := v.dy c (hs c h); omega
    · omega
theorem smS_all {l : List Int} {n : Nat} : ∀ d, smS l (2 ^ n - 1) (n + d) = smS l (2 ^ n - 1) n
  | 0 => rfl
  | d + 1 => by
    show smS l (2 ^ n - 1) (n + d + 1) = _
    rw [smS, if_neg (by rw [Nat.testBit_two_pow_sub_one]; simp)]
    exact smS_all d
theorem Sm.sm {n : Nat} {l l' : List Int} (h : Sm n l l') {s : Nat} (hs : ∀ c, s.testBit c = true → c < n) : ∀ c, smS l s c = smS l' s c
  | 0 => rfl
  | c + 1 => by
    rw [smS, smS, Sm.sm h hs c]
    by_cases hb : s.testBit c = true
    · rw [if_pos hb, if_pos hb, h.dy (hs c hb)]
    · rw [if_neg hb, if_neg hb]
def lmSm (l : List Int) (s : Nat) : LAnn := { ι := Nat, inv := fun _ k => k ≤ 12, slots := fun _ k => [(4, .a (.c (.int .i64 k)))], blks := fun _ k => [(2, [.int .i64 (smS l s k)])], μ := fun _ k => 12 - k }
noncomputable def ILsm (l : List Int) (s : Nat) : List (FuncId × Func × (Nat → LM)) := [
  (57, Tryd.f57, U0),
  (90, Tryd.f90, fun _ => .inv (lmSm l s))]
theorem ILsm_ok {l : List Int} {s : Nat} : InlsOk Tryd.prog (ILsm l s) := ⟨⟨Tryd.func57, by kernel_rfl⟩, ⟨Tryd.func90, by kernel_rfl⟩, trivial⟩
theorem x_sum (m n : Nat) (l : List Int) (cap : Int) (s : Nat) (q : Jl n m l) (v : VJ n l) (hs : ∀ c, s.testBit c = true → c < n) : Fex true TT (inlN true TT Cj9 (lookI (ILsm l s)) 6) Cj9 U0 Tryd.f83 [.a (.c (.slc 0 0 0 2 n cap)), .a (.c (.int .u16 s))] [.cells false 80 [.run [.i64, .u16] m l]] (fun lv _ => leL lv (.a (.c (.int .i64 (smS l s 12))))) := by
  refine Go.Sx.by_eq (q := True ∧ True ∧ True ∧ True ∧ True ∧ True ∧ True ∧ True ∧ True ∧ True ∧ (∃ (x : Nat), x ≤ (12 : Nat) ∧ (Go.Sx.Cel.yld (4 : Nat) = Go.Sx.Cel.yld (4 : Nat) ∧ Go.Sx.Cel.ptr (3 : Nat) (0 : Nat) = Go.Sx.Cel.ptr (3 : Nat) (0 : Nat) ∧ Go.Sx.Cel.val Go.undef = Go.Sx.Cel.val Go.undef ∧ True ∧ (Go.IntKind.i64 = Go.IntKind.i64 ∧ (0 : Int) = (↑x : Int)) ∧ True ∧ True ∧ True ∧ True ∧ True ∧ True ∧ True ∧ True ∧ True ∧ True ∧ True ∧ True ∧ True) ∧ (Bool.false = Bool.false ∧ (80 : Nat) = (80 : Nat) ∧ ([Go.Sx.EK.i64, Go.Sx.EK.u16] = [Go.Sx.EK.i64, Go.Sx.EK.u16] ∧ m = m ∧ l = l) ∧ True) ∧ (Bool.true = Bool.true ∧ (68 : Nat) = (68 : Nat) ∧ Go.Sx.Cel.slc (0 : Nat) (0 : Nat) (0 : Int) (2 : Nat) (↑n : Int) cap = Go.Sx.Cel.slc (0 : Nat) (0 : Nat) (0 : Int) (2 : Nat) (↑n : Int) cap ∧ True) ∧ (Bool.true = Bool.true ∧ (2 : Nat) = (2 : Nat) ∧ (Go.IntKind.i64 = Go.IntKind.i64 ∧ (0 : Int) = smS l s x) ∧ True) ∧ (Bool.true = Bool.true ∧ (78 : Nat) = (78 : Nat) ∧ (Go.IntKind.u16 = Go.IntKind.u16 ∧ (↑s : Int) = (↑s : Int)) ∧ True) ∧ (Go.LoopState.ready = Go.LoopState.ready ∧ (Option.none : Option Go.Code) = Option.none) ∧ True) ∧ ∀ (x : Nat), x ≤ (12 : Nat) → True ∧ (Decidable.decide ((↑x : Int) < (12 : Int)) = Bool.true → True ∧ True ∧ True ∧ True ∧ (((0 : Int) ≤ (↑s : Int) ∧ (↑s : Int) ≤ (65535 : Int)) ∧ (0 : Int) ≤ (↑x : Int) ∧ (↑x : Int) < (16 : Int)) ∧ True ∧ (Nat.testBit (Int.toNat (↑s : Int)) (Int.toNat (↑x : Int)) = Bool.true → True ∧ True ∧ True ∧ True ∧ True ∧ ((0 : Int) ≤ (↑x : Int) ∧ (↑x : Int) < (↑n : Int)) ∧ True ∧ ((0 : Int) ≤ (0 : Int) + (↑x : Int) ∧ Int.toNat ((0 : Int) + (↑x : Int)) * (2 : Nat) + (0 : Nat) < m) ∧ True ∧ ((-9223372036854775808 : Int) ≤ smS l s x + List.getD l (Int.toNat ((0 : Int) + (↑x : Int)) * (2 : Nat) + (0 : Nat)) (0 : Int) ∧ smS l s x + List.getD l (Int.toNat ((0 : Int) + (↑x : Int)) * (2 : Nat) + (0 : Nat)) (0 : Int) ≤ (9223372036854775807 : Int)) ∧ True ∧ True ∧ True ∧ ((-9223372036854775808 : Int) ≤ (↑x : Int) + (1 : Int) ∧ (↑x : Int) + (1 : Int) ≤ (9223372036854775807 : Int)) ∧ True ∧ ∃ (y : Nat), y ≤ (12 : Nat) ∧ (12 : Nat) - y < (12 : Nat) - x ∧ (Go.Sx.Cel.yld (4 : Nat) = Go.Sx.Cel.yld (4 : Nat) ∧ Go.Sx.Cel.ptr (3 : Nat) (0 : Nat) = Go.Sx.Cel.ptr (3 : Nat) (0 : Nat) ∧ Go.Sx.Cel.val Go.undef = Go.Sx.Cel.val Go.undef ∧ True ∧ (Go.IntKind.i64 = Go.IntKind.i64 ∧ (↑x : Int) + (1 : Int) = (↑y : Int)) ∧ True ∧ True ∧ True ∧ True ∧ True ∧ True ∧ True ∧ True ∧ True ∧ True ∧ True ∧ True ∧ True) ∧ (Bool.false = Bool.false ∧ (80 : Nat) = (80 : Nat) ∧ ([Go.Sx.EK.i64, Go.Sx.EK.u16] = [Go.Sx.EK.i64, Go.Sx.EK.u16] ∧ m = m ∧ l = l) ∧ True) ∧ (Bool.true = Bool.true ∧ (68 : Nat) = (68 : Nat) ∧ Go.Sx.Cel.slc (0 : Nat) (0 : Nat) (0 : Int) (2 : Nat) (↑n : Int) cap = Go.Sx.Cel.slc (0 : Nat) (0 : Nat) (0 : Int) (2 : Nat) (↑n : Int) cap ∧ True) ∧ (Bool.true = Bool.true ∧ (2 : Nat) = (2 : Nat) ∧ (Go.IntKind.i64 = Go.IntKind.i64 ∧ smS l s x + List.getD l (Int.toNat ((0 : Int) + (↑x : Int)) * (2 : Nat) + (0 : Nat)) (0 : Int) = smS l s y) ∧ True) ∧ (Bool.true = Bool.true ∧ (78 : Nat) = (78 : Nat) ∧ (Go.IntKind.u16 = Go.IntKind.u16 ∧ (↑s : Int) = (↑s : Int)) ∧ True) ∧ (Go.LoopState.ready = Go.LoopState.ready ∧ (Option.none : Option Go.Code) = Option.none) ∧ True) ∧ (Nat.testBit (Int.toNat (↑s : Int)) (Int.toNat (↑x : Int)) = !Bool.true → True ∧ ((-9223372036854775808 : Int) ≤ (↑x : Int) + (1 : Int) ∧ (↑x : Int) + (1 : Int) ≤ (9223372036854775807 : Int)) ∧ True ∧ ∃ (y : Nat), y ≤ (12 : Nat) ∧ (12 : Nat) - y < (12 : Nat) - x ∧ (Go.Sx.Cel.yld (4 : Nat) = Go.Sx.Cel.yld (4 : Nat) ∧ Go.Sx.Cel.ptr (3 : Nat) (0 : Nat) = Go.Sx.Cel.ptr (3 : Nat) (0 : Nat) ∧ Go.Sx.Cel.val Go.undef = Go.Sx.Cel.val Go.undef ∧ True ∧ (Go.IntKind.i64 = Go.IntKind.i64 ∧ (↑x : Int) + (1 : Int) = (↑y : Int)) ∧ True ∧ True ∧ True ∧ True ∧ True ∧ True ∧ True ∧ True ∧ True ∧ True ∧ True ∧ True ∧ True) ∧ (Bool.false = Bool.false ∧ (80 : Nat) = (80 : Nat) ∧ ([Go.Sx.EK.i64, Go.Sx.EK.u16] = [Go.Sx.EK.i64, Go.Sx.EK.u16] ∧ m = m ∧ l = l) ∧ True) ∧ (Bool.true = Bool.true ∧ (68 : Nat) = (68 : Nat) ∧ Go.Sx.Cel.slc (0 : Nat) (0 : Nat) (0 : Int) (2 : Nat) (↑n : Int) cap = Go.Sx.Cel.slc (0 : Nat) (0 : Nat) (0 : Int) (2 : Nat) (↑n : Int) cap ∧ True) ∧ (Bool.true = Bool.true ∧ (2 : Nat) = (2 : Nat) ∧ (Go.IntKind.i64 = Go.IntKind.i64 ∧ smS l s x = smS l s y) ∧ True) ∧ (Bool.true = Bool.true ∧ (78 : Nat) = (78 : Nat) ∧ (Go.IntKind.u16 = Go.IntKind.u16 ∧ (↑s : Int) = (↑s : Int)) ∧ True) ∧ (Go.LoopState.ready = Go.LoopState.ready ∧ (Option.none : Option Go.Code) = Option.none) ∧ True)) ∧ (Decidable.decide ((↑x : Int) < (12 : Int)) = Bool.false → True ∧ True ∧ Go.IntKind.i64 = Go.IntKind.i64 ∧ smS l s x = smS l s (12 : Nat))) (by kernel_rfl) ?_
  simp only [true_and, and_true, and_self, decide_eq_true_eq, decide_eq_false_iff_not, Bool.not_eq_true', Bool.not_eq_false', Bool.not_true, Bool.not_false, beq_iff_eq, beq_eq_false_iff_ne, bne_iff_ne, bne_eq_false_iff_eq, ne_eq, not_true_eq_false, not_false_eq_true, false_implies, true_implies, implies_true, forall_const, exists_const, ↓reduceIte, Int.reduceEq, Int.toNat_natCast, Bool.false_eq_true, Bool.true_eq_false, reduceCtorEq, Int.zero_add, Nat.add_zero, Int.ofNat_eq_natCast, Int.toNat_natCast, Nat.mul_one]
  have hn12 := v.hi
  obtain ⟨_, q1, q2, q3, jw⟩ := id q
  rw [Int.toNat_natCast] at q2 jw
  have hlt2 : s < 2 ^ n := by
    apply Nat.lt_pow_two_of_testBit
    intro i hi
    rw [Bool.eq_false_iff]
    intro h
    have := hs i h
    omega
  have hw := pow_lt16 (k := n) (by omega)
  refine ⟨⟨0, by omega, rfl, rfl⟩, ?_⟩
  intro k hk
  have hb := smS_b v hs k
  refine ⟨fun hlt => ⟨by omega, fun hbit => ?_, fun hbit => ⟨by omega, k + 1, by omega, by omega, by omega, by rw [smS, if_neg (by rw [hbit]; simp)]⟩⟩, fun hge => ?_⟩
  · have hkn := hs k hbit
    have hd := v.dy k hkn
    have hdj : dy l k = l.getD (k * 2) 0 := rfl
    rw [hdj] at hd
    exact ⟨by omega, by omega, by omega, by omega, k + 1, by omega, by omega, by omega, by rw [smS, if_pos hbit, hdj]⟩
  · obtain rfl : k = 12 := by omega
    rfl
theorem tdiv_b {a h : Int} (ha : 0 ≤ a) (hh : 1 ≤ h) : 0 ≤ a.tdiv h ∧ a.tdiv h ≤ a := by
  rw [Int.tdiv_eq_ediv_of_nonneg ha]
  exact ⟨Int.ediv_nonneg ha (by omega), Int.ediv_le_self _ ha⟩
def tvB (n : Nat) (l : List Int) (h : Int) : Int := max (mxT (tl l n) n) ((smS l (2 ^ n - 1) 12 + h - 1).tdiv h)
def lmBd (n : Nat) (l : List Int) : LAnn := { ι := Nat, inv := fun _ x => x ≤ n, slots := fun _ x => [(5, .a (.c (.int .i64 (smS l (2 ^ n - 1) x)))), (6, .a (.c (.int .i64 x)))], blks := fun _ _ => [], μ := fun _ x => n - x }
theorem x_l07Bound (m n : Nat) (l : List Int) (cap h : Int) (q : Jl n m l) (v : VJ n l) (hh : 1 ≤ h ∧ h ≤ 4) : Fex true TT (inlN true TT Cj9 (lookI ILz) 6) Cj9 (fun _ => .inv (lmBd n l)) Tryd.f67 [.a (.c (.slc 0 0 0 2 n cap)), .a (.c (.int .i64 h))] [.cells false 64 [.run [.i8, .u16] m l]] (fun lv _ => leL lv (.a (.c (.int .i64 (tvB n l h))))) := by
  refine Go.Sx.by_eq (q := True ∧ True ∧ True ∧ (∃ (x : Nat), x ≤ n ∧ (Go.Sx.Cel.slc (0 : Nat) (0 : Nat) (0 : Int) (2 : Nat) (↑n : Int) cap = Go.Sx.Cel.slc (0 : Nat) (0 : Nat) (0 : Int) (2 : Nat) (↑n : Int) cap ∧ (Go.IntKind.i64 = Go.IntKind.i64 ∧ h = h) ∧ Go.Sx.Cel.val Go.undef = Go.Sx.Cel.val Go.undef ∧ Go.Sx.Cel.val Go.undef = Go.Sx.Cel.val Go.undef ∧ (Go.IntKind.i64 = Go.IntKind.i64 ∧ (0 : Int) = (0 : Int)) ∧ (Go.IntKind.i64 = Go.IntKind.i64 ∧ (0 : Int) = smS l ((2 : Nat) ^ n - (1 : Nat)) x) ∧ (Go.IntKind.i64 = Go.IntKind.i64 ∧ (0 : Int) = (↑x : Int)) ∧ True ∧ True ∧ True ∧ True ∧ True ∧ True ∧ True ∧ True ∧ True ∧ True ∧ True ∧ True ∧ True ∧ True ∧ Go.Sx.Cel.val Go.undef = Go.Sx.Cel.val Go.undef ∧ Go.Sx.Cel.val Go.undef = Go.Sx.Cel.val Go.undef ∧ Go.Sx.Cel.val Go.undef = Go.Sx.Cel.val Go.undef ∧ Go.Sx.Cel.val Go.undef = Go.Sx.Cel.val Go.undef ∧ Go.Sx.Cel.val Go.undef = Go.Sx.Cel.val Go.undef ∧ Go.Sx.Cel.val Go.undef = Go.Sx.Cel.val Go.undef ∧ Go.Sx.Cel.val Go.undef = Go.Sx.Cel.val Go.undef ∧ Go.Sx.Cel.val Go.undef = Go.Sx.Cel.val Go.undef ∧ Go.Sx.Cel.val Go.undef = Go.Sx.Cel.val Go.undef ∧ True) ∧ (Bool.false = Bool.false ∧ (64 : Nat) = (64 : Nat) ∧ ([Go.Sx.EK.i8, Go.Sx.EK.u16] = [Go.Sx.EK.i8, Go.Sx.EK.u16] ∧ m = m ∧ l = l) ∧ True) ∧ True) ∧ ∀ (x : Nat), x ≤ n → True ∧ True ∧ True ∧ True ∧ (Decidable.decide ((↑x : Int) < (↑n : Int)) = Bool.true → True ∧ True ∧ True ∧ ((0 : Int) ≤ (↑x : Int) ∧ (↑x : Int) < (↑n : Int)) ∧ True ∧ ((0 : Int) ≤ (0 : Int) + (↑x : Int) ∧ Int.toNat ((0 : Int) + (↑x : Int)) * (2 : Nat) + (0 : Nat) < m) ∧ ((-9223372036854775808 : Int) ≤ List.getD l (Int.toNat ((0 : Int) + (↑x : Int)) * (2 : Nat) + (0 : Nat)) (0 : Int) ∧ List.getD l (Int.toNat ((0 : Int) + (↑x : Int)) * (2 : Nat) + (0 : Nat)) (0 : Int) ≤ (9223372036854775807 : Int)) ∧ ((-9223372036854775808 : Int) ≤ smS l ((2 : Nat) ^ n - (1 : Nat)) x + List.getD l (Int.toNat ((0 : Int) + (↑x : Int)) * (2 : Nat) + (0 : Nat)) (0 : Int) ∧ smS l ((2 : Nat) ^ n - (1 : Nat)) x + List.getD l (Int.toNat ((0 : Int) + (↑x : Int)) * (2 : Nat) + (0 : Nat)) (0 : Int) ≤ (9223372036854775807 : Int)) ∧ True ∧ True ∧ ((-9223372036854775808 : Int) ≤ (↑x : Int) + (1 : Int) ∧ (↑x : Int) + (1 : Int) ≤ (9223372036854775807 : Int)) ∧ True ∧ ∃ (y : Nat), y ≤ n ∧ n - y < n - x ∧ (Go.Sx.Cel.slc (0 : Nat) (0 : Nat) (0 : Int) (2 : Nat) (↑n : Int) cap = Go.Sx.Cel.slc (0 : Nat) (0 : Nat) (0 : Int) (2 : Nat) (↑n : Int) cap ∧ (Go.IntKind.i64 = Go.IntKind.i64 ∧ h = h) ∧ Go.Sx.Cel.val Go.undef = Go.Sx.Cel.val Go.undef ∧ Go.Sx.Cel.val Go.undef = Go.Sx.Cel.val Go.undef ∧ (Go.IntKind.i64 = Go.IntKind.i64 ∧ (0 : Int) = (0 : Int)) ∧ (Go.IntKind.i64 = Go.IntKind.i64 ∧ smS l ((2 : Nat) ^ n - (1 : Nat)) x + List.getD l (Int.toNat ((0 : Int) + (↑x : Int)) * (2 : Nat) + (0 : Nat)) (0 : Int) = smS l ((2 : Nat) ^ n - (1 : Nat)) y) ∧ (Go.IntKind.i64 = Go.IntKind.i64 ∧ (↑x : Int) + (1 : Int) = (↑y : Int)) ∧ True ∧ True ∧ True ∧ True ∧ True ∧ True ∧ True ∧ True ∧ True ∧ True ∧ True ∧ True ∧ True ∧ True ∧ Go.Sx.Cel.val Go.undef = Go.Sx.Cel.val Go.undef ∧ Go.Sx.Cel.val Go.undef = Go.Sx.Cel.val Go.undef ∧ Go.Sx.Cel.val Go.undef = Go.Sx.Cel.val Go.undef ∧ Go.Sx.Cel.val Go.undef = Go.Sx.Cel.val Go.undef ∧ Go.Sx.Cel.val Go.undef = Go.Sx.Cel.val Go.undef ∧ Go.Sx.Cel.val Go.undef = Go.Sx.Cel.val Go.undef ∧ Go.Sx.Cel.val Go.undef = Go.Sx.Cel.val Go.undef ∧ Go.Sx.Cel.val Go.undef = Go.Sx.Cel.val Go.undef ∧ Go.Sx.Cel.val Go.undef = Go.Sx.Cel.val Go.undef ∧ True) ∧ (Bool.false = Bool.false ∧ (64 : Nat) = (64 : Nat) ∧ ([Go.Sx.EK.i8, Go.Sx.EK.u16] = [Go.Sx.EK.i8, Go.Sx.EK.u16] ∧ m = m ∧ l = l) ∧ True) ∧ True) ∧ (Decidable.decide ((↑x : Int) < (↑n : Int)) = Bool.false → True ∧ (((64 : Nat) = (64 : Nat) ∧ (0 : Nat) = (0 : Nat) ∧ (0 : Int) = (0 : Int) ∧ (2 : Nat) = (2 : Nat) ∧ [Go.Sx.EK.i8, Go.Sx.EK.u16] = [Go.Sx.EK.i8, Go.Sx.EK.u16]) ∧ Jl (↑n : Int) m l ∧ VJ (Int.toNat (↑n : Int)) l) ∧ True ∧ True ∧ ((-9223372036854775808 : Int) ≤ smS l ((2 : Nat) ^ n - (1 : Nat)) x + h ∧ smS l ((2 : Nat) ^ n - (1 : Nat)) x + h ≤ (9223372036854775807 : Int)) ∧ ((-9223372036854775808 : Int) ≤ smS l ((2 : Nat) ^ n - (1 : Nat)) x + h - (1 : Int) ∧ smS l ((2 : Nat) ^ n - (1 : Nat)) x + h - (1 : Int) ≤ (9223372036854775807 : Int)) ∧ True ∧ (h ≠ (0 : Int) ∧ (-9223372036854775808 : Int) ≤ Int.tdiv (smS l ((2 : Nat) ^ n - (1 : Nat)) x + h - (1 : Int)) h ∧ Int.tdiv (smS l ((2 : Nat) ^ n - (1 : Nat)) x + h - (1 : Int)) h ≤ (9223372036854775807 : Int)) ∧ True ∧ True ∧ Go.IntKind.i64 = Go.IntKind.i64 ∧ Max.max (mxT (tl l (Int.toNat (↑n : Int))) (Int.toNat (↑n : Int))) (Int.tdiv (smS l ((2 : Nat) ^ n - (1 : Nat)) x + h - (1 : Int)) h) = tvB n l h)) (by kernel_rfl) ?_
  simp only [true_and, and_true, and_self, decide_eq_true_eq, decide_eq_false_iff_not, Bool.not_eq_true', Bool.not_eq_false', Bool.not_true, Bool.not_false, beq_iff_eq, beq_eq_false_iff_ne, bne_iff_ne, bne_eq_false_iff_eq, ne_eq, not_true_eq_false, not_false_eq_true, false_implies, true_implies, implies_true, forall_const, exists_const, ↓reduceIte, Int.reduceEq, Int.toNat_natCast, Bool.false_eq_true, Bool.true_eq_false, reduceCtorEq, Int.zero_add, Nat.add_zero, Int.ofNat_eq_natCast, Int.toNat_natCast, Nat.mul_one]
  have hn12 := v.hi
  obtain ⟨_, q1, q2, q3, jw⟩ := id q
  rw [Int.toNat_natCast] at q2 jw
  have hs : ∀ c, (2 ^ n - 1).testBit c = true → c < n := fun c hc => by simpa using hc
  refine ⟨⟨0, by omega, rfl, rfl⟩, ?_⟩
  intro k hk
  have hb := smS_b v hs k
  refine ⟨fun hlt => ?_, fun hge => ?_⟩
  · have hkn : k < n := by omega
    have hd := v.dy k hkn
    have hdj : dy l k = l.getD (k * 2) 0 := rfl
    rw [hdj] at hd
    exact ⟨by omega, by omega, by omega, by omega, by omega, k + 1, by omega, by omega, by rw [smS, if_pos (by rw [Nat.testBit_two_pow_sub_one]; simpa using hkn), hdj], by omega⟩
  · have hkn : k = n := by omega
    rw [hkn] at hb ⊢
    have e := smS_all (l := l) (n := n) (12 - n)
    rw [show n + (12 - n) = 12 by omega] at e
    have h1 := tdiv_b (a := smS l (2 ^ n - 1) n + h - 1) (h := h) (by omega) (by omega)
    refine ⟨⟨q, v⟩, by omega, by omega, ⟨by omega, by omega, by omega⟩, ?_⟩
    rw [tvB, e]

/-! ### Crews -/
def crB (lv : LV) : List Nat := match lv with
  | .tup (.agg (.slc id _ _ _ _ _ :: _) :: _) => [id]
  | _ => []
theorem x_crewOf0 (m n : Nat) (l : List Int) (cap h : Int) (q : Jx n m l) (hv : vjB n l = true) (hh : 1 ≤ h ∧ h ≤ 4) : Fex true TT (inlN true TT Cj9 (lookI ILz) 6) Cj9 U0 Tryd.f68 [.a (.c (.slc 0 0 0 2 n cap)), .a (.c (.int .i64 h))] [.cells false 64 [.run [.i8, .u16] m l]]
    (fun lv H' => ∃ _x : Unit, True ∧ leSt ⟨[lv], H'⟩ ⟨[rnL ([0].length + ·) (.tup [.agg [.slc 0 0 0 2 n n, .int .i64 h], .c (.val .nilIface)])], deadsN [0].length ++ [.cells true 80 [.run [.i64, .u16] (n * 2) (l.take (n * 2))]]⟩ [0].length (crB lv)) := by
  refine Go.Sx.by_eq (q := True ∧ True ∧ True ∧ (((64 : Nat) = (64 : Nat) ∧ (0 : Nat) = (0 : Nat) ∧ (0 : Int) = (0 : Int) ∧ (2 : Nat) = (2 : Nat) ∧ [Go.Sx.EK.i8, Go.Sx.EK.u16] = [Go.Sx.EK.i8, Go.Sx.EK.u16]) ∧ (0 : Int) ≤ (↑n : Int) ∧ Jx (Int.toNat (↑n : Int)) m l) ∧ (vjB (Int.toNat (↑n : Int)) l = Bool.true → True ∧ True ∧ True ∧ True ∧ True ∧ True ∧ True ∧ True ∧ True ∧ True ∧ (Decidable.decide (h < (1 : Int)) = Bool.false → True ∧ True ∧ True ∧ (Decidable.decide ((4 : Int) < h) = Bool.true → True ∧ True ∧ True ∧ True ∧ ∃ (_x : Unit), True ∧ Go.Sx.Stuck "names") ∧ (Decidable.decide ((4 : Int) < h) = Bool.false → True ∧ True ∧ True ∧ True ∧ True ∧ ∃ (_x : Unit), True ∧ (((Go.Sx.Cel.slc (2 : Nat) (0 : Nat) (0 : Int) (2 : Nat) (↑n : Int) (↑n : Int) = Go.Sx.Cel.slc (2 : Nat) (0 : Nat) (0 : Int) (2 : Nat) (↑n : Int) (↑n : Int) ∧ (Go.IntKind.i64 = Go.IntKind.i64 ∧ h = h) ∧ True) ∧ Go.Sx.Cel.val Go.Value.nilIface = Go.Sx.Cel.val Go.Value.nilIface ∧ True) ∧ True) ∧ True ∧ (Bool.true = Bool.true ∧ (80 : Nat) = (80 : Nat) ∧ ([Go.Sx.EK.i64, Go.Sx.EK.u16] = [Go.Sx.EK.i64, Go.Sx.EK.u16] ∧ Int.toNat (↑n : Int) * (2 : Nat) = n * (2 : Nat) ∧ List.take (Int.toNat (↑n : Int) * (2 : Nat)) l = List.take (n * (2 : Nat)) l) ∧ True) ∧ True)) ∧ (Decidable.decide (h < (1 : Int)) = !Bool.false → True ∧ True ∧ True ∧ True ∧ True ∧ ∃ (_x : Unit), True ∧ Go.Sx.Stuck "names")) ∧ (vjB (Int.toNat (↑n : Int)) l = Bool.false → True ∧ True ∧ True ∧ True ∧ True ∧ True ∧ True ∧ True ∧ True ∧ True ∧ True ∧ ∃ (_x : Unit), True ∧ Go.Sx.Stuck "names")) (by kernel_rfl) ?_
  simp only [true_and, and_true, and_self, decide_eq_true_eq, decide_eq_false_iff_not, Bool.not_eq_true', Bool.not_eq_false', Bool.not_true, Bool.not_false, beq_iff_eq, beq_eq_false_iff_ne, bne_iff_ne, bne_eq_false_iff_eq, ne_eq, not_true_eq_false, not_false_eq_true, false_implies, true_implies, implies_true, forall_const, exists_const, ↓reduceIte, Int.reduceEq, Int.toNat_natCast, Bool.false_eq_true, Bool.true_eq_false, reduceCtorEq, Int.zero_add, Nat.add_zero, Int.ofNat_eq_natCast, Int.toNat_natCast, Nat.mul_one]
  exact ⟨⟨by omega, q⟩, fun _ => ⟨fun _ h4 => absurd h4 (by omega), fun h1 => absurd h1 (by omega)⟩, fun h => by rw [hv] at h; cases h⟩
theorem x_crewOf1 (m n : Nat) (l : List Int) (cap h : Int) (q : Jx n m l) (hv : vjB n l = false) : Fex true TT (inlN true TT Cj9 (lookI ILz) 6) Cj9 U0 Tryd.f68 [.a (.c (.slc 0 0 0 2 n cap)), .a (.c (.int .i64 h))] [.cells false 64 [.run [.i8, .u16] m l]]
    (fun lv _ => leL lv (.tup [.agg [.val (.slice none 0 0), .int .i64 0], .c (.val (.iface 126 (.int .i64 1)))])) := by
  refine Go.Sx.by_eq (q := True ∧ True ∧ True ∧ (((64 : Nat) = (64 : Nat) ∧ (0 : Nat) = (0 : Nat) ∧ (0 : Int) = (0 : Int) ∧ (2 : Nat) = (2 : Nat) ∧ [Go.Sx.EK.i8, Go.Sx.EK.u16] = [Go.Sx.EK.i8, Go.Sx.EK.u16]) ∧ (0 : Int) ≤ (↑n : Int) ∧ Jx (Int.toNat (↑n : Int)) m l) ∧ (vjB (Int.toNat (↑n : Int)) l = Bool.true → True ∧ True ∧ True ∧ True ∧ True ∧ True ∧ True ∧ True ∧ True ∧ True ∧ (Decidable.decide (h < (1 : Int)) = Bool.false → True ∧ True ∧ True ∧ (Decidable.decide ((4 : Int) < h) = Bool.true → True ∧ True ∧ True ∧ True ∧ (Go.Sx.Cel.val (Go.Value.slice Option.none (0 : Nat) (0 : Nat)) = Go.Sx.Cel.val (Go.Value.slice Option.none (0 : Nat) (0 : Nat)) ∧ (Go.IntKind.i64 = Go.IntKind.i64 ∧ (0 : Int) = (0 : Int)) ∧ True) ∧ Go.Sx.Cel.val (Go.Value.iface (126 : Nat) (Go.Value.int Go.IntKind.i64 (2 : Int))) = Go.Sx.Cel.val (Go.Value.iface (126 : Go.TypeId) (Go.Value.int Go.IntKind.i64 (1 : Int))) ∧ True) ∧ (Decidable.decide ((4 : Int) < h) = Bool.false → True ∧ True ∧ True ∧ True ∧ True ∧ (Go.Sx.Cel.slc (2 : Nat) (0 : Nat) (0 : Int) (2 : Nat) (↑n : Int) (↑n : Int) = Go.Sx.Cel.val (Go.Value.slice Option.none (0 : Nat) (0 : Nat)) ∧ (Go.IntKind.i64 = Go.IntKind.i64 ∧ h = (0 : Int)) ∧ True) ∧ Go.Sx.Cel.val Go.Value.nilIface = Go.Sx.Cel.val (Go.Value.iface (126 : Go.TypeId) (Go.Value.int Go.IntKind.i64 (1 : Int))) ∧ True)) ∧ (Decidable.decide (h < (1 : Int)) = !Bool.false → True ∧ True ∧ True ∧ True ∧ True ∧ (Go.Sx.Cel.val (Go.Value.slice Option.none (0 : Nat) (0 : Nat)) = Go.Sx.Cel.val (Go.Value.slice Option.none (0 : Nat) (0 : Nat)) ∧ (Go.IntKind.i64 = Go.IntKind.i64 ∧ (0 : Int) = (0 : Int)) ∧ True) ∧ Go.Sx.Cel.val (Go.Value.iface (126 : Nat) (Go.Value.int Go.IntKind.i64 (2 : Int))) = Go.Sx.Cel.val (Go.Value.iface (126 : Go.TypeId) (Go.Value.int Go.IntKind.i64 (1 : Int))) ∧ True)) ∧ (vjB (Int.toNat (↑n : Int)) l = Bool.false → True ∧ True ∧ True ∧ True ∧ True ∧ True ∧ True ∧ True ∧ True ∧ True ∧ True ∧ (Go.Sx.Cel.val (Go.Value.slice Option.none (0 : Nat) (0 : Nat)) = Go.Sx.Cel.val (Go.Value.slice Option.none (0 : Nat) (0 : Nat)) ∧ (Go.IntKind.i64 = Go.IntKind.i64 ∧ (0 : Int) = (0 : Int)) ∧ True) ∧ Go.Sx.Cel.val (Go.Value.iface (126 : Go.TypeId) (Go.Value.int Go.IntKind.i64 (1 : Int))) = Go.Sx.Cel.val (Go.Value.iface (126 : Go.TypeId) (Go.Value.int Go.IntKind.i64 (1 : Int))) ∧ True)) (by kernel_rfl) ?_
  simp only [true_and, and_true, and_self, decide_eq_true_eq, decide_eq_false_iff_not, Bool.not_eq_true', Bool.not_eq_false', Bool.not_true, Bool.not_false, beq_iff_eq, beq_eq_false_iff_ne, bne_iff_ne, bne_eq_false_iff_eq, ne_eq, not_true_eq_false, not_false_eq_true, false_implies, true_implies, implies_true, forall_const, exists_const, ↓reduceIte, Int.reduceEq, Int.toNat_natCast, Bool.false_eq_true, Bool.true_eq_false, reduceCtorEq, Int.zero_add, Nat.add_zero, Int.ofNat_eq_natCast, Int.toNat_natCast, Nat.mul_one]
  exact ⟨⟨by omega, q⟩, fun h => by rw [hv] at h; cases h⟩
theorem x_crewOf2 (m n : Nat) (l : List Int) (cap h : Int) (q : Jx n m l) (hv : vjB n l = true) (hh : ¬ (1 ≤ h ∧ h ≤ 4)) : Fex true TT (inlN true TT Cj9 (lookI ILz) 6) Cj9 U0 Tryd.f68 [.a (.c (.slc 0 0 0 2 n cap)), .a (.c (.int .i64 h))] [.cells false 64 [.run [.i8, .u16] m l]]
    (fun lv _ => leL lv (.tup [.agg [.val (.slice none 0 0), .int .i64 0], .c (.val (.iface 126 (.int .i64 2)))])) := by
  refine Go.Sx.by_eq (q := True ∧ True ∧ True ∧ (((64 : Nat) = (64 : Nat) ∧ (0 : Nat) = (0 : Nat) ∧ (0 : Int) = (0 : Int) ∧ (2 : Nat) = (2 : Nat) ∧ [Go.Sx.EK.i8, Go.Sx.EK.u16] = [Go.Sx.EK.i8, Go.Sx.EK.u16]) ∧ (0 : Int) ≤ (↑n : Int) ∧ Jx (Int.toNat (↑n : Int)) m l) ∧ (vjB (Int.toNat (↑n : Int)) l = Bool.true → True ∧ True ∧ True ∧ True ∧ True ∧ True ∧ True ∧ True ∧ True ∧ True ∧ (Decidable.decide (h < (1 : Int)) = Bool.false → True ∧ True ∧ True ∧ (Decidable.decide ((4 : Int) < h) = Bool.true → True ∧ True ∧ True ∧ True ∧ (Go.Sx.Cel.val (Go.Value.slice Option.none (0 : Nat) (0 : Nat)) = Go.Sx.Cel.val (Go.Value.slice Option.none (0 : Nat) (0 : Nat)) ∧ (Go.IntKind.i64 = Go.IntKind.i64 ∧ (0 : Int) = (0 : Int)) ∧ True) ∧ Go.Sx.Cel.val (Go.Value.iface (126 : Nat) (Go.Value.int Go.IntKind.i64 (2 : Int))) = Go.Sx.Cel.val (Go.Value.iface (126 : Go.TypeId) (Go.Value.int Go.IntKind.i64 (2 : Int))) ∧ True) ∧ (Decidable.decide ((4 : Int) < h) = Bool.false → True ∧ True ∧ True ∧ True ∧ True ∧ (Go.Sx.Cel.slc (2 : Nat) (0 : Nat) (0 : Int) (2 : Nat) (↑n : Int) (↑n : Int) = Go.Sx.Cel.val (Go.Value.slice Option.none (0 : Nat) (0 : Nat)) ∧ (Go.IntKind.i64 = Go.IntKind.i64 ∧ h = (0 : Int)) ∧ True) ∧ Go.Sx.Cel.val Go.Value.nilIface = Go.Sx.Cel.val (Go.Value.iface (126 : Go.TypeId) (Go.Value.int Go.IntKind.i64 (2 : Int))) ∧ True)) ∧ (Decidable.decide (h < (1 : Int)) = !Bool.false → True ∧ True ∧ True ∧ True ∧ True ∧ (Go.Sx.Cel.val (Go.Value.slice Option.none (0 : Nat) (0 : Nat)) = Go.Sx.Cel.val (Go.Value.slice Option.none (0 : Nat) (0 : Nat)) ∧ (Go.IntKind.i64 = Go.IntKind.i64 ∧ (0 : Int) = (0 : Int)) ∧ True) ∧ Go.Sx.Cel.val (Go.Value.iface (126 : Nat) (Go.Value.int Go.IntKind.i64 (2 : Int))) = Go.Sx.Cel.val (Go.Value.iface (126 : Go.TypeId) (Go.Value.int Go.IntKind.i64 (2 : Int))) ∧ True)) ∧ (vjB (Int.toNat (↑n : Int)) l = Bool.false → True ∧ True ∧ True ∧ True ∧ True ∧ True ∧ True ∧ True ∧ True ∧ True ∧ True ∧ (Go.Sx.Cel.val (Go.Value.slice Option.none (0 : Nat) (0 : Nat)) = Go.Sx.Cel.val (Go.Value.slice Option.none (0 : Nat) (0 : Nat)) ∧ (Go.IntKind.i64 = Go.IntKind.i64 ∧ (0 : Int) = (0 : Int)) ∧ True) ∧ Go.Sx.Cel.val (Go.Value.iface (126 : Go.TypeId) (Go.Value.int Go.IntKind.i64 (1 : Int))) = Go.Sx.Cel.val (Go.Value.iface (126 : Go.TypeId) (Go.Value.int Go.IntKind.i64 (2 : Int))) ∧ True)) (by kernel_rfl) ?_
  simp only [true_and, and_true, and_self, decide_eq_true_eq, decide_eq_false_iff_not, Bool.not_eq_true', Bool.not_eq_false', Bool.not_true, Bool.not_false, beq_iff_eq, beq_eq_false_iff_ne, bne_iff_ne, bne_eq_false_iff_eq, ne_eq, not_true_eq_false, not_false_eq_true, false_implies, true_implies, implies_true, forall_const, exists_const, ↓reduceIte, Int.reduceEq, Int.toNat_natCast, Bool.false_eq_true, Bool.true_eq_false, reduceCtorEq, Int.zero_add, Nat.add_zero, Int.ofNat_eq_natCast, Int.toNat_natCast, Nat.mul_one]
  exact ⟨⟨by omega, q⟩, fun _ h1 h4 => absurd ⟨by omega, by omega⟩ hh, fun h => by rw [hv] at h; cases h⟩

noncomputable def gCrew : EntryC := fun args H K => match args with
  | [.a (.c (.slc id b z s len _)), .a (.c (.int .i64 h))] => match getB H id with
    | .cells _ t [.run ks m l] => ((t = 64 ∧ b = 0 ∧ z = 0 ∧ s = 2 ∧ ks = [.i8, .u16]) ∧ 0 ≤ len ∧ Jx len.toNat m l) ∧ withLenP H fun w =>
        (vjB len.toNat l = true → 1 ≤ h ∧ h ≤ 4 → K (.tup [.agg [.slc w 0 0 2 len len, .int .i64 h], .c (.val .nilIface)]) (H ++ [.cells true 80 [.run [.i64, .u16] (len.toNat * 2) (l.take (len.toNat * 2))]])) ∧
        (vjB len.toNat l = true → ¬ (1 ≤ h ∧ h ≤ 4) → K (.tup [.agg [.val (.slice none 0 0), .int .i64 0], .c (.val (.iface 126 (.int .i64 2)))]) H) ∧
        (vjB len.toNat l = false → K (.tup [.agg [.val (.slice none 0 0), .int .i64 0], .c (.val (.iface 126 (.int .i64 1)))]) H)
    | _ => Stuck "crew"
  | _ => Stuck "crew"
theorem e_crewOf : EntryCOk Tryd.prog TT 68 gCrew := by
  refine ⟨fnOk Tryd.func68 (by kernel_rfl) rfl, ?_⟩
  intro args H K h n0 w0 β w vals hG hH hA
  unfold gCrew at h
  split at h
  · split at h
    · rename_i id b z s len cap hh _ o t ks m l hg
      obtain ⟨⟨⟨rfl, rfl, rfl, rfl, rfl⟩, h0, q⟩, hk⟩ := h
      obtain ⟨k0, k1, k2⟩ := withLenP_sound hk
      obtain ⟨n, rfl⟩ := Int.eq_ofNat_of_zero_le h0
      rw [Int.toNat_natCast] at q k0 k1 k2
      cases hv : vjB n l
      · refine (entry_view tt_ok (inlN_ok tt_ok Cj9_ok mixed ILz_ok.ok 6) Cj9_ok mixed Tryd.func68 [id] (x_crewOf1 m n l cap hh q hv) rfl rfl ⟨.inr (by rw [hg]; rfl), trivial⟩ hG hH hA).mono ?_
        rintro e w' ⟨v, rfl, hb, hlv⟩
        exact ⟨v, [], _, H, rfl, k2 hv, by simpa using hH.after hb, by simpa using hlv⟩
      · by_cases hr : 1 ≤ hh ∧ hh ≤ 4
        · refine (entry_fresh tt_ok (inlN_ok tt_ok Cj9_ok mixed ILz_ok.ok 6) Cj9_ok mixed Tryd.func68 [id] (x_crewOf0 m n l cap hh q hv hr) rfl (fun _ => rfl) (fun _ => rfl) ⟨.inr (by rw [hg]; rfl), trivial⟩ hG hH hA).mono ?_
          rintro e w' ⟨v, γ, x, rfl, h4, h5, h6⟩
          exact ⟨v, γ, _, _, rfl, k0 hv hr, h5, h6⟩
        · refine (entry_view tt_ok (inlN_ok tt_ok Cj9_ok mixed ILz_ok.ok 6) Cj9_ok mixed Tryd.func68 [id] (x_crewOf2 m n l cap hh q hv hr) rfl rfl ⟨.inr (by rw [hg]; rfl), trivial⟩ hG hH hA).mono ?_
          rintro e w' ⟨v, rfl, hb, hlv⟩
          exact ⟨v, [], _, H, rfl, k1 hv hr, by simpa using hH.after hb, by simpa using hlv⟩
    · exact h.elim
  · exact h.elim

/-! ### Contracts -/
noncomputable def gSm : Entry := fun args H => match args with
  | [.a (.c (.slc id b z st len _)), .a (.c (.int .u16 s))] => match getB H id with
    | .cells _ t [.run ks m l] => some ((t = 80 ∧ b = 0 ∧ z = 0 ∧ st = 2 ∧ ks = [.i64, .u16]) ∧ Jl len m l ∧ VJ len.toNat l ∧ 0 ≤ s ∧ ∀ c, s.toNat.testBit c = true → c < len.toNat, .a (.c (.int .i64 (smS l s.toNat 12))))
    | _ => none
  | _ => none
theorem gSm_inv {args : List LV} {H : List Blk} {p : Prop} {r : LV} (he : gSm args H = some (p, r)) (hp : p) : ∃ (id m n : Nat) (o : Bool) (l : List Int) (cap : Int) (s : Nat),
    args = [.a (.c (.slc id 0 0 2 n cap)), .a (.c (.int .u16 s))] ∧ getB H id = .cells o 80 [.run [.i64, .u16] m l] ∧ r = .a (.c (.int .i64 (smS l s 12))) ∧ Jl n m l ∧ VJ n l ∧ ∀ c, s.testBit c = true → c < n := by
  unfold gSm at he
  split at he
  · split at he
    · rename_i id b z st len cap s _ o t ks m l hg
      simp only [Option.some.injEq, Prod.mk.injEq] at he
      obtain ⟨rfl, rfl⟩ := he
      obtain ⟨⟨rfl, rfl, rfl, rfl, rfl⟩, h1, h2, h3, h4⟩ := hp
      obtain ⟨n, rfl⟩ := Int.eq_ofNat_of_zero_le h1.lo
      obtain ⟨s, rfl⟩ := Int.eq_ofNat_of_zero_le h3
      exact ⟨id, m, n, o, l, cap, s, rfl, hg, rfl, h1, h2, h4⟩
    · simp at he
  · simp at he
theorem e_sum : EntryOk Tryd.prog TT 83 gSm := by
  refine ⟨fnOk Tryd.func83 (by kernel_rfl) rfl, ?_⟩
  intro args H p r he hp n0 w0 β w vals hG hH hA
  obtain ⟨id, m, n, o, l, cap, s, rfl, hg, rfl, q, v, hs⟩ := gSm_inv he hp
  exact entry_view tt_ok (inlN_ok tt_ok Cj9_ok mixed ((ILsm_ok (l := l) (s := s))).ok 6) Cj9_ok mixed Tryd.func83 [id] (x_sum m n l cap s q v hs) rfl rfl ⟨.inr (by rw [hg]; rfl), trivial⟩ hG hH hA

noncomputable def gBs : Entry := fun args H => match args with
  | [.a (.c (.slc id b z st len _)), .a (.c (.int .i64 h))] => match getB H id with
    | .cells _ t [.run ks m l] => some ((t = 64 ∧ b = 0 ∧ z = 0 ∧ st = 2 ∧ ks = [.i8, .u16]) ∧ Jl len m l ∧ VJ len.toNat l ∧ 1 ≤ h ∧ h ≤ 4, .a (.c (.int .i64 (tvB len.toNat l h))))
    | _ => none
  | _ => none
theorem gBs_inv {args : List LV} {H : List Blk} {p : Prop} {r : LV} (he : gBs args H = some (p, r)) (hp : p) : ∃ (id m n : Nat) (o : Bool) (l : List Int) (cap h : Int),
    args = [.a (.c (.slc id 0 0 2 n cap)), .a (.c (.int .i64 h))] ∧ getB H id = .cells o 64 [.run [.i8, .u16] m l] ∧ r = .a (.c (.int .i64 (tvB n l h))) ∧ Jl n m l ∧ VJ n l ∧ 1 ≤ h ∧ h ≤ 4 := by
  unfold gBs at he
  split at he
  · split at he
    · rename_i id b z st len cap h _ o t ks m l hg
      simp only [Option.some.injEq, Prod.mk.injEq] at he
      obtain ⟨rfl, rfl⟩ := he
      obtain ⟨⟨rfl, rfl, rfl, rfl, rfl⟩, h1, h2, h3⟩ := hp
      obtain ⟨n, rfl⟩ := Int.eq_ofNat_of_zero_le h1.lo
      exact ⟨id, m, n, o, l, cap, h, rfl, hg, rfl, h1, h2, h3⟩
    · simp at he
  · simp at he
theorem e_l07Bound : EntryOk Tryd.prog TT 67 gBs := by
  refine ⟨fnOk Tryd.func67 (by kernel_rfl) rfl, ?_⟩
  intro args H p r he hp n0 w0 β w vals hG hH hA
  obtain ⟨id, m, n, o, l, cap, h, rfl, hg, rfl, q, v, hh⟩ := gBs_inv he hp
  exact entry_view tt_ok (inlN_ok tt_ok Cj9_ok mixed (ILz_ok).ok 6) Cj9_ok mixed Tryd.func67 [id] (x_l07Bound m n l cap h q v hh) rfl rfl ⟨.inr (by rw [hg]; rfl), trivial⟩ hG hH hA

noncomputable def Ec1 : List (FuncId × Entry) := (66, gAk) :: (83, gSm) :: (67, gBs) :: Ej8
theorem Ec1_ok : EntriesOk Tryd.prog TT Ec1 := ⟨e_l07Asked, e_sum, e_l07Bound, Ej8_ok⟩
noncomputable def Mc1 : List (FuncId × EntryC) := (68, gCrew) :: Mj9
theorem Mc1_ok : EntriesCOk Tryd.prog TT Mc1 := ⟨e_crewOf, Mj9_ok⟩
noncomputable abbrev Cc1 : Ctr := ctrOfM Ec1 Mc1
theorem Cc1_ok : CtrOk Tryd.prog TT Cc1 := ctrOfM_ok Ec1_ok Mc1_ok

/-! ### BoundFor -/
theorem x_bound (m n : Nat) (l : List Int) (cap h : Int) (q : Jl n m l) (v : VJ n l) (hh : 1 ≤ h ∧ h ≤ 4) : Fex true TT (inlN true TT Cc1 (lookI ILz) 6) Cc1 U0 Tryd.f69 [.a (.agg [.slc 0 0 0 2 n cap, .int .i64 h])] [.cells false 80 [.run [.i64, .u16] m l]] (fun lv _ => leL lv (.a (.c (.int .i64 (tvB n l h))))) := by
  refine Go.Sx.by_eq (q := True ∧ True ∧ True ∧ True ∧ (((80 : Nat) = (80 : Nat) ∧ (0 : Nat) = (0 : Nat) ∧ (0 : Int) = (0 : Int) ∧ (2 : Nat) = (2 : Nat) ∧ [Go.Sx.EK.i64, Go.Sx.EK.u16] = [Go.Sx.EK.i64, Go.Sx.EK.u16]) ∧ Jl (↑n : Int) m l ∧ VJ (Int.toNat (↑n : Int)) l) ∧ ∀ (N : Nat) (L : List Int) (cp : Int), Gq (1 : Nat) (lgK l (Int.toNat (↑n : Int))) (lgF l (Int.toNat (↑n : Int))) N L cp → True ∧ True ∧ True ∧ True ∧ True ∧ True ∧ True ∧ True ∧ True ∧ True ∧ ((0 : Int) ≤ (↑n : Int) ∧ (↑n : Int) ≤ (12 : Int)) ∧ (((80 : Nat) = (80 : Nat) ∧ (0 : Nat) = (0 : Nat) ∧ (0 : Int) = (0 : Int) ∧ (2 : Nat) = (2 : Nat) ∧ [Go.Sx.EK.i64, Go.Sx.EK.u16] = [Go.Sx.EK.i64, Go.Sx.EK.u16]) ∧ Jl (↑n : Int) m l ∧ VJ (Int.toNat (↑n : Int)) l ∧ (0 : Int) ≤ (↑((2 : Nat) ^ Int.toNat (↑n : Int) - (1 : Nat)) : Int) ∧ ∀ (c : Nat), Nat.testBit (Int.toNat (↑((2 : Nat) ^ Int.toNat (↑n : Int) - (1 : Nat)) : Int)) c = Bool.true → c < Int.toNat (↑n : Int)) ∧ True ∧ True ∧ ((-9223372036854775808 : Int) ≤ smS l (Int.toNat (↑((2 : Nat) ^ Int.toNat (↑n : Int) - (1 : Nat)) : Int)) (12 : Nat) + h ∧ smS l (Int.toNat (↑((2 : Nat) ^ Int.toNat (↑n : Int) - (1 : Nat)) : Int)) (12 : Nat) + h ≤ (9223372036854775807 : Int)) ∧ ((-9223372036854775808 : Int) ≤ smS l (Int.toNat (↑((2 : Nat) ^ Int.toNat (↑n : Int) - (1 : Nat)) : Int)) (12 : Nat) + h - (1 : Int) ∧ smS l (Int.toNat (↑((2 : Nat) ^ Int.toNat (↑n : Int) - (1 : Nat)) : Int)) (12 : Nat) + h - (1 : Int) ≤ (9223372036854775807 : Int)) ∧ True ∧ True ∧ (h ≠ (0 : Int) ∧ (-9223372036854775808 : Int) ≤ Int.tdiv (smS l (Int.toNat (↑((2 : Nat) ^ Int.toNat (↑n : Int) - (1 : Nat)) : Int)) (12 : Nat) + h - (1 : Int)) h ∧ Int.tdiv (smS l (Int.toNat (↑((2 : Nat) ^ Int.toNat (↑n : Int) - (1 : Nat)) : Int)) (12 : Nat) + h - (1 : Int)) h ≤ (9223372036854775807 : Int)) ∧ True ∧ True ∧ Go.IntKind.i64 = Go.IntKind.i64 ∧ Max.max (mxT (tl l (Int.toNat (↑n : Int))) (Int.toNat (↑n : Int))) (Int.tdiv (smS l (Int.toNat (↑((2 : Nat) ^ Int.toNat (↑n : Int) - (1 : Nat)) : Int)) (12 : Nat) + h - (1 : Int)) h) = tvB n l h) (by kernel_rfl) ?_
  simp only [true_and, and_true, and_self, decide_eq_true_eq, decide_eq_false_iff_not, Bool.not_eq_true', Bool.not_eq_false', Bool.not_true, Bool.not_false, beq_iff_eq, beq_eq_false_iff_ne, bne_iff_ne, bne_eq_false_iff_eq, ne_eq, not_true_eq_false, not_false_eq_true, false_implies, true_implies, implies_true, forall_const, exists_const, ↓reduceIte, Int.reduceEq, Int.toNat_natCast, Bool.false_eq_true, Bool.true_eq_false, reduceCtorEq, Int.zero_add, Nat.add_zero, Int.ofNat_eq_natCast, Int.toNat_natCast, Nat.mul_one]
  have hn12 := v.hi
  have hs : ∀ c, (2 ^ n - 1).testBit c = true → c < n := fun c hc => by simpa using hc
  have hb := smS_b v hs 12
  have h1 := tdiv_b (a := smS l (2 ^ n - 1) 12 + h - 1) (h := h) (by omega) (by omega)
  exact ⟨⟨q, v⟩, fun N L cp g => ⟨by omega, ⟨q, v, by omega, hs⟩, by omega, by omega, ⟨by omega, by omega, by omega⟩, rfl⟩⟩
noncomputable def gBd : Entry := fun args H => match args with
  | [.a (.agg [.slc id b z st len _, .int .i64 h])] => match getB H id with
    | .cells _ t [.run ks m l] => some ((t = 80 ∧ b = 0 ∧ z = 0 ∧ st = 2 ∧ ks = [.i64, .u16]) ∧ Jl len m l ∧ VJ len.toNat l ∧ 1 ≤ h ∧ h ≤ 4, .a (.c (.int .i64 (tvB len.toNat l h))))
    | _ => none
  | _ => none
theorem gBd_inv {args : List LV} {H : List Blk} {p : Prop} {r : LV} (he : gBd args H = some (p, r)) (hp : p) : ∃ (id m n : Nat) (o : Bool) (l : List Int) (cap h : Int),
    args = [.a (.agg [.slc id 0 0 2 n cap, .int .i64 h])] ∧ getB H id = .cells o 80 [.run [.i64, .u16] m l] ∧ r = .a (.c (.int .i64 (tvB n l h))) ∧ Jl n m l ∧ VJ n l ∧ 1 ≤ h ∧ h ≤ 4 := by
  unfold gBd at he
  split at he
  · split at he
    · rename_i id b z st len cap h _ o t ks m l hg
      simp only [Option.some.injEq, Prod.mk.injEq] at he
      obtain ⟨rfl, rfl⟩ := he
      obtain ⟨⟨rfl, rfl, rfl, rfl, rfl⟩, h1, h2, h3⟩ := hp
      obtain ⟨n, rfl⟩ := Int.eq_ofNat_of_zero_le h1.lo
      exact ⟨id, m, n, o, l, cap, h, rfl, hg, rfl, h1, h2, h3⟩
    · simp at he
  · simp at he
theorem e_bound : EntryOk Tryd.prog TT 69 gBd := by
  refine ⟨fnOk Tryd.func69 (by kernel_rfl) rfl, ?_⟩
  intro args H p r he hp n0 w0 β w vals hG hH hA
  obtain ⟨id, m, n, o, l, cap, h, rfl, hg, rfl, q, v, hh⟩ := gBd_inv he hp
  exact entry_view tt_ok (inlN_ok tt_ok Cc1_ok mixed (ILz_ok).ok 6) Cc1_ok mixed Tryd.func69 [id] (x_bound m n l cap h q v hh) rfl rfl ⟨.inr (by rw [hg]; rfl), trivial⟩ hG hH hA

noncomputable def Ec2 : List (FuncId × Entry) := (69, gBd) :: Ec1
theorem Ec2_ok : EntriesOk Tryd.prog TT Ec2 := ⟨e_bound, Ec1_ok⟩
noncomputable abbrev Cc2 : Ctr := ctrOfM Ec2 Mc1
theorem Cc2_ok : CtrOk Tryd.prog TT Cc2 := ctrOfM_ok Ec2_ok Mc1_ok
noncomputable def boM (n : Nat) (l : List Int) (h : Int) : Int := if akE n l h = 0 then tvB n l h else 0
theorem x_BoundForS (m n : Nat) (l : List Int) (cap h : Int) (q : Jx n m l) : Fex true TT (inlN true TT Cc1 (lookI ILz) 6) Cc1 U0 Tryd.f33 [.a (.c (.slc 0 0 0 2 n cap)), .a (.c (.int .i64 h))] [.cells false 64 [.run [.i8, .u16] m l]] (fun lv _ => leL lv (.tup [.c (.int .i64 (boM n l h)), .c (.int .i64 (akE n l h))])) := by
  refine Go.Sx.by_eq (q := True ∧ True ∧ True ∧ True ∧ (((64 : Nat) = (64 : Nat) ∧ (0 : Nat) = (0 : Nat) ∧ (0 : Int) = (0 : Int) ∧ (2 : Nat) = (2 : Nat) ∧ [Go.Sx.EK.i8, Go.Sx.EK.u16] = [Go.Sx.EK.i8, Go.Sx.EK.u16]) ∧ (0 : Int) ≤ (↑n : Int) ∧ Jx (Int.toNat (↑n : Int)) m l) ∧ True ∧ True ∧ True ∧ ((akE (Int.toNat (↑n : Int)) l h != (0 : Int)) = Bool.true → True ∧ True ∧ True ∧ (Go.IntKind.i64 = Go.IntKind.i64 ∧ (0 : Int) = boM n l h) ∧ (Go.IntKind.i64 = Go.IntKind.i64 ∧ akE (Int.toNat (↑n : Int)) l h = akE n l h) ∧ True) ∧ ((akE (Int.toNat (↑n : Int)) l h != (0 : Int)) = Bool.false → True ∧ True ∧ (((64 : Nat) = (64 : Nat) ∧ (0 : Nat) = (0 : Nat) ∧ (0 : Int) = (0 : Int) ∧ (2 : Nat) = (2 : Nat) ∧ [Go.Sx.EK.i8, Go.Sx.EK.u16] = [Go.Sx.EK.i8, Go.Sx.EK.u16]) ∧ Jl (↑n : Int) m l ∧ VJ (Int.toNat (↑n : Int)) l ∧ (1 : Int) ≤ h ∧ h ≤ (4 : Int)) ∧ True ∧ True ∧ (Go.IntKind.i64 = Go.IntKind.i64 ∧ tvB (Int.toNat (↑n : Int)) l h = boM n l h) ∧ (Go.IntKind.i64 = Go.IntKind.i64 ∧ (0 : Int) = akE n l h) ∧ True)) (by kernel_rfl) ?_
  simp only [true_and, and_true, and_self, decide_eq_true_eq, decide_eq_false_iff_not, Bool.not_eq_true', Bool.not_eq_false', Bool.not_true, Bool.not_false, beq_iff_eq, beq_eq_false_iff_ne, bne_iff_ne, bne_eq_false_iff_eq, ne_eq, not_true_eq_false, not_false_eq_true, false_implies, true_implies, implies_true, forall_const, exists_const, ↓reduceIte, Int.reduceEq, Int.toNat_natCast, Bool.false_eq_true, Bool.true_eq_false, reduceCtorEq, Int.zero_add, Nat.add_zero, Int.ofNat_eq_natCast, Int.toNat_natCast, Nat.mul_one]
  refine ⟨⟨by omega, q⟩, fun h0 => by rw [boM, if_neg h0], fun h0 => ?_⟩
  have hv : vjB n l = true := by
    cases h : vjB n l
    · rw [akE, h] at h0; exact absurd h0 (by simp)
    · rfl
  have hh : 1 ≤ h ∧ h ≤ 4 := by
    apply Classical.byContradiction
    intro hc
    rw [akE, if_pos hv, if_neg hc] at h0
    omega
  exact ⟨⟨q.jl (vjB_t.1 hv), vjB_t.1 hv, hh.1, hh.2⟩, by rw [boM, if_pos h0], h0.symm⟩
theorem Sm.tv {n : Nat} {l l' : List Int} (s : Sm n l l') {h : Int} : tvB n l h = tvB n l' h := by
  rw [tvB, tvB, s.lg.2.2, s.sm fun c hc => by simpa using hc]
theorem x_BoundForI (m n : Nat) (l : List Int) (cap h : Int) (q : Jx n m l) : Fex true TT (inlN true TT Cc2 (lookI ILz) 6) Cc2 U0 Tryd.f34 [.a (.c (.slc 0 0 0 2 n cap)), .a (.c (.int .i64 h))] [.cells false 64 [.run [.i8, .u16] m l]] (fun lv _ => leL lv (.tup [.c (.int .i64 (boM n l h)), .c (.int .i64 (akE n l h))])) := by
  refine Go.Sx.by_eq (q := True ∧ True ∧ True ∧ True ∧ (((64 : Nat) = (64 : Nat) ∧ (0 : Nat) = (0 : Nat) ∧ (0 : Int) = (0 : Int) ∧ (2 : Nat) = (2 : Nat) ∧ [Go.Sx.EK.i8, Go.Sx.EK.u16] = [Go.Sx.EK.i8, Go.Sx.EK.u16]) ∧ (0 : Int) ≤ (↑n : Int) ∧ Jx (Int.toNat (↑n : Int)) m l) ∧ (vjB (Int.toNat (↑n : Int)) l = Bool.true → (1 : Int) ≤ h ∧ h ≤ (4 : Int) → True ∧ True ∧ True ∧ True ∧ True ∧ True ∧ True ∧ True ∧ True ∧ (((80 : Nat) = (80 : Nat) ∧ (0 : Nat) = (0 : Nat) ∧ (0 : Int) = (0 : Int) ∧ (2 : Nat) = (2 : Nat) ∧ [Go.Sx.EK.i64, Go.Sx.EK.u16] = [Go.Sx.EK.i64, Go.Sx.EK.u16]) ∧ Jl (↑n : Int) (Int.toNat (↑n : Int) * (2 : Nat)) (List.take (Int.toNat (↑n : Int) * (2 : Nat)) l) ∧ VJ (Int.toNat (↑n : Int)) (List.take (Int.toNat (↑n : Int) * (2 : Nat)) l) ∧ (1 : Int) ≤ h ∧ h ≤ (4 : Int)) ∧ True ∧ True ∧ (Go.IntKind.i64 = Go.IntKind.i64 ∧ tvB (Int.toNat (↑n : Int)) (List.take (Int.toNat (↑n : Int) * (2 : Nat)) l) h = boM n l h) ∧ (Go.IntKind.i64 = Go.IntKind.i64 ∧ (0 : Int) = akE n l h) ∧ True) ∧ (vjB (Int.toNat (↑n : Int)) l = Bool.true → ¬((1 : Int) ≤ h ∧ h ≤ (4 : Int)) → True ∧ True ∧ True ∧ True ∧ True ∧ True ∧ True ∧ True ∧ True ∧ (126 : Nat) = (126 : Nat) ∧ True ∧ True ∧ (Go.IntKind.i64 = Go.IntKind.i64 ∧ (0 : Int) = boM n l h) ∧ (Go.IntKind.i64 = Go.IntKind.i64 ∧ (2 : Int) = akE n l h) ∧ True) ∧ (vjB (Int.toNat (↑n : Int)) l = Bool.false → True ∧ True ∧ True ∧ True ∧ True ∧ True ∧ True ∧ True ∧ True ∧ (126 : Nat) = (126 : Nat) ∧ True ∧ True ∧ (Go.IntKind.i64 = Go.IntKind.i64 ∧ (0 : Int) = boM n l h) ∧ (Go.IntKind.i64 = Go.IntKind.i64 ∧ (1 : Int) = akE n l h) ∧ True)) (by kernel_rfl) ?_
  simp only [true_and, and_true, and_self, decide_eq_true_eq, decide_eq_false_iff_not, Bool.not_eq_true', Bool.not_eq_false', Bool.not_true, Bool.not_false, beq_iff_eq, beq_eq_false_iff_ne, bne_iff_ne, bne_eq_false_iff_eq, ne_eq, not_true_eq_false, not_false_eq_true, false_implies, true_implies, implies_true, forall_const, exists_const, ↓reduceIte, Int.reduceEq, Int.toNat_natCast, Bool.false_eq_true, Bool.true_eq_false, reduceCtorEq, Int.zero_add, Nat.add_zero, Int.ofNat_eq_natCast, Int.toNat_natCast, Nat.mul_one]
  have sm : Sm n (l.take (n * 2)) l := Sm.take
  refine ⟨⟨by omega, q⟩, fun hv hh => ⟨⟨q.jt (vjB_t.1 hv), sm.vj (vjB_t.1 hv), hh.1, hh.2⟩, ?_, ?_⟩, fun hv hh => ⟨?_, ?_⟩, fun hv => ⟨?_, ?_⟩⟩
  · rw [boM, if_pos (by rw [akE, if_pos hv, if_pos hh]), sm.tv]
  · rw [akE, if_pos hv, if_pos hh]
  · rw [boM, if_neg (by rw [akE, if_pos hv, if_neg hh]; omega)]
  · rw [akE, if_pos hv, if_neg hh]
  · rw [boM, if_neg (by rw [akE, hv]; simp)]
  · rw [akE, hv]; rfl
/-- Functions of jobs and hands that answer a number and a code. -/
noncomputable def gBo : Entry := fun args H => match args with
  | [.a (.c (.slc id b z st len _)), .a (.c (.int .i64 h))] => match getB H id with
    | .cells _ t [.run ks m l] => some ((t = 64 ∧ b = 0 ∧ z = 0 ∧ st = 2 ∧ ks = [.i8, .u16]) ∧ 0 ≤ len ∧ Jx len.toNat m l, .tup [.c (.int .i64 (boM len.toNat l h)), .c (.int .i64 (akE len.toNat l h))])
    | _ => none
  | _ => none
theorem gBo_inv {args : List LV} {H : List Blk} {p : Prop} {r : LV} (he : gBo args H = some (p, r)) (hp : p) : ∃ (id m n : Nat) (o : Bool) (l : List Int) (cap h : Int),
    args = [.a (.c (.slc id 0 0 2 n cap)), .a (.c (.int .i64 h))] ∧ getB H id = .cells o 64 [.run [.i8, .u16] m l] ∧ r = .tup [.c (.int .i64 (boM n l h)), .c (.int .i64 (akE n l h))] ∧ Jx n m l := by
  unfold gBo at he
  split at he
  · split at he
    · rename_i id b z st len cap h _ o t ks m l hg
      simp only [Option.some.injEq, Prod.mk.injEq] at he
      obtain ⟨rfl, rfl⟩ := he
      obtain ⟨⟨rfl, rfl, rfl, rfl, rfl⟩, h1, h2⟩ := hp
      obtain ⟨n, rfl⟩ := Int.eq_ofNat_of_zero_le h1
      exact ⟨id, m, n, o, l, cap, h, rfl, hg, rfl, h2⟩
    · simp at he
  · simp at he
theorem e_BoundForS : EntryOk Tryd.prog TT 33 gBo := by
  refine ⟨fnOk Tryd.func33 (by kernel_rfl) rfl, ?_⟩
  intro args H p r he hp n0 w0 β w vals hG hH hA
  obtain ⟨id, m, n, o, l, cap, h, rfl, hg, rfl, q⟩ := gBo_inv he hp
  exact entry_view tt_ok (inlN_ok tt_ok Cc1_ok mixed (ILz_ok).ok 6) Cc1_ok mixed Tryd.func33 [id] (x_BoundForS m n l cap h q) rfl rfl ⟨.inr (by rw [hg]; rfl), trivial⟩ hG hH hA

theorem e_BoundForI : EntryOk Tryd.prog TT 34 gBo := by
  refine ⟨fnOk Tryd.func34 (by kernel_rfl) rfl, ?_⟩
  intro args H p r he hp n0 w0 β w vals hG hH hA
  obtain ⟨id, m, n, o, l, cap, h, rfl, hg, rfl, q⟩ := gBo_inv he hp
  exact entry_view tt_ok (inlN_ok tt_ok Cc2_ok mixed (ILz_ok).ok 6) Cc2_ok mixed Tryd.func34 [id] (x_BoundForI m n l cap h q) rfl rfl ⟨.inr (by rw [hg]; rfl), trivial⟩ hG hH hA


end Go.Proofs.YtagdkibmlfjggaaDoor
