/- Jobs: the small functions of both sides, as contracts. No conditions beyond the ranges of the kinds. -/
import Derived.Test.YtmjincdnhmkmhaaDoorJb0
set_option linter.unusedSimpArgs false
set_option linter.unusedVariables false
namespace Go.Proofs.YtmjincdnhmkmhaaDoor
open Go.Sx Go.RowKit

noncomputable def ILz  : List (FuncId × Func × (Nat → LM)) := [
  ]
theorem ILz_ok  : InlsOk Tryd.prog ILz := trivial

theorem andpow {s j : Nat} : s &&& 2 ^ j ≠ 0 ↔ s.testBit j = true := by
  constructor
  · intro h
    rw [← Bool.not_eq_false]
    intro hf
    apply h
    apply Nat.eq_of_testBit_eq
    intro i
    rw [Nat.testBit_and, Nat.testBit_two_pow, Nat.zero_testBit]
    by_cases e : j = i
    · subst e; rw [hf]; rfl
    · simp [e]
  · intro h e
    have := congrArg (fun z => Nat.testBit z j) e
    simp only [Nat.testBit_and, Nat.testBit_two_pow, Nat.zero_testBit, h] at this
    simp at this

theorem x_setOf (j : Int) (h1 : 0 ≤ j) (h2 : j < 16) : Fex true TT (inlN true TT C0 (lookI ILz) 4) C0 U0 Tryd.f28 [.a (.c (.int .i64 j))] [] (fun lv _ => leL lv (.a (.c (.int .u16 ((2 ^ j.toNat : Nat) : Int))))) := by
  refine Go.Sx.by_eq (q := True ∧ True ∧ ((0 : Int) ≤ j ∧ Int.toNat j ≤ IntKind.bits IntKind.u16) ∧ True ∧ IntKind.u16 = IntKind.u16 ∧ bShl IntKind.u16 (1 : Int) j = (↑((2 : Nat) ^ Int.toNat j) : Int)) (by kernel_rfl) ?_
  obtain ⟨k, rfl⟩ := Int.eq_ofNat_of_zero_le h1
  simp only [true_and, and_true, and_self, decide_eq_true_eq, decide_eq_false_iff_not, Bool.not_eq_true', Bool.not_eq_false', Bool.not_true, Bool.not_false, beq_iff_eq, beq_eq_false_iff_ne, bne_iff_ne, bne_eq_false_iff_eq, ne_eq, not_true_eq_false, not_false_eq_true, false_implies, true_implies, implies_true, forall_const, exists_const, ↓reduceIte, Int.reduceEq, Int.toNat_natCast, Bool.false_eq_true, Bool.true_eq_false, reduceCtorEq, Int.ofNat_eq_natCast, Int.toNat_natCast]
  exact ⟨⟨by omega, by simp only [IntKind.bits]; omega⟩, bShl1 (by omega)⟩
def gSet : Entry := fun args _ => match args with
  | [.a (.c (.int .i64 j))] => some (0 ≤ j ∧ j < 16, .a (.c (.int .u16 ((2 ^ j.toNat : Nat) : Int))))
  | _ => none
theorem e_setOf : EntryOk Tryd.prog TT 28 gSet := by
  refine ⟨fnOk Tryd.func28 (by kernel_rfl) rfl, ?_⟩
  intro args H p r he hp n0 w0 β w vals hG hH hA
  unfold gSet at he
  split at he
  · simp only [Option.some.injEq, Prod.mk.injEq] at he
    obtain ⟨rfl, rfl⟩ := he
    exact entry_bare tt_ok (inlN_ok tt_ok C0_ok mixed (ILz_ok).ok 4) C0_ok mixed Tryd.func28 (x_setOf _ hp.1 hp.2) rfl rfl hG hH hA
  · simp at he

def Es0 : List (FuncId × Entry) := [(28, gSet)]
theorem Es0_ok : EntriesOk Tryd.prog TT Es0 := ⟨e_setOf, trivial⟩
abbrev Cs0 : Ctr := ctrOf Es0
theorem Cs0_ok : CtrOk Tryd.prog TT Cs0 := ctrOf_ok Es0_ok

theorem x_jhas (s j : Int) (h0 : 0 ≤ s ∧ s ≤ 65535) (h1 : 0 ≤ j) (h2 : j < 16) : Fex true TT (inlN true TT Cs0 (lookI ILz) 4) Cs0 U0 Tryd.f19 [.a (.c (.int .u16 s)), .a (.c (.int .i64 j))] [] (fun lv _ => leL lv (.a (.c (.bool (s.toNat.testBit j.toNat))))) := by
  refine Go.Sx.by_eq (q := True ∧ True ∧ True ∧ ((0 : Int) ≤ j ∧ j < (16 : Int)) ∧ True ∧ True ∧ True ∧ (bAnd IntKind.u16 s (↑((2 : Nat) ^ Int.toNat j) : Int) != (0 : Int)) = Nat.testBit (Int.toNat s) (Int.toNat j)) (by kernel_rfl) ?_
  obtain ⟨k, rfl⟩ := Int.eq_ofNat_of_zero_le h1
  obtain ⟨a, rfl⟩ := Int.eq_ofNat_of_zero_le h0.1
  have := pow_lt16 (k := k) (by omega)
  simp only [true_and, and_true, and_self, decide_eq_true_eq, decide_eq_false_iff_not, Bool.not_eq_true', Bool.not_eq_false', Bool.not_true, Bool.not_false, beq_iff_eq, beq_eq_false_iff_ne, bne_iff_ne, bne_eq_false_iff_eq, ne_eq, not_true_eq_false, not_false_eq_true, false_implies, true_implies, implies_true, forall_const, exists_const, ↓reduceIte, Int.reduceEq, Int.toNat_natCast, Bool.false_eq_true, Bool.true_eq_false, reduceCtorEq, Int.ofNat_eq_natCast, Int.toNat_natCast]
  rw [bAnd16 (by have := h0.2; omega) this]
  refine ⟨by omega, ?_⟩
  rw [Bool.eq_iff_iff, bne_iff_ne, ne_eq, Int.natCast_eq_zero]
  exact andpow
def gJhas : Entry := fun args _ => match args with
  | [.a (.c (.int .u16 s)), .a (.c (.int .i64 j))] => some ((0 ≤ s ∧ s ≤ 65535) ∧ 0 ≤ j ∧ j < 16, .a (.c (.bool (s.toNat.testBit j.toNat))))
  | _ => none
theorem e_jhas : EntryOk Tryd.prog TT 19 gJhas := by
  refine ⟨fnOk Tryd.func19 (by kernel_rfl) rfl, ?_⟩
  intro args H p r he hp n0 w0 β w vals hG hH hA
  unfold gJhas at he
  split at he
  · simp only [Option.some.injEq, Prod.mk.injEq] at he
    obtain ⟨rfl, rfl⟩ := he
    exact entry_bare tt_ok (inlN_ok tt_ok Cs0_ok mixed (ILz_ok).ok 4) Cs0_ok mixed Tryd.func19 (x_jhas _ _ hp.1 hp.2.1 hp.2.2) rfl rfl hG hH hA
  · simp at he


def gWhas : Entry := fun args _ => match args with
  | [.a (.c (.slc _ _ _ _ len _)), .a (.c (.int .i64 j))] => some (True, .a (.c (.bool (decide (0 ≤ j) && decide (j < len)))))
  | _ => none
theorem x_whas (b : Nat) (i : Int) (s : Nat) (len cap j : Int) : Fex true TT (inlN true TT C0 (lookI ILz) 4) C0 U0 Tryd.f16 [.a (.c (.slc 0 b i s len cap)), .a (.c (.int .i64 j))] [.dead] (fun lv _ => leL lv (.a (.c (.bool (decide (0 ≤ j) && decide (j < len)))))) := by
  refine Go.Sx.by_eq (q := True ∧ True ∧ True ∧ True ∧ (Decidable.decide ((0 : Int) ≤ j) = Bool.true → True ∧ True ∧ True ∧ True ∧ True ∧ True ∧ Decidable.decide (j < len) = (Decidable.decide ((0 : Int) ≤ j) && Decidable.decide (j < len))) ∧ (Decidable.decide ((0 : Int) ≤ j) = !Bool.true → True ∧ True ∧ (Decidable.decide ((0 : Int) ≤ j) && Decidable.decide (j < len)) = Bool.false)) (by kernel_rfl) ?_
  cases h0 : decide (0 ≤ j) <;> simp_all
theorem e_whas : EntryOk Tryd.prog TT 16 gWhas := by
  refine ⟨fnOk Tryd.func16 (by kernel_rfl) rfl, ?_⟩
  intro args H p r he hp n0 w0 β w vals hG hH hA
  unfold gWhas at he
  split at he
  · rename_i id b i s len cap j
    simp only [Option.some.injEq, Prod.mk.injEq] at he
    obtain ⟨rfl, rfl⟩ := he
    exact entry_view tt_ok (inlN_ok tt_ok C0_ok mixed ILz_ok.ok 4) C0_ok mixed Tryd.func16 [id] (x_whas b i s len cap j) rfl rfl ⟨.inl rfl, trivial⟩ hG hH hA
  · simp at he

theorem x_wall (b : Nat) (i : Int) (s : Nat) (len cap : Int) (h1 : 0 ≤ len) (h2 : len ≤ 12) : Fex true TT (inlN true TT Cs0 (lookI ILz) 4) Cs0 U0 Tryd.f44 [.a (.c (.slc 0 b i s len cap))] [.dead] (fun lv _ => leL lv (.a (.c (.int .u16 ((2 ^ len.toNat - 1 : Nat) : Int))))) := by
  refine Go.Sx.by_eq (q := True ∧ True ∧ True ∧ ((0 : Int) ≤ len ∧ len < (16 : Int)) ∧ True ∧ True ∧ IntKind.u16 = IntKind.u16 ∧ IntKind.wrap IntKind.u16 ((↑((2 : Nat) ^ Int.toNat len) : Int) - (1 : Int)) = (↑((2 : Nat) ^ Int.toNat len - (1 : Nat)) : Int)) (by kernel_rfl) ?_
  obtain ⟨k, rfl⟩ := Int.eq_ofNat_of_zero_le h1
  simp only [Int.ofNat_eq_natCast, Int.toNat_natCast] at *
  have := pow_lt16 (k := k) (by omega)
  have h0 := Nat.two_pow_pos k
  simp only [true_and, and_true, and_self, decide_eq_true_eq, decide_eq_false_iff_not, Bool.not_eq_true', Bool.not_eq_false', Bool.not_true, Bool.not_false, beq_iff_eq, beq_eq_false_iff_ne, bne_iff_ne, bne_eq_false_iff_eq, ne_eq, not_true_eq_false, not_false_eq_true, false_implies, true_implies, implies_true, forall_const, exists_const, ↓reduceIte, Int.reduceEq, Int.toNat_natCast, Bool.false_eq_true, Bool.true_eq_false, reduceCtorEq, Int.ofNat_eq_natCast, Int.toNat_natCast]
  generalize 2 ^ k = z at *
  refine ⟨by omega, ?_⟩
  have e : ((z : Nat) : Int) - 1 = ((z - 1 : Nat) : Int) := by omega
  rw [e]
  exact u16w (by omega) (by omega)
def gWall : Entry := fun args _ => match args with
  | [.a (.c (.slc _ _ _ _ len _))] => some (0 ≤ len ∧ len ≤ 12, .a (.c (.int .u16 ((2 ^ len.toNat - 1 : Nat) : Int))))
  | _ => none
theorem e_wall : EntryOk Tryd.prog TT 44 gWall := by
  refine ⟨fnOk Tryd.func44 (by kernel_rfl) rfl, ?_⟩
  intro args H p r he hp n0 w0 β w vals hG hH hA
  unfold gWall at he
  split at he
  · rename_i id b i s len cap
    simp only [Option.some.injEq, Prod.mk.injEq] at he
    obtain ⟨rfl, rfl⟩ := he
    exact entry_view tt_ok (inlN_ok tt_ok Cs0_ok mixed ILz_ok.ok 4) Cs0_ok mixed Tryd.func44 [id] (x_wall b i s len cap hp.1 hp.2) rfl rfl ⟨.inl rfl, trivial⟩ hG hH hA
  · simp at he
def Es1 : List (FuncId × Entry) := [(28, gSet), (19, gJhas), (16, gWhas), (44, gWall)]
theorem Es1_ok : EntriesOk Tryd.prog TT Es1 := ⟨e_setOf, e_jhas, e_whas, e_wall, trivial⟩
abbrev Cs1 : Ctr := ctrOf Es1
theorem Cs1_ok : CtrOk Tryd.prog TT Cs1 := ctrOf_ok Es1_ok

/-! ### Tasks -/
/-- A slice of jobs or tasks that is looked at: its memory begins with it. -/
structure Jl (len : Int) (m : Nat) (l : List Int) : Prop where
  lo : 0 ≤ len
  hi : len ≤ 12
  le : len.toNat * 2 ≤ m
  ln : l.length = m
  jw : JW len.toNat l
theorem bnot0 {a T : Nat} (ha : a < 65536) (hT : T < 65536) : decide (bNot .u16 (a : Int) (T : Int) = 0) = decide (a &&& T = a) := by
  rw [Bool.eq_iff_iff, decide_eq_true_eq, decide_eq_true_eq]
  exact bNot16 ha hT
theorem x_isNext (m n : Nat) (l : List Int) (cap j : Int) (T : Nat) (q : Jl n m l) (hT : T < 65536) (h1 : 0 ≤ j) (h2 : j < 16) : Fex true TT (inlN true TT Cs1 (lookI ILz) 4) Cs1 U0 Tryd.f46 [.a (.c (.slc 0 0 0 2 n cap)), .a (.c (.int .i64 j)), .a (.c (.int .u16 T))] [.cells false 53 [.run [.i64, .u16] m l]] (fun lv _ => leL lv (.a (.c (.bool (decide (j < n) && nxB l T j.toNat))))) := by
  refine Go.Sx.by_eq (q := True ∧ True ∧ True ∧ True ∧ True ∧ ((Decidable.decide ((0 : Int) ≤ j) && Decidable.decide (j < (↑n : Int))) = Bool.true → True ∧ True ∧ (((0 : Int) ≤ (↑T : Int) ∧ (↑T : Int) ≤ (65535 : Int)) ∧ (0 : Int) ≤ j ∧ j < (16 : Int)) ∧ True ∧ True ∧ True ∧ ((!Nat.testBit (Int.toNat (↑T : Int)) (Int.toNat j)) = Bool.true → True ∧ True ∧ ((0 : Int) ≤ j ∧ j < (↑n : Int)) ∧ True ∧ ((0 : Int) ≤ (0 : Int) + j ∧ Int.toNat ((0 : Int) + j) * (2 : Nat) + (1 : Nat) < m) ∧ True ∧ True ∧ True ∧ True ∧ True ∧ (bNot IntKind.u16 (List.getD l (Int.toNat ((0 : Int) + j) * (2 : Nat) + (1 : Nat)) (0 : Int)) (↑T : Int) == (0 : Int)) = (Decidable.decide (j < (↑n : Int)) && nxB l T (Int.toNat j))) ∧ ((!Nat.testBit (Int.toNat (↑T : Int)) (Int.toNat j)) = !Bool.true → True ∧ True ∧ (Decidable.decide (j < (↑n : Int)) && nxB l T (Int.toNat j)) = Bool.false)) ∧ ((Decidable.decide ((0 : Int) ≤ j) && Decidable.decide (j < (↑n : Int))) = !Bool.true → True ∧ True ∧ True ∧ True ∧ (Decidable.decide (j < (↑n : Int)) && nxB l T (Int.toNat j)) = Bool.false)) (by kernel_rfl) ?_
  obtain ⟨_, q1, q2, q3, jw⟩ := q
  obtain ⟨k, rfl⟩ := Int.eq_ofNat_of_zero_le h1
  simp only [true_and, and_true, and_self, decide_eq_true_eq, decide_eq_false_iff_not, Bool.not_eq_true', Bool.not_eq_false', Bool.not_true, Bool.not_false, beq_iff_eq, beq_eq_false_iff_ne, bne_iff_ne, bne_eq_false_iff_eq, ne_eq, not_true_eq_false, not_false_eq_true, false_implies, true_implies, implies_true, forall_const, exists_const, ↓reduceIte, Int.reduceEq, Int.toNat_natCast, Bool.false_eq_true, Bool.true_eq_false, reduceCtorEq, Int.zero_add, Nat.add_zero, Int.ofNat_eq_natCast, Int.toNat_natCast, Bool.and_eq_true]
  rw [Int.toNat_natCast] at jw q2
  refine ⟨fun hlt => ⟨by omega, fun hT0 => ⟨by omega, by omega, ?_⟩, fun hT1 => ?_⟩, fun hf => ?_⟩
  · obtain ⟨e1, e2⟩ := jw.af (k := k) (by omega)
    rw [e1, decide_eq_true (by omega), Bool.true_and, nxB, hT0, Bool.eq_iff_iff, beq_iff_eq]
    simp only [Bool.not_false, Bool.true_and, decide_eq_true_eq]
    exact bNot16 e2 hT
  · simp [nxB, hT1]
  · have : ¬ (k : Int) < n := by
      intro h
      rw [decide_eq_true h1, decide_eq_true h] at hf; cases hf
    simp [this]
def gNext : Entry := fun args H => match args with
  | [.a (.c (.slc id b z s len _)), .a (.c (.int .i64 j)), .a (.c (.int .u16 T))] => match getB H id with
    | .cells _ t [.run ks m l] => some ((t = 53 ∧ b = 0 ∧ z = 0 ∧ s = 2 ∧ ks = [.i64, .u16]) ∧ Jl len m l ∧ (0 ≤ T ∧ T ≤ 65535) ∧ 0 ≤ j ∧ j < 16, .a (.c (.bool (decide (j < len) && nxB l T.toNat j.toNat))))
    | _ => none
  | _ => none
theorem gNext_inv {args : List LV} {H : List Blk} {p : Prop} {r : LV} (he : gNext args H = some (p, r)) (hp : p) : ∃ (id m n : Nat) (o : Bool) (l : List Int) (cap j : Int) (T : Nat),
    args = [.a (.c (.slc id 0 0 2 n cap)), .a (.c (.int .i64 j)), .a (.c (.int .u16 T))] ∧ getB H id = .cells o 53 [.run [.i64, .u16] m l] ∧ r = .a (.c (.bool (decide (j < n) && nxB l T j.toNat))) ∧ Jl n m l ∧ T < 65536 ∧ 0 ≤ j ∧ j < 16 := by
  unfold gNext at he
  split at he
  · split at he
    · rename_i id b z s len cap j T _ o t ks m l hg
      simp only [Option.some.injEq, Prod.mk.injEq] at he
      obtain ⟨rfl, rfl⟩ := he
      obtain ⟨⟨rfl, rfl, rfl, rfl, rfl⟩, h1, h2, h3, h4⟩ := hp
      obtain ⟨n, rfl⟩ := Int.eq_ofNat_of_zero_le h1.lo
      obtain ⟨T, rfl⟩ := Int.eq_ofNat_of_zero_le h2.1
      exact ⟨id, m, n, o, l, cap, j, T, rfl, hg, rfl, h1, by have := h2.2; omega, h3, h4⟩
    · simp at he
  · simp at he
theorem e_isNext : EntryOk Tryd.prog TT 46 gNext := by
  refine ⟨fnOk Tryd.func46 (by kernel_rfl) rfl, ?_⟩
  intro args H p r he hp n0 w0 β w vals hG hH hA
  obtain ⟨id, m, n, o, l, cap, j, T, rfl, hg, rfl, h1, h2, h3, h4⟩ := gNext_inv he hp
  exact entry_view tt_ok (inlN_ok tt_ok Cs1_ok mixed (ILz_ok).ok 4) Cs1_ok mixed Tryd.func46 [id] (x_isNext m n l cap j T h1 h2 h3 h4) rfl rfl ⟨.inr (by rw [hg]; rfl), trivial⟩ hG hH hA


/-! ### The specification's -/
theorem x_l00In (a b c : Int) : Fex true TT (inlN true TT C0 (lookI ILz) 4) C0 U0 Tryd.f23 [.a (.c (.int .i64 a)), .a (.c (.int .i64 b)), .a (.c (.int .i64 c))] [] (fun lv _ => leL lv (.a (.c (.bool (decide (b ≤ a) && decide (a ≤ c)))))) := by
  refine Go.Sx.by_eq (q := True ∧ True ∧ True ∧ True ∧ True ∧ (Decidable.decide (b ≤ a) = Bool.true → True ∧ True ∧ True ∧ True ∧ True ∧ Decidable.decide (a ≤ c) = (Decidable.decide (b ≤ a) && Decidable.decide (a ≤ c))) ∧ (Decidable.decide (b ≤ a) = !Bool.true → True ∧ True ∧ (Decidable.decide (b ≤ a) && Decidable.decide (a ≤ c)) = Bool.false)) (by kernel_rfl) ?_
  cases h0 : decide (b ≤ a) <;> simp_all
def gIn : Entry := fun args _ => match args with
  | [.a (.c (.int .i64 a)), .a (.c (.int .i64 b)), .a (.c (.int .i64 c))] => some (True, .a (.c (.bool (decide (b ≤ a) && decide (a ≤ c)))))
  | _ => none
theorem e_l00In : EntryOk Tryd.prog TT 23 gIn := by
  refine ⟨fnOk Tryd.func23 (by kernel_rfl) rfl, ?_⟩
  intro args H p r he hp n0 w0 β w vals hG hH hA
  unfold gIn at he
  split at he
  · simp only [Option.some.injEq, Prod.mk.injEq] at he
    obtain ⟨rfl, rfl⟩ := he
    exact entry_bare tt_ok (inlN_ok tt_ok C0_ok mixed (ILz_ok).ok 4) C0_ok mixed Tryd.func23 (x_l00In _ _ _) rfl rfl hG hH hA
  · simp at he


theorem x_waits (m n : Nat) (l : List Int) (cap j k : Int) (q : Jl n m l) (h1 : 0 ≤ j) (h2 : j < n) (h3 : 0 ≤ k) (h4 : k < 16) : Fex true TT (inlN true TT C0 (lookI ILz) 4) C0 U0 Tryd.f12 [.a (.c (.slc 0 0 0 2 n cap)), .a (.c (.int .i64 j)), .a (.c (.int .i64 k))] [.cells false 35 [.run [.i8, .u16] m l]] (fun lv _ => leL lv (.a (.c (.bool ((af l j.toNat).testBit k.toNat))))) := by
  refine Go.Sx.by_eq (q := True ∧ True ∧ True ∧ ((0 : Int) ≤ j ∧ j < (↑n : Int)) ∧ True ∧ ((0 : Int) ≤ (0 : Int) + j ∧ Int.toNat ((0 : Int) + j) * (2 : Nat) + (1 : Nat) < m) ∧ True ∧ True ∧ ((0 : Int) ≤ IntKind.wrap IntKind.u64 k ∧ Int.toNat (IntKind.wrap IntKind.u64 k) ≤ IntKind.bits IntKind.u16) ∧ (2 : Int) ≠ (0 : Int) ∧ True ∧ True ∧ (Int.tmod (bShr (List.getD l (Int.toNat ((0 : Int) + j) * (2 : Nat) + (1 : Nat)) (0 : Int)) (IntKind.wrap IntKind.u64 k)) (2 : Int) == (1 : Int)) = Nat.testBit (af l (Int.toNat j)) (Int.toNat k)) (by kernel_rfl) ?_
  obtain ⟨_, q1, q2, q3, jw⟩ := q
  obtain ⟨j, rfl⟩ := Int.eq_ofNat_of_zero_le h1
  obtain ⟨k, rfl⟩ := Int.eq_ofNat_of_zero_le h3
  simp only [true_and, and_true, and_self, decide_eq_true_eq, decide_eq_false_iff_not, Bool.not_eq_true', Bool.not_eq_false', Bool.not_true, Bool.not_false, beq_iff_eq, beq_eq_false_iff_ne, bne_iff_ne, bne_eq_false_iff_eq, ne_eq, not_true_eq_false, not_false_eq_true, false_implies, true_implies, implies_true, forall_const, exists_const, ↓reduceIte, Int.reduceEq, Int.toNat_natCast, Bool.false_eq_true, Bool.true_eq_false, reduceCtorEq, Int.zero_add, Nat.add_zero, Int.ofNat_eq_natCast, Int.toNat_natCast]
  rw [Int.toNat_natCast] at jw q2
  obtain ⟨e1, e2⟩ := jw.af (k := j) (by omega)
  rw [u64w (by omega) (by omega), e1, bShr_bit]
  refine ⟨by omega, by omega, ⟨by omega, by rw [Int.toNat_natCast]; simp only [IntKind.bits]; omega⟩, ?_⟩
  cases (af l j).testBit k <;> rfl
def gWt : Entry := fun args H => match args with
  | [.a (.c (.slc id b z s len _)), .a (.c (.int .i64 j)), .a (.c (.int .i64 k))] => match getB H id with
    | .cells _ t [.run ks m l] => some ((t = 35 ∧ b = 0 ∧ z = 0 ∧ s = 2 ∧ ks = [.i8, .u16]) ∧ Jl len m l ∧ (0 ≤ j ∧ j < len) ∧ 0 ≤ k ∧ k < 16, .a (.c (.bool ((af l j.toNat).testBit k.toNat))))
    | _ => none
  | _ => none
theorem gWt_inv {args : List LV} {H : List Blk} {p : Prop} {r : LV} (he : gWt args H = some (p, r)) (hp : p) : ∃ (id m n : Nat) (o : Bool) (l : List Int) (cap j k : Int),
    args = [.a (.c (.slc id 0 0 2 n cap)), .a (.c (.int .i64 j)), .a (.c (.int .i64 k))] ∧ getB H id = .cells o 35 [.run [.i8, .u16] m l] ∧ r = .a (.c (.bool ((af l j.toNat).testBit k.toNat))) ∧ Jl n m l ∧ (0 ≤ j ∧ j < n) ∧ 0 ≤ k ∧ k < 16 := by
  unfold gWt at he
  split at he
  · split at he
    · rename_i id b z s len cap j k _ o t ks m l hg
      simp only [Option.some.injEq, Prod.mk.injEq] at he
      obtain ⟨rfl, rfl⟩ := he
      obtain ⟨⟨rfl, rfl, rfl, rfl, rfl⟩, h1, h2, h3⟩ := hp
      obtain ⟨n, rfl⟩ := Int.eq_ofNat_of_zero_le h1.lo
      exact ⟨id, m, n, o, l, cap, j, k, rfl, hg, rfl, h1, h2, h3⟩
    · simp at he
  · simp at he
theorem e_l07Waits : EntryOk Tryd.prog TT 12 gWt := by
  refine ⟨fnOk Tryd.func12 (by kernel_rfl) rfl, ?_⟩
  intro args H p r he hp n0 w0 β w vals hG hH hA
  obtain ⟨id, m, n, o, l, cap, j, k, rfl, hg, rfl, h1, h2, h3, h4⟩ := gWt_inv he hp
  exact entry_view tt_ok (inlN_ok tt_ok C0_ok mixed (ILz_ok).ok 4) C0_ok mixed Tryd.func12 [id] (x_waits m n l cap j k h1 h2.1 h2.2 h3 h4) rfl rfl ⟨.inr (by rw [hg]; rfl), trivial⟩ hG hH hA


def Ej1 : List (FuncId × Entry) := (46, gNext) :: (23, gIn) ::
  (12, gWt) ::
  Es1
theorem Ej1_ok : EntriesOk Tryd.prog TT Ej1 := ⟨e_isNext, e_l00In,
  e_l07Waits,
  Es1_ok⟩
abbrev Cj1 : Ctr := ctrOf Ej1
theorem Cj1_ok : CtrOk Tryd.prog TT Cj1 := ctrOf_ok Ej1_ok

end Go.Proofs.YtmjincdnhmkmhaaDoor
