/- JointsOf: both sides by their joints, and joints that come back. No conditions beyond the ranges of the kinds. -/
import Derived.Test.YtoojpgfaigedpaaRw6
set_option linter.unusedSimpArgs false
set_option linter.unusedVariables false
namespace Go.Proofs.Ytoojpgfaigedpaa
open Go.Sx Go.RowKit

/-- A list of which the first numbers are a count, wrapped. -/
def mrkS (l : List Int) (f : Int) (k : Nat) : List Int := (List.range l.length).map fun i => if i < k * 2 then IntKind.i16.wrap (f + i) else l.getD i 0
theorem mrkS_len (l : List Int) (f : Int) (k : Nat) : (mrkS l f k).length = l.length := by simp [mrkS]
theorem mrkS_get {l : List Int} {f : Int} {k i : Nat} (h : i < l.length) : (mrkS l f k).getD i 0 = if i < k * 2 then IntKind.i16.wrap (f + i) else l.getD i 0 := by
  simp [mrkS, List.getD, h]
theorem mrkS_zero (l : List Int) (f : Int) : mrkS l f 0 = l := by
  refine list_ext (mrkS_len _ _ _) fun i hi => ?_
  rw [mrkS_get hi, if_neg (by omega)]
theorem mrkS_set {l : List Int} {f x y : Int} {k : Nat} (h : k * 2 + 1 < l.length) (hx : x = IntKind.i16.wrap (f + (k * 2 : Nat))) (hy : y = IntKind.i16.wrap (f + (k * 2 + 1 : Nat))) : ((mrkS l f k).set (k * 2) x).set (k * 2 + 1) y = mrkS l f (k + 1) := by
  subst hx hy
  refine list_ext (by simp [mrkS_len]) fun i hi => ?_
  have hi : i < l.length := by rw [mrkS_len] at hi; exact hi
  rw [mrkS_get hi, List.getD_eq_getElem?_getD, List.getElem?_set, List.getElem?_set]
  by_cases e1 : k * 2 + 1 = i
  · subst e1; simp [mrkS_len, h, show k * 2 + 1 < (k + 1) * 2 by omega]
  · rw [if_neg e1]
    by_cases e2 : k * 2 = i
    · subst e2; simp [mrkS_len, hi, show k * 2 < (k + 1) * 2 by omega]
    · rw [if_neg e2, ← List.getD_eq_getElem?_getD, mrkS_get hi]
      by_cases c : i < k * 2
      · rw [if_pos c, if_pos (by omega)]
      · rw [if_neg c, if_neg (by omega)]

/-! ### What the laws ask of a stone that comes back -/
theorem mark_st {d n' : Nat} {L : List Int} {R : Nat → Prop} (h1 : d * 2 ≤ n') (hl : L.length = n') (hd : d ≤ 1000000000000) (hR : R d) :
    (∃ x : Nat, ((x : Int) ≤ (d : Int) ∨ x = 0) ∧ (1 = 1 + ((x * 2 : Nat) : Int) ∧ 0 = (x : Int)) ∧ L = mrkS L 1 x) ∧ ∀ x : Nat, ((x : Int) ≤ (d : Int) ∨ x = 0) →
      ((x : Int) < (d : Int) → (0 ≤ (x : Int) ∧ (x : Int) < (d : Int)) ∧ (0 ≤ (x : Int) ∧ x * 2 < n') ∧ (-9223372036854775808 ≤ 1 + ((x * 2 : Nat) : Int) + 1 ∧ 1 + ((x * 2 : Nat) : Int) + 1 ≤ 9223372036854775807) ∧ (0 ≤ (x : Int) ∧ (x : Int) < (d : Int)) ∧ (0 ≤ (x : Int) ∧ x * 2 + 1 < n') ∧ (-9223372036854775808 ≤ 1 + ((x * 2 : Nat) : Int) + 1 + 1 ∧ 1 + ((x * 2 : Nat) : Int) + 1 + 1 ≤ 9223372036854775807) ∧ (-9223372036854775808 ≤ (x : Int) + 1 ∧ (x : Int) + 1 ≤ 9223372036854775807) ∧
        ∃ y : Nat, ((y : Int) ≤ (d : Int) ∨ y = 0) ∧ d - y < d - x ∧ (1 + ((x * 2 : Nat) : Int) + 1 + 1 = 1 + ((y * 2 : Nat) : Int) ∧ (x : Int) + 1 = (y : Int)) ∧ ((mrkS L 1 x).set (x * 2) (IntKind.i16.wrap (1 + ((x * 2 : Nat) : Int)))).set (x * 2 + 1) (IntKind.i16.wrap (1 + ((x * 2 : Nat) : Int) + 1)) = mrkS L 1 y) ∧ (¬ (x : Int) < (d : Int) → R x) :=
  ⟨⟨0, .inr rfl, ⟨rfl, rfl⟩, (mrkS_zero _ _).symm⟩, fun x hx => ⟨fun hlt => ⟨by omega, by omega, by omega, by omega, by omega, by omega, by omega, x + 1, .inl (by omega), by omega, ⟨by omega, by omega⟩, mrkS_set (by omega) rfl (by rw [show (1 : Int) + ((x * 2 : Nat) : Int) + 1 = 1 + ((x * 2 + 1 : Nat) : Int) by omega])⟩, fun hge => by
    obtain rfl : x = d := by omega
    exact hR⟩⟩

theorem held_st {d n' : Nat} {L : List Int} {R : Nat → Prop} (h1 : d * 2 ≤ n') (hl : L.length = n') (hd : d ≤ 1000000000000) (hR : R d) :
    (∃ x : Nat, ((x : Int) ≤ (d : Int) ∨ x = 0) ∧ 1 = 1 + ((x * 2 : Nat) : Int) ∧ 0 = (x : Int)) ∧ ∀ x : Nat, ((x : Int) ≤ (d : Int) ∨ x = 0) →
      ((x : Int) < (d : Int) → (0 ≤ (x : Int) ∧ (x : Int) < (d : Int)) ∧ (0 ≤ (x : Int) ∧ x * 2 < n') ∧ (¬ (mrkS L 1 d).getD (x * 2) 0 = IntKind.i16.wrap (1 + ((x * 2 : Nat) : Int)) → False) ∧ ((mrkS L 1 d).getD (x * 2) 0 = IntKind.i16.wrap (1 + ((x * 2 : Nat) : Int)) → (-9223372036854775808 ≤ 1 + ((x * 2 : Nat) : Int) + 1 ∧ 1 + ((x * 2 : Nat) : Int) + 1 ≤ 9223372036854775807) ∧ (0 ≤ (x : Int) ∧ (x : Int) < (d : Int)) ∧ (0 ≤ (x : Int) ∧ x * 2 + 1 < n') ∧ (¬ (mrkS L 1 d).getD (x * 2 + 1) 0 = IntKind.i16.wrap (1 + ((x * 2 : Nat) : Int) + 1) → False) ∧ ((mrkS L 1 d).getD (x * 2 + 1) 0 = IntKind.i16.wrap (1 + ((x * 2 : Nat) : Int) + 1) → (-9223372036854775808 ≤ 1 + ((x * 2 : Nat) : Int) + 1 + 1 ∧ 1 + ((x * 2 : Nat) : Int) + 1 + 1 ≤ 9223372036854775807) ∧ (-9223372036854775808 ≤ (x : Int) + 1 ∧ (x : Int) + 1 ≤ 9223372036854775807) ∧
        ∃ y : Nat, ((y : Int) ≤ (d : Int) ∨ y = 0) ∧ d - y < d - x ∧ 1 + ((x * 2 : Nat) : Int) + 1 + 1 = 1 + ((y * 2 : Nat) : Int) ∧ (x : Int) + 1 = (y : Int)))) ∧ (¬ (x : Int) < (d : Int) → R x) :=
  ⟨⟨0, .inr rfl, rfl, rfl⟩, fun x hx => ⟨fun hlt => ⟨by omega, by omega, fun h => h (by rw [mrkS_get (by omega), if_pos (by omega)]), fun _ => ⟨by omega, by omega, by omega, fun h => h (by rw [mrkS_get (by omega), if_pos (by omega), show (1 : Int) + ((x * 2 : Nat) : Int) + 1 = 1 + ((x * 2 + 1 : Nat) : Int) by omega]), fun _ => ⟨by omega, by omega, x + 1, .inl (by omega), by omega, by omega, by omega⟩⟩⟩, fun hge => by
    obtain rfl : x = d := by omega
    exact hR⟩⟩

def lmMkS : LAnn := { ι := Nat, inv := fun st k => (k : Int) ≤ slN st 0 ∨ k = 0, slots := fun st k => [(1, .a (.c (.int .i64 (slotI st 1 + (k * 2 : Nat))))), (5, .a (.c (.int .i64 k)))], blks := fun st k => slB st 0 [.run [.i16] (slM st 0) (mrkS (slL st 0) (slotI st 1) k)], μ := fun st k => (slN st 0).toNat - k }
def lmHeS : LAnn := { ι := Nat, inv := fun st k => (k : Int) ≤ slN st 0 ∨ k = 0, slots := fun st k => [(1, .a (.c (.int .i64 (slotI st 1 + (k * 2 : Nat))))), (5, .a (.c (.int .i64 k)))], blks := fun _ _ => [], μ := fun st k => (slN st 0).toNat - k }
noncomputable def ILmj  : List (FuncId × Func × (Nat → LM)) := [
  (16, Try.f16, fun _ => .inv lmMkR),
  (17, Try.f17, fun _ => .inv lmHeR),
  (26, Try.f26, fun _ => .inv lmMkS),
  (27, Try.f27, fun _ => .inv lmHeS)]
theorem ILmj_ok  : InlsOk Try.prog ILmj := ⟨⟨Try.func16, by kernel_rfl⟩, ⟨Try.func17, by kernel_rfl⟩, ⟨Try.func26, by kernel_rfl⟩, ⟨Try.func27, by kernel_rfl⟩, trivial⟩

theorem x_eqJoint (a b : List Int) : Fex true TT (inlN true TT C0 (lookI []) 4) C0 U0 Try.f70 [.a (.agg [.run [.i16] 2 a]), .a (.agg [.run [.i16] 2 b])] [] (fun lv _ => leL lv (.a (.c (.bool (eqE 2 a b))))) := by
  refine Go.Sx.by_eq (q := True ∧ True ∧ True ∧ True ∧ True ∧ True ∧ True ∧ True ∧ ((List.getD a (0 : Nat) (0 : Int) != List.getD b (0 : Nat) (0 : Int)) = Bool.true → True ∧ Go.Proofs.Ytoojpgfaigedpaa.eqE (2 : Nat) a b = Bool.false) ∧ ((List.getD a (0 : Nat) (0 : Int) != List.getD b (0 : Nat) (0 : Int)) = Bool.false → True ∧ True ∧ True ∧ True ∧ True ∧ ((List.getD a (1 : Nat) (0 : Int) != List.getD b (1 : Nat) (0 : Int)) = Bool.true → True ∧ Go.Proofs.Ytoojpgfaigedpaa.eqE (2 : Nat) a b = Bool.false) ∧ ((List.getD a (1 : Nat) (0 : Int) != List.getD b (1 : Nat) (0 : Int)) = Bool.false → True ∧ Go.Proofs.Ytoojpgfaigedpaa.eqE (2 : Nat) a b = Bool.true))) (by kernel_rfl) ?_
  simp only [eqE2]
  cases h0 : (a.getD 0 0 == b.getD 0 0) <;> cases h1 : (a.getD 1 0 == b.getD 1 0) <;> simp_all
def gEqJ : Entry := fun args _ => match args with
  | [.a (.agg [.run [.i16] 2 a]), .a (.agg [.run [.i16] 2 b])] => some (True, .a (.c (.bool (eqE 2 a b))))
  | _ => none
noncomputable def ILjz  : List (FuncId × Func × (Nat → LM)) := [
  ]
theorem ILjz_ok  : InlsOk Try.prog ILjz := trivial
theorem e_eqJoint : EntryOk Try.prog TT 70 gEqJ := by
  refine ⟨fnOk Try.func70 (by kernel_rfl) rfl, ?_⟩
  intro args H p r he hp n0 w0 β w vals hG hH hA
  unfold gEqJ at he
  split at he
  · simp only [Option.some.injEq, Prod.mk.injEq] at he
    obtain ⟨rfl, rfl⟩ := he
    exact entry_bare tt_ok (inlN_ok tt_ok C0_ok mixed (ILjz_ok).ok 4) C0_ok mixed Try.func70 (x_eqJoint _ _) rfl rfl hG hH hA
  · simp at he

def Ej0 : List (FuncId × Entry) := [(70, gEqJ)]
theorem Ej0_ok : EntriesOk Try.prog TT Ej0 := ⟨e_eqJoint, trivial⟩
abbrev Cj0 : Ctr := ctrOf Ej0
theorem Cj0_ok : CtrOk Try.prog TT Cj0 := ctrOf_ok Ej0_ok
theorem x_eqJointS (n1 n2 : Nat) (l1 l2 : List Int) (c1 c2 len1 len2 : Int) (h1 : 0 ≤ len1) (h2 : len1 ≤ 1048576) (h3 : 0 ≤ len2) (h4 : len1.toNat * 2 ≤ n1) (h5 : len2.toNat * 2 ≤ n2) (e1 : l1.length = n1) (e2 : l2.length = n2) : Fex true TT (inlN true TT Cj0 (lookI ILjz) 4) Cj0 (fun _ => .inv (lmEq 5 2 len1 l1 l2)) Try.f25 [.a (.c (.slc 0 0 0 2 len1 c1)), .a (.c (.slc 1 0 0 2 len2 c2))] [.cells false 85 [.run [.i16] n1 l1], .cells false 85 [.run [.i16] n2 l2]] (fun lv _ => leL lv (.a (.c (.bool (eqSl 2 len1 len2 l1 l2))))) := by
  refine Go.Sx.by_eq (q := True ∧ True ∧ True ∧ True ∧ True ∧ True ∧ ((len1 != len2) = Bool.true → True ∧ Go.Proofs.Ytoojpgfaigedpaa.eqSl (2 : Nat) len1 len2 l1 l2 = Bool.false) ∧ ((len1 != len2) = Bool.false → True ∧ (∃ (x : Nat), (x ≤ Int.toNat len1 ∧ ∀ (i : Nat), i < x * (2 : Nat) → List.getD l1 i (0 : Int) = List.getD l2 i (0 : Int)) ∧ (Go.Sx.Cel.slc (0 : Nat) (0 : Nat) (0 : Int) (2 : Nat) len1 c1 = Go.Sx.Cel.slc (0 : Nat) (0 : Nat) (0 : Int) (2 : Nat) len1 c1 ∧ Go.Sx.Cel.slc (1 : Nat) (0 : Nat) (0 : Int) (2 : Nat) len2 c2 = Go.Sx.Cel.slc (1 : Nat) (0 : Nat) (0 : Int) (2 : Nat) len2 c2 ∧ Go.Sx.Cel.val Go.undef = Go.Sx.Cel.val Go.undef ∧ Go.Sx.Cel.val Go.undef = Go.Sx.Cel.val Go.undef ∧ True ∧ (Go.IntKind.i64 = Go.IntKind.i64 ∧ (0 : Int) = (↑x : Int)) ∧ Go.Sx.Cel.slc (0 : Nat) (0 : Nat) (0 : Int) (2 : Nat) len1 c1 = Go.Sx.Cel.slc (0 : Nat) (0 : Nat) (0 : Int) (2 : Nat) len1 c1 ∧ (Go.IntKind.i64 = Go.IntKind.i64 ∧ len1 = len1) ∧ Go.Sx.Cel.slc (1 : Nat) (0 : Nat) (0 : Int) (2 : Nat) len2 c2 = Go.Sx.Cel.slc (1 : Nat) (0 : Nat) (0 : Int) (2 : Nat) len2 c2 ∧ (Go.IntKind.i64 = Go.IntKind.i64 ∧ len2 = len2) ∧ (len1 != len2) = (len1 != len2) ∧ True ∧ True ∧ True ∧ True ∧ True ∧ True ∧ True ∧ True ∧ True ∧ True ∧ True ∧ True ∧ True ∧ True ∧ True ∧ True ∧ True) ∧ (Bool.false = Bool.false ∧ (85 : Nat) = (85 : Nat) ∧ ([Go.Sx.EK.i16] = [Go.Sx.EK.i16] ∧ n1 = n1 ∧ l1 = l1) ∧ True) ∧ (Bool.false = Bool.false ∧ (85 : Nat) = (85 : Nat) ∧ ([Go.Sx.EK.i16] = [Go.Sx.EK.i16] ∧ n2 = n2 ∧ l2 = l2) ∧ True) ∧ True) ∧ ∀ (x : Nat), (x ≤ Int.toNat len1 ∧ ∀ (i : Nat), i < x * (2 : Nat) → List.getD l1 i (0 : Int) = List.getD l2 i (0 : Int)) → True ∧ True ∧ True ∧ True ∧ (Decidable.decide ((↑x : Int) < len1) = Bool.true → True ∧ True ∧ ((0 : Int) ≤ (↑x : Int) ∧ (↑x : Int) < len1) ∧ ((0 : Int) ≤ (0 : Int) + (↑x : Int) ∧ Int.toNat ((0 : Int) + (↑x : Int)) * (2 : Nat) + (0 : Nat) + (2 : Nat) ≤ n1) ∧ True ∧ True ∧ ((0 : Int) ≤ (↑x : Int) ∧ (↑x : Int) < len2) ∧ ((0 : Int) ≤ (0 : Int) + (↑x : Int) ∧ Int.toNat ((0 : Int) + (↑x : Int)) * (2 : Nat) + (0 : Nat) + (2 : Nat) ≤ n2) ∧ True ∧ True ∧ ((!Go.Proofs.Ytoojpgfaigedpaa.eqE (2 : Nat) (List.take (2 : Nat) (List.drop (Int.toNat ((0 : Int) + (↑x : Int)) * (2 : Nat) + (0 : Nat)) l1)) (List.take (2 : Nat) (List.drop (Int.toNat ((0 : Int) + (↑x : Int)) * (2 : Nat) + (0 : Nat)) l2))) = Bool.true → True ∧ Go.Proofs.Ytoojpgfaigedpaa.eqSl (2 : Nat) len1 len2 l1 l2 = Bool.false) ∧ ((!Go.Proofs.Ytoojpgfaigedpaa.eqE (2 : Nat) (List.take (2 : Nat) (List.drop (Int.toNat ((0 : Int) + (↑x : Int)) * (2 : Nat) + (0 : Nat)) l1)) (List.take (2 : Nat) (List.drop (Int.toNat ((0 : Int) + (↑x : Int)) * (2 : Nat) + (0 : Nat)) l2))) = Bool.false → True ∧ ((-9223372036854775808 : Int) ≤ (↑x : Int) + (1 : Int) ∧ (↑x : Int) + (1 : Int) ≤ (9223372036854775807 : Int)) ∧ True ∧ ∃ (y : Nat), (y ≤ Int.toNat len1 ∧ ∀ (i : Nat), i < y * (2 : Nat) → List.getD l1 i (0 : Int) = List.getD l2 i (0 : Int)) ∧ Int.toNat len1 - y < Int.toNat len1 - x ∧ (Go.Sx.Cel.slc (0 : Nat) (0 : Nat) (0 : Int) (2 : Nat) len1 c1 = Go.Sx.Cel.slc (0 : Nat) (0 : Nat) (0 : Int) (2 : Nat) len1 c1 ∧ Go.Sx.Cel.slc (1 : Nat) (0 : Nat) (0 : Int) (2 : Nat) len2 c2 = Go.Sx.Cel.slc (1 : Nat) (0 : Nat) (0 : Int) (2 : Nat) len2 c2 ∧ Go.Sx.Cel.val Go.undef = Go.Sx.Cel.val Go.undef ∧ Go.Sx.Cel.val Go.undef = Go.Sx.Cel.val Go.undef ∧ True ∧ (Go.IntKind.i64 = Go.IntKind.i64 ∧ (↑x : Int) + (1 : Int) = (↑y : Int)) ∧ Go.Sx.Cel.slc (0 : Nat) (0 : Nat) (0 : Int) (2 : Nat) len1 c1 = Go.Sx.Cel.slc (0 : Nat) (0 : Nat) (0 : Int) (2 : Nat) len1 c1 ∧ (Go.IntKind.i64 = Go.IntKind.i64 ∧ len1 = len1) ∧ Go.Sx.Cel.slc (1 : Nat) (0 : Nat) (0 : Int) (2 : Nat) len2 c2 = Go.Sx.Cel.slc (1 : Nat) (0 : Nat) (0 : Int) (2 : Nat) len2 c2 ∧ (Go.IntKind.i64 = Go.IntKind.i64 ∧ len2 = len2) ∧ (len1 != len2) = (len1 != len2) ∧ True ∧ True ∧ True ∧ True ∧ True ∧ True ∧ True ∧ True ∧ True ∧ True ∧ True ∧ True ∧ True ∧ True ∧ True ∧ True ∧ True) ∧ (Bool.false = Bool.false ∧ (85 : Nat) = (85 : Nat) ∧ ([Go.Sx.EK.i16] = [Go.Sx.EK.i16] ∧ n1 = n1 ∧ l1 = l1) ∧ True) ∧ (Bool.false = Bool.false ∧ (85 : Nat) = (85 : Nat) ∧ ([Go.Sx.EK.i16] = [Go.Sx.EK.i16] ∧ n2 = n2 ∧ l2 = l2) ∧ True) ∧ True)) ∧ (Decidable.decide ((↑x : Int) < len1) = Bool.false → True ∧ Go.Proofs.Ytoojpgfaigedpaa.eqSl (2 : Nat) len1 len2 l1 l2 = Bool.true))) (by kernel_rfl) ?_
  have e0 : ∀ a b : List Int, eqE 2 a b = eqE 2 a b := fun a b => by rfl
  simp only [e0]
  simp only [true_and, and_true, and_self, decide_eq_true_eq, decide_eq_false_iff_not, Bool.not_eq_true', Bool.not_eq_false', Bool.not_true, Bool.not_false, beq_iff_eq, beq_eq_false_iff_ne, bne_iff_ne, bne_eq_false_iff_eq, ne_eq, not_true_eq_false, not_false_eq_true, false_implies, true_implies, implies_true, forall_const, exists_const, ↓reduceIte, Int.reduceEq, Int.toNat_natCast, Bool.false_eq_true, Bool.true_eq_false, reduceCtorEq, Int.zero_add, Nat.add_zero]
  refine ⟨fun h => eqSl_ne h, fun hn => ⟨⟨0, ⟨by omega, fun i hi => by omega⟩, rfl⟩, ?_⟩⟩
  rintro k ⟨hk, hp⟩
  refine ⟨fun hlt => ?_, fun hge => eqSl_yes hn (by omega) (by omega) fun i hi => hp i (by omega)⟩
  repeat' (first | omega | apply And.intro)
  · exact fun hc => by first | exact eqE_stop (by omega) hc | exact eqE_stop' (by omega) (by omega) (by omega) hc
  · exact fun hc => ⟨by omega, k + 1, ⟨by omega, by first | exact eqE_step hp hc | exact eqE_step' (by omega) (by omega) hp hc⟩, by omega, by omega⟩

theorem e_eqJointS : EntryOk Try.prog TT 25 (gEqR 85 2 [.i16]) := by
  refine ⟨fnOk Try.func25 (by kernel_rfl) rfl, ?_⟩
  intro args H p r he hp n0 w0 β w vals hG hH hA
  obtain ⟨i1, i2, o1, o2, n1, n2, l1, l2, c1, c2, len1, len2, rfl, hg1, hg2, rfl, h1, h2, h3, h4, h5, h6, h7⟩ := gEqR_inv he hp
  exact entry_view tt_ok (inlN_ok tt_ok Cj0_ok mixed ILjz_ok.ok 4) Cj0_ok mixed Try.func25 [i1, i2] (x_eqJointS n1 n2 l1 l2 c1 c2 len1 len2 h1 h2 h3 h4 h5 h6 h7) rfl rfl ⟨.inr (by rw [hg1]; rfl), .inr (by rw [hg2]; rfl), trivial⟩ hG hH hA


/-! ### JointsOf -/
noncomputable def joK (n : Nat) (l : List Int) (seam : Int) : Nat := if asE n l seam = 0 then n - 1 else 0
noncomputable def joF (n : Nat) (l : List Int) (seam : Int) : List Int := mkN (joK n l seam * 2) (jtV seam l)
theorem jo_e {n : Nat} {l : List Int} {seam E : Int} (he : asE n l seam = E) (hE : E ≠ 0) : joK n l seam = 0 ∧ joF n l seam = [] ∧ E = asE n l seam := by
  have k : joK n l seam = 0 := by rw [joK, if_neg (by omega)]
  exact ⟨k, by rw [joF, k]; rfl, he.symm⟩
theorem jo_0 {n : Nat} {l : List Int} {seam : Int} (he : asE n l seam = 0) : joK n l seam = n - 1 ∧ joF n l seam = mkN ((n - 1) * 2) (jtV seam l) ∧ 0 = asE n l seam := by
  have k : joK n l seam = n - 1 := by rw [joK, if_pos he]
  exact ⟨k, by rw [joF, k], he.symm⟩
noncomputable def ILos  : List (FuncId × Func × (Nat → LM)) := [
  (61, Try.f61, U0),
  (91, Try.f91, U0),
  (50, Try.f50, U0)]
theorem ILos_ok  : InlsOk Try.prog ILos := ⟨⟨Try.func61, by kernel_rfl⟩, ⟨Try.func91, by kernel_rfl⟩, ⟨Try.func50, by kernel_rfl⟩, trivial⟩
noncomputable def ILoi  : List (FuncId × Func × (Nat → LM)) := [
  (68, Try.f68, U0),
  (53, Try.f53, U0)]
theorem ILoi_ok  : InlsOk Try.prog ILoi := ⟨⟨Try.func68, by kernel_rfl⟩, ⟨Try.func53, by kernel_rfl⟩, trivial⟩
set_option maxHeartbeats 1000000 in
theorem x_JointsOfS (m n : Nat) (l : List Int) (cap : Int) (h0 : (n : Int) ≤ cap) (h1 : n ≤ 1048576) (h3 : n ≤ m) (h4 : l.length = m) (hw : w16 n l) (seam : Int) : Fex true TT (inlN true TT Cjt (lookI ILos) 4) Cjt U0 Try.f23 [.a (.c (.slc 0 0 0 1 n cap)), .a (.c (.int .i64 seam))] [.cells false 70 [.run [.i16] m l]]
    (fun lv H' => ∃ x : Nat × List Int × Int, Gq 2 (joK n l seam) (joF n l seam) x.1 x.2.1 x.2.2 ∧ leSt ⟨[lv], H'⟩ ⟨[rnL ([0].length + ·) (.tup [.c (.slc 0 0 0 2 (joK n l seam) x.2.2), .c (.int .i64 (asE n l seam))])], deadsN [0].length ++ [.cells true 85 [.run [.i16] x.1 x.2.1]]⟩ [0].length (resB lv)) := by
  refine Go.Sx.by_eq (q := True ∧ True ∧ True ∧ True ∧ True ∧ True ∧ (((70 : Nat) = (70 : Nat) ∧ (0 : Nat) = (0 : Nat) ∧ (0 : Int) = (0 : Int) ∧ (1 : Nat) = (1 : Nat) ∧ [Go.Sx.EK.i16] = [Go.Sx.EK.i16]) ∧ Go.Proofs.Ytoojpgfaigedpaa.RwP (↑n : Int) m l) ∧ True ∧ ((!Go.Proofs.Ytoojpgfaigedpaa.rwB (Int.toNat (↑n : Int)) l) = Bool.true → True ∧ True ∧ True ∧ True ∧ True ∧ True ∧ True ∧ True ∧ ∃ (x : Nat × List Int × Int), Go.Proofs.Ytoojpgfaigedpaa.Gq (2 : Nat) (Go.Proofs.Ytoojpgfaigedpaa.joK n l seam) (Go.Proofs.Ytoojpgfaigedpaa.joF n l seam) x.fst x.snd.fst x.snd.snd ∧ ((Go.Sx.Cel.slc (1 : Nat) (0 : Nat) (0 : Int) (2 : Nat) (0 : Int) (0 : Int) = Go.Sx.Cel.slc (1 : Nat) (0 : Nat) (0 : Int) (2 : Nat) (↑(Go.Proofs.Ytoojpgfaigedpaa.joK n l seam) : Int) x.snd.snd ∧ (Go.IntKind.i64 = Go.IntKind.i64 ∧ (1 : Int) = Go.Proofs.Ytoojpgfaigedpaa.asE n l seam) ∧ True) ∧ True) ∧ True ∧ (Bool.true = Bool.true ∧ (85 : Nat) = (85 : Nat) ∧ ([Go.Sx.EK.i16] = [Go.Sx.EK.i16] ∧ (0 : Nat) = x.fst ∧ [] = x.snd.fst) ∧ True) ∧ True) ∧ ((!Go.Proofs.Ytoojpgfaigedpaa.rwB (Int.toNat (↑n : Int)) l) = Bool.false → True ∧ True ∧ True ∧ True ∧ True ∧ True ∧ True ∧ True ∧ (Decidable.decide ((0 : Int) ≤ seam) = Bool.true → True ∧ True ∧ True ∧ True ∧ True ∧ True ∧ True ∧ ((!Decidable.decide (seam ≤ (200 : Int))) = Bool.true → True ∧ True ∧ True ∧ True ∧ True ∧ True ∧ True ∧ True ∧ ∃ (x : Nat × List Int × Int), Go.Proofs.Ytoojpgfaigedpaa.Gq (2 : Nat) (Go.Proofs.Ytoojpgfaigedpaa.joK n l seam) (Go.Proofs.Ytoojpgfaigedpaa.joF n l seam) x.fst x.snd.fst x.snd.snd ∧ ((Go.Sx.Cel.slc (1 : Nat) (0 : Nat) (0 : Int) (2 : Nat) (0 : Int) (0 : Int) = Go.Sx.Cel.slc (1 : Nat) (0 : Nat) (0 : Int) (2 : Nat) (↑(Go.Proofs.Ytoojpgfaigedpaa.joK n l seam) : Int) x.snd.snd ∧ (Go.IntKind.i64 = Go.IntKind.i64 ∧ (2 : Int) = Go.Proofs.Ytoojpgfaigedpaa.asE n l seam) ∧ True) ∧ True) ∧ True ∧ (Bool.true = Bool.true ∧ (85 : Nat) = (85 : Nat) ∧ ([Go.Sx.EK.i16] = [Go.Sx.EK.i16] ∧ (0 : Nat) = x.fst ∧ [] = x.snd.fst) ∧ True) ∧ True) ∧ ((!Decidable.decide (seam ≤ (200 : Int))) = Bool.false → True ∧ True ∧ True ∧ True ∧ True ∧ True ∧ (((70 : Nat) = (70 : Nat) ∧ (0 : Nat) = (0 : Nat) ∧ (0 : Int) = (0 : Int) ∧ (1 : Nat) = (1 : Nat) ∧ [Go.Sx.EK.i16] = [Go.Sx.EK.i16]) ∧ Go.Proofs.Ytoojpgfaigedpaa.RwP (↑n : Int) m l ∧ (↑n : Int) ≤ cap ∧ Go.Proofs.Ytoojpgfaigedpaa.rwB (Int.toNat (↑n : Int)) l = Bool.true ∧ (0 : Int) ≤ seam ∧ seam ≤ (200 : Int)) ∧ ∀ (N : Nat) (L : List Int) (cp : Int), Go.Proofs.Ytoojpgfaigedpaa.Gq (2 : Nat) (Int.toNat (↑n : Int) - (1 : Nat)) (Go.Proofs.Ytoojpgfaigedpaa.mkN ((Int.toNat (↑n : Int) - (1 : Nat)) * (2 : Nat)) (Go.Proofs.Ytoojpgfaigedpaa.jtV seam l)) N L cp → True ∧ True ∧ ∃ (x : Nat × List Int × Int), Go.Proofs.Ytoojpgfaigedpaa.Gq (2 : Nat) (Go.Proofs.Ytoojpgfaigedpaa.joK n l seam) (Go.Proofs.Ytoojpgfaigedpaa.joF n l seam) x.fst x.snd.fst x.snd.snd ∧ ((Go.Sx.Cel.slc (1 : Nat) (0 : Nat) (0 : Int) (2 : Nat) (↑(Int.toNat (↑n : Int) - (1 : Nat)) : Int) cp = Go.Sx.Cel.slc (1 : Nat) (0 : Nat) (0 : Int) (2 : Nat) (↑(Go.Proofs.Ytoojpgfaigedpaa.joK n l seam) : Int) x.snd.snd ∧ (Go.IntKind.i64 = Go.IntKind.i64 ∧ (0 : Int) = Go.Proofs.Ytoojpgfaigedpaa.asE n l seam) ∧ True) ∧ True) ∧ True ∧ (Bool.true = Bool.true ∧ (85 : Nat) = (85 : Nat) ∧ ([Go.Sx.EK.i16] = [Go.Sx.EK.i16] ∧ N = x.fst ∧ L = x.snd.fst) ∧ True) ∧ True)) ∧ (Decidable.decide ((0 : Int) ≤ seam) = !Bool.true → True ∧ True ∧ True ∧ True ∧ True ∧ True ∧ True ∧ True ∧ True ∧ True ∧ True ∧ True ∧ ∃ (x : Nat × List Int × Int), Go.Proofs.Ytoojpgfaigedpaa.Gq (2 : Nat) (Go.Proofs.Ytoojpgfaigedpaa.joK n l seam) (Go.Proofs.Ytoojpgfaigedpaa.joF n l seam) x.fst x.snd.fst x.snd.snd ∧ ((Go.Sx.Cel.slc (1 : Nat) (0 : Nat) (0 : Int) (2 : Nat) (0 : Int) (0 : Int) = Go.Sx.Cel.slc (1 : Nat) (0 : Nat) (0 : Int) (2 : Nat) (↑(Go.Proofs.Ytoojpgfaigedpaa.joK n l seam) : Int) x.snd.snd ∧ (Go.IntKind.i64 = Go.IntKind.i64 ∧ (2 : Int) = Go.Proofs.Ytoojpgfaigedpaa.asE n l seam) ∧ True) ∧ True) ∧ True ∧ (Bool.true = Bool.true ∧ (85 : Nat) = (85 : Nat) ∧ ([Go.Sx.EK.i16] = [Go.Sx.EK.i16] ∧ (0 : Nat) = x.fst ∧ [] = x.snd.fst) ∧ True) ∧ True))) (by kernel_rfl) ?_
  simp only [true_and, and_true, and_self, decide_eq_true_eq, decide_eq_false_iff_not, Bool.not_eq_true', Bool.not_eq_false', Bool.not_true, Bool.not_false, beq_iff_eq, beq_eq_false_iff_ne, bne_iff_ne, bne_eq_false_iff_eq, ne_eq, not_true_eq_false, not_false_eq_true, false_implies, true_implies, implies_true, forall_const, exists_const, ↓reduceIte, Int.reduceEq, Int.toNat_natCast, Bool.false_eq_true, Bool.true_eq_false, reduceCtorEq, Int.zero_add, Nat.add_zero, Int.ofNat_eq_natCast, Int.toNat_natCast, Nat.mul_one, Cel.slc.injEq, List.drop_zero, Int.toNat_zero, List.take_succ_cons, List.take_zero, Nat.zero_add]
  have rp : RwP (n : Int) m l := ⟨by omega, by omega, by simpa using h3, h4, by simpa using hw⟩
  have er : ∀ E : Int, E ≠ 0 → asE n l seam = E → ∃ x : Nat × List Int × Int, Gq 2 (joK n l seam) (joF n l seam) x.1 x.2.1 x.2.2 ∧ ((0 = (joK n l seam : Int) ∧ 0 = x.2.2) ∧ E = asE n l seam) ∧ 0 = x.1 ∧ [] = x.2.1 := fun E hE he => by
    obtain ⟨k, f, e⟩ := jo_e he hE
    exact gq_errP k f e
  refine ⟨rp, fun e => er 1 (by omega) (asE_1 e), fun e => ⟨fun q1 => ⟨fun q2 => er 2 (by omega) (asE_2 e (by omega)), fun q2 => ?_⟩, fun q1 => er 2 (by omega) (asE_2 e (by omega))⟩⟩
  refine ⟨⟨rp, h0, e, q1, q2⟩, fun N L cp g => ?_⟩
  obtain ⟨k, f, c⟩ := jo_0 (asE_0 e ⟨q1, q2⟩)
  rw [k, f]
  exact ⟨(N, L, cp), g, ⟨⟨rfl, rfl⟩, c⟩, rfl, rfl⟩
set_option maxHeartbeats 1000000 in
theorem x_JointsOfI (m n : Nat) (l : List Int) (cap : Int) (h0 : (n : Int) ≤ cap) (h1 : n ≤ 1048576) (h3 : n ≤ m) (h4 : l.length = m) (hw : w16 n l) (seam : Int) : Fex true TT (inlN true TT Cjt (lookI ILoi) 4) Cjt U0 Try.f24 [.a (.c (.slc 0 0 0 1 n cap)), .a (.c (.int .i64 seam))] [.cells false 70 [.run [.i16] m l]]
    (fun lv H' => ∃ x : Nat × List Int × Int, Gq 2 (joK n l seam) (joF n l seam) x.1 x.2.1 x.2.2 ∧ leSt ⟨[lv], H'⟩ ⟨[rnL ([0].length + ·) (.tup [.c (.slc 0 0 0 2 (joK n l seam) x.2.2), .c (.int .i64 (asE n l seam))])], deadsN [0].length ++ [.cells true 85 [.run [.i16] x.1 x.2.1]]⟩ [0].length (resB lv)) := by
  refine Go.Sx.by_eq (q := True ∧ True ∧ True ∧ True ∧ True ∧ True ∧ True ∧ True ∧ True ∧ True ∧ (((70 : Nat) = (70 : Nat) ∧ (0 : Nat) = (0 : Nat) ∧ (0 : Int) = (0 : Int) ∧ (1 : Nat) = (1 : Nat) ∧ [Go.Sx.EK.i16] = [Go.Sx.EK.i16]) ∧ Go.Proofs.Ytoojpgfaigedpaa.RwP (↑n : Int) m l) ∧ True ∧ ((!Go.Proofs.Ytoojpgfaigedpaa.rwB (Int.toNat (↑n : Int)) l) = Bool.true → True ∧ True ∧ True ∧ True ∧ True ∧ True ∧ True ∧ ∃ (x : Nat × List Int × Int), Go.Proofs.Ytoojpgfaigedpaa.Gq (2 : Nat) (Go.Proofs.Ytoojpgfaigedpaa.joK n l seam) (Go.Proofs.Ytoojpgfaigedpaa.joF n l seam) x.fst x.snd.fst x.snd.snd ∧ ((((0 : Int) = (0 : Int) ∧ (↑(Go.Proofs.Ytoojpgfaigedpaa.joK n l seam) : Int) = (0 : Int) ∧ x.snd.snd = (0 : Int)) ∧ (Go.IntKind.i64 = Go.IntKind.i64 ∧ (1 : Int) = Go.Proofs.Ytoojpgfaigedpaa.asE n l seam) ∧ True) ∧ True) ∧ True ∧ (x.fst = (0 : Nat) ∧ x.snd.fst = []) ∧ True) ∧ ((!Go.Proofs.Ytoojpgfaigedpaa.rwB (Int.toNat (↑n : Int)) l) = Bool.false → True ∧ True ∧ True ∧ True ∧ True ∧ (Decidable.decide ((0 : Int) ≤ seam) = Bool.true → True ∧ True ∧ True ∧ True ∧ True ∧ ((!Decidable.decide (seam ≤ (200 : Int))) = Bool.true → True ∧ True ∧ True ∧ True ∧ True ∧ True ∧ True ∧ ∃ (x : Nat × List Int × Int), Go.Proofs.Ytoojpgfaigedpaa.Gq (2 : Nat) (Go.Proofs.Ytoojpgfaigedpaa.joK n l seam) (Go.Proofs.Ytoojpgfaigedpaa.joF n l seam) x.fst x.snd.fst x.snd.snd ∧ ((((0 : Int) = (0 : Int) ∧ (↑(Go.Proofs.Ytoojpgfaigedpaa.joK n l seam) : Int) = (0 : Int) ∧ x.snd.snd = (0 : Int)) ∧ (Go.IntKind.i64 = Go.IntKind.i64 ∧ (2 : Int) = Go.Proofs.Ytoojpgfaigedpaa.asE n l seam) ∧ True) ∧ True) ∧ True ∧ (x.fst = (0 : Nat) ∧ x.snd.fst = []) ∧ True) ∧ ((!Decidable.decide (seam ≤ (200 : Int))) = Bool.false → True ∧ True ∧ (((70 : Nat) = (70 : Nat) ∧ (0 : Nat) = (0 : Nat) ∧ (0 : Int) = (0 : Int) ∧ (1 : Nat) = (1 : Nat) ∧ [Go.Sx.EK.i16] = [Go.Sx.EK.i16]) ∧ Go.Proofs.Ytoojpgfaigedpaa.RwP (↑n : Int) m l ∧ (↑n : Int) ≤ cap ∧ Go.Proofs.Ytoojpgfaigedpaa.rwB (Int.toNat (↑n : Int)) l = Bool.true ∧ (0 : Int) ≤ seam ∧ seam ≤ (200 : Int)) ∧ ∀ (N : Nat) (L : List Int) (cp : Int), Go.Proofs.Ytoojpgfaigedpaa.Gq (2 : Nat) (Int.toNat (↑n : Int) - (1 : Nat)) (Go.Proofs.Ytoojpgfaigedpaa.mkN ((Int.toNat (↑n : Int) - (1 : Nat)) * (2 : Nat)) (Go.Proofs.Ytoojpgfaigedpaa.jtV seam l)) N L cp → True ∧ True ∧ True ∧ True ∧ True ∧ True ∧ ∃ (x : Nat × List Int × Int), Go.Proofs.Ytoojpgfaigedpaa.Gq (2 : Nat) (Go.Proofs.Ytoojpgfaigedpaa.joK n l seam) (Go.Proofs.Ytoojpgfaigedpaa.joF n l seam) x.fst x.snd.fst x.snd.snd ∧ ((Go.Sx.Cel.slc (1 : Nat) (0 : Nat) (0 : Int) (2 : Nat) (↑(Int.toNat (↑n : Int) - (1 : Nat)) : Int) cp = Go.Sx.Cel.slc (1 : Nat) (0 : Nat) (0 : Int) (2 : Nat) (↑(Go.Proofs.Ytoojpgfaigedpaa.joK n l seam) : Int) x.snd.snd ∧ (Go.IntKind.i64 = Go.IntKind.i64 ∧ (0 : Int) = Go.Proofs.Ytoojpgfaigedpaa.asE n l seam) ∧ True) ∧ True) ∧ True ∧ (Bool.true = Bool.true ∧ (85 : Nat) = (85 : Nat) ∧ ([Go.Sx.EK.i16] = [Go.Sx.EK.i16] ∧ N = x.fst ∧ L = x.snd.fst) ∧ True) ∧ True)) ∧ (Decidable.decide ((0 : Int) ≤ seam) = !Bool.true → True ∧ True ∧ True ∧ True ∧ True ∧ True ∧ True ∧ True ∧ True ∧ True ∧ ∃ (x : Nat × List Int × Int), Go.Proofs.Ytoojpgfaigedpaa.Gq (2 : Nat) (Go.Proofs.Ytoojpgfaigedpaa.joK n l seam) (Go.Proofs.Ytoojpgfaigedpaa.joF n l seam) x.fst x.snd.fst x.snd.snd ∧ ((((0 : Int) = (0 : Int) ∧ (↑(Go.Proofs.Ytoojpgfaigedpaa.joK n l seam) : Int) = (0 : Int) ∧ x.snd.snd = (0 : Int)) ∧ (Go.IntKind.i64 = Go.IntKind.i64 ∧ (2 : Int) = Go.Proofs.Ytoojpgfaigedpaa.asE n l seam) ∧ True) ∧ True) ∧ True ∧ (x.fst = (0 : Nat) ∧ x.snd.fst = []) ∧ True))) (by kernel_rfl) ?_
  simp only [true_and, and_true, and_self, decide_eq_true_eq, decide_eq_false_iff_not, Bool.not_eq_true', Bool.not_eq_false', Bool.not_true, Bool.not_false, beq_iff_eq, beq_eq_false_iff_ne, bne_iff_ne, bne_eq_false_iff_eq, ne_eq, not_true_eq_false, not_false_eq_true, false_implies, true_implies, implies_true, forall_const, exists_const, ↓reduceIte, Int.reduceEq, Int.toNat_natCast, Bool.false_eq_true, Bool.true_eq_false, reduceCtorEq, Int.zero_add, Nat.add_zero, Int.ofNat_eq_natCast, Int.toNat_natCast, Nat.mul_one, Cel.slc.injEq, List.drop_zero, Int.toNat_zero, List.take_succ_cons, List.take_zero, Nat.zero_add]
  have rp : RwP (n : Int) m l := ⟨by omega, by omega, by simpa using h3, h4, by simpa using hw⟩
  have er : ∀ E : Int, E ≠ 0 → asE n l seam = E → ∃ x : Nat × List Int × Int, Gq 2 (joK n l seam) (joF n l seam) x.1 x.2.1 x.2.2 ∧ (((joK n l seam : Int) = 0 ∧ x.2.2 = 0) ∧ E = asE n l seam) ∧ x.1 = 0 ∧ x.2.1 = [] := fun E hE he => by
    obtain ⟨k, f, e⟩ := jo_e he hE
    exact gq_errP' k f e
  refine ⟨rp, fun e => er 1 (by omega) (asE_1 e), fun e => ⟨fun q1 => ⟨fun q2 => er 2 (by omega) (asE_2 e (by omega)), fun q2 => ?_⟩, fun q1 => er 2 (by omega) (asE_2 e (by omega))⟩⟩
  refine ⟨⟨rp, h0, e, q1, q2⟩, fun N L cp g => ?_⟩
  obtain ⟨k, f, c⟩ := jo_0 (asE_0 e ⟨q1, q2⟩)
  rw [k, f]
  exact ⟨(N, L, cp), g, ⟨⟨rfl, rfl⟩, c⟩, rfl, rfl⟩

noncomputable def gJo : EntryC := fun args H K => match args with
  | [.a (.c (.slc id b z s len cap)), .a (.c (.int .i64 seam))] => match getB H id with
    | .cells _ t [.run ks n l] => ((t = 70 ∧ b = 0 ∧ z = 0 ∧ s = 1 ∧ ks = [.i16]) ∧ RwP len n l ∧ len ≤ cap) ∧
      withLenP H fun m => ∀ N L cp, Gq 2 (joK len.toNat l seam) (joF len.toNat l seam) N L cp → K (.tup [.c (.slc m 0 0 2 (joK len.toNat l seam) cp), .c (.int .i64 (asE len.toNat l seam))]) (H ++ [.cells true 85 [.run [.i16] N L]])
    | _ => Stuck "jointsOf"
  | _ => Stuck "jointsOf"
theorem e_JointsOfS : EntryCOk Try.prog TT 23 gJo := by
  refine ⟨fnOk Try.func23 (by kernel_rfl) rfl, ?_⟩
  intro args H K hh n0 w0 β w vals hG hH hA
  unfold gJo at hh
  split at hh
  · split at hh
    · rename_i id b z s len cap seam _ o t ks n l hg
      obtain ⟨⟨⟨rfl, rfl, rfl, rfl, rfl⟩, h, h0⟩, hk⟩ := hh
      have hk := withLenP_sound hk
      obtain ⟨h1, h2, h3, h4, h5⟩ := h
      obtain ⟨len, rfl⟩ := Int.eq_ofNat_of_zero_le h1
      refine (entry_fresh tt_ok (inlN_ok tt_ok Cjt_ok mixed ILos_ok.ok 4) Cjt_ok mixed Try.func23 [id] (x_JointsOfS n len l cap h0 (by omega) (by simpa using h3) h4 (by simpa using h5) seam) rfl (fun _ => rfl) (fun _ => rfl) ⟨.inr (by rw [hg]; rfl), trivial⟩ hG hH hA).mono ?_
      rintro e w' ⟨v, γ, x, rfl, h4, h5, h6⟩
      exact ⟨v, γ, _, _, rfl, hk _ _ _ h4, h5, h6⟩
    · exact hh.elim
  · exact hh.elim

theorem e_JointsOfI : EntryCOk Try.prog TT 24 gJo := by
  refine ⟨fnOk Try.func24 (by kernel_rfl) rfl, ?_⟩
  intro args H K hh n0 w0 β w vals hG hH hA
  unfold gJo at hh
  split at hh
  · split at hh
    · rename_i id b z s len cap seam _ o t ks n l hg
      obtain ⟨⟨⟨rfl, rfl, rfl, rfl, rfl⟩, h, h0⟩, hk⟩ := hh
      have hk := withLenP_sound hk
      obtain ⟨h1, h2, h3, h4, h5⟩ := h
      obtain ⟨len, rfl⟩ := Int.eq_ofNat_of_zero_le h1
      refine (entry_fresh tt_ok (inlN_ok tt_ok Cjt_ok mixed ILoi_ok.ok 4) Cjt_ok mixed Try.func24 [id] (x_JointsOfI n len l cap h0 (by omega) (by simpa using h3) h4 (by simpa using h5) seam) rfl (fun _ => rfl) (fun _ => rfl) ⟨.inr (by rw [hg]; rfl), trivial⟩ hG hH hA).mono ?_
      rintro e w' ⟨v, γ, x, rfl, h4, h5, h6⟩
      exact ⟨v, γ, _, _, rfl, hk _ _ _ h4, h5, h6⟩
    · exact hh.elim
  · exact hh.elim

noncomputable def Ejo : List (FuncId × Entry) := (25, gEqR 85 2 [.i16]) :: Er0
theorem Ejo_ok : EntriesOk Try.prog TT Ejo := ⟨e_eqJointS, Er0_ok⟩
noncomputable def Mjo : List (FuncId × EntryC) := (23, gJo) :: (24, gJo) :: Mr0
theorem Mjo_ok : EntriesCOk Try.prog TT Mjo := ⟨e_JointsOfS, e_JointsOfI, Mr0_ok⟩
noncomputable abbrev Cjo : Ctr := ctrOfM Ejo Mjo
theorem Cjo_ok : CtrOk Try.prog TT Cjo := ctrOfM_ok Ejo_ok Mjo_ok
theorem joK_le {n : Nat} {l : List Int} {seam : Int} : joK n l seam ≤ 60 := by
  by_cases h : asE n l seam = 0
  · by_cases hr : rwB n l = true
    · have := (rwB_t.1 hr).1
      rw [joK, if_pos h]; omega
    · rw [asE_1 (by simpa using hr)] at h; omega
  · rw [joK, if_neg h]; omega

end Go.Proofs.Ytoojpgfaigedpaa
