/- Pairs of numbers that come back: how they are compared and written over. No conditions beyond the ranges of the kinds. -/
import Derived.Test.YtchnopgjnpgjaaaI64
import Derived.Test.YtchnopgjnpgjaaaRec
set_option linter.unusedSimpArgs false
set_option linter.unusedVariables false
namespace Go.Proofs.Ytchnopgjnpgjaaa
open Go.Sx Go.RowKit

theorem x_eqInt64A2 (a b : List Int) : Fex true TT (inlN true TT C0 (lookI []) 4) C0 (fun _ => .unroll 3) Try.f69 [.a (.agg [.run [.i64] 2 a]), .a (.agg [.run [.i64] 2 b])] [] (fun lv _ => leL lv (.a (.c (.bool (eqE 2 a b))))) := by
  refine Go.Sx.by_eq (q := True ∧ True ∧ True ∧ True ∧ True ∧ True ∧ True ∧ True ∧ True ∧ True ∧ True ∧ True ∧ True ∧ ((List.getD a (0 : Nat) (0 : Int) != List.getD b (0 : Nat) (0 : Int)) = Bool.true → True ∧ eqE (2 : Nat) a b = Bool.false) ∧ ((List.getD a (0 : Nat) (0 : Int) != List.getD b (0 : Nat) (0 : Int)) = Bool.false → True ∧ True ∧ True ∧ True ∧ True ∧ True ∧ True ∧ True ∧ True ∧ True ∧ True ∧ True ∧ ((List.getD a (1 : Nat) (0 : Int) != List.getD b (1 : Nat) (0 : Int)) = Bool.true → True ∧ eqE (2 : Nat) a b = Bool.false) ∧ ((List.getD a (1 : Nat) (0 : Int) != List.getD b (1 : Nat) (0 : Int)) = Bool.false → True ∧ True ∧ True ∧ True ∧ True ∧ True ∧ eqE (2 : Nat) a b = Bool.true))) (by kernel_rfl) ?_
  simp only [eqE2]
  cases h0 : (a.getD 0 0 == b.getD 0 0) <;> cases h1 : (a.getD 1 0 == b.getD 1 0) <;> simp_all
def gEqA : Entry := fun args _ => match args with
  | [.a (.agg [.run [.i64] 2 a]), .a (.agg [.run [.i64] 2 b])] => some (True, .a (.c (.bool (eqE 2 a b))))
  | _ => none
noncomputable def ILaz2  : List (FuncId × Func × (Nat → LM)) := [
  ]
theorem ILaz2_ok  : InlsOk Try.prog ILaz2 := trivial
theorem e_eqInt64A2 : EntryOk Try.prog TT 69 gEqA := by
  refine ⟨fnOk Try.func69 (by kernel_rfl) rfl, ?_⟩
  intro args H p r he hp n0 w0 β w vals hG hH hA
  unfold gEqA at he
  split at he
  · simp only [Option.some.injEq, Prod.mk.injEq] at he
    obtain ⟨rfl, rfl⟩ := he
    exact entry_bare tt_ok (inlN_ok tt_ok C0_ok mixed (ILaz2_ok).ok 4) C0_ok mixed Try.func69 (x_eqInt64A2 _ _) rfl rfl hG hH hA
  · simp at he

def Ea0 : List (FuncId × Entry) := [(69, gEqA)]
theorem Ea0_ok : EntriesOk Try.prog TT Ea0 := ⟨e_eqInt64A2, trivial⟩
abbrev Ca0 : Ctr := ctrOf Ea0
theorem Ca0_ok : CtrOk Try.prog TT Ca0 := ctrOf_ok Ea0_ok
theorem x_eqInt64A2S (n1 n2 : Nat) (l1 l2 : List Int) (c1 c2 len1 len2 : Int) (h1 : 0 ≤ len1) (h2 : len1 ≤ 1048576) (h3 : 0 ≤ len2) (h4 : len1.toNat * 2 ≤ n1) (h5 : len2.toNat * 2 ≤ n2) (e1 : l1.length = n1) (e2 : l2.length = n2) : Fex true TT (inlN true TT Ca0 (lookI ILaz2) 4) Ca0 (fun _ => .inv (lmEq 5 2 len1 l1 l2)) Try.f25 [.a (.c (.slc 0 0 0 2 len1 c1)), .a (.c (.slc 1 0 0 2 len2 c2))] [.cells false 102 [.run [.i64] n1 l1], .cells false 102 [.run [.i64] n2 l2]] (fun lv _ => leL lv (.a (.c (.bool (eqSl 2 len1 len2 l1 l2))))) := by
  refine Go.Sx.by_eq (q := True ∧ True ∧ True ∧ True ∧ True ∧ True ∧ ((len1 != len2) = Bool.true → True ∧ eqSl (2 : Nat) len1 len2 l1 l2 = Bool.false) ∧ ((len1 != len2) = Bool.false → True ∧ (∃ (x : Nat), (x ≤ Int.toNat len1 ∧ ∀ (i : Nat), i < x * (2 : Nat) → List.getD l1 i (0 : Int) = List.getD l2 i (0 : Int)) ∧ (Go.Sx.Cel.slc (0 : Nat) (0 : Nat) (0 : Int) (2 : Nat) len1 c1 = Go.Sx.Cel.slc (0 : Nat) (0 : Nat) (0 : Int) (2 : Nat) len1 c1 ∧ Go.Sx.Cel.slc (1 : Nat) (0 : Nat) (0 : Int) (2 : Nat) len2 c2 = Go.Sx.Cel.slc (1 : Nat) (0 : Nat) (0 : Int) (2 : Nat) len2 c2 ∧ Go.Sx.Cel.val Go.undef = Go.Sx.Cel.val Go.undef ∧ Go.Sx.Cel.val Go.undef = Go.Sx.Cel.val Go.undef ∧ True ∧ (Go.IntKind.i64 = Go.IntKind.i64 ∧ (0 : Int) = (↑x : Int)) ∧ Go.Sx.Cel.slc (0 : Nat) (0 : Nat) (0 : Int) (2 : Nat) len1 c1 = Go.Sx.Cel.slc (0 : Nat) (0 : Nat) (0 : Int) (2 : Nat) len1 c1 ∧ (Go.IntKind.i64 = Go.IntKind.i64 ∧ len1 = len1) ∧ Go.Sx.Cel.slc (1 : Nat) (0 : Nat) (0 : Int) (2 : Nat) len2 c2 = Go.Sx.Cel.slc (1 : Nat) (0 : Nat) (0 : Int) (2 : Nat) len2 c2 ∧ (Go.IntKind.i64 = Go.IntKind.i64 ∧ len2 = len2) ∧ (len1 != len2) = (len1 != len2) ∧ True ∧ True ∧ True ∧ True ∧ True ∧ True ∧ True ∧ True ∧ True ∧ True ∧ True ∧ True ∧ True ∧ True ∧ True ∧ True ∧ True) ∧ (Bool.false = Bool.false ∧ (102 : Nat) = (102 : Nat) ∧ ([Go.Sx.EK.i64] = [Go.Sx.EK.i64] ∧ n1 = n1 ∧ l1 = l1) ∧ True) ∧ (Bool.false = Bool.false ∧ (102 : Nat) = (102 : Nat) ∧ ([Go.Sx.EK.i64] = [Go.Sx.EK.i64] ∧ n2 = n2 ∧ l2 = l2) ∧ True) ∧ True) ∧ ∀ (x : Nat), (x ≤ Int.toNat len1 ∧ ∀ (i : Nat), i < x * (2 : Nat) → List.getD l1 i (0 : Int) = List.getD l2 i (0 : Int)) → True ∧ True ∧ True ∧ True ∧ (Decidable.decide ((↑x : Int) < len1) = Bool.true → True ∧ True ∧ ((0 : Int) ≤ (↑x : Int) ∧ (↑x : Int) < len1) ∧ ((0 : Int) ≤ (0 : Int) + (↑x : Int) ∧ Int.toNat ((0 : Int) + (↑x : Int)) * (2 : Nat) + (0 : Nat) + (2 : Nat) ≤ n1) ∧ True ∧ True ∧ ((0 : Int) ≤ (↑x : Int) ∧ (↑x : Int) < len2) ∧ ((0 : Int) ≤ (0 : Int) + (↑x : Int) ∧ Int.toNat ((0 : Int) + (↑x : Int)) * (2 : Nat) + (0 : Nat) + (2 : Nat) ≤ n2) ∧ True ∧ True ∧ ((!eqE (2 : Nat) (List.take (2 : Nat) (List.drop (Int.toNat ((0 : Int) + (↑x : Int)) * (2 : Nat) + (0 : Nat)) l1)) (List.take (2 : Nat) (List.drop (Int.toNat ((0 : Int) + (↑x : Int)) * (2 : Nat) + (0 : Nat)) l2))) = Bool.true → True ∧ eqSl (2 : Nat) len1 len2 l1 l2 = Bool.false) ∧ ((!eqE (2 : Nat) (List.take (2 : Nat) (List.drop (Int.toNat ((0 : Int) + (↑x : Int)) * (2 : Nat) + (0 : Nat)) l1)) (List.take (2 : Nat) (List.drop (Int.toNat ((0 : Int) + (↑x : Int)) * (2 : Nat) + (0 : Nat)) l2))) = Bool.false → True ∧ ((-9223372036854775808 : Int) ≤ (↑x : Int) + (1 : Int) ∧ (↑x : Int) + (1 : Int) ≤ (9223372036854775807 : Int)) ∧ True ∧ ∃ (y : Nat), (y ≤ Int.toNat len1 ∧ ∀ (i : Nat), i < y * (2 : Nat) → List.getD l1 i (0 : Int) = List.getD l2 i (0 : Int)) ∧ Int.toNat len1 - y < Int.toNat len1 - x ∧ (Go.Sx.Cel.slc (0 : Nat) (0 : Nat) (0 : Int) (2 : Nat) len1 c1 = Go.Sx.Cel.slc (0 : Nat) (0 : Nat) (0 : Int) (2 : Nat) len1 c1 ∧ Go.Sx.Cel.slc (1 : Nat) (0 : Nat) (0 : Int) (2 : Nat) len2 c2 = Go.Sx.Cel.slc (1 : Nat) (0 : Nat) (0 : Int) (2 : Nat) len2 c2 ∧ Go.Sx.Cel.val Go.undef = Go.Sx.Cel.val Go.undef ∧ Go.Sx.Cel.val Go.undef = Go.Sx.Cel.val Go.undef ∧ True ∧ (Go.IntKind.i64 = Go.IntKind.i64 ∧ (↑x : Int) + (1 : Int) = (↑y : Int)) ∧ Go.Sx.Cel.slc (0 : Nat) (0 : Nat) (0 : Int) (2 : Nat) len1 c1 = Go.Sx.Cel.slc (0 : Nat) (0 : Nat) (0 : Int) (2 : Nat) len1 c1 ∧ (Go.IntKind.i64 = Go.IntKind.i64 ∧ len1 = len1) ∧ Go.Sx.Cel.slc (1 : Nat) (0 : Nat) (0 : Int) (2 : Nat) len2 c2 = Go.Sx.Cel.slc (1 : Nat) (0 : Nat) (0 : Int) (2 : Nat) len2 c2 ∧ (Go.IntKind.i64 = Go.IntKind.i64 ∧ len2 = len2) ∧ (len1 != len2) = (len1 != len2) ∧ True ∧ True ∧ True ∧ True ∧ True ∧ True ∧ True ∧ True ∧ True ∧ True ∧ True ∧ True ∧ True ∧ True ∧ True ∧ True ∧ True) ∧ (Bool.false = Bool.false ∧ (102 : Nat) = (102 : Nat) ∧ ([Go.Sx.EK.i64] = [Go.Sx.EK.i64] ∧ n1 = n1 ∧ l1 = l1) ∧ True) ∧ (Bool.false = Bool.false ∧ (102 : Nat) = (102 : Nat) ∧ ([Go.Sx.EK.i64] = [Go.Sx.EK.i64] ∧ n2 = n2 ∧ l2 = l2) ∧ True) ∧ True)) ∧ (Decidable.decide ((↑x : Int) < len1) = Bool.false → True ∧ eqSl (2 : Nat) len1 len2 l1 l2 = Bool.true))) (by kernel_rfl) ?_
  have e0 : ∀ a b : List Int, eqE 2 a b = eqE 2 a b := fun a b => by rfl
  simp only [e0]
  simp only [true_and, and_true, and_self, decide_eq_true_eq, decide_eq_false_iff_not, Bool.not_eq_true', Bool.not_eq_false', Bool.not_true, Bool.not_false, beq_iff_eq, beq_eq_false_iff_ne, bne_iff_ne, bne_eq_false_iff_eq, ne_eq, not_true_eq_false, not_false_eq_true, false_implies, true_implies, implies_true, forall_const, exists_const, ↓reduceIte, Int.reduceEq, Int.toNat_natCast, Bool.false_eq_true, Bool.true_eq_false, reduceCtorEq, Int.zero_add, Nat.add_zero]
  refine ⟨fun h => eqSl_ne h, fun hn => ⟨⟨0, ⟨by omega, fun i hi => by omega⟩, rfl⟩, ?_⟩⟩
  rintro k ⟨hk, hp⟩
  refine ⟨fun hlt => ?_, fun hge => eqSl_yes hn (by omega) (by omega) fun i hi => hp i (by omega)⟩
  repeat' (first | omega | apply And.intro)
  · exact fun hc => by first | exact eqE_stop (by omega) hc | exact eqE_stop' (by omega) (by omega) (by omega) hc
  · exact fun hc => ⟨by omega, k + 1, ⟨by omega, by first | exact eqE_step hp hc | exact eqE_step' (by omega) (by omega) hp hc⟩, by omega, by omega⟩

theorem e_eqInt64A2S : EntryOk Try.prog TT 25 (gEqR 102 2 [.i64]) := by
  refine ⟨fnOk Try.func25 (by kernel_rfl) rfl, ?_⟩
  intro args H p r he hp n0 w0 β w vals hG hH hA
  obtain ⟨i1, i2, o1, o2, n1, n2, l1, l2, c1, c2, len1, len2, rfl, hg1, hg2, rfl, h1, h2, h3, h4, h5, h6, h7⟩ := gEqR_inv he hp
  exact entry_view tt_ok (inlN_ok tt_ok Ca0_ok mixed ILaz2_ok.ok 4) Ca0_ok mixed Try.func25 [i1, i2] (x_eqInt64A2S n1 n2 l1 l2 c1 c2 len1 len2 h1 h2 h3 h4 h5 h6 h7) rfl rfl ⟨.inr (by rw [hg1]; rfl), .inr (by rw [hg2]; rfl), trivial⟩ hG hH hA

theorem mrk_two {l : List Int} {f x y : Int} {k : Nat} (h : k * 2 + 1 < l.length) (hx : x = f + (k * 2 : Nat)) (hy : y = f + (k * 2 : Nat) + 1) : ((mrk l f (k * 2)).set (k * 2) x).set (k * 2 + 1) y = mrk l f ((k + 1) * 2) := by
  subst hx hy
  rw [mrk_set (by omega), show f + ((k * 2 : Nat) : Int) + 1 = f + ((k * 2 + 1 : Nat) : Int) by omega, mrk_set (by omega), show k * 2 + 1 + 1 = (k + 1) * 2 by omega]
theorem mark_pr {d n' : Nat} {L : List Int} {R : Nat → Prop} (h1 : d * 2 ≤ n') (hl : L.length = n') (hd : d ≤ 1000000000000) (hR : R d) :
    (∃ x : Nat, ((x : Int) ≤ (d : Int) ∨ x = 0) ∧ (1 = 1 + ((x * 2 : Nat) : Int) ∧ 0 = (x : Int)) ∧ L = mrk L 1 (x * 2)) ∧ ∀ x : Nat, ((x : Int) ≤ (d : Int) ∨ x = 0) →
      ((x : Int) < (d : Int) → (0 ≤ (x : Int) ∧ (x : Int) < (d : Int)) ∧ (0 ≤ (x : Int) ∧ x * 2 < n') ∧ (-9223372036854775808 ≤ 1 + ((x * 2 : Nat) : Int) + 1 ∧ 1 + ((x * 2 : Nat) : Int) + 1 ≤ 9223372036854775807) ∧ (0 ≤ (x : Int) ∧ (x : Int) < (d : Int)) ∧ (0 ≤ (x : Int) ∧ x * 2 + 1 < n') ∧ (-9223372036854775808 ≤ 1 + ((x * 2 : Nat) : Int) + 1 + 1 ∧ 1 + ((x * 2 : Nat) : Int) + 1 + 1 ≤ 9223372036854775807) ∧ (-9223372036854775808 ≤ (x : Int) + 1 ∧ (x : Int) + 1 ≤ 9223372036854775807) ∧
        ∃ y : Nat, ((y : Int) ≤ (d : Int) ∨ y = 0) ∧ d - y < d - x ∧ (1 + ((x * 2 : Nat) : Int) + 1 + 1 = 1 + ((y * 2 : Nat) : Int) ∧ (x : Int) + 1 = (y : Int)) ∧ ((mrk L 1 (x * 2)).set (x * 2) ((1 + ((x * 2 : Nat) : Int)))).set (x * 2 + 1) ((1 + ((x * 2 : Nat) : Int) + 1)) = mrk L 1 (y * 2)) ∧ (¬ (x : Int) < (d : Int) → R x) :=
  ⟨⟨0, .inr rfl, ⟨rfl, rfl⟩, (mrk_zero _ _).symm⟩, fun x hx => ⟨fun hlt => ⟨by omega, by omega, by omega, by omega, by omega, by omega, by omega, x + 1, .inl (by omega), by omega, ⟨by omega, by omega⟩, mrk_two (by omega) rfl (by omega)⟩, fun hge => by
    obtain rfl : x = d := by omega
    exact hR⟩⟩

theorem held_pr {d n' : Nat} {L : List Int} {R : Nat → Prop} (h1 : d * 2 ≤ n') (hl : L.length = n') (hd : d ≤ 1000000000000) (hR : R d) :
    (∃ x : Nat, ((x : Int) ≤ (d : Int) ∨ x = 0) ∧ 1 = 1 + ((x * 2 : Nat) : Int) ∧ 0 = (x : Int)) ∧ ∀ x : Nat, ((x : Int) ≤ (d : Int) ∨ x = 0) →
      ((x : Int) < (d : Int) → (0 ≤ (x : Int) ∧ (x : Int) < (d : Int)) ∧ (0 ≤ (x : Int) ∧ x * 2 < n') ∧ (¬ (mrk L 1 (d * 2)).getD (x * 2) 0 = (1 + ((x * 2 : Nat) : Int)) → False) ∧ ((mrk L 1 (d * 2)).getD (x * 2) 0 = (1 + ((x * 2 : Nat) : Int)) → (-9223372036854775808 ≤ 1 + ((x * 2 : Nat) : Int) + 1 ∧ 1 + ((x * 2 : Nat) : Int) + 1 ≤ 9223372036854775807) ∧ (0 ≤ (x : Int) ∧ (x : Int) < (d : Int)) ∧ (0 ≤ (x : Int) ∧ x * 2 + 1 < n') ∧ (¬ (mrk L 1 (d * 2)).getD (x * 2 + 1) 0 = (1 + ((x * 2 : Nat) : Int) + 1) → False) ∧ ((mrk L 1 (d * 2)).getD (x * 2 + 1) 0 = (1 + ((x * 2 : Nat) : Int) + 1) → (-9223372036854775808 ≤ 1 + ((x * 2 : Nat) : Int) + 1 + 1 ∧ 1 + ((x * 2 : Nat) : Int) + 1 + 1 ≤ 9223372036854775807) ∧ (-9223372036854775808 ≤ (x : Int) + 1 ∧ (x : Int) + 1 ≤ 9223372036854775807) ∧
        ∃ y : Nat, ((y : Int) ≤ (d : Int) ∨ y = 0) ∧ d - y < d - x ∧ 1 + ((x * 2 : Nat) : Int) + 1 + 1 = 1 + ((y * 2 : Nat) : Int) ∧ (x : Int) + 1 = (y : Int)))) ∧ (¬ (x : Int) < (d : Int) → R x) :=
  ⟨⟨0, .inr rfl, rfl, rfl⟩, fun x hx => ⟨fun hlt => ⟨by omega, by omega, fun h => h (by rw [mrk_get (by omega), if_pos (by omega)]), fun _ => ⟨by omega, by omega, by omega, fun h => h (by rw [mrk_get (by omega), if_pos (by omega)]; omega), fun _ => ⟨by omega, by omega, x + 1, .inl (by omega), by omega, by omega, by omega⟩⟩⟩, fun hge => by
    obtain rfl : x = d := by omega
    exact hR⟩⟩

def lmMkP : LAnn := { ι := Nat, inv := fun st k => (k : Int) ≤ slN st 0 ∨ k = 0, slots := fun st k => [(1, .a (.c (.int .i64 (slotI st 1 + (k * 2 : Nat))))), (5, .a (.c (.int .i64 k)))], blks := fun st k => slB st 0 [.run [.i64] (slM st 0) (mrk (slL st 0) (slotI st 1) (k * 2))], μ := fun st k => (slN st 0).toNat - k }
def lmHeP : LAnn := { ι := Nat, inv := fun st k => (k : Int) ≤ slN st 0 ∨ k = 0, slots := fun st k => [(1, .a (.c (.int .i64 (slotI st 1 + (k * 2 : Nat))))), (5, .a (.c (.int .i64 k)))], blks := fun _ _ => [], μ := fun st k => (slN st 0).toNat - k }

end Go.Proofs.Ytchnopgjnpgjaaa
