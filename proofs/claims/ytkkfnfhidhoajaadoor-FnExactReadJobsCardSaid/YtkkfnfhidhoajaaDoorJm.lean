/- Lists of jobs in the laws: copies, comparisons, marks. No conditions beyond the ranges of the kinds. -/
import Derived.Test.YtkkfnfhidhoajaaDoorRec
import Derived.Test.YtkkfnfhidhoajaaDoorJmk
set_option linter.unusedSimpArgs false
set_option linter.unusedVariables false
namespace Go.Proofs.YtkkfnfhidhoajaaDoor
open Go.Sx Go.RowKit
variable {mx : Nat → Value}

def jbL (a : List Int) : LV := .a (.agg [.run [.i8, .u16] 2 a])
noncomputable def ILjm  : List (FuncId × Func × (Nat → LM)) := [
  ]
theorem ILjm_ok  : InlsOk Tryd.prog ILjm := trivial
def jbI (a : List Int) : LV := .a (.agg [.int .i8 (a.getD 0 0), .int .u16 (a.getD 1 0)])
theorem x_eqJob (a b : List Int) : Fex true (TT mx) (inlN true (TT mx) C0 (lookI []) 4) C0 U0 Tryd.f17 [jbL a, jbL b] [] (fun lv _ => leL lv (.a (.c (.bool (eqE 2 a b))))) := by
  refine Go.Sx.by_eq (q := True ∧ True ∧ True ∧ True ∧ True ∧ True ∧ True ∧ True ∧ ((List.getD a (0 : Nat) (0 : Int) != List.getD b (0 : Nat) (0 : Int)) = Bool.true → True ∧ eqE (2 : Nat) a b = Bool.false) ∧ ((List.getD a (0 : Nat) (0 : Int) != List.getD b (0 : Nat) (0 : Int)) = Bool.false → True ∧ True ∧ True ∧ True ∧ True ∧ ((List.getD a (1 : Nat) (0 : Int) != List.getD b (1 : Nat) (0 : Int)) = Bool.true → True ∧ eqE (2 : Nat) a b = Bool.false) ∧ ((List.getD a (1 : Nat) (0 : Int) != List.getD b (1 : Nat) (0 : Int)) = Bool.false → True ∧ eqE (2 : Nat) a b = Bool.true))) (by kernel_rfl) ?_
  simp only [eqE2]
  cases h0 : (a.getD 0 0 == b.getD 0 0) <;> cases h1 : (a.getD 1 0 == b.getD 1 0) <;> simp_all
def gJob : Entry := fun args _ => match args with
  | [.a (.agg [.run [.i8, .u16] 2 a])] => some (True, jbI a)
  | _ => none
def gEqJb : Entry := fun args _ => match args with
  | [.a (.agg [.run [.i8, .u16] 2 a]), .a (.agg [.run [.i8, .u16] 2 b])] => some (True, .a (.c (.bool (eqE 2 a b))))
  | _ => none
theorem e_eqJob : EntryOk Tryd.prog (TT mx) 17 gEqJb := by
  refine ⟨fnOk Tryd.func17 (by kernel_rfl) rfl, ?_⟩
  intro args H p r he hp n0 w0 β w vals hG hH hA
  unfold gEqJb at he
  split at he
  · simp only [Option.some.injEq, Prod.mk.injEq] at he
    obtain ⟨rfl, rfl⟩ := he
    exact entry_bare tt_ok (inlN_ok tt_ok C0_ok mixed (ILjm_ok).ok 4) C0_ok mixed Tryd.func17 (x_eqJob _ _) rfl rfl hG hH hA
  · simp at he

def Em0 : List (FuncId × Entry) := [(17, gEqJb)]
theorem Em0_ok : EntriesOk Tryd.prog (TT mx) Em0 := ⟨e_eqJob, trivial⟩
abbrev Cm0 : Ctr := ctrOf Em0
theorem Cm0_ok : CtrOk Tryd.prog (TT mx) Cm0 := ctrOf_ok Em0_ok

theorem x_eqJobS (n1 n2 : Nat) (l1 l2 : List Int) (c1 c2 len1 len2 : Int) (h1 : 0 ≤ len1) (h2 : len1 ≤ 1048576) (h3 : 0 ≤ len2) (h4 : len1.toNat * 2 ≤ n1) (h5 : len2.toNat * 2 ≤ n2) (e1 : l1.length = n1) (e2 : l2.length = n2) : Fex true (TT mx) (inlN true (TT mx) Cm0 (lookI ILjm) 4) Cm0 (fun _ => .inv (lmEq 5 2 len1 l1 l2)) Tryd.f6 [.a (.c (.slc 0 0 0 2 len1 c1)), .a (.c (.slc 1 0 0 2 len2 c2))] [.cells false 36 [.run [.i8, .u16] n1 l1], .cells false 36 [.run [.i8, .u16] n2 l2]] (fun lv _ => leL lv (.a (.c (.bool (eqSl 2 len1 len2 l1 l2))))) := by
  refine Go.Sx.by_eq (q := True ∧ True ∧ True ∧ True ∧ True ∧ True ∧ ((len1 != len2) = Bool.true → True ∧ eqSl (2 : Nat) len1 len2 l1 l2 = Bool.false) ∧ ((len1 != len2) = Bool.false → True ∧ (∃ (x : Nat), (x ≤ Int.toNat len1 ∧ ∀ (i : Nat), i < x * (2 : Nat) → List.getD l1 i (0 : Int) = List.getD l2 i (0 : Int)) ∧ (Go.Sx.Cel.slc (0 : Nat) (0 : Nat) (0 : Int) (2 : Nat) len1 c1 = Go.Sx.Cel.slc (0 : Nat) (0 : Nat) (0 : Int) (2 : Nat) len1 c1 ∧ Go.Sx.Cel.slc (1 : Nat) (0 : Nat) (0 : Int) (2 : Nat) len2 c2 = Go.Sx.Cel.slc (1 : Nat) (0 : Nat) (0 : Int) (2 : Nat) len2 c2 ∧ Go.Sx.Cel.val Go.undef = Go.Sx.Cel.val Go.undef ∧ Go.Sx.Cel.val Go.undef = Go.Sx.Cel.val Go.undef ∧ True ∧ (Go.IntKind.i64 = Go.IntKind.i64 ∧ (0 : Int) = (↑x : Int)) ∧ Go.Sx.Cel.slc (0 : Nat) (0 : Nat) (0 : Int) (2 : Nat) len1 c1 = Go.Sx.Cel.slc (0 : Nat) (0 : Nat) (0 : Int) (2 : Nat) len1 c1 ∧ (Go.IntKind.i64 = Go.IntKind.i64 ∧ len1 = len1) ∧ Go.Sx.Cel.slc (1 : Nat) (0 : Nat) (0 : Int) (2 : Nat) len2 c2 = Go.Sx.Cel.slc (1 : Nat) (0 : Nat) (0 : Int) (2 : Nat) len2 c2 ∧ (Go.IntKind.i64 = Go.IntKind.i64 ∧ len2 = len2) ∧ (len1 != len2) = (len1 != len2) ∧ True ∧ True ∧ True ∧ True ∧ True ∧ True ∧ True ∧ True ∧ True ∧ True ∧ True ∧ True ∧ True ∧ True ∧ True ∧ True ∧ True) ∧ (Bool.false = Bool.false ∧ (36 : Nat) = (36 : Nat) ∧ ([Go.Sx.EK.i8, Go.Sx.EK.u16] = [Go.Sx.EK.i8, Go.Sx.EK.u16] ∧ n1 = n1 ∧ l1 = l1) ∧ True) ∧ (Bool.false = Bool.false ∧ (36 : Nat) = (36 : Nat) ∧ ([Go.Sx.EK.i8, Go.Sx.EK.u16] = [Go.Sx.EK.i8, Go.Sx.EK.u16] ∧ n2 = n2 ∧ l2 = l2) ∧ True) ∧ True) ∧ ∀ (x : Nat), (x ≤ Int.toNat len1 ∧ ∀ (i : Nat), i < x * (2 : Nat) → List.getD l1 i (0 : Int) = List.getD l2 i (0 : Int)) → True ∧ True ∧ True ∧ True ∧ (Decidable.decide ((↑x : Int) < len1) = Bool.true → True ∧ True ∧ ((0 : Int) ≤ (↑x : Int) ∧ (↑x : Int) < len1) ∧ ((0 : Int) ≤ (0 : Int) + (↑x : Int) ∧ Int.toNat ((0 : Int) + (↑x : Int)) * (2 : Nat) + (0 : Nat) + (2 : Nat) ≤ n1) ∧ True ∧ True ∧ ((0 : Int) ≤ (↑x : Int) ∧ (↑x : Int) < len2) ∧ ((0 : Int) ≤ (0 : Int) + (↑x : Int) ∧ Int.toNat ((0 : Int) + (↑x : Int)) * (2 : Nat) + (0 : Nat) + (2 : Nat) ≤ n2) ∧ True ∧ True ∧ ((!eqE (2 : Nat) (List.take (2 : Nat) (List.drop (Int.toNat ((0 : Int) + (↑x : Int)) * (2 : Nat) + (0 : Nat)) l1)) (List.take (2 : Nat) (List.drop (Int.toNat ((0 : Int) + (↑x : Int)) * (2 : Nat) + (0 : Nat)) l2))) = Bool.true → True ∧ eqSl (2 : Nat) len1 len2 l1 l2 = Bool.false) ∧ ((!eqE (2 : Nat) (List.take (2 : Nat) (List.drop (Int.toNat ((0 : Int) + (↑x : Int)) * (2 : Nat) + (0 : Nat)) l1)) (List.take (2 : Nat) (List.drop (Int.toNat ((0 : Int) + (↑x : Int)) * (2 : Nat) + (0 : Nat)) l2))) = Bool.false → True ∧ ((-9223372036854775808 : Int) ≤ (↑x : Int) + (1 : Int) ∧ (↑x : Int) + (1 : Int) ≤ (9223372036854775807 : Int)) ∧ True ∧ ∃ (y : Nat), (y ≤ Int.toNat len1 ∧ ∀ (i : Nat), i < y * (2 : Nat) → List.getD l1 i (0 : Int) = List.getD l2 i (0 : Int)) ∧ Int.toNat len1 - y < Int.toNat len1 - x ∧ (Go.Sx.Cel.slc (0 : Nat) (0 : Nat) (0 : Int) (2 : Nat) len1 c1 = Go.Sx.Cel.slc (0 : Nat) (0 : Nat) (0 : Int) (2 : Nat) len1 c1 ∧ Go.Sx.Cel.slc (1 : Nat) (0 : Nat) (0 : Int) (2 : Nat) len2 c2 = Go.Sx.Cel.slc (1 : Nat) (0 : Nat) (0 : Int) (2 : Nat) len2 c2 ∧ Go.Sx.Cel.val Go.undef = Go.Sx.Cel.val Go.undef ∧ Go.Sx.Cel.val Go.undef = Go.Sx.Cel.val Go.undef ∧ True ∧ (Go.IntKind.i64 = Go.IntKind.i64 ∧ (↑x : Int) + (1 : Int) = (↑y : Int)) ∧ Go.Sx.Cel.slc (0 : Nat) (0 : Nat) (0 : Int) (2 : Nat) len1 c1 = Go.Sx.Cel.slc (0 : Nat) (0 : Nat) (0 : Int) (2 : Nat) len1 c1 ∧ (Go.IntKind.i64 = Go.IntKind.i64 ∧ len1 = len1) ∧ Go.Sx.Cel.slc (1 : Nat) (0 : Nat) (0 : Int) (2 : Nat) len2 c2 = Go.Sx.Cel.slc (1 : Nat) (0 : Nat) (0 : Int) (2 : Nat) len2 c2 ∧ (Go.IntKind.i64 = Go.IntKind.i64 ∧ len2 = len2) ∧ (len1 != len2) = (len1 != len2) ∧ True ∧ True ∧ True ∧ True ∧ True ∧ True ∧ True ∧ True ∧ True ∧ True ∧ True ∧ True ∧ True ∧ True ∧ True ∧ True ∧ True) ∧ (Bool.false = Bool.false ∧ (36 : Nat) = (36 : Nat) ∧ ([Go.Sx.EK.i8, Go.Sx.EK.u16] = [Go.Sx.EK.i8, Go.Sx.EK.u16] ∧ n1 = n1 ∧ l1 = l1) ∧ True) ∧ (Bool.false = Bool.false ∧ (36 : Nat) = (36 : Nat) ∧ ([Go.Sx.EK.i8, Go.Sx.EK.u16] = [Go.Sx.EK.i8, Go.Sx.EK.u16] ∧ n2 = n2 ∧ l2 = l2) ∧ True) ∧ True)) ∧ (Decidable.decide ((↑x : Int) < len1) = Bool.false → True ∧ eqSl (2 : Nat) len1 len2 l1 l2 = Bool.true))) (by kernel_rfl) ?_
  have e0 : ∀ a b : List Int, eqE 2 a b = eqE 2 a b := fun a b => by rfl
  simp only [e0]
  simp only [true_and, and_true, and_self, decide_eq_true_eq, decide_eq_false_iff_not, Bool.not_eq_true', Bool.not_eq_false', Bool.not_true, Bool.not_false, beq_iff_eq, beq_eq_false_iff_ne, bne_iff_ne, bne_eq_false_iff_eq, ne_eq, not_true_eq_false, not_false_eq_true, false_implies, true_implies, implies_true, forall_const, exists_const, ↓reduceIte, Int.reduceEq, Int.toNat_natCast, Bool.false_eq_true, Bool.true_eq_false, reduceCtorEq, Int.zero_add, Nat.add_zero]
  refine ⟨fun h => eqSl_ne h, fun hn => ⟨⟨0, ⟨by omega, fun i hi => by omega⟩, rfl⟩, ?_⟩⟩
  rintro k ⟨hk, hp⟩
  refine ⟨fun hlt => ?_, fun hge => eqSl_yes hn (by omega) (by omega) fun i hi => hp i (by omega)⟩
  repeat' (first | omega | apply And.intro)
  · exact fun hc => by first | exact eqE_stop (by omega) hc | exact eqE_stop' (by omega) (by omega) (by omega) hc
  · exact fun hc => ⟨by omega, k + 1, ⟨by omega, by first | exact eqE_step hp hc | exact eqE_step' (by omega) (by omega) hp hc⟩, by omega, by omega⟩

theorem e_eqJobS : EntryOk Tryd.prog (TT mx) 6 (gEqR 36 2 [.i8, .u16]) := by
  refine ⟨fnOk Tryd.func6 (by kernel_rfl) rfl, ?_⟩
  intro args H p r he hp n0 w0 β w vals hG hH hA
  obtain ⟨i1, i2, o1, o2, n1, n2, l1, l2, c1, c2, len1, len2, rfl, hg1, hg2, rfl, h1, h2, h3, h4, h5, h6, h7⟩ := gEqR_inv he hp
  exact entry_view tt_ok (inlN_ok tt_ok Cm0_ok mixed ILjm_ok.ok 4) Cm0_ok mixed Tryd.func6 [i1, i2] (x_eqJobS n1 n2 l1 l2 c1 c2 len1 len2 h1 h2 h3 h4 h5 h6 h7) rfl rfl ⟨.inr (by rw [hg1]; rfl), .inr (by rw [hg2]; rfl), trivial⟩ hG hH hA

def Em1 : List (FuncId × Entry) := (6, gEqR 36 2 [.i8, .u16]) :: Em0
theorem Em1_ok : EntriesOk Tryd.prog (TT mx) Em1 := ⟨e_eqJobS, Em0_ok⟩
def Mm1 : List (FuncId × EntryC) := []
theorem Mm1_ok : EntriesCOk Tryd.prog (TT mx) Mm1 := trivial

/-- A copy that is marked: what it holds then is of no account. -/
theorem ws_jw {n : Nat} {l : List Int} {len cap : Int} (ws : WS [.i8, .u16] 2 n l len cap) : (∀ k, k < len.toNat → -128 ≤ (l.take (len.toNat * 2)).getD (k * 2) 0 ∧ (l.take (len.toNat * 2)).getD (k * 2) 0 ≤ 127) ∧ ∀ k, k < len.toNat → 0 ≤ (l.take (len.toNat * 2)).getD (k * 2 + 1) 0 ∧ (l.take (len.toNat * 2)).getD (k * 2 + 1) 0 ≤ 65535 := by
  have hn := ws.hn
  constructor
  · intro k hk
    rw [getD_take' (by omega)]
    have h := ws.wf (k * 2) (by omega)
    generalize l.getD (k * 2) 0 = v at *
    have e : k * 2 % 2 = 0 := by omega
    simp [e, Lit.wf, IntKind.min, IntKind.max, IntKind.signed, IntKind.bits] at h
    omega
  · intro k hk
    rw [getD_take' (by omega)]
    have h := ws.wf (k * 2 + 1) (by omega)
    generalize l.getD (k * 2 + 1) 0 = v at *
    have e : (k * 2 + 1) % 2 = 1 := by omega
    simp [e, Lit.wf, IntKind.min, IntKind.max, IntKind.signed, IntKind.bits] at h
    omega

end Go.Proofs.YtkkfnfhidhoajaaDoor
