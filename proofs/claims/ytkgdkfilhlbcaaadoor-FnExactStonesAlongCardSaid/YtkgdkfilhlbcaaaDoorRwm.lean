/- Slices of 16-bit numbers: what the laws ask of one that comes back; widths that are asked for. No conditions beyond the ranges of the kinds. -/
import Derived.Test.YtkgdkfilhlbcaaaDoorGqs
import Derived.Test.YtkgdkfilhlbcaaaDoorI64
set_option linter.unusedSimpArgs false
set_option linter.unusedVariables false
namespace Go.Proofs.YtkgdkfilhlbcaaaDoor
open Go.Sx Go.RowKit

/-- A list of which the first numbers are a count, wrapped. -/
def mrk1 (l : List Int) (f : Int) (k : Nat) : List Int := (List.range l.length).map fun i => if i < k then IntKind.i16.wrap (f + i) else l.getD i 0
theorem mrk1_len (l : List Int) (f : Int) (k : Nat) : (mrk1 l f k).length = l.length := by simp [mrk1]
theorem mrk1_get {l : List Int} {f : Int} {k i : Nat} (h : i < l.length) : (mrk1 l f k).getD i 0 = if i < k then IntKind.i16.wrap (f + i) else l.getD i 0 := by
  simp [mrk1, List.getD, h]
theorem mrk1_zero (l : List Int) (f : Int) : mrk1 l f 0 = l := by
  refine list_ext (mrk1_len _ _ _) fun i hi => ?_
  rw [mrk1_get hi, if_neg (by omega)]
theorem mrk1_set {l : List Int} {f : Int} {k : Nat} (h : k < l.length) : (mrk1 l f k).set k (IntKind.i16.wrap (f + k)) = mrk1 l f (k + 1) := by
  refine list_ext (by simp [mrk1_len]) fun i hi => ?_
  have hi : i < l.length := by rw [mrk1_len] at hi; exact hi
  rw [mrk1_get hi, List.getD_eq_getElem?_getD, List.getElem?_set]
  by_cases e : k = i
  · subst e; simp [mrk1_len, h]
  · rw [if_neg e, ← List.getD_eq_getElem?_getD, mrk1_get hi]
    by_cases c : i < k
    · rw [if_pos c, if_pos (by omega)]
    · rw [if_neg c, if_neg (by omega)]
def lmMkR : LAnn := { ι := Nat, inv := fun st k => (k : Int) ≤ slN st 0 ∨ k = 0, slots := fun st k => [(1, .a (.c (.int .i64 (slotI st 1 + k)))), (5, .a (.c (.int .i64 k)))], blks := fun st k => slB st 0 [.run [.i16] (slM st 0) (mrk1 (slL st 0) (slotI st 1) k)], μ := fun st k => (slN st 0).toNat - k }
def lmHeR : LAnn := { ι := Nat, inv := fun st k => (k : Int) ≤ slN st 0 ∨ k = 0, slots := fun st k => [(1, .a (.c (.int .i64 (slotI st 1 + k)))), (5, .a (.c (.int .i64 k)))], blks := fun _ _ => [], μ := fun st k => (slN st 0).toNat - k }

theorem mark_rw {d n' : Nat} {L : List Int} {f : Int} {R : Nat → Prop} (h1 : d ≤ n') (hl : L.length = n') (hd : d ≤ 1000000000000) (hf : 0 ≤ f ∧ f ≤ 10000000000000) (hR : R d) :
    (∃ x : Nat, ((x : Int) ≤ (d : Int) ∨ x = 0) ∧ (f = f + (x : Int) ∧ 0 = (x : Int)) ∧ L = mrk1 L f x) ∧ ∀ x : Nat, ((x : Int) ≤ (d : Int) ∨ x = 0) →
      ((x : Int) < (d : Int) → (0 ≤ (x : Int) ∧ (x : Int) < (d : Int)) ∧ (0 ≤ (x : Int) ∧ x < n') ∧ (-9223372036854775808 ≤ f + (x : Int) + 1 ∧ f + (x : Int) + 1 ≤ 9223372036854775807) ∧ (-9223372036854775808 ≤ (x : Int) + 1 ∧ (x : Int) + 1 ≤ 9223372036854775807) ∧
        ∃ y : Nat, ((y : Int) ≤ (d : Int) ∨ y = 0) ∧ d - y < d - x ∧ (f + (x : Int) + 1 = f + (y : Int) ∧ (x : Int) + 1 = (y : Int)) ∧ (mrk1 L f x).set x (IntKind.i16.wrap (f + (x : Int))) = mrk1 L f y) ∧ (¬ (x : Int) < (d : Int) → R x) :=
  ⟨⟨0, .inr rfl, ⟨by omega, rfl⟩, (mrk1_zero _ _).symm⟩, fun x hx => ⟨fun hlt => ⟨by omega, by omega, by omega, by omega, x + 1, .inl (by omega), by omega, ⟨by omega, by omega⟩, mrk1_set (by omega)⟩, fun hge => by
    obtain rfl : x = d := by omega
    exact hR⟩⟩

theorem held_rw {d n' : Nat} {L : List Int} {f : Int} {R : Nat → Prop} (h1 : d ≤ n') (hl : L.length = n') (hd : d ≤ 1000000000000) (hf : 0 ≤ f ∧ f ≤ 10000000000000) (hR : R d) :
    (∃ x : Nat, ((x : Int) ≤ (d : Int) ∨ x = 0) ∧ f = f + (x : Int) ∧ 0 = (x : Int)) ∧ ∀ x : Nat, ((x : Int) ≤ (d : Int) ∨ x = 0) →
      ((x : Int) < (d : Int) → (0 ≤ (x : Int) ∧ (x : Int) < (d : Int)) ∧ (0 ≤ (x : Int) ∧ x < n') ∧ (¬ (mrk1 L f d).getD x 0 = IntKind.i16.wrap (f + (x : Int)) → False) ∧ ((mrk1 L f d).getD x 0 = IntKind.i16.wrap (f + (x : Int)) → (-9223372036854775808 ≤ f + (x : Int) + 1 ∧ f + (x : Int) + 1 ≤ 9223372036854775807) ∧ (-9223372036854775808 ≤ (x : Int) + 1 ∧ (x : Int) + 1 ≤ 9223372036854775807) ∧
        ∃ y : Nat, ((y : Int) ≤ (d : Int) ∨ y = 0) ∧ d - y < d - x ∧ f + (x : Int) + 1 = f + (y : Int) ∧ (x : Int) + 1 = (y : Int))) ∧ (¬ (x : Int) < (d : Int) → R x) :=
  ⟨⟨0, .inr rfl, by omega, rfl⟩, fun x hx => ⟨fun hlt => ⟨by omega, by omega, fun h => h (by rw [mrk1_get (by omega), if_pos (by omega)]), fun _ => ⟨by omega, by omega, x + 1, .inl (by omega), by omega, by omega, by omega⟩⟩, fun hge => by
    obtain rfl : x = d := by omega
    exact hR⟩⟩

theorem x_eqRow (n1 n2 : Nat) (l1 l2 : List Int) (c1 c2 len1 len2 : Int) (h1 : 0 ≤ len1) (h2 : len1 ≤ 1048576) (h3 : 0 ≤ len2) (h4 : len1.toNat * 1 ≤ n1) (h5 : len2.toNat * 1 ≤ n2) (e1 : l1.length = n1) (e2 : l2.length = n2) : Fex true TT (inlN true TT C0 (lookI []) 4) C0 (fun _ => .inv (lmEq 5 1 len1 l1 l2)) Tryd.f12 [.a (.c (.slc 0 0 0 1 len1 c1)), .a (.c (.slc 1 0 0 1 len2 c2))] [.cells false 39 [.run [.i16] n1 l1], .cells false 39 [.run [.i16] n2 l2]] (fun lv _ => leL lv (.a (.c (.bool (eqSl 1 len1 len2 l1 l2))))) := by
  refine Go.Sx.by_eq (q := True ∧ True ∧ True ∧ True ∧ True ∧ True ∧ ((len1 != len2) = Bool.true → True ∧ eqSl (1 : Nat) len1 len2 l1 l2 = Bool.false) ∧ ((len1 != len2) = Bool.false → True ∧ (∃ (x : Nat), (x ≤ Int.toNat len1 ∧ ∀ (i : Nat), i < x * (1 : Nat) → List.getD l1 i (0 : Int) = List.getD l2 i (0 : Int)) ∧ (Go.Sx.Cel.slc (0 : Nat) (0 : Nat) (0 : Int) (1 : Nat) len1 c1 = Go.Sx.Cel.slc (0 : Nat) (0 : Nat) (0 : Int) (1 : Nat) len1 c1 ∧ Go.Sx.Cel.slc (1 : Nat) (0 : Nat) (0 : Int) (1 : Nat) len2 c2 = Go.Sx.Cel.slc (1 : Nat) (0 : Nat) (0 : Int) (1 : Nat) len2 c2 ∧ Go.Sx.Cel.val Go.undef = Go.Sx.Cel.val Go.undef ∧ Go.Sx.Cel.val Go.undef = Go.Sx.Cel.val Go.undef ∧ True ∧ (Go.IntKind.i64 = Go.IntKind.i64 ∧ (0 : Int) = (↑x : Int)) ∧ Go.Sx.Cel.slc (0 : Nat) (0 : Nat) (0 : Int) (1 : Nat) len1 c1 = Go.Sx.Cel.slc (0 : Nat) (0 : Nat) (0 : Int) (1 : Nat) len1 c1 ∧ (Go.IntKind.i64 = Go.IntKind.i64 ∧ len1 = len1) ∧ Go.Sx.Cel.slc (1 : Nat) (0 : Nat) (0 : Int) (1 : Nat) len2 c2 = Go.Sx.Cel.slc (1 : Nat) (0 : Nat) (0 : Int) (1 : Nat) len2 c2 ∧ (Go.IntKind.i64 = Go.IntKind.i64 ∧ len2 = len2) ∧ (len1 != len2) = (len1 != len2) ∧ True ∧ True ∧ True ∧ True ∧ True ∧ True ∧ True ∧ True ∧ True ∧ True ∧ True ∧ True ∧ True ∧ True ∧ True ∧ True) ∧ (Bool.false = Bool.false ∧ (39 : Nat) = (39 : Nat) ∧ ([Go.Sx.EK.i16] = [Go.Sx.EK.i16] ∧ n1 = n1 ∧ l1 = l1) ∧ True) ∧ (Bool.false = Bool.false ∧ (39 : Nat) = (39 : Nat) ∧ ([Go.Sx.EK.i16] = [Go.Sx.EK.i16] ∧ n2 = n2 ∧ l2 = l2) ∧ True) ∧ True) ∧ ∀ (x : Nat), (x ≤ Int.toNat len1 ∧ ∀ (i : Nat), i < x * (1 : Nat) → List.getD l1 i (0 : Int) = List.getD l2 i (0 : Int)) → True ∧ True ∧ True ∧ True ∧ (Decidable.decide ((↑x : Int) < len1) = Bool.true → True ∧ True ∧ ((0 : Int) ≤ (↑x : Int) ∧ (↑x : Int) < len1) ∧ ((0 : Int) ≤ (0 : Int) + (↑x : Int) ∧ Int.toNat ((0 : Int) + (↑x : Int)) < n1) ∧ True ∧ True ∧ ((0 : Int) ≤ (↑x : Int) ∧ (↑x : Int) < len2) ∧ ((0 : Int) ≤ (0 : Int) + (↑x : Int) ∧ Int.toNat ((0 : Int) + (↑x : Int)) < n2) ∧ True ∧ ((List.getD l1 (Int.toNat ((0 : Int) + (↑x : Int))) (0 : Int) != List.getD l2 (Int.toNat ((0 : Int) + (↑x : Int))) (0 : Int)) = Bool.true → True ∧ eqSl (1 : Nat) len1 len2 l1 l2 = Bool.false) ∧ ((List.getD l1 (Int.toNat ((0 : Int) + (↑x : Int))) (0 : Int) != List.getD l2 (Int.toNat ((0 : Int) + (↑x : Int))) (0 : Int)) = Bool.false → True ∧ ((-9223372036854775808 : Int) ≤ (↑x : Int) + (1 : Int) ∧ (↑x : Int) + (1 : Int) ≤ (9223372036854775807 : Int)) ∧ True ∧ ∃ (y : Nat), (y ≤ Int.toNat len1 ∧ ∀ (i : Nat), i < y * (1 : Nat) → List.getD l1 i (0 : Int) = List.getD l2 i (0 : Int)) ∧ Int.toNat len1 - y < Int.toNat len1 - x ∧ (Go.Sx.Cel.slc (0 : Nat) (0 : Nat) (0 : Int) (1 : Nat) len1 c1 = Go.Sx.Cel.slc (0 : Nat) (0 : Nat) (0 : Int) (1 : Nat) len1 c1 ∧ Go.Sx.Cel.slc (1 : Nat) (0 : Nat) (0 : Int) (1 : Nat) len2 c2 = Go.Sx.Cel.slc (1 : Nat) (0 : Nat) (0 : Int) (1 : Nat) len2 c2 ∧ Go.Sx.Cel.val Go.undef = Go.Sx.Cel.val Go.undef ∧ Go.Sx.Cel.val Go.undef = Go.Sx.Cel.val Go.undef ∧ True ∧ (Go.IntKind.i64 = Go.IntKind.i64 ∧ (↑x : Int) + (1 : Int) = (↑y : Int)) ∧ Go.Sx.Cel.slc (0 : Nat) (0 : Nat) (0 : Int) (1 : Nat) len1 c1 = Go.Sx.Cel.slc (0 : Nat) (0 : Nat) (0 : Int) (1 : Nat) len1 c1 ∧ (Go.IntKind.i64 = Go.IntKind.i64 ∧ len1 = len1) ∧ Go.Sx.Cel.slc (1 : Nat) (0 : Nat) (0 : Int) (1 : Nat) len2 c2 = Go.Sx.Cel.slc (1 : Nat) (0 : Nat) (0 : Int) (1 : Nat) len2 c2 ∧ (Go.IntKind.i64 = Go.IntKind.i64 ∧ len2 = len2) ∧ (len1 != len2) = (len1 != len2) ∧ True ∧ True ∧ True ∧ True ∧ True ∧ True ∧ True ∧ True ∧ True ∧ True ∧ True ∧ True ∧ True ∧ True ∧ True ∧ True) ∧ (Bool.false = Bool.false ∧ (39 : Nat) = (39 : Nat) ∧ ([Go.Sx.EK.i16] = [Go.Sx.EK.i16] ∧ n1 = n1 ∧ l1 = l1) ∧ True) ∧ (Bool.false = Bool.false ∧ (39 : Nat) = (39 : Nat) ∧ ([Go.Sx.EK.i16] = [Go.Sx.EK.i16] ∧ n2 = n2 ∧ l2 = l2) ∧ True) ∧ True)) ∧ (Decidable.decide ((↑x : Int) < len1) = Bool.false → True ∧ eqSl (1 : Nat) len1 len2 l1 l2 = Bool.true))) (by kernel_rfl) ?_
  simp only [true_and, and_true, and_self, decide_eq_true_eq, decide_eq_false_iff_not, Bool.not_eq_true', Bool.not_eq_false', Bool.not_true, Bool.not_false, beq_iff_eq, beq_eq_false_iff_ne, bne_iff_ne, bne_eq_false_iff_eq, ne_eq, not_true_eq_false, not_false_eq_true, false_implies, true_implies, implies_true, forall_const, exists_const, ↓reduceIte, Int.reduceEq, Int.toNat_natCast, Bool.false_eq_true, Bool.true_eq_false, reduceCtorEq, Int.zero_add, Nat.add_zero, Nat.mul_one, Int.toNat_natCast]
  refine ⟨fun h => eqSl_ne h, fun hn => ⟨⟨0, ⟨by omega, fun i hi => by omega⟩, rfl⟩, ?_⟩⟩
  rintro k ⟨hk, hp⟩
  refine ⟨fun hlt => ?_, fun hge => eqSl_yes hn (by omega) (by omega) fun i hi => hp i (by omega)⟩
  repeat' (first | omega | apply And.intro)
  · exact fun hc => eqSl_no (i := k) (by omega) hc
  · refine fun hc => ⟨by omega, k + 1, ⟨by omega, fun i hi => ?_⟩, by omega, by omega⟩
    rcases (show i < k ∨ i = k by omega) with h | rfl
    · exact hp i h
    · exact hc
theorem e_eqRow : EntryOk Tryd.prog TT 12 (gEqR 39 1 [.i16]) := by
  refine ⟨fnOk Tryd.func12 (by kernel_rfl) rfl, ?_⟩
  intro args H p r he hp n0 w0 β w vals hG hH hA
  obtain ⟨i1, i2, o1, o2, n1, n2, l1, l2, c1, c2, len1, len2, rfl, hg1, hg2, rfl, h1, h2, h3, h4, h5, h6, h7⟩ := gEqR_inv he hp
  exact entry_view tt_ok (inlN_ok tt_ok C0_ok mixed (InlsOk.ok (L := []) trivial) 4) C0_ok mixed Tryd.func12 [i1, i2] (x_eqRow n1 n2 l1 l2 c1 c2 len1 len2 h1 h2 h3 h4 h5 h6 h7) rfl rfl ⟨.inr (by rw [hg1]; rfl), .inr (by rw [hg2]; rfl), trivial⟩ hG hH hA

/-- All of the first numbers are from a to b. -/
structure InP (a b : Int) (n : Nat) (l : List Int) : Prop where
  ok : ∀ i, i < n → a ≤ l.getD i 0 ∧ l.getD i 0 ≤ b
open Classical in
noncomputable def inB (a b : Int) (n : Nat) (l : List Int) : Bool := decide (InP a b n l)
theorem inB_t {a b : Int} {n : Nat} {l : List Int} : inB a b n l = true ↔ InP a b n l := by simp [inB]
theorem inB_f {a b : Int} {n : Nat} {l : List Int} : inB a b n l = false ↔ ¬ InP a b n l := by simp [inB]
def lmIn (t : Nat) (a b : Int) (n : Nat) (l : List Int) : LAnn := { ι := Nat, inv := fun _ k => k ≤ n ∧ ∀ i, i < k → a ≤ l.getD i 0 ∧ l.getD i 0 ≤ b, slots := fun _ k => [(t, .a (.c (.int .i64 k)))], blks := fun _ _ => [], μ := fun _ k => n - k }
theorem in_step {a b : Int} {n k : Nat} {l : List Int} (hk : k < n) (hp : ∀ i, i < k → a ≤ l.getD i 0 ∧ l.getD i 0 ≤ b) (h : a ≤ l.getD k 0 ∧ l.getD k 0 ≤ b) : ∃ y : Nat, (y ≤ n ∧ ∀ i, i < y → a ≤ l.getD i 0 ∧ l.getD i 0 ≤ b) ∧ n - y < n - k ∧ (k : Int) + 1 = (y : Int) :=
  ⟨k + 1, ⟨by omega, fun i hi => by
    rcases (show i < k ∨ i = k by omega) with h' | rfl
    · exact hp i h'
    · exact h⟩, by omega, by omega⟩

noncomputable def ILg  : List (FuncId × Func × (Nat → LM)) := [
  ]
theorem ILg_ok  : InlsOk Tryd.prog ILg := trivial
theorem x_areWidths (m n : Nat) (l : List Int) (cap : Int) (h1 : n ≤ 1048576) (h3 : n ≤ m) (h4 : l.length = m) : Fex true TT (inlN true TT C0 (lookI ILg) 4) C0 (fun _ => .inv (lmIn 7 1 200 n l)) Tryd.f19 [.a (.c (.slc 0 0 0 1 n cap))] [.cells false 2 [.run [.i64] m l]] (fun lv _ => leL lv (.a (.c (.bool (inB 1 200 n l))))) := by
  refine Go.Sx.by_eq (q := True ∧ True ∧ True ∧ True ∧ (∃ (x : Nat), (x ≤ n ∧ ∀ (i : Nat), i < x → (1 : Int) ≤ List.getD l i (0 : Int) ∧ List.getD l i (0 : Int) ≤ (200 : Int)) ∧ (Go.Sx.Cel.slc (0 : Nat) (0 : Nat) (0 : Int) (1 : Nat) (↑n : Int) cap = Go.Sx.Cel.slc (0 : Nat) (0 : Nat) (0 : Int) (1 : Nat) (↑n : Int) cap ∧ Go.Sx.Cel.val Go.undef = Go.Sx.Cel.val Go.undef ∧ True ∧ Go.Sx.Cel.val Go.undef = Go.Sx.Cel.val Go.undef ∧ True ∧ Go.Sx.Cel.slc (0 : Nat) (0 : Nat) (0 : Int) (1 : Nat) (↑n : Int) cap = Go.Sx.Cel.slc (0 : Nat) (0 : Nat) (0 : Int) (1 : Nat) (↑n : Int) cap ∧ (Go.IntKind.i64 = Go.IntKind.i64 ∧ (↑n : Int) = (↑n : Int)) ∧ (Go.IntKind.i64 = Go.IntKind.i64 ∧ (0 : Int) = (↑x : Int)) ∧ True ∧ True ∧ True ∧ True ∧ True ∧ True ∧ True ∧ True ∧ True ∧ True ∧ True) ∧ (Bool.false = Bool.false ∧ (2 : Nat) = (2 : Nat) ∧ ([Go.Sx.EK.i64] = [Go.Sx.EK.i64] ∧ m = m ∧ l = l) ∧ True) ∧ True) ∧ ∀ (x : Nat), (x ≤ n ∧ ∀ (i : Nat), i < x → (1 : Int) ≤ List.getD l i (0 : Int) ∧ List.getD l i (0 : Int) ≤ (200 : Int)) → True ∧ (Decidable.decide ((↑x : Int) < (↑n : Int)) = Bool.true → ((0 : Int) ≤ (↑x : Int) ∧ (↑x : Int) < (↑n : Int)) ∧ ((0 : Int) ≤ (0 : Int) + (↑x : Int) ∧ Int.toNat ((0 : Int) + (↑x : Int)) < m) ∧ True ∧ True ∧ True ∧ True ∧ (Decidable.decide (List.getD l (Int.toNat ((0 : Int) + (↑x : Int))) (0 : Int) < (1 : Int)) = Bool.false → True ∧ True ∧ True ∧ (Decidable.decide ((200 : Int) < List.getD l (Int.toNat ((0 : Int) + (↑x : Int))) (0 : Int)) = Bool.true → True ∧ inB (1 : Int) (200 : Int) n l = Bool.false) ∧ (Decidable.decide ((200 : Int) < List.getD l (Int.toNat ((0 : Int) + (↑x : Int))) (0 : Int)) = Bool.false → ((-9223372036854775808 : Int) ≤ (↑x : Int) + (1 : Int) ∧ (↑x : Int) + (1 : Int) ≤ (9223372036854775807 : Int)) ∧ True ∧ ∃ (y : Nat), (y ≤ n ∧ ∀ (i : Nat), i < y → (1 : Int) ≤ List.getD l i (0 : Int) ∧ List.getD l i (0 : Int) ≤ (200 : Int)) ∧ n - y < n - x ∧ (Go.Sx.Cel.slc (0 : Nat) (0 : Nat) (0 : Int) (1 : Nat) (↑n : Int) cap = Go.Sx.Cel.slc (0 : Nat) (0 : Nat) (0 : Int) (1 : Nat) (↑n : Int) cap ∧ Go.Sx.Cel.val Go.undef = Go.Sx.Cel.val Go.undef ∧ True ∧ Go.Sx.Cel.val Go.undef = Go.Sx.Cel.val Go.undef ∧ True ∧ Go.Sx.Cel.slc (0 : Nat) (0 : Nat) (0 : Int) (1 : Nat) (↑n : Int) cap = Go.Sx.Cel.slc (0 : Nat) (0 : Nat) (0 : Int) (1 : Nat) (↑n : Int) cap ∧ (Go.IntKind.i64 = Go.IntKind.i64 ∧ (↑n : Int) = (↑n : Int)) ∧ (Go.IntKind.i64 = Go.IntKind.i64 ∧ (↑x : Int) + (1 : Int) = (↑y : Int)) ∧ True ∧ True ∧ True ∧ True ∧ True ∧ True ∧ True ∧ True ∧ True ∧ True ∧ True) ∧ (Bool.false = Bool.false ∧ (2 : Nat) = (2 : Nat) ∧ ([Go.Sx.EK.i64] = [Go.Sx.EK.i64] ∧ m = m ∧ l = l) ∧ True) ∧ True)) ∧ (Decidable.decide (List.getD l (Int.toNat ((0 : Int) + (↑x : Int))) (0 : Int) < (1 : Int)) = !Bool.false → True ∧ True ∧ inB (1 : Int) (200 : Int) n l = Bool.false)) ∧ (Decidable.decide ((↑x : Int) < (↑n : Int)) = Bool.false → True ∧ inB (1 : Int) (200 : Int) n l = Bool.true)) (by kernel_rfl) ?_
  simp only [true_and, and_true, and_self, decide_eq_true_eq, decide_eq_false_iff_not, Bool.not_eq_true', Bool.not_eq_false', Bool.not_true, Bool.not_false, beq_iff_eq, beq_eq_false_iff_ne, bne_iff_ne, bne_eq_false_iff_eq, ne_eq, not_true_eq_false, not_false_eq_true, false_implies, true_implies, implies_true, forall_const, exists_const, ↓reduceIte, Int.reduceEq, Int.toNat_natCast, Bool.false_eq_true, Bool.true_eq_false, reduceCtorEq, Int.zero_add, Nat.add_zero, Int.ofNat_eq_natCast, Int.toNat_natCast, Nat.mul_one]
  refine ⟨⟨0, ⟨by omega, fun i hi => by omega⟩, rfl⟩, ?_⟩
  rintro k ⟨hk, hp⟩
  refine ⟨fun hlt => ?_, fun hge => inB_t.2 ⟨fun i hi => hp i (by omega)⟩⟩
  have bad : ¬ (1 ≤ l.getD k 0 ∧ l.getD k 0 ≤ 200) → inB 1 200 n l = false := fun h => inB_f.2 fun q => h (q.ok k (by omega))
  have stp := fun h => in_step (n := n) (show k < n by omega) hp h
  repeat' (first | omega | exact bad (by omega) | exact stp (by omega) | apply And.intro | intro _)
noncomputable def gAw : Entry := fun args H => match args with
  | [.a (.c (.slc id b z s len _))] => match getB H id with
    | .cells _ t [.run ks n l] => some ((t = 2 ∧ b = 0 ∧ z = 0 ∧ s = 1 ∧ ks = [.i64]) ∧ 0 ≤ len ∧ len ≤ 1048576 ∧ len.toNat ≤ n ∧ l.length = n, .a (.c (.bool (inB 1 200 len.toNat l))))
    | _ => none
  | _ => none
theorem gAw_inv {args : List LV} {H : List Blk} {p : Prop} {r : LV} (he : gAw args H = some (p, r)) (hp : p) : ∃ (id m n : Nat) (o : Bool) (l : List Int) (cap : Int),
    args = [.a (.c (.slc id 0 0 1 n cap))] ∧ getB H id = .cells o 2 [.run [.i64] m l] ∧ r = .a (.c (.bool (inB 1 200 n l))) ∧ n ≤ 1048576 ∧ n ≤ m ∧ l.length = m := by
  unfold gAw at he
  split at he
  · split at he
    · rename_i id b z s len cap _ o t ks m l hg
      simp only [Option.some.injEq, Prod.mk.injEq] at he
      obtain ⟨rfl, rfl⟩ := he
      obtain ⟨⟨rfl, rfl, rfl, rfl, rfl⟩, h1, h2, h3, h4⟩ := hp
      obtain ⟨n, rfl⟩ := Int.eq_ofNat_of_zero_le h1
      exact ⟨id, m, n, o, l, cap, rfl, hg, rfl, by omega, by simpa using h3, h4⟩
    · simp at he
  · simp at he
theorem e_areWidths : EntryOk Tryd.prog TT 19 gAw := by
  refine ⟨fnOk Tryd.func19 (by kernel_rfl) rfl, ?_⟩
  intro args H p r he hp n0 w0 β w vals hG hH hA
  obtain ⟨id, m, n, o, l, cap, rfl, hg, rfl, h1, h2, h3⟩ := gAw_inv he hp
  exact entry_view tt_ok (inlN_ok tt_ok C0_ok mixed (ILg_ok).ok 4) C0_ok mixed Tryd.func19 [id] (x_areWidths m n l cap h1 h2 h3) rfl rfl ⟨.inr (by rw [hg]; rfl), trivial⟩ hG hH hA

theorem aw2 {a b : Int} : inB 1 200 2 [a, b] = decide ((1 ≤ a ∧ a ≤ 200) ∧ 1 ≤ b ∧ b ≤ 200) := by
  rw [Bool.eq_iff_iff, inB_t, decide_eq_true_eq]
  exact ⟨fun h => ⟨h.ok 0 (by omega), h.ok 1 (by omega)⟩, fun h => ⟨fun i hi => by
    rcases (show i = 0 ∨ i = 1 by omega) with rfl | rfl
    · exact h.1
    · exact h.2⟩⟩

end Go.Proofs.YtkgdkfilhlbcaaaDoor
