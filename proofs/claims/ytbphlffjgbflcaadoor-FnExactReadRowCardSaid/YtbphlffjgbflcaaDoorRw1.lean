/- Rows: lists of 16-bit numbers; what copies and compares them, and which ones are valid. No conditions beyond the ranges of the kinds. -/
import Derived.Test.YtbphlffjgbflcaaDoorRec
set_option linter.unusedSimpArgs false
set_option linter.unusedVariables false
namespace Go.Proofs.YtbphlffjgbflcaaDoor
open Go.Sx Go.RowKit
variable {mx : Nat → Value}

/-- Numbers that fit into 16 bits. -/
def w16 (n : Nat) (l : List Int) : Prop := ∀ i, i < n → -32768 ≤ l.getD i 0 ∧ l.getD i 0 ≤ 32767
theorem ws_w16 {n : Nat} {l : List Int} {len cap : Int} (ws : WS [.i16] 1 n l len cap) : w16 len.toNat (l.take len.toNat) := by
  intro i hi
  rw [getD_take' hi]
  have h := ws.wf i (by have := ws.hn; omega)
  simp only [List.length_cons, List.length_nil, Nat.zero_add, Nat.mod_one, List.getD_cons_zero] at h
  generalize l.getD i 0 = v at *
  simp [Lit.wf, IntKind.min, IntKind.max, IntKind.signed, IntKind.bits] at h; omega

/-! ### toRow, eqRow -/
def lmTo16 (len : Int) (l : List Int) : LAnn := { ι := Nat, inv := fun _ k => k ≤ len.toNat, slots := fun _ k => [(4, .a (.c (.int .i64 k)))], blks := fun _ k => [(1, [.run [.i16] len.toNat (mkN len.toNat (fun i => if i < k then l.getD i 0 else 0))])], μ := fun _ k => len.toNat - k }


theorem x_eqRow (n1 n2 : Nat) (l1 l2 : List Int) (c1 c2 len1 len2 : Int) (h1 : 0 ≤ len1) (h2 : len1 ≤ 1048576) (h3 : 0 ≤ len2) (h4 : len1.toNat * 1 ≤ n1) (h5 : len2.toNat * 1 ≤ n2) (e1 : l1.length = n1) (e2 : l2.length = n2) : Fex true (TT mx) (inlN true (TT mx) C0 (lookI []) 4) C0 (fun _ => .inv (lmEq 5 1 len1 l1 l2)) Tryd.f6 [.a (.c (.slc 0 0 0 1 len1 c1)), .a (.c (.slc 1 0 0 1 len2 c2))] [.cells false 34 [.run [.i16] n1 l1], .cells false 34 [.run [.i16] n2 l2]] (fun lv _ => leL lv (.a (.c (.bool (eqSl 1 len1 len2 l1 l2))))) := by
  refine Go.Sx.by_eq (q := True ∧ True ∧ True ∧ True ∧ True ∧ True ∧ ((len1 != len2) = Bool.true → True ∧ eqSl (1 : Nat) len1 len2 l1 l2 = Bool.false) ∧ ((len1 != len2) = Bool.false → True ∧ (∃ (x : Nat), (x ≤ Int.toNat len1 ∧ ∀ (i : Nat), i < x * (1 : Nat) → List.getD l1 i (0 : Int) = List.getD l2 i (0 : Int)) ∧ (Go.Sx.Cel.slc (0 : Nat) (0 : Nat) (0 : Int) (1 : Nat) len1 c1 = Go.Sx.Cel.slc (0 : Nat) (0 : Nat) (0 : Int) (1 : Nat) len1 c1 ∧ Go.Sx.Cel.slc (1 : Nat) (0 : Nat) (0 : Int) (1 : Nat) len2 c2 = Go.Sx.Cel.slc (1 : Nat) (0 : Nat) (0 : Int) (1 : Nat) len2 c2 ∧ Go.Sx.Cel.val Go.undef = Go.Sx.Cel.val Go.undef ∧ Go.Sx.Cel.val Go.undef = Go.Sx.Cel.val Go.undef ∧ True ∧ (Go.IntKind.i64 = Go.IntKind.i64 ∧ (0 : Int) = (↑x : Int)) ∧ Go.Sx.Cel.slc (0 : Nat) (0 : Nat) (0 : Int) (1 : Nat) len1 c1 = Go.Sx.Cel.slc (0 : Nat) (0 : Nat) (0 : Int) (1 : Nat) len1 c1 ∧ (Go.IntKind.i64 = Go.IntKind.i64 ∧ len1 = len1) ∧ Go.Sx.Cel.slc (1 : Nat) (0 : Nat) (0 : Int) (1 : Nat) len2 c2 = Go.Sx.Cel.slc (1 : Nat) (0 : Nat) (0 : Int) (1 : Nat) len2 c2 ∧ (Go.IntKind.i64 = Go.IntKind.i64 ∧ len2 = len2) ∧ (len1 != len2) = (len1 != len2) ∧ True ∧ True ∧ True ∧ True ∧ True ∧ True ∧ True ∧ True ∧ True ∧ True ∧ True ∧ True ∧ True ∧ True ∧ True ∧ True) ∧ (Bool.false = Bool.false ∧ (34 : Nat) = (34 : Nat) ∧ ([Go.Sx.EK.i16] = [Go.Sx.EK.i16] ∧ n1 = n1 ∧ l1 = l1) ∧ True) ∧ (Bool.false = Bool.false ∧ (34 : Nat) = (34 : Nat) ∧ ([Go.Sx.EK.i16] = [Go.Sx.EK.i16] ∧ n2 = n2 ∧ l2 = l2) ∧ True) ∧ True) ∧ ∀ (x : Nat), (x ≤ Int.toNat len1 ∧ ∀ (i : Nat), i < x * (1 : Nat) → List.getD l1 i (0 : Int) = List.getD l2 i (0 : Int)) → True ∧ True ∧ True ∧ True ∧ (Decidable.decide ((↑x : Int) < len1) = Bool.true → True ∧ True ∧ ((0 : Int) ≤ (↑x : Int) ∧ (↑x : Int) < len1) ∧ ((0 : Int) ≤ (0 : Int) + (↑x : Int) ∧ Int.toNat ((0 : Int) + (↑x : Int)) < n1) ∧ True ∧ True ∧ ((0 : Int) ≤ (↑x : Int) ∧ (↑x : Int) < len2) ∧ ((0 : Int) ≤ (0 : Int) + (↑x : Int) ∧ Int.toNat ((0 : Int) + (↑x : Int)) < n2) ∧ True ∧ ((List.getD l1 (Int.toNat ((0 : Int) + (↑x : Int))) (0 : Int) != List.getD l2 (Int.toNat ((0 : Int) + (↑x : Int))) (0 : Int)) = Bool.true → True ∧ eqSl (1 : Nat) len1 len2 l1 l2 = Bool.false) ∧ ((List.getD l1 (Int.toNat ((0 : Int) + (↑x : Int))) (0 : Int) != List.getD l2 (Int.toNat ((0 : Int) + (↑x : Int))) (0 : Int)) = Bool.false → True ∧ ((-9223372036854775808 : Int) ≤ (↑x : Int) + (1 : Int) ∧ (↑x : Int) + (1 : Int) ≤ (9223372036854775807 : Int)) ∧ True ∧ ∃ (y : Nat), (y ≤ Int.toNat len1 ∧ ∀ (i : Nat), i < y * (1 : Nat) → List.getD l1 i (0 : Int) = List.getD l2 i (0 : Int)) ∧ Int.toNat len1 - y < Int.toNat len1 - x ∧ (Go.Sx.Cel.slc (0 : Nat) (0 : Nat) (0 : Int) (1 : Nat) len1 c1 = Go.Sx.Cel.slc (0 : Nat) (0 : Nat) (0 : Int) (1 : Nat) len1 c1 ∧ Go.Sx.Cel.slc (1 : Nat) (0 : Nat) (0 : Int) (1 : Nat) len2 c2 = Go.Sx.Cel.slc (1 : Nat) (0 : Nat) (0 : Int) (1 : Nat) len2 c2 ∧ Go.Sx.Cel.val Go.undef = Go.Sx.Cel.val Go.undef ∧ Go.Sx.Cel.val Go.undef = Go.Sx.Cel.val Go.undef ∧ True ∧ (Go.IntKind.i64 = Go.IntKind.i64 ∧ (↑x : Int) + (1 : Int) = (↑y : Int)) ∧ Go.Sx.Cel.slc (0 : Nat) (0 : Nat) (0 : Int) (1 : Nat) len1 c1 = Go.Sx.Cel.slc (0 : Nat) (0 : Nat) (0 : Int) (1 : Nat) len1 c1 ∧ (Go.IntKind.i64 = Go.IntKind.i64 ∧ len1 = len1) ∧ Go.Sx.Cel.slc (1 : Nat) (0 : Nat) (0 : Int) (1 : Nat) len2 c2 = Go.Sx.Cel.slc (1 : Nat) (0 : Nat) (0 : Int) (1 : Nat) len2 c2 ∧ (Go.IntKind.i64 = Go.IntKind.i64 ∧ len2 = len2) ∧ (len1 != len2) = (len1 != len2) ∧ True ∧ True ∧ True ∧ True ∧ True ∧ True ∧ True ∧ True ∧ True ∧ True ∧ True ∧ True ∧ True ∧ True ∧ True ∧ True) ∧ (Bool.false = Bool.false ∧ (34 : Nat) = (34 : Nat) ∧ ([Go.Sx.EK.i16] = [Go.Sx.EK.i16] ∧ n1 = n1 ∧ l1 = l1) ∧ True) ∧ (Bool.false = Bool.false ∧ (34 : Nat) = (34 : Nat) ∧ ([Go.Sx.EK.i16] = [Go.Sx.EK.i16] ∧ n2 = n2 ∧ l2 = l2) ∧ True) ∧ True)) ∧ (Decidable.decide ((↑x : Int) < len1) = Bool.false → True ∧ eqSl (1 : Nat) len1 len2 l1 l2 = Bool.true))) (by kernel_rfl) ?_
  simp only [true_and, and_true, and_self, decide_eq_true_eq, decide_eq_false_iff_not, Bool.not_eq_true', Bool.not_eq_false', Bool.not_true, Bool.not_false, beq_iff_eq, beq_eq_false_iff_ne, bne_iff_ne, bne_eq_false_iff_eq, ne_eq, not_true_eq_false, not_false_eq_true, false_implies, true_implies, implies_true, forall_const, exists_const, ↓reduceIte, Int.reduceEq, Int.toNat_natCast, Bool.false_eq_true, Bool.true_eq_false, reduceCtorEq, Int.zero_add, Nat.add_zero, Nat.mul_one, Int.toNat_natCast]
  refine ⟨fun h => eqSl_ne h, fun hn => ⟨⟨0, ⟨by omega, fun i hi => by omega⟩, rfl⟩, ?_⟩⟩
  rintro k ⟨hk, hp⟩
  refine ⟨fun hlt => ?_, fun hge => eqSl_yes hn (by omega) (by omega) fun i hi => hp i (by omega)⟩
  repeat' (first | omega | apply And.intro)
  · exact fun hc => eqSl_no (i := k) (by omega) hc
  · refine fun hc => ⟨by omega, k + 1, ⟨by omega, fun i hi => ?_⟩, by omega, by omega⟩
    rcases (show i < k ∨ i = k by omega) with h | rfl
    · exact hp i h
    · exact hc
theorem e_eqRow : EntryOk Tryd.prog (TT mx) 6 (gEqR 34 1 [.i16]) := by
  refine ⟨fnOk Tryd.func6 (by kernel_rfl) rfl, ?_⟩
  intro args H p r he hp n0 w0 β w vals hG hH hA
  obtain ⟨i1, i2, o1, o2, n1, n2, l1, l2, c1, c2, len1, len2, rfl, hg1, hg2, rfl, h1, h2, h3, h4, h5, h6, h7⟩ := gEqR_inv he hp
  exact entry_view tt_ok (inlN_ok tt_ok C0_ok mixed (InlsOk.ok (L := []) trivial) 4) C0_ok mixed Tryd.func6 [i1, i2] (x_eqRow n1 n2 l1 l2 c1 c2 len1 len2 h1 h2 h3 h4 h5 h6 h7) rfl rfl ⟨.inr (by rw [hg1]; rfl), .inr (by rw [hg2]; rfl), trivial⟩ hG hH hA

/-! ### Rows that are valid -/
/-- All of the first numbers are from a to b. -/
structure InP (a b : Int) (n : Nat) (l : List Int) : Prop where
  ok : ∀ i, i < n → a ≤ l.getD i 0 ∧ l.getD i 0 ≤ b
open Classical in
noncomputable def inB (a b : Int) (n : Nat) (l : List Int) : Bool := decide (InP a b n l)
theorem inB_t {a b : Int} {n : Nat} {l : List Int} : inB a b n l = true ↔ InP a b n l := by simp [inB]
theorem inB_f {a b : Int} {n : Nat} {l : List Int} : inB a b n l = false ↔ ¬ InP a b n l := by simp [inB]
noncomputable def rwB (n : Nat) (l : List Int) : Bool := decide (1 ≤ n ∧ n ≤ 60) && inB 1 200 n l
theorem rwB_t {n : Nat} {l : List Int} : rwB n l = true ↔ (1 ≤ n ∧ n ≤ 60) ∧ InP 1 200 n l := by simp [rwB, inB_t]
theorem rwB_no {n : Nat} {l : List Int} (h : ¬ (1 ≤ n ∧ n ≤ 60)) : rwB n l = false := by simp [rwB]; intro a b; omega
theorem rwB_bad {n k : Nat} {l : List Int} (hk : k < n) (h : ¬ (1 ≤ l.getD k 0 ∧ l.getD k 0 ≤ 200)) : rwB n l = false := by
  rw [Bool.eq_false_iff]; intro e; exact h ((rwB_t.1 e).2.ok k hk)

/-- A row that is looked at. -/
structure RwP (len : Int) (n : Nat) (l : List Int) : Prop where
  lo : 0 ≤ len
  hi : len ≤ 1048576
  le : len.toNat ≤ n
  ln : l.length = n
  wf : w16 len.toNat l

def gRw (R : Nat → List Int → LV) : Entry := fun args H => match args with
  | [.a (.c (.slc id b z s len _))] => match getB H id with
    | .cells _ t [.run ks n l] => some ((t = 34 ∧ b = 0 ∧ z = 0 ∧ s = 1 ∧ ks = [.i16]) ∧ RwP len n l, R len.toNat l)
    | _ => none
  | _ => none
theorem gRw_inv {R : Nat → List Int → LV} {args : List LV} {H : List Blk} {p : Prop} {r : LV} (he : gRw R args H = some (p, r)) (hp : p) : ∃ (id m n : Nat) (o : Bool) (l : List Int) (cap : Int),
    args = [.a (.c (.slc id 0 0 1 n cap))] ∧ getB H id = .cells o 34 [.run [.i16] m l] ∧ r = R n l ∧ n ≤ 1048576 ∧ n ≤ m ∧ l.length = m ∧ w16 n l := by
  unfold gRw at he
  split at he
  · split at he
    · rename_i id b z s len cap _ o t ks m l hg
      simp only [Option.some.injEq, Prod.mk.injEq] at he
      obtain ⟨rfl, rfl⟩ := he
      obtain ⟨⟨rfl, rfl, rfl, rfl, rfl⟩, h1, h2, h3, h4, h5⟩ := hp
      obtain ⟨n, rfl⟩ := Int.eq_ofNat_of_zero_le h1
      exact ⟨id, m, n, o, l, cap, rfl, hg, rfl, by omega, by simpa using h3, h4, by simpa using h5⟩
    · simp at he
  · simp at he
/-- A row and two numbers. -/
def gRw2 (R : Nat → List Int → Int → Int → LV) : Entry := fun args H => match args with
  | [.a (.c (.slc id b z s len _)), .a (.c (.int .i64 x)), .a (.c (.int .i64 y))] => match getB H id with
    | .cells _ t [.run ks n l] => some ((t = 34 ∧ b = 0 ∧ z = 0 ∧ s = 1 ∧ ks = [.i16]) ∧ RwP len n l, R len.toNat l x y)
    | _ => none
  | [.a (.c (.slc id b z s len _)), .a (.c (.lit .i64 x)), .a (.c (.lit .i64 y))] => match getB H id with
    | .cells _ t [.run ks n l] => some ((t = 34 ∧ b = 0 ∧ z = 0 ∧ s = 1 ∧ ks = [.i16]) ∧ RwP len n l, R len.toNat l x y)
    | _ => none
  | _ => none

def lmIn (t : Nat) (a b : Int) (n : Nat) (l : List Int) : LAnn := { ι := Nat, inv := fun _ k => k ≤ n ∧ ∀ i, i < k → a ≤ l.getD i 0 ∧ l.getD i 0 ≤ b, slots := fun _ k => [(t, .a (.c (.int .i64 k)))], blks := fun _ _ => [], μ := fun _ k => n - k }
theorem in_step {a b : Int} {n k : Nat} {l : List Int} (hk : k < n) (hp : ∀ i, i < k → a ≤ l.getD i 0 ∧ l.getD i 0 ≤ b) (h : a ≤ l.getD k 0 ∧ l.getD k 0 ≤ b) : ∃ y : Nat, (y ≤ n ∧ ∀ i, i < y → a ≤ l.getD i 0 ∧ l.getD i 0 ≤ b) ∧ n - y < n - k ∧ (k : Int) + 1 = (y : Int) :=
  ⟨k + 1, ⟨by omega, fun i hi => by
    rcases (show i < k ∨ i = k by omega) with h' | rfl
    · exact hp i h'
    · exact h⟩, by omega, by omega⟩

noncomputable def ILrs (n : Nat) (l : List Int) : List (FuncId × Func × (Nat → LM)) := [
  (12, Tryd.f12, fun _ => .inv (lmIn 3 1 200 n l)),
  (17, Tryd.f17, U0),
  (11, Tryd.f11, U0)]
theorem ILrs_ok {n : Nat} {l : List Int} : InlsOk Tryd.prog (ILrs n l) := ⟨⟨Tryd.func12, by kernel_rfl⟩, ⟨Tryd.func17, by kernel_rfl⟩, ⟨Tryd.func11, by kernel_rfl⟩, trivial⟩
noncomputable def ILri (n : Nat) (l : List Int) : List (FuncId × Func × (Nat → LM)) := [
  (21, Tryd.f21, fun _ => .inv (lmIn 11 1 200 n l))]
theorem ILri_ok {n : Nat} {l : List Int} : InlsOk Tryd.prog (ILri n l) := ⟨⟨Tryd.func21, by kernel_rfl⟩, trivial⟩

theorem x_l05Ok (m n : Nat) (l : List Int) (cap : Int) (h1 : n ≤ 1048576) (h3 : n ≤ m) (h4 : l.length = m) (hw : w16 n l) : Fex true (TT mx) (inlN true (TT mx) C0 (lookI (ILrs n l)) 4) C0 (fun _ => .inv (lmIn 3 1 200 n l)) Tryd.f12 [.a (.c (.slc 0 0 0 1 n cap))] [.cells false 34 [.run [.i16] m l]] (fun lv _ => leL lv (.a (.c (.bool (rwB n l))))) := by
  refine Go.Sx.by_eq (q := True ∧ True ∧ True ∧ True ∧ True ∧ True ∧ True ∧ True ∧ (Decidable.decide ((1 : Int) ≤ (↑n : Int)) = Bool.true → True ∧ True ∧ True ∧ True ∧ True ∧ True ∧ ((!Decidable.decide ((↑n : Int) ≤ (60 : Int))) = Bool.true → True ∧ rwB n l = Bool.false) ∧ ((!Decidable.decide ((↑n : Int) ≤ (60 : Int))) = Bool.false → True ∧ (∃ (x : Nat), (x ≤ n ∧ ∀ (i : Nat), i < x → (1 : Int) ≤ List.getD l i (0 : Int) ∧ List.getD l i (0 : Int) ≤ (200 : Int)) ∧ (Go.Sx.Cel.slc (0 : Nat) (0 : Nat) (0 : Int) (1 : Nat) (↑n : Int) cap = Go.Sx.Cel.slc (0 : Nat) (0 : Nat) (0 : Int) (1 : Nat) (↑n : Int) cap ∧ Go.Sx.Cel.val Go.undef = Go.Sx.Cel.val Go.undef ∧ True ∧ (Go.IntKind.i64 = Go.IntKind.i64 ∧ (0 : Int) = (↑x : Int)) ∧ Go.Sx.Cel.slc (0 : Nat) (0 : Nat) (0 : Int) (1 : Nat) (↑n : Int) cap = Go.Sx.Cel.slc (0 : Nat) (0 : Nat) (0 : Int) (1 : Nat) (↑n : Int) cap ∧ (Go.IntKind.i64 = Go.IntKind.i64 ∧ (↑n : Int) = (↑n : Int)) ∧ Decidable.decide ((↑n : Int) ≤ (60 : Int)) = Decidable.decide ((↑n : Int) ≤ (60 : Int)) ∧ (!Decidable.decide ((↑n : Int) ≤ (60 : Int))) = !Decidable.decide ((↑n : Int) ≤ (60 : Int)) ∧ True ∧ True ∧ True ∧ True ∧ True ∧ True ∧ True ∧ True ∧ True ∧ True ∧ True ∧ True ∧ True ∧ True) ∧ (Bool.false = Bool.false ∧ (34 : Nat) = (34 : Nat) ∧ ([Go.Sx.EK.i16] = [Go.Sx.EK.i16] ∧ m = m ∧ l = l) ∧ True) ∧ True) ∧ ∀ (x : Nat), (x ≤ n ∧ ∀ (i : Nat), i < x → (1 : Int) ≤ List.getD l i (0 : Int) ∧ List.getD l i (0 : Int) ≤ (200 : Int)) → True ∧ True ∧ True ∧ True ∧ (Decidable.decide ((↑x : Int) < (↑n : Int)) = Bool.true → True ∧ True ∧ ((0 : Int) ≤ (↑x : Int) ∧ (↑x : Int) < (↑n : Int)) ∧ ((0 : Int) ≤ (0 : Int) + (↑x : Int) ∧ Int.toNat ((0 : Int) + (↑x : Int)) < m) ∧ ((-9223372036854775808 : Int) ≤ List.getD l (Int.toNat ((0 : Int) + (↑x : Int))) (0 : Int) ∧ List.getD l (Int.toNat ((0 : Int) + (↑x : Int))) (0 : Int) ≤ (9223372036854775807 : Int)) ∧ True ∧ True ∧ True ∧ True ∧ True ∧ True ∧ True ∧ (Decidable.decide ((1 : Int) ≤ List.getD l (Int.toNat ((0 : Int) + (↑x : Int))) (0 : Int)) = Bool.true → True ∧ True ∧ True ∧ True ∧ True ∧ True ∧ True ∧ ((!Decidable.decide (List.getD l (Int.toNat ((0 : Int) + (↑x : Int))) (0 : Int) ≤ (200 : Int))) = Bool.true → True ∧ rwB n l = Bool.false) ∧ ((!Decidable.decide (List.getD l (Int.toNat ((0 : Int) + (↑x : Int))) (0 : Int) ≤ (200 : Int))) = Bool.false → True ∧ ((-9223372036854775808 : Int) ≤ (↑x : Int) + (1 : Int) ∧ (↑x : Int) + (1 : Int) ≤ (9223372036854775807 : Int)) ∧ True ∧ ∃ (y : Nat), (y ≤ n ∧ ∀ (i : Nat), i < y → (1 : Int) ≤ List.getD l i (0 : Int) ∧ List.getD l i (0 : Int) ≤ (200 : Int)) ∧ n - y < n - x ∧ (Go.Sx.Cel.slc (0 : Nat) (0 : Nat) (0 : Int) (1 : Nat) (↑n : Int) cap = Go.Sx.Cel.slc (0 : Nat) (0 : Nat) (0 : Int) (1 : Nat) (↑n : Int) cap ∧ Go.Sx.Cel.val Go.undef = Go.Sx.Cel.val Go.undef ∧ True ∧ (Go.IntKind.i64 = Go.IntKind.i64 ∧ (↑x : Int) + (1 : Int) = (↑y : Int)) ∧ Go.Sx.Cel.slc (0 : Nat) (0 : Nat) (0 : Int) (1 : Nat) (↑n : Int) cap = Go.Sx.Cel.slc (0 : Nat) (0 : Nat) (0 : Int) (1 : Nat) (↑n : Int) cap ∧ (Go.IntKind.i64 = Go.IntKind.i64 ∧ (↑n : Int) = (↑n : Int)) ∧ Decidable.decide ((↑n : Int) ≤ (60 : Int)) = Decidable.decide ((↑n : Int) ≤ (60 : Int)) ∧ (!Decidable.decide ((↑n : Int) ≤ (60 : Int))) = !Decidable.decide ((↑n : Int) ≤ (60 : Int)) ∧ True ∧ True ∧ True ∧ True ∧ True ∧ True ∧ True ∧ True ∧ True ∧ True ∧ True ∧ True ∧ True ∧ True) ∧ (Bool.false = Bool.false ∧ (34 : Nat) = (34 : Nat) ∧ ([Go.Sx.EK.i16] = [Go.Sx.EK.i16] ∧ m = m ∧ l = l) ∧ True) ∧ True)) ∧ (Decidable.decide ((1 : Int) ≤ List.getD l (Int.toNat ((0 : Int) + (↑x : Int))) (0 : Int)) = !Bool.true → True ∧ True ∧ True ∧ True ∧ True ∧ rwB n l = Bool.false)) ∧ (Decidable.decide ((↑x : Int) < (↑n : Int)) = Bool.false → True ∧ rwB n l = Bool.true))) ∧ (Decidable.decide ((1 : Int) ≤ (↑n : Int)) = !Bool.true → True ∧ True ∧ True ∧ True ∧ rwB n l = Bool.false)) (by kernel_rfl) ?_
  simp only [true_and, and_true, and_self, decide_eq_true_eq, decide_eq_false_iff_not, Bool.not_eq_true', Bool.not_eq_false', Bool.not_true, Bool.not_false, beq_iff_eq, beq_eq_false_iff_ne, bne_iff_ne, bne_eq_false_iff_eq, ne_eq, not_true_eq_false, not_false_eq_true, false_implies, true_implies, implies_true, forall_const, exists_const, ↓reduceIte, Int.reduceEq, Int.toNat_natCast, Bool.false_eq_true, Bool.true_eq_false, reduceCtorEq, Int.zero_add, Nat.add_zero, Int.ofNat_eq_natCast, Int.toNat_natCast, Nat.mul_one]
  have good : (1 ≤ n ∧ n ≤ 60) → (∀ i, i < n → 1 ≤ l.getD i 0 ∧ l.getD i 0 ≤ 200) → rwB n l = true := fun h1 h2 => rwB_t.2 ⟨h1, ⟨h2⟩⟩
  have base : ∃ x : Nat, (x ≤ n ∧ ∀ (i : Nat), i < x → 1 ≤ l.getD i 0 ∧ l.getD i 0 ≤ 200) ∧ 0 = (x : Int) := ⟨0, ⟨by omega, fun i hi => by omega⟩, rfl⟩
  have key : (1 ≤ (n : Int) ∧ (n : Int) ≤ 60) → ∀ x : Nat, (x ≤ n ∧ ∀ (i : Nat), i < x → 1 ≤ l.getD i 0 ∧ l.getD i 0 ≤ 200) → ((x : Int) < n → (-9223372036854775808 ≤ l.getD x 0 ∧ l.getD x 0 ≤ 9223372036854775807) ∧ (¬ (1 ≤ l.getD x 0 ∧ l.getD x 0 ≤ 200) → rwB n l = false) ∧ ((1 ≤ l.getD x 0 ∧ l.getD x 0 ≤ 200) → ∃ y : Nat, (y ≤ n ∧ ∀ i, i < y → 1 ≤ l.getD i 0 ∧ l.getD i 0 ≤ 200) ∧ n - y < n - x ∧ (x : Int) + 1 = (y : Int))) ∧ (¬ (x : Int) < n → rwB n l = true) := fun hn x ⟨hx, hp⟩ =>
    ⟨fun hlt => ⟨by have := hw x (by omega); omega, fun h => rwB_bad (by omega) h, fun h => in_step (by omega) hp h⟩, fun hge => good (by omega) fun i hi => hp i (by omega)⟩
  refine ⟨fun q1 => ⟨fun q2 => rwB_no (by omega), fun q2 => ⟨base, fun x hx => ?_⟩⟩, fun q1 => rwB_no (by omega)⟩
  obtain ⟨k1, k2⟩ := key ⟨q1, q2⟩ x hx
  refine ⟨fun hlt => ?_, k2⟩
  obtain ⟨k3, k4, k5⟩ := k1 hlt
  repeat' (first | omega | exact k4 (by omega) | exact k5 (by omega) | apply And.intro | intro _)
theorem x_ValidRowI (m n : Nat) (l : List Int) (cap : Int) (h1 : n ≤ 1048576) (h3 : n ≤ m) (h4 : l.length = m) (hw : w16 n l) : Fex true (TT mx) (inlN true (TT mx) C0 (lookI (ILri n l)) 4) C0 U0 Tryd.f15 [.a (.c (.slc 0 0 0 1 n cap))] [.cells false 34 [.run [.i16] m l]] (fun lv _ => leL lv (.a (.c (.bool (rwB n l))))) := by
  refine Go.Sx.by_eq (q := True ∧ True ∧ True ∧ True ∧ True ∧ (Decidable.decide ((1 : Int) ≤ (↑n : Int)) = Bool.true → True ∧ True ∧ True ∧ True ∧ True ∧ (Decidable.decide ((↑n : Int) ≤ (60 : Int)) = Bool.true → True ∧ True ∧ True ∧ True ∧ True ∧ (∃ (x : Nat), (x ≤ n ∧ ∀ (i : Nat), i < x → (1 : Int) ≤ List.getD l i (0 : Int) ∧ List.getD l i (0 : Int) ≤ (200 : Int)) ∧ (Go.Sx.Cel.slc (0 : Nat) (0 : Nat) (0 : Int) (1 : Nat) (↑n : Int) cap = Go.Sx.Cel.slc (0 : Nat) (0 : Nat) (0 : Int) (1 : Nat) (↑n : Int) cap ∧ (Go.IntKind.i64 = Go.IntKind.i64 ∧ (1 : Int) = (1 : Int)) ∧ (Go.IntKind.i64 = Go.IntKind.i64 ∧ (200 : Int) = (200 : Int)) ∧ Go.Sx.Cel.val Go.undef = Go.Sx.Cel.val Go.undef ∧ Go.Sx.Cel.val Go.undef = Go.Sx.Cel.val Go.undef ∧ Go.Sx.Cel.val Go.undef = Go.Sx.Cel.val Go.undef ∧ True ∧ Go.Sx.Cel.val Go.undef = Go.Sx.Cel.val Go.undef ∧ True ∧ Go.Sx.Cel.slc (0 : Nat) (0 : Nat) (0 : Int) (1 : Nat) (↑n : Int) cap = Go.Sx.Cel.slc (0 : Nat) (0 : Nat) (0 : Int) (1 : Nat) (↑n : Int) cap ∧ (Go.IntKind.i64 = Go.IntKind.i64 ∧ (↑n : Int) = (↑n : Int)) ∧ (Go.IntKind.i64 = Go.IntKind.i64 ∧ (0 : Int) = (↑x : Int)) ∧ True ∧ True ∧ True ∧ True ∧ True ∧ True ∧ True ∧ True ∧ True ∧ True ∧ True ∧ True ∧ True ∧ True ∧ True) ∧ (Bool.false = Bool.false ∧ (34 : Nat) = (34 : Nat) ∧ ([Go.Sx.EK.i16] = [Go.Sx.EK.i16] ∧ m = m ∧ l = l) ∧ True) ∧ True) ∧ ∀ (x : Nat), (x ≤ n ∧ ∀ (i : Nat), i < x → (1 : Int) ≤ List.getD l i (0 : Int) ∧ List.getD l i (0 : Int) ≤ (200 : Int)) → True ∧ (Decidable.decide ((↑x : Int) < (↑n : Int)) = Bool.true → ((0 : Int) ≤ (↑x : Int) ∧ (↑x : Int) < (↑n : Int)) ∧ ((0 : Int) ≤ (0 : Int) + (↑x : Int) ∧ Int.toNat ((0 : Int) + (↑x : Int)) < m) ∧ True ∧ True ∧ ((-9223372036854775808 : Int) ≤ List.getD l (Int.toNat ((0 : Int) + (↑x : Int))) (0 : Int) ∧ List.getD l (Int.toNat ((0 : Int) + (↑x : Int))) (0 : Int) ≤ (9223372036854775807 : Int)) ∧ True ∧ True ∧ True ∧ (Decidable.decide (List.getD l (Int.toNat ((0 : Int) + (↑x : Int))) (0 : Int) < (1 : Int)) = Bool.false → True ∧ ((-9223372036854775808 : Int) ≤ List.getD l (Int.toNat ((0 : Int) + (↑x : Int))) (0 : Int) ∧ List.getD l (Int.toNat ((0 : Int) + (↑x : Int))) (0 : Int) ≤ (9223372036854775807 : Int)) ∧ True ∧ True ∧ True ∧ (Decidable.decide ((200 : Int) < List.getD l (Int.toNat ((0 : Int) + (↑x : Int))) (0 : Int)) = Bool.true → True ∧ True ∧ True ∧ rwB n l = Bool.false) ∧ (Decidable.decide ((200 : Int) < List.getD l (Int.toNat ((0 : Int) + (↑x : Int))) (0 : Int)) = Bool.false → ((-9223372036854775808 : Int) ≤ (↑x : Int) + (1 : Int) ∧ (↑x : Int) + (1 : Int) ≤ (9223372036854775807 : Int)) ∧ True ∧ ∃ (y : Nat), (y ≤ n ∧ ∀ (i : Nat), i < y → (1 : Int) ≤ List.getD l i (0 : Int) ∧ List.getD l i (0 : Int) ≤ (200 : Int)) ∧ n - y < n - x ∧ (Go.Sx.Cel.slc (0 : Nat) (0 : Nat) (0 : Int) (1 : Nat) (↑n : Int) cap = Go.Sx.Cel.slc (0 : Nat) (0 : Nat) (0 : Int) (1 : Nat) (↑n : Int) cap ∧ (Go.IntKind.i64 = Go.IntKind.i64 ∧ (1 : Int) = (1 : Int)) ∧ (Go.IntKind.i64 = Go.IntKind.i64 ∧ (200 : Int) = (200 : Int)) ∧ Go.Sx.Cel.val Go.undef = Go.Sx.Cel.val Go.undef ∧ Go.Sx.Cel.val Go.undef = Go.Sx.Cel.val Go.undef ∧ Go.Sx.Cel.val Go.undef = Go.Sx.Cel.val Go.undef ∧ True ∧ Go.Sx.Cel.val Go.undef = Go.Sx.Cel.val Go.undef ∧ True ∧ Go.Sx.Cel.slc (0 : Nat) (0 : Nat) (0 : Int) (1 : Nat) (↑n : Int) cap = Go.Sx.Cel.slc (0 : Nat) (0 : Nat) (0 : Int) (1 : Nat) (↑n : Int) cap ∧ (Go.IntKind.i64 = Go.IntKind.i64 ∧ (↑n : Int) = (↑n : Int)) ∧ (Go.IntKind.i64 = Go.IntKind.i64 ∧ (↑x : Int) + (1 : Int) = (↑y : Int)) ∧ True ∧ True ∧ True ∧ True ∧ True ∧ True ∧ True ∧ True ∧ True ∧ True ∧ True ∧ True ∧ True ∧ True ∧ True) ∧ (Bool.false = Bool.false ∧ (34 : Nat) = (34 : Nat) ∧ ([Go.Sx.EK.i16] = [Go.Sx.EK.i16] ∧ m = m ∧ l = l) ∧ True) ∧ True)) ∧ (Decidable.decide (List.getD l (Int.toNat ((0 : Int) + (↑x : Int))) (0 : Int) < (1 : Int)) = !Bool.false → True ∧ True ∧ True ∧ True ∧ rwB n l = Bool.false)) ∧ (Decidable.decide ((↑x : Int) < (↑n : Int)) = Bool.false → True ∧ True ∧ True ∧ rwB n l = Bool.true)) ∧ (Decidable.decide ((↑n : Int) ≤ (60 : Int)) = !Bool.true → True ∧ True ∧ rwB n l = Bool.false)) ∧ (Decidable.decide ((1 : Int) ≤ (↑n : Int)) = !Bool.true → True ∧ True ∧ True ∧ True ∧ rwB n l = Bool.false)) (by kernel_rfl) ?_
  simp only [true_and, and_true, and_self, decide_eq_true_eq, decide_eq_false_iff_not, Bool.not_eq_true', Bool.not_eq_false', Bool.not_true, Bool.not_false, beq_iff_eq, beq_eq_false_iff_ne, bne_iff_ne, bne_eq_false_iff_eq, ne_eq, not_true_eq_false, not_false_eq_true, false_implies, true_implies, implies_true, forall_const, exists_const, ↓reduceIte, Int.reduceEq, Int.toNat_natCast, Bool.false_eq_true, Bool.true_eq_false, reduceCtorEq, Int.zero_add, Nat.add_zero, Int.ofNat_eq_natCast, Int.toNat_natCast, Nat.mul_one]
  have good : (1 ≤ n ∧ n ≤ 60) → (∀ i, i < n → 1 ≤ l.getD i 0 ∧ l.getD i 0 ≤ 200) → rwB n l = true := fun h1 h2 => rwB_t.2 ⟨h1, ⟨h2⟩⟩
  have base : ∃ x : Nat, (x ≤ n ∧ ∀ (i : Nat), i < x → 1 ≤ l.getD i 0 ∧ l.getD i 0 ≤ 200) ∧ 0 = (x : Int) := ⟨0, ⟨by omega, fun i hi => by omega⟩, rfl⟩
  have key : (1 ≤ (n : Int) ∧ (n : Int) ≤ 60) → ∀ x : Nat, (x ≤ n ∧ ∀ (i : Nat), i < x → 1 ≤ l.getD i 0 ∧ l.getD i 0 ≤ 200) → ((x : Int) < n → (-9223372036854775808 ≤ l.getD x 0 ∧ l.getD x 0 ≤ 9223372036854775807) ∧ (¬ (1 ≤ l.getD x 0 ∧ l.getD x 0 ≤ 200) → rwB n l = false) ∧ ((1 ≤ l.getD x 0 ∧ l.getD x 0 ≤ 200) → ∃ y : Nat, (y ≤ n ∧ ∀ i, i < y → 1 ≤ l.getD i 0 ∧ l.getD i 0 ≤ 200) ∧ n - y < n - x ∧ (x : Int) + 1 = (y : Int))) ∧ (¬ (x : Int) < n → rwB n l = true) := fun hn x ⟨hx, hp⟩ =>
    ⟨fun hlt => ⟨by have := hw x (by omega); omega, fun h => rwB_bad (by omega) h, fun h => in_step (by omega) hp h⟩, fun hge => good (by omega) fun i hi => hp i (by omega)⟩
  refine ⟨fun q1 => ⟨fun q2 => ⟨base, fun x hx => ?_⟩, fun q2 => rwB_no (by omega)⟩, fun q1 => rwB_no (by omega)⟩
  obtain ⟨k1, k2⟩ := key ⟨q1, q2⟩ x hx
  refine ⟨fun hlt => ?_, k2⟩
  obtain ⟨k3, k4, k5⟩ := k1 hlt
  repeat' (first | omega | exact k4 (by omega) | exact k5 (by omega) | apply And.intro | intro _)

noncomputable abbrev gVr : Entry := gRw (fun n l => .a (.c (.bool (rwB n l))))
theorem e_l05Ok : EntryOk Tryd.prog (TT mx) 12 gVr := by
  refine ⟨fnOk Tryd.func12 (by kernel_rfl) rfl, ?_⟩
  intro args H p r he hp n0 w0 β w vals hG hH hA
  obtain ⟨id, m, n, o, l, cap, rfl, hg, rfl, h1, h2, h3, h4⟩ := gRw_inv he hp
  exact entry_view tt_ok (inlN_ok tt_ok C0_ok mixed (ILrs_ok).ok 4) C0_ok mixed Tryd.func12 [id] (x_l05Ok m n l cap h1 h2 h3 h4) rfl rfl ⟨.inr (by rw [hg]; rfl), trivial⟩ hG hH hA

theorem e_ValidRowI : EntryOk Tryd.prog (TT mx) 15 gVr := by
  refine ⟨fnOk Tryd.func15 (by kernel_rfl) rfl, ?_⟩
  intro args H p r he hp n0 w0 β w vals hG hH hA
  obtain ⟨id, m, n, o, l, cap, rfl, hg, rfl, h1, h2, h3, h4⟩ := gRw_inv he hp
  exact entry_view tt_ok (inlN_ok tt_ok C0_ok mixed (ILri_ok).ok 4) C0_ok mixed Tryd.func15 [id] (x_ValidRowI m n l cap h1 h2 h3 h4) rfl rfl ⟨.inr (by rw [hg]; rfl), trivial⟩ hG hH hA

noncomputable def Er0 : List (FuncId × Entry) := (12, gVr) :: (15, gVr) :: (6, gEqR 34 1 [.i16]) :: []
theorem Er0_ok : EntriesOk Tryd.prog (TT mx) Er0 := ⟨e_l05Ok, e_ValidRowI, e_eqRow, trivial⟩
def Mr0 : List (FuncId × EntryC) := []
theorem Mr0_ok : EntriesCOk Tryd.prog (TT mx) Mr0 := trivial
noncomputable abbrev Cr0 : Ctr := ctrOfM Er0 Mr0
theorem Cr0_ok : CtrOk Tryd.prog (TT mx) Cr0 := ctrOfM_ok Er0_ok Mr0_ok

theorem ws_rw {n : Nat} {l : List Int} {len cap : Int} (ws : WS [.i16] 1 n l len cap) (h : len ≤ 1048576) : RwP len len.toNat (l.take len.toNat) :=
  ⟨ws.h0, h, Nat.le_refl _, take_len (by have := ws.hn; have := ws.hl; omega), ws_w16 ws⟩


end Go.Proofs.YtbphlffjgbflcaaDoor
