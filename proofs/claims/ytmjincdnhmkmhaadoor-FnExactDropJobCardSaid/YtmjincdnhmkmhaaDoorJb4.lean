/- Jobs that are valid, on the specification's side; the code of an error as a contract. No conditions beyond the ranges of the kinds. -/
import Derived.Test.YtmjincdnhmkmhaaDoorWk2
import Derived.Test.YtmjincdnhmkmhaaDoorCod
set_option linter.unusedSimpArgs false
set_option linter.unusedVariables false
namespace Go.Proofs.YtmjincdnhmkmhaaDoor
open Go.Sx Go.RowKit

def lmOk (n : Nat) (l : List Int) : LAnn := { ι := Nat, inv := fun _ k => k ≤ n ∧ ∀ i, i < k → (1 ≤ dy l i ∧ dy l i ≤ 30) ∧ af l i < 2 ^ n, slots := fun _ k => [(3, .a (.c (.int .i64 k)))], blks := fun _ _ => [], μ := fun _ k => n - k }
theorem x_l07Ok (m n : Nat) (l : List Int) (cap : Int) (q : Jx n m l) : Fex true TT (inlN true TT Cj3 (lookI ILz) 6) Cj3 (fun _ => .inv (lmOk n l)) Tryd.f22 [.a (.c (.slc 0 0 0 2 n cap))] [.cells false 35 [.run [.i8, .u16] m l]] (fun lv _ => leL lv (.a (.c (.bool (vjB n l))))) := by
  refine Go.Sx.by_eq (q := True ∧ True ∧ True ∧ True ∧ (Decidable.decide ((12 : Int) < (↑n : Int)) = Bool.true → True ∧ vjB n l = Bool.false) ∧ (Decidable.decide ((12 : Int) < (↑n : Int)) = Bool.false → True ∧ (∃ (x : Nat), (x ≤ n ∧ ∀ (i : Nat), i < x → ((1 : Int) ≤ dy l i ∧ dy l i ≤ (30 : Int)) ∧ af l i < (2 : Nat) ^ n) ∧ (Cel.slc (0 : Nat) (0 : Nat) (0 : Int) (2 : Nat) (↑n : Int) cap = Cel.slc (0 : Nat) (0 : Nat) (0 : Int) (2 : Nat) (↑n : Int) cap ∧ Cel.val Go.undef = Cel.val Go.undef ∧ True ∧ (IntKind.i64 = IntKind.i64 ∧ (0 : Int) = (↑x : Int)) ∧ Cel.val Go.undef = Cel.val Go.undef ∧ Cel.val Go.undef = Cel.val Go.undef ∧ Cel.slc (0 : Nat) (0 : Nat) (0 : Int) (2 : Nat) (↑n : Int) cap = Cel.slc (0 : Nat) (0 : Nat) (0 : Int) (2 : Nat) (↑n : Int) cap ∧ (IntKind.i64 = IntKind.i64 ∧ (↑n : Int) = (↑n : Int)) ∧ Decidable.decide ((12 : Int) < (↑n : Int)) = Decidable.decide ((12 : Int) < (↑n : Int)) ∧ True ∧ True ∧ True ∧ True ∧ True ∧ True ∧ True ∧ True ∧ True ∧ True ∧ True ∧ True ∧ True ∧ True ∧ True ∧ True ∧ True ∧ True ∧ True ∧ True ∧ True ∧ True ∧ True ∧ True ∧ True ∧ True ∧ Cel.val Go.undef = Cel.val Go.undef ∧ Cel.val Go.undef = Cel.val Go.undef ∧ Cel.val Go.undef = Cel.val Go.undef ∧ Cel.val Go.undef = Cel.val Go.undef ∧ Cel.val Go.undef = Cel.val Go.undef ∧ Cel.val Go.undef = Cel.val Go.undef ∧ True) ∧ (Bool.false = Bool.false ∧ (35 : Nat) = (35 : Nat) ∧ ([EK.i8, EK.u16] = [EK.i8, EK.u16] ∧ m = m ∧ l = l) ∧ True) ∧ True) ∧ ∀ (x : Nat), (x ≤ n ∧ ∀ (i : Nat), i < x → ((1 : Int) ≤ dy l i ∧ dy l i ≤ (30 : Int)) ∧ af l i < (2 : Nat) ^ n) → True ∧ True ∧ True ∧ True ∧ (Decidable.decide ((↑x : Int) < (↑n : Int)) = Bool.true → True ∧ True ∧ ((0 : Int) ≤ (↑x : Int) ∧ (↑x : Int) < (↑n : Int)) ∧ True ∧ ((0 : Int) ≤ (0 : Int) + (↑x : Int) ∧ Int.toNat ((0 : Int) + (↑x : Int)) * (2 : Nat) + (0 : Nat) < m) ∧ ((-9223372036854775808 : Int) ≤ List.getD l (Int.toNat ((0 : Int) + (↑x : Int)) * (2 : Nat) + (0 : Nat)) (0 : Int) ∧ List.getD l (Int.toNat ((0 : Int) + (↑x : Int)) * (2 : Nat) + (0 : Nat)) (0 : Int) ≤ (9223372036854775807 : Int)) ∧ True ∧ True ∧ True ∧ ((!(Decidable.decide ((1 : Int) ≤ List.getD l (Int.toNat ((0 : Int) + (↑x : Int)) * (2 : Nat) + (0 : Nat)) (0 : Int)) && Decidable.decide (List.getD l (Int.toNat ((0 : Int) + (↑x : Int)) * (2 : Nat) + (0 : Nat)) (0 : Int) ≤ (30 : Int)))) = Bool.false → True ∧ True ∧ ((0 : Int) ≤ (↑x : Int) ∧ (↑x : Int) < (↑n : Int)) ∧ True ∧ ((0 : Int) ≤ (0 : Int) + (↑x : Int) ∧ Int.toNat ((0 : Int) + (↑x : Int)) * (2 : Nat) + (1 : Nat) < m) ∧ True ∧ True ∧ True ∧ ((0 : Int) ≤ IntKind.wrap IntKind.u64 (↑n : Int) ∧ Int.toNat (IntKind.wrap IntKind.u64 (↑n : Int)) ≤ IntKind.bits IntKind.u16) ∧ True ∧ True ∧ ((bShr (List.getD l (Int.toNat ((0 : Int) + (↑x : Int)) * (2 : Nat) + (1 : Nat)) (0 : Int)) (IntKind.wrap IntKind.u64 (↑n : Int)) != (0 : Int)) = Bool.true → True ∧ vjB n l = Bool.false) ∧ ((bShr (List.getD l (Int.toNat ((0 : Int) + (↑x : Int)) * (2 : Nat) + (1 : Nat)) (0 : Int)) (IntKind.wrap IntKind.u64 (↑n : Int)) != (0 : Int)) = Bool.false → True ∧ ((-9223372036854775808 : Int) ≤ (↑x : Int) + (1 : Int) ∧ (↑x : Int) + (1 : Int) ≤ (9223372036854775807 : Int)) ∧ True ∧ ∃ (y : Nat), (y ≤ n ∧ ∀ (i : Nat), i < y → ((1 : Int) ≤ dy l i ∧ dy l i ≤ (30 : Int)) ∧ af l i < (2 : Nat) ^ n) ∧ n - y < n - x ∧ (Cel.slc (0 : Nat) (0 : Nat) (0 : Int) (2 : Nat) (↑n : Int) cap = Cel.slc (0 : Nat) (0 : Nat) (0 : Int) (2 : Nat) (↑n : Int) cap ∧ Cel.val Go.undef = Cel.val Go.undef ∧ True ∧ (IntKind.i64 = IntKind.i64 ∧ (↑x : Int) + (1 : Int) = (↑y : Int)) ∧ Cel.val Go.undef = Cel.val Go.undef ∧ Cel.val Go.undef = Cel.val Go.undef ∧ Cel.slc (0 : Nat) (0 : Nat) (0 : Int) (2 : Nat) (↑n : Int) cap = Cel.slc (0 : Nat) (0 : Nat) (0 : Int) (2 : Nat) (↑n : Int) cap ∧ (IntKind.i64 = IntKind.i64 ∧ (↑n : Int) = (↑n : Int)) ∧ Decidable.decide ((12 : Int) < (↑n : Int)) = Decidable.decide ((12 : Int) < (↑n : Int)) ∧ True ∧ True ∧ True ∧ True ∧ True ∧ True ∧ True ∧ True ∧ True ∧ True ∧ True ∧ True ∧ True ∧ True ∧ True ∧ True ∧ True ∧ True ∧ True ∧ True ∧ True ∧ True ∧ True ∧ True ∧ True ∧ True ∧ Cel.val Go.undef = Cel.val Go.undef ∧ Cel.val Go.undef = Cel.val Go.undef ∧ Cel.val Go.undef = Cel.val Go.undef ∧ Cel.val Go.undef = Cel.val Go.undef ∧ Cel.val Go.undef = Cel.val Go.undef ∧ Cel.val Go.undef = Cel.val Go.undef ∧ True) ∧ (Bool.false = Bool.false ∧ (35 : Nat) = (35 : Nat) ∧ ([EK.i8, EK.u16] = [EK.i8, EK.u16] ∧ m = m ∧ l = l) ∧ True) ∧ True)) ∧ ((!(Decidable.decide ((1 : Int) ≤ List.getD l (Int.toNat ((0 : Int) + (↑x : Int)) * (2 : Nat) + (0 : Nat)) (0 : Int)) && Decidable.decide (List.getD l (Int.toNat ((0 : Int) + (↑x : Int)) * (2 : Nat) + (0 : Nat)) (0 : Int) ≤ (30 : Int)))) = !Bool.false → True ∧ True ∧ vjB n l = Bool.false)) ∧ (Decidable.decide ((↑x : Int) < (↑n : Int)) = Bool.false → True ∧ (((35 : Nat) = (35 : Nat) ∧ (0 : Nat) = (0 : Nat) ∧ (0 : Int) = (0 : Int) ∧ (2 : Nat) = (2 : Nat) ∧ [EK.i8, EK.u16] = [EK.i8, EK.u16]) ∧ Jl (↑n : Int) m l) ∧ ∀ (N : Nat) (L : List Int) (cp : Int), Gq (1 : Nat) (odK l (Int.toNat (↑n : Int))) (odV l (Int.toNat (↑n : Int))) N L cp → True ∧ True ∧ True ∧ True ∧ True ∧ True ∧ True ∧ odB l (Int.toNat (↑n : Int)) = vjB n l))) (by kernel_rfl) ?_
  obtain ⟨q1, q2, q3, jw⟩ := q
  simp only [true_and, and_true, and_self, decide_eq_true_eq, decide_eq_false_iff_not, Bool.not_eq_true', Bool.not_eq_false', Bool.not_true, Bool.not_false, beq_iff_eq, beq_eq_false_iff_ne, bne_iff_ne, bne_eq_false_iff_eq, ne_eq, not_true_eq_false, not_false_eq_true, false_implies, true_implies, implies_true, forall_const, exists_const, ↓reduceIte, Int.reduceEq, Int.toNat_natCast, Bool.false_eq_true, Bool.true_eq_false, reduceCtorEq, Int.zero_add, Nat.add_zero, Int.ofNat_eq_natCast, Int.toNat_natCast, Bool.and_eq_true, Bool.and_eq_false_iff]
  have no : ∀ k, k < n → ¬ ((1 ≤ dy l k ∧ dy l k ≤ 30) ∧ af l k < 2 ^ n) → vjB n l = false := fun k hk h => vjB_f.2 fun v => h ⟨v.dy k hk, v.af hk⟩
  refine ⟨fun h12 => vjB_f.2 fun v => by have := v.hi; omega, fun h12 => ⟨⟨0, ⟨by omega, fun i hi => by omega⟩, rfl⟩, ?_⟩⟩
  rintro k ⟨hk, hp⟩
  refine ⟨fun hlt => ?_, fun hge => ?_⟩
  · have hd := jw.d k (by omega)
    obtain ⟨e1, e2⟩ := jw.af (k := k) (by omega)
    rw [u64w (by omega) (by omega), e1, Int.toNat_natCast]
    refine ⟨by omega, by omega, by omega, fun hd1 => ⟨by omega, by omega, ⟨by omega, by simp only [IntKind.bits]; omega⟩, fun hb => no k (by omega) fun h => hb (bShr_zero.2 h.2), fun hb => ⟨by omega, k + 1, ⟨by omega, fun i hi => ?_⟩, by omega, by omega⟩⟩, fun hd1 => no k (by omega) fun h => ?_⟩
    · rcases (show i < k ∨ i = k by omega) with h | rfl
      · exact hp i h
      · exact ⟨hd1, bShr_zero.1 hb⟩
    · have := h.1; unfold dy at this; omega
  · obtain rfl : k = n := by omega
    refine ⟨⟨by omega, by omega, by rw [Int.toNat_natCast]; exact q2, q3, by rw [Int.toNat_natCast]; exact jw⟩, fun N L cp g => ?_⟩
    rw [Bool.eq_iff_iff, vjB_t]
    constructor
    · intro h
      have h : ∀ j, j < k → j ∈ (od l k k).1 := by simpa [odB] using h
      exact ⟨by omega, fun i hi => (hp i hi).1, h⟩
    · intro v
      exact (od_all v.od).2.2

noncomputable def gOk : Entry := fun args H => match args with
  | [.a (.c (.slc id b z s len _))] => match getB H id with
    | .cells _ t [.run ks m l] => some ((t = 35 ∧ b = 0 ∧ z = 0 ∧ s = 2 ∧ ks = [.i8, .u16]) ∧ 0 ≤ len ∧ Jx len.toNat m l, .a (.c (.bool (vjB len.toNat l))))
    | _ => none
  | _ => none
theorem gOk_inv {args : List LV} {H : List Blk} {p : Prop} {r : LV} (he : gOk args H = some (p, r)) (hp : p) : ∃ (id m n : Nat) (o : Bool) (l : List Int) (cap : Int),
    args = [.a (.c (.slc id 0 0 2 n cap))] ∧ getB H id = .cells o 35 [.run [.i8, .u16] m l] ∧ r = .a (.c (.bool (vjB n l))) ∧ Jx n m l := by
  unfold gOk at he
  split at he
  · split at he
    · rename_i id b z s len cap _ o t ks m l hg
      simp only [Option.some.injEq, Prod.mk.injEq] at he
      obtain ⟨rfl, rfl⟩ := he
      obtain ⟨⟨rfl, rfl, rfl, rfl, rfl⟩, h1, h2⟩ := hp
      obtain ⟨n, rfl⟩ := Int.eq_ofNat_of_zero_le h1
      exact ⟨id, m, n, o, l, cap, rfl, hg, rfl, h2⟩
    · simp at he
  · simp at he
theorem e_l07Ok : EntryOk Tryd.prog TT 22 gOk := by
  refine ⟨fnOk Tryd.func22 (by kernel_rfl) rfl, ?_⟩
  intro args H p r he hp n0 w0 β w vals hG hH hA
  obtain ⟨id, m, n, o, l, cap, rfl, hg, rfl, q⟩ := gOk_inv he hp
  exact entry_view tt_ok (inlN_ok tt_ok Cj3_ok mixed ILz_ok.ok 6) Cj3_ok mixed Tryd.func22 [id] (x_l07Ok m n l cap q) rfl rfl ⟨.inr (by rw [hg]; rfl), trivial⟩ hG hH hA

/-! ### Codes -/
def gCode : Entry := fun args _ => match args with
  | [.a (.c (.val .nilIface))] => some (True, .a (.c (.int .i64 0)))
  | [.a (.c (.val (.iface t (.int .i64 c))))] => some (t = 62, .a (.c (.int .i64 c)))
  | _ => none
theorem e_codeOf : EntryOk Tryd.prog TT 15 gCode := by
  refine ⟨fnOk Tryd.func15 (by kernel_rfl) rfl, ?_⟩
  intro args H p r he hp n0 w0 β w vals hG hH hA
  have one : ∀ {x : Value}, TmR β [.a (.c (.val x))] vals.toList → vals = #[x] := by
    rintro x ⟨v, rest, e1, hv, hr⟩
    have hr : rest = [] := hr
    have hv : v = x := hv
    subst hr; subst hv
    cases vals; simp only [] at e1; rw [e1]
  unfold gCode at he
  split at he
  · simp only [Option.some.injEq, Prod.mk.injEq] at he
    obtain ⟨rfl, rfl⟩ := he
    rw [one hA]
    refine (code_nil w).mono ?_
    rintro e w' ⟨rfl, hb⟩
    exact ⟨_, rfl, hb, rfl⟩
  · rename_i t c
    simp only [Option.some.injEq, Prod.mk.injEq] at he
    obtain ⟨rfl, rfl⟩ := he
    subst hp
    rw [one hA]
    refine (code_hit c w (errCell hG hH.ext)).mono ?_
    rintro e w' ⟨rfl, hb⟩
    exact ⟨_, rfl, hb, rfl⟩
  · simp at he

noncomputable def Ej4 : List (FuncId × Entry) := (22, gOk) ::
  (15, gCode) ::
  Ej3
theorem Ej4_ok : EntriesOk Tryd.prog TT Ej4 := ⟨e_l07Ok,
  e_codeOf,
  Ej3_ok⟩
noncomputable def Mj4 : List (FuncId × EntryC) := (14, gWork) :: Mj2
theorem Mj4_ok : EntriesCOk Tryd.prog TT Mj4 := ⟨e_workOf, Mj2_ok⟩
noncomputable abbrev Cj4 : Ctr := ctrOfM Ej4 Mj4
theorem Cj4_ok : CtrOk Tryd.prog TT Cj4 := ctrOfM_ok Ej4_ok Mj4_ok

end Go.Proofs.YtmjincdnhmkmhaaDoor
