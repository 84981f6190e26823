/- Stones that are joined: small functions as contracts. No conditions beyond the ranges of the kinds. -/
import Derived.Test.YtnoljgfnpabinaaDoorJoi0
import Derived.Test.YtnoljgfnpabinaaDoorAt1
import Derived.Test.YtnoljgfnpabinaaDoorDel0
set_option linter.unusedSimpArgs false
set_option linter.unusedVariables false
namespace Go.Proofs.YtnoljgfnpabinaaDoor
open Go.Sx Go.RowKit Go.Lib Go.Sort Go.Shelf

section
variable {e : Nat → Value}

/-! ### The corner with an index, from -1 on -/
def gAtW : Entry := fun args H => match args with
  | [.a (.c (.slc id b z s len _)), .a (.c (.int .i64 i))] => match getB H id with
    | .cells _ t [.run ks n l] => some (t = 35 ∧ b = 0 ∧ z = 0 ∧ s = 2 ∧ ks = [.i16] ∧ 0 < len ∧ len ≤ 1048576 ∧ len.toNat * 2 ≤ n ∧ l.length = n ∧ -1 ≤ i ∧ i ≤ 1048576, .a (.agg [.run [.i16] 2 (cor l ((i + len).toNat % len.toNat))]))
    | _ => none
  | _ => none
theorem x_atW (m n : Nat) (k : Int) (l : List Int) (cap : Int) (h0 : 0 < n) (h1 : n ≤ 1048576) (h3 : n * 2 ≤ m) (h4 : l.length = m) (hk0 : -1 ≤ k) (hk : k ≤ 1048576) : Fex true (TT e) (inlN true (TT e) C0 (lookI []) 4) C0 U0 Tryd.f26 [.a (.c (.slc 0 0 0 2 n cap)), .a (.c (.int .i64 k))] [.cells false 35 [.run [.i16] m l]] (fun lv _ => leL lv (.a (.agg [.run [.i16] 2 (cor l ((k + n).toNat % n))]))) := by
  refine Go.Sx.by_eq (q := True ∧ True ∧ True ∧ True ∧ True ∧ True ∧ True ∧ ((-9223372036854775808 : Int) ≤ k + (↑n : Int) ∧ k + (↑n : Int) ≤ (9223372036854775807 : Int)) ∧ True ∧ (↑n : Int) ≠ (0 : Int) ∧ ((0 : Int) ≤ Int.tmod (k + (↑n : Int)) (↑n : Int) ∧ Int.tmod (k + (↑n : Int)) (↑n : Int) < (↑n : Int)) ∧ ((0 : Int) ≤ (0 : Int) + Int.tmod (k + (↑n : Int)) (↑n : Int) ∧ Int.toNat ((0 : Int) + Int.tmod (k + (↑n : Int)) (↑n : Int)) * (2 : Nat) + (0 : Nat) + (2 : Nat) ≤ m) ∧ True ∧ ([EK.i16] = [EK.i16] ∧ (2 : Nat) = (2 : Nat) ∧ List.take (2 : Nat) (List.drop (Int.toNat ((0 : Int) + Int.tmod (k + (↑n : Int)) (↑n : Int)) * (2 : Nat) + (0 : Nat)) l) = cor l (Int.toNat (k + (↑n : Int)) % n)) ∧ True) (by kernel_rfl) ?_
  have ec : ∀ i, List.take 2 (List.drop (i * 2) l) = cor l i := fun _ => rfl
  simp only [true_and, and_true, and_self, decide_eq_true_eq, decide_eq_false_iff_not, Bool.not_eq_true', Bool.not_eq_false', Bool.not_true, Bool.not_false, beq_iff_eq, beq_eq_false_iff_ne, bne_iff_ne, bne_eq_false_iff_eq, ne_eq, not_true_eq_false, not_false_eq_true, false_implies, true_implies, implies_true, forall_const, exists_const, ↓reduceIte, Int.reduceEq, Int.toNat_natCast, Bool.false_eq_true, Bool.true_eq_false, reduceCtorEq, Int.zero_add, Nat.add_zero, ec, Int.ofNat_eq_natCast]
  obtain ⟨j, hj⟩ : ∃ j : Nat, k + n = (j : Int) := ⟨(k + n).toNat, by omega⟩
  have hm : j % n < n := Nat.mod_lt _ h0
  have et : (k + (n : Int)).tmod (n : Int) = ((j % n : Nat) : Int) := by rw [hj, ← Int.ofNat_tmod]
  rw [hj] at et ⊢
  simp only [et, Int.toNat_natCast]
  exact ⟨⟨by omega, by omega⟩, by omega, ⟨by omega, by omega⟩, ⟨by omega, by omega⟩, trivial⟩
theorem e_atW : EntryOk Tryd.prog (TT e) 26 gAtW := by
  refine ⟨fnOk Tryd.func26 (by kernel_rfl) rfl, ?_⟩
  intro args H p r he hp n0 w0 β w vals hG hH hA
  unfold gAtW at he
  split at he
  · split at he
    · rename_i id b z s len cap i _ o t ks m l hg
      simp only [Option.some.injEq, Prod.mk.injEq] at he
      obtain ⟨rfl, rfl⟩ := he
      obtain ⟨rfl, rfl, rfl, rfl, rfl, h1, h2, h3, h4, h5, h6⟩ := hp
      obtain ⟨n, rfl⟩ := Int.eq_ofNat_of_zero_le (Int.le_of_lt h1)
      exact entry_view tt_ok (inlN_ok tt_ok C0_ok mixed (InlsOk.ok (L := []) trivial) 4) C0_ok mixed Tryd.func26 [id] (x_atW m n i l cap (by omega) (by omega) (by simpa using h3) h4 h5 h6) rfl rfl ⟨.inr (by rw [hg]; rfl), trivial⟩ hG hH hA
    · simp at he
  · simp at he

/-! ### The index behind another one -/
def gNxt : Entry := fun args _ => match args with
  | [.a (.c (.slc _ _ _ _ len _)), .a (.c (.int .i64 i))] => some (0 < len ∧ len ≤ 1048576 ∧ 0 ≤ i ∧ i ≤ 1048576, .a (.c (.int .i64 (((i.toNat + 1) % len.toNat : Nat) : Int))))
  | _ => none
theorem x_nxt (b : Nat) (z : Int) (s n i : Nat) (cap : Int) (h0 : 0 < n) (h1 : n ≤ 1048576) (hi : i ≤ 1048576) : Fex true (TT e) (inlN true (TT e) C0 (lookI []) 4) C0 U0 Tryd.f12 [.a (.c (.slc 0 b z s n cap)), .a (.c (.int .i64 i))] [.dead] (fun lv _ => leL lv (.a (.c (.int .i64 (((i + 1) % n : Nat) : Int))))) := by
  refine Go.Sx.by_eq (q := True ∧ True ∧ ((-9223372036854775808 : Int) ≤ (↑i : Int) + (1 : Int) ∧ (↑i : Int) + (1 : Int) ≤ (9223372036854775807 : Int)) ∧ True ∧ True ∧ (↑n : Int) ≠ (0 : Int) ∧ True ∧ IntKind.i64 = IntKind.i64 ∧ Int.tmod ((↑i : Int) + (1 : Int)) (↑n : Int) = (↑((i + (1 : Nat)) % n) : Int)) (by kernel_rfl) ?_
  simp only [true_and, and_true, and_self, decide_eq_true_eq, decide_eq_false_iff_not, Bool.not_eq_true', Bool.not_eq_false', Bool.not_true, Bool.not_false, beq_iff_eq, beq_eq_false_iff_ne, bne_iff_ne, bne_eq_false_iff_eq, ne_eq, not_true_eq_false, not_false_eq_true, false_implies, true_implies, implies_true, forall_const, exists_const, ↓reduceIte, Int.reduceEq, Int.toNat_natCast, Bool.false_eq_true, Bool.true_eq_false, reduceCtorEq, Int.ofNat_eq_natCast, tmodN]
  have hm : (i + 1) % n < n := Nat.mod_lt _ h0
  omega
theorem e_nxt : EntryOk Tryd.prog (TT e) 12 gNxt := by
  refine ⟨fnOk Tryd.func12 (by kernel_rfl) rfl, ?_⟩
  intro args H p r he hp n0 w0 β w vals hG hH hA
  unfold gNxt at he
  split at he
  · rename_i id b z s len cap i
    simp only [Option.some.injEq, Prod.mk.injEq] at he
    obtain ⟨rfl, rfl⟩ := he
    obtain ⟨h1, h2, h3, h4⟩ := hp
    obtain ⟨n, rfl⟩ := Int.eq_ofNat_of_zero_le (Int.le_of_lt h1)
    obtain ⟨i, rfl⟩ := Int.eq_ofNat_of_zero_le h3
    exact entry_view tt_ok (inlN_ok tt_ok C0_ok mixed (InlsOk.ok (L := []) trivial) 4) C0_ok mixed Tryd.func12 [id] (x_nxt b z s n i cap (by omega) (by omega) (by omega)) rfl rfl ⟨.inl rfl, trivial⟩ hG hH hA
  · simp at he

/-! ### Convex lists of the document -/
theorem x_cvS (m n : Nat) (l : List Int) (cap : Int) (n20 : n ≤ 20) (h3 : n * 2 ≤ m) (h4 : l.length = m) (hP : ∀ i, i < n → PlC (cor l i)) : Fex true (TT e) (inlN true (TT e) Cs (lookI (ILo n l)) 4) Cs (fun r => if r = 8 then .inv (lmCxI n l) else .inv (lmCxO n l)) Tryd.f23 [.a (.c (.slc 0 0 0 2 n cap))] [.cells false 35 [.run [.i16] m l]] (fun lv _ => leL lv (.a (.c (.bool (decide (3 ≤ n) && cxB n l))))) := by
  refine Go.Sx.by_eq (q := True ∧ True ∧ True ∧ True ∧ (Decidable.decide ((↑n : Int) < (3 : Int)) = Bool.true → True ∧ (Decidable.decide ((3 : Nat) ≤ n) && cxB n l) = Bool.false) ∧ (Decidable.decide ((↑n : Int) < (3 : Int)) = Bool.false → True ∧ (∃ (x : Nat), (x ≤ n ∧ ∀ (i : Nat), i < x → ∀ (j : Nat), j < n → j ≠ i → j ≠ (i + (1 : Nat)) % n → (0 : Int) < sgn l i ((i + (1 : Nat)) % n) j) ∧ (Cel.slc (0 : Nat) (0 : Nat) (0 : Int) (2 : Nat) (↑n : Int) cap = Cel.slc (0 : Nat) (0 : Nat) (0 : Int) (2 : Nat) (↑n : Int) cap ∧ Cel.val Go.undef = Cel.val Go.undef ∧ True ∧ (IntKind.i64 = IntKind.i64 ∧ (0 : Int) = (↑x : Int)) ∧ True ∧ True ∧ Cel.slc (0 : Nat) (0 : Nat) (0 : Int) (2 : Nat) (↑n : Int) cap = Cel.slc (0 : Nat) (0 : Nat) (0 : Int) (2 : Nat) (↑n : Int) cap ∧ (IntKind.i64 = IntKind.i64 ∧ (↑n : Int) = (↑n : Int)) ∧ Decidable.decide ((↑n : Int) < (3 : Int)) = Decidable.decide ((↑n : Int) < (3 : Int)) ∧ True ∧ True ∧ True ∧ True ∧ True ∧ True ∧ True ∧ True ∧ True ∧ True ∧ True ∧ True ∧ True ∧ True ∧ True ∧ True ∧ True ∧ True ∧ True ∧ True ∧ True ∧ True ∧ True ∧ True ∧ True ∧ True ∧ True ∧ True ∧ True ∧ True ∧ True ∧ True ∧ True ∧ True ∧ True ∧ True ∧ True ∧ True ∧ True ∧ True) ∧ (Bool.false = Bool.false ∧ (35 : Nat) = (35 : Nat) ∧ ([EK.i16] = [EK.i16] ∧ m = m ∧ l = l) ∧ True) ∧ True) ∧ ∀ (x : Nat), (x ≤ n ∧ ∀ (i : Nat), i < x → ∀ (j : Nat), j < n → j ≠ i → j ≠ (i + (1 : Nat)) % n → (0 : Int) < sgn l i ((i + (1 : Nat)) % n) j) → True ∧ True ∧ True ∧ True ∧ (Decidable.decide ((↑x : Int) < (↑n : Int)) = Bool.true → True ∧ True ∧ True ∧ True ∧ ((-9223372036854775808 : Int) ≤ (↑x : Int) + (1 : Int) ∧ (↑x : Int) + (1 : Int) ≤ (9223372036854775807 : Int)) ∧ True ∧ True ∧ (↑n : Int) ≠ (0 : Int) ∧ True ∧ True ∧ True ∧ (∃ (x_1 : Nat), (x_1 ≤ n ∧ ∀ (j : Nat), j < x_1 → j ≠ Int.toNat (↑x : Int) → j ≠ (Int.toNat (↑x : Int) + (1 : Nat)) % n → (0 : Int) < sgn l (Int.toNat (↑x : Int)) ((Int.toNat (↑x : Int) + (1 : Nat)) % n) j) ∧ (Cel.slc (0 : Nat) (0 : Nat) (0 : Int) (2 : Nat) (↑n : Int) cap = Cel.slc (0 : Nat) (0 : Nat) (0 : Int) (2 : Nat) (↑n : Int) cap ∧ Cel.val Go.undef = Cel.val Go.undef ∧ True ∧ (IntKind.i64 = IntKind.i64 ∧ (↑x : Int) = (↑x : Int)) ∧ (IntKind.i64 = IntKind.i64 ∧ Int.tmod ((↑x : Int) + (1 : Int)) (↑n : Int) = Int.tmod ((↑x : Int) + (1 : Int)) (↑n : Int)) ∧ (IntKind.i64 = IntKind.i64 ∧ (0 : Int) = (↑x_1 : Int)) ∧ Cel.slc (0 : Nat) (0 : Nat) (0 : Int) (2 : Nat) (↑n : Int) cap = Cel.slc (0 : Nat) (0 : Nat) (0 : Int) (2 : Nat) (↑n : Int) cap ∧ (IntKind.i64 = IntKind.i64 ∧ (↑n : Int) = (↑n : Int)) ∧ Decidable.decide ((↑n : Int) < (3 : Int)) = Decidable.decide ((↑n : Int) < (3 : Int)) ∧ (IntKind.i64 = IntKind.i64 ∧ (↑x : Int) = (↑x : Int)) ∧ Cel.slc (0 : Nat) (0 : Nat) (0 : Int) (2 : Nat) (↑n : Int) cap = Cel.slc (0 : Nat) (0 : Nat) (0 : Int) (2 : Nat) (↑n : Int) cap ∧ (IntKind.i64 = IntKind.i64 ∧ (↑n : Int) = (↑n : Int)) ∧ Decidable.decide ((↑x : Int) < (↑n : Int)) = Decidable.decide ((↑x : Int) < (↑n : Int)) ∧ True ∧ True ∧ Cel.slc (0 : Nat) (0 : Nat) (0 : Int) (2 : Nat) (↑n : Int) cap = Cel.slc (0 : Nat) (0 : Nat) (0 : Int) (2 : Nat) (↑n : Int) cap ∧ (IntKind.i64 = IntKind.i64 ∧ (↑x : Int) = (↑x : Int)) ∧ (IntKind.i64 = IntKind.i64 ∧ Int.tmod ((↑x : Int) + (1 : Int)) (↑n : Int) = Int.tmod ((↑x : Int) + (1 : Int)) (↑n : Int)) ∧ True ∧ True ∧ True ∧ True ∧ True ∧ True ∧ True ∧ True ∧ True ∧ True ∧ True ∧ True ∧ True ∧ True ∧ True ∧ True ∧ True ∧ True ∧ True ∧ True ∧ True ∧ True ∧ True ∧ True ∧ True ∧ True ∧ True ∧ True ∧ True ∧ True ∧ True) ∧ (Bool.false = Bool.false ∧ (35 : Nat) = (35 : Nat) ∧ ([EK.i16] = [EK.i16] ∧ m = m ∧ l = l) ∧ True) ∧ True) ∧ ∀ (x_1 : Nat), (x_1 ≤ n ∧ ∀ (j : Nat), j < x_1 → j ≠ Int.toNat (↑x : Int) → j ≠ (Int.toNat (↑x : Int) + (1 : Nat)) % n → (0 : Int) < sgn l (Int.toNat (↑x : Int)) ((Int.toNat (↑x : Int) + (1 : Nat)) % n) j) → True ∧ True ∧ True ∧ True ∧ (Decidable.decide ((↑x_1 : Int) < (↑n : Int)) = Bool.true → True ∧ True ∧ True ∧ True ∧ (((↑x_1 : Int) != (↑x : Int)) = Bool.true → True ∧ True ∧ True ∧ True ∧ True ∧ (((↑x_1 : Int) != Int.tmod ((↑x : Int) + (1 : Int)) (↑n : Int)) = Bool.true → True ∧ True ∧ ((0 : Int) ≤ (↑x : Int) ∧ (↑x : Int) < (↑n : Int)) ∧ ((0 : Int) ≤ (0 : Int) + (↑x : Int) ∧ Int.toNat ((0 : Int) + (↑x : Int)) * (2 : Nat) + (0 : Nat) + (2 : Nat) ≤ m) ∧ True ∧ True ∧ ((0 : Int) ≤ Int.tmod ((↑x : Int) + (1 : Int)) (↑n : Int) ∧ Int.tmod ((↑x : Int) + (1 : Int)) (↑n : Int) < (↑n : Int)) ∧ ((0 : Int) ≤ (0 : Int) + Int.tmod ((↑x : Int) + (1 : Int)) (↑n : Int) ∧ Int.toNat ((0 : Int) + Int.tmod ((↑x : Int) + (1 : Int)) (↑n : Int)) * (2 : Nat) + (0 : Nat) + (2 : Nat) ≤ m) ∧ True ∧ True ∧ ((0 : Int) ≤ (↑x_1 : Int) ∧ (↑x_1 : Int) < (↑n : Int)) ∧ ((0 : Int) ≤ (0 : Int) + (↑x_1 : Int) ∧ Int.toNat ((0 : Int) + (↑x_1 : Int)) * (2 : Nat) + (0 : Nat) + (2 : Nat) ≤ m) ∧ (PlC (List.take (2 : Nat) (List.drop (Int.toNat ((0 : Int) + (↑x : Int)) * (2 : Nat) + (0 : Nat)) l)) ∧ PlC (List.take (2 : Nat) (List.drop (Int.toNat ((0 : Int) + Int.tmod ((↑x : Int) + (1 : Int)) (↑n : Int)) * (2 : Nat) + (0 : Nat)) l)) ∧ PlC (List.take (2 : Nat) (List.drop (Int.toNat ((0 : Int) + (↑x_1 : Int)) * (2 : Nat) + (0 : Nat)) l))) ∧ True ∧ True ∧ (Decidable.decide (sd (List.take (2 : Nat) (List.drop (Int.toNat ((0 : Int) + (↑x : Int)) * (2 : Nat) + (0 : Nat)) l)) (List.take (2 : Nat) (List.drop (Int.toNat ((0 : Int) + Int.tmod ((↑x : Int) + (1 : Int)) (↑n : Int)) * (2 : Nat) + (0 : Nat)) l)) (List.take (2 : Nat) (List.drop (Int.toNat ((0 : Int) + (↑x_1 : Int)) * (2 : Nat) + (0 : Nat)) l)) ≤ (0 : Int)) = Bool.true → True ∧ (Decidable.decide ((3 : Nat) ≤ n) && cxB n l) = Bool.false) ∧ (Decidable.decide (sd (List.take (2 : Nat) (List.drop (Int.toNat ((0 : Int) + (↑x : Int)) * (2 : Nat) + (0 : Nat)) l)) (List.take (2 : Nat) (List.drop (Int.toNat ((0 : Int) + Int.tmod ((↑x : Int) + (1 : Int)) (↑n : Int)) * (2 : Nat) + (0 : Nat)) l)) (List.take (2 : Nat) (List.drop (Int.toNat ((0 : Int) + (↑x_1 : Int)) * (2 : Nat) + (0 : Nat)) l)) ≤ (0 : Int)) = Bool.false → True ∧ ((-9223372036854775808 : Int) ≤ (↑x_1 : Int) + (1 : Int) ∧ (↑x_1 : Int) + (1 : Int) ≤ (9223372036854775807 : Int)) ∧ True ∧ ∃ (y : Nat), (y ≤ n ∧ ∀ (j : Nat), j < y → j ≠ Int.toNat (↑x : Int) → j ≠ (Int.toNat (↑x : Int) + (1 : Nat)) % n → (0 : Int) < sgn l (Int.toNat (↑x : Int)) ((Int.toNat (↑x : Int) + (1 : Nat)) % n) j) ∧ n - y < n - x_1 ∧ (Cel.slc (0 : Nat) (0 : Nat) (0 : Int) (2 : Nat) (↑n : Int) cap = Cel.slc (0 : Nat) (0 : Nat) (0 : Int) (2 : Nat) (↑n : Int) cap ∧ Cel.val Go.undef = Cel.val Go.undef ∧ True ∧ (IntKind.i64 = IntKind.i64 ∧ (↑x : Int) = (↑x : Int)) ∧ (IntKind.i64 = IntKind.i64 ∧ Int.tmod ((↑x : Int) + (1 : Int)) (↑n : Int) = Int.tmod ((↑x : Int) + (1 : Int)) (↑n : Int)) ∧ (IntKind.i64 = IntKind.i64 ∧ (↑x_1 : Int) + (1 : Int) = (↑y : Int)) ∧ Cel.slc (0 : Nat) (0 : Nat) (0 : Int) (2 : Nat) (↑n : Int) cap = Cel.slc (0 : Nat) (0 : Nat) (0 : Int) (2 : Nat) (↑n : Int) cap ∧ (IntKind.i64 = IntKind.i64 ∧ (↑n : Int) = (↑n : Int)) ∧ Decidable.decide ((↑n : Int) < (3 : Int)) = Decidable.decide ((↑n : Int) < (3 : Int)) ∧ (IntKind.i64 = IntKind.i64 ∧ (↑x : Int) = (↑x : Int)) ∧ Cel.slc (0 : Nat) (0 : Nat) (0 : Int) (2 : Nat) (↑n : Int) cap = Cel.slc (0 : Nat) (0 : Nat) (0 : Int) (2 : Nat) (↑n : Int) cap ∧ (IntKind.i64 = IntKind.i64 ∧ (↑n : Int) = (↑n : Int)) ∧ Decidable.decide ((↑x : Int) < (↑n : Int)) = Decidable.decide ((↑x : Int) < (↑n : Int)) ∧ True ∧ True ∧ Cel.slc (0 : Nat) (0 : Nat) (0 : Int) (2 : Nat) (↑n : Int) cap = Cel.slc (0 : Nat) (0 : Nat) (0 : Int) (2 : Nat) (↑n : Int) cap ∧ (IntKind.i64 = IntKind.i64 ∧ (↑x : Int) = (↑x : Int)) ∧ (IntKind.i64 = IntKind.i64 ∧ Int.tmod ((↑x : Int) + (1 : Int)) (↑n : Int) = Int.tmod ((↑x : Int) + (1 : Int)) (↑n : Int)) ∧ True ∧ True ∧ True ∧ True ∧ True ∧ True ∧ True ∧ True ∧ True ∧ True ∧ True ∧ True ∧ True ∧ True ∧ True ∧ True ∧ True ∧ True ∧ True ∧ True ∧ True ∧ True ∧ True ∧ True ∧ True ∧ True ∧ True ∧ True ∧ True ∧ True ∧ True) ∧ (Bool.false = Bool.false ∧ (35 : Nat) = (35 : Nat) ∧ ([EK.i16] = [EK.i16] ∧ m = m ∧ l = l) ∧ True) ∧ True)) ∧ (((↑x_1 : Int) != Int.tmod ((↑x : Int) + (1 : Int)) (↑n : Int)) = !Bool.true → True ∧ True ∧ ((-9223372036854775808 : Int) ≤ (↑x_1 : Int) + (1 : Int) ∧ (↑x_1 : Int) + (1 : Int) ≤ (9223372036854775807 : Int)) ∧ True ∧ ∃ (y : Nat), (y ≤ n ∧ ∀ (j : Nat), j < y → j ≠ Int.toNat (↑x : Int) → j ≠ (Int.toNat (↑x : Int) + (1 : Nat)) % n → (0 : Int) < sgn l (Int.toNat (↑x : Int)) ((Int.toNat (↑x : Int) + (1 : Nat)) % n) j) ∧ n - y < n - x_1 ∧ (Cel.slc (0 : Nat) (0 : Nat) (0 : Int) (2 : Nat) (↑n : Int) cap = Cel.slc (0 : Nat) (0 : Nat) (0 : Int) (2 : Nat) (↑n : Int) cap ∧ Cel.val Go.undef = Cel.val Go.undef ∧ True ∧ (IntKind.i64 = IntKind.i64 ∧ (↑x : Int) = (↑x : Int)) ∧ (IntKind.i64 = IntKind.i64 ∧ Int.tmod ((↑x : Int) + (1 : Int)) (↑n : Int) = Int.tmod ((↑x : Int) + (1 : Int)) (↑n : Int)) ∧ (IntKind.i64 = IntKind.i64 ∧ (↑x_1 : Int) + (1 : Int) = (↑y : Int)) ∧ Cel.slc (0 : Nat) (0 : Nat) (0 : Int) (2 : Nat) (↑n : Int) cap = Cel.slc (0 : Nat) (0 : Nat) (0 : Int) (2 : Nat) (↑n : Int) cap ∧ (IntKind.i64 = IntKind.i64 ∧ (↑n : Int) = (↑n : Int)) ∧ Decidable.decide ((↑n : Int) < (3 : Int)) = Decidable.decide ((↑n : Int) < (3 : Int)) ∧ (IntKind.i64 = IntKind.i64 ∧ (↑x : Int) = (↑x : Int)) ∧ Cel.slc (0 : Nat) (0 : Nat) (0 : Int) (2 : Nat) (↑n : Int) cap = Cel.slc (0 : Nat) (0 : Nat) (0 : Int) (2 : Nat) (↑n : Int) cap ∧ (IntKind.i64 = IntKind.i64 ∧ (↑n : Int) = (↑n : Int)) ∧ Decidable.decide ((↑x : Int) < (↑n : Int)) = Decidable.decide ((↑x : Int) < (↑n : Int)) ∧ True ∧ True ∧ Cel.slc (0 : Nat) (0 : Nat) (0 : Int) (2 : Nat) (↑n : Int) cap = Cel.slc (0 : Nat) (0 : Nat) (0 : Int) (2 : Nat) (↑n : Int) cap ∧ (IntKind.i64 = IntKind.i64 ∧ (↑x : Int) = (↑x : Int)) ∧ (IntKind.i64 = IntKind.i64 ∧ Int.tmod ((↑x : Int) + (1 : Int)) (↑n : Int) = Int.tmod ((↑x : Int) + (1 : Int)) (↑n : Int)) ∧ True ∧ True ∧ True ∧ True ∧ True ∧ True ∧ True ∧ True ∧ True ∧ True ∧ True ∧ True ∧ True ∧ True ∧ True ∧ True ∧ True ∧ True ∧ True ∧ True ∧ True ∧ True ∧ True ∧ True ∧ True ∧ True ∧ True ∧ True ∧ True ∧ True ∧ True) ∧ (Bool.false = Bool.false ∧ (35 : Nat) = (35 : Nat) ∧ ([EK.i16] = [EK.i16] ∧ m = m ∧ l = l) ∧ True) ∧ True)) ∧ (((↑x_1 : Int) != (↑x : Int)) = !Bool.true → True ∧ True ∧ True ∧ True ∧ ((-9223372036854775808 : Int) ≤ (↑x_1 : Int) + (1 : Int) ∧ (↑x_1 : Int) + (1 : Int) ≤ (9223372036854775807 : Int)) ∧ True ∧ ∃ (y : Nat), (y ≤ n ∧ ∀ (j : Nat), j < y → j ≠ Int.toNat (↑x : Int) → j ≠ (Int.toNat (↑x : Int) + (1 : Nat)) % n → (0 : Int) < sgn l (Int.toNat (↑x : Int)) ((Int.toNat (↑x : Int) + (1 : Nat)) % n) j) ∧ n - y < n - x_1 ∧ (Cel.slc (0 : Nat) (0 : Nat) (0 : Int) (2 : Nat) (↑n : Int) cap = Cel.slc (0 : Nat) (0 : Nat) (0 : Int) (2 : Nat) (↑n : Int) cap ∧ Cel.val Go.undef = Cel.val Go.undef ∧ True ∧ (IntKind.i64 = IntKind.i64 ∧ (↑x : Int) = (↑x : Int)) ∧ (IntKind.i64 = IntKind.i64 ∧ Int.tmod ((↑x : Int) + (1 : Int)) (↑n : Int) = Int.tmod ((↑x : Int) + (1 : Int)) (↑n : Int)) ∧ (IntKind.i64 = IntKind.i64 ∧ (↑x_1 : Int) + (1 : Int) = (↑y : Int)) ∧ Cel.slc (0 : Nat) (0 : Nat) (0 : Int) (2 : Nat) (↑n : Int) cap = Cel.slc (0 : Nat) (0 : Nat) (0 : Int) (2 : Nat) (↑n : Int) cap ∧ (IntKind.i64 = IntKind.i64 ∧ (↑n : Int) = (↑n : Int)) ∧ Decidable.decide ((↑n : Int) < (3 : Int)) = Decidable.decide ((↑n : Int) < (3 : Int)) ∧ (IntKind.i64 = IntKind.i64 ∧ (↑x : Int) = (↑x : Int)) ∧ Cel.slc (0 : Nat) (0 : Nat) (0 : Int) (2 : Nat) (↑n : Int) cap = Cel.slc (0 : Nat) (0 : Nat) (0 : Int) (2 : Nat) (↑n : Int) cap ∧ (IntKind.i64 = IntKind.i64 ∧ (↑n : Int) = (↑n : Int)) ∧ Decidable.decide ((↑x : Int) < (↑n : Int)) = Decidable.decide ((↑x : Int) < (↑n : Int)) ∧ True ∧ True ∧ Cel.slc (0 : Nat) (0 : Nat) (0 : Int) (2 : Nat) (↑n : Int) cap = Cel.slc (0 : Nat) (0 : Nat) (0 : Int) (2 : Nat) (↑n : Int) cap ∧ (IntKind.i64 = IntKind.i64 ∧ (↑x : Int) = (↑x : Int)) ∧ (IntKind.i64 = IntKind.i64 ∧ Int.tmod ((↑x : Int) + (1 : Int)) (↑n : Int) = Int.tmod ((↑x : Int) + (1 : Int)) (↑n : Int)) ∧ True ∧ True ∧ True ∧ True ∧ True ∧ True ∧ True ∧ True ∧ True ∧ True ∧ True ∧ True ∧ True ∧ True ∧ True ∧ True ∧ True ∧ True ∧ True ∧ True ∧ True ∧ True ∧ True ∧ True ∧ True ∧ True ∧ True ∧ True ∧ True ∧ True ∧ True) ∧ (Bool.false = Bool.false ∧ (35 : Nat) = (35 : Nat) ∧ ([EK.i16] = [EK.i16] ∧ m = m ∧ l = l) ∧ True) ∧ True)) ∧ (Decidable.decide ((↑x_1 : Int) < (↑n : Int)) = Bool.false → True ∧ ((-9223372036854775808 : Int) ≤ (↑x : Int) + (1 : Int) ∧ (↑x : Int) + (1 : Int) ≤ (9223372036854775807 : Int)) ∧ True ∧ ∃ (y : Nat), (y ≤ n ∧ ∀ (i : Nat), i < y → ∀ (j : Nat), j < n → j ≠ i → j ≠ (i + (1 : Nat)) % n → (0 : Int) < sgn l i ((i + (1 : Nat)) % n) j) ∧ n - y < n - x ∧ (Cel.slc (0 : Nat) (0 : Nat) (0 : Int) (2 : Nat) (↑n : Int) cap = Cel.slc (0 : Nat) (0 : Nat) (0 : Int) (2 : Nat) (↑n : Int) cap ∧ Cel.val Go.undef = Cel.val Go.undef ∧ True ∧ (IntKind.i64 = IntKind.i64 ∧ (↑x : Int) + (1 : Int) = (↑y : Int)) ∧ True ∧ True ∧ Cel.slc (0 : Nat) (0 : Nat) (0 : Int) (2 : Nat) (↑n : Int) cap = Cel.slc (0 : Nat) (0 : Nat) (0 : Int) (2 : Nat) (↑n : Int) cap ∧ (IntKind.i64 = IntKind.i64 ∧ (↑n : Int) = (↑n : Int)) ∧ Decidable.decide ((↑n : Int) < (3 : Int)) = Decidable.decide ((↑n : Int) < (3 : Int)) ∧ True ∧ True ∧ True ∧ True ∧ True ∧ True ∧ True ∧ True ∧ True ∧ True ∧ True ∧ True ∧ True ∧ True ∧ True ∧ True ∧ True ∧ True ∧ True ∧ True ∧ True ∧ True ∧ True ∧ True ∧ True ∧ True ∧ True ∧ True ∧ True ∧ True ∧ True ∧ True ∧ True ∧ True ∧ True ∧ True ∧ True ∧ True ∧ True ∧ True) ∧ (Bool.false = Bool.false ∧ (35 : Nat) = (35 : Nat) ∧ ([EK.i16] = [EK.i16] ∧ m = m ∧ l = l) ∧ True) ∧ True)) ∧ (Decidable.decide ((↑x : Int) < (↑n : Int)) = Bool.false → True ∧ (Decidable.decide ((3 : Nat) ≤ n) && cxB n l) = Bool.true))) (by kernel_rfl) ?_
  have ec : ∀ i, List.take 2 (List.drop (i * 2) l) = cor l i := fun _ => rfl
  simp only [true_and, and_true, and_self, decide_eq_true_eq, decide_eq_false_iff_not, Bool.not_eq_true', Bool.not_eq_false', Bool.not_true, Bool.not_false, beq_iff_eq, beq_eq_false_iff_ne, bne_iff_ne, bne_eq_false_iff_eq, ne_eq, not_true_eq_false, not_false_eq_true, false_implies, true_implies, implies_true, forall_const, exists_const, ↓reduceIte, Int.reduceEq, Int.toNat_natCast, Bool.false_eq_true, Bool.true_eq_false, reduceCtorEq, Int.zero_add, Nat.add_zero, ec, tmodN, Int.ofNat_eq_natCast]
  refine ⟨fun h => by rw [decide_eq_false (by omega), Bool.false_and], fun hn => ⟨⟨0, ⟨by omega, fun i hi => by omega⟩, rfl⟩, ?_⟩⟩
  have h3' : 3 ≤ n := by omega
  have bad : ∀ (i j : Nat), i < n → j < n → j ≠ i → j ≠ (i + 1) % n → ¬ 0 < sgn l i ((i + 1) % n) j → (decide (3 ≤ n) && cxB n l) = false := fun i j hi hj n1 n2 hs => by
    have : cxB n l = false := cxB_f.2 fun h => hs ((cs_cx h3').2 h i hi j hj n1 n2)
    rw [this, Bool.and_false]
  rintro i ⟨hi, hx⟩
  refine ⟨fun hlt => ⟨by omega, by omega, ⟨0, ⟨by omega, fun j hj => by omega⟩, rfl⟩, ?_⟩, fun hge => ?_⟩
  · rintro j ⟨hj, hy⟩
    have hm : (i + 1) % n < n := Nat.mod_lt _ (by omega)
    have step : j < n → (j = i ∨ j = (i + 1) % n ∨ 0 < sgn l i ((i + 1) % n) j) → ∃ y, (y ≤ n ∧ ∀ (j : Nat), j < y → ¬j = i → ¬j = (i + 1) % n → 0 < sgn l i ((i + 1) % n) j) ∧ n - y < n - j ∧ (j : Int) + 1 = (y : Int) := by
      intro hjn hd
      refine ⟨j + 1, ⟨by omega, fun j' hj' n1 n2 => ?_⟩, by omega, by omega⟩
      rcases (show j' < j ∨ j' = j by omega) with h | rfl
      · exact hy j' h n1 n2
      · rcases hd with h | h | h
        · exact absurd h n1
        · exact absurd h n2
        · exact h
    refine ⟨fun hlt' => ⟨fun d1 => ⟨fun d2 => ⟨by omega, by omega, by omega, by omega, by omega, by omega, ⟨hP _ (by omega), hP _ hm, hP _ (by omega)⟩, fun hs => bad i j (by omega) (by omega) (by omega) (by omega) (by simp only [sgn]; omega), fun hs => ⟨by omega, step (by omega) (.inr (.inr (by simp only [sgn]; omega)))⟩⟩, fun d2 => ⟨by omega, step (by omega) (.inr (.inl (by omega)))⟩⟩, fun d1 => ⟨by omega, step (by omega) (.inl (by omega))⟩⟩, fun hge' => ⟨by omega, i + 1, ⟨by omega, fun i' hi' j' hj' => ?_⟩, by omega, by omega⟩⟩
    rcases (show i' < i ∨ i' = i by omega) with h | rfl
    · exact hx i' h j' hj'
    · exact hy j' (by omega)
  · rw [decide_eq_true h3', Bool.true_and, cxB_t.2 ((cs_cx h3').1 fun i' hi' => hx i' (by omega))]
noncomputable def gCvS : Entry := fun args H => match args with
  | [.a (.c (.slc id b z s len _))] => match getB H id with
    | .cells _ t [.run ks n l] => some (t = 35 ∧ b = 0 ∧ z = 0 ∧ s = 2 ∧ ks = [.i16] ∧ 0 ≤ len ∧ len ≤ 20 ∧ len.toNat * 2 ≤ n ∧ l.length = n ∧ ∀ i, i < len.toNat → PlC (cor l i), .a (.c (.bool (decide (3 ≤ len.toNat) && cxB len.toNat l))))
    | _ => none
  | _ => none
theorem e_cvS : EntryOk Tryd.prog (TT e) 23 gCvS := by
  refine ⟨fnOk Tryd.func23 (by kernel_rfl) rfl, ?_⟩
  intro args H p r he hp n0 w0 β w vals hG hH hA
  unfold gCvS at he
  split at he
  · split at he
    · rename_i id b z s len cap _ o t ks m l hg
      simp only [Option.some.injEq, Prod.mk.injEq] at he
      obtain ⟨rfl, rfl⟩ := he
      obtain ⟨rfl, rfl, rfl, rfl, rfl, h1, h2, h3, h4, h5⟩ := hp
      obtain ⟨n, rfl⟩ := Int.eq_ofNat_of_zero_le h1
      exact entry_view tt_ok (inlN_ok tt_ok Cs_ok mixed ILo_ok.ok 4) Cs_ok mixed Tryd.func23 [id] (x_cvS m n l cap (by omega) (by simpa using h3) h4 (by simpa using h5)) rfl rfl ⟨.inr (by rw [hg]; rfl), trivial⟩ hG hH hA
    · simp at he
  · simp at he
set_option maxHeartbeats 4000000 in
set_option maxRecDepth 1000000 in
theorem delC_calls (L : List Int) (w : World) (b i j n cap : Nat) (hij : j = i + 1) (hg : w.heap[b]? = some (.cells (runV [.i16] L).toArray 35 (0, 0))) (hi : i < n) (hL : n * 2 ≤ L.length) (hc : n ≤ cap) :
    Calls Tryd.prog 32 #[.slice (some ⟨b, 0, none⟩) n cap, .int .i64 i, .int .i64 j] w fun e w' => e = .returned (.slice (some ⟨b, 0, none⟩) (n - 1 : Nat) cap) ∧ w' = w.drew.setRow b (runV [.i16] (delL i n L)).toArray := by
  have mixed := mixed
  have hjn : j ≤ n := by omega
  have t22 : Tryd.prog.underlying 25 = some (.slice 35) := by kernel_rfl
  have a22 := Go.Proofs.run_isAgg_plain t22 rfl
  obtain ⟨i0, hi0, hz1⟩ : ∃ i0, Tryd.prog.info? 35 = some i0 ∧ i0.size = 2 := by
    obtain ⟨⟨inf, g1, g2, _⟩, _⟩ := (show TabOk Tryd.prog (TT fun _ => .nilIface) from tt_ok).look (t := 35) (ti := _) rfl
    exact ⟨inf, g1, g2⟩
  have z23 : ∀ w, (Go.sizeOf 35).run Tryd.prog w = .ok 2 w := fun w => by simp [Go.sizeOf, typeInfo, hi0, hz1]
  have v23 : ∀ w, (zeroValue 35).run Tryd.prog w = .ok (.agg #[.int .i16 0, .int .i16 0]) w := fun w => by
    have h : (Tryd.prog.info? 35).bind (·.zero) = some (.agg #[.int .i16 0, .int .i16 0]) := by kernel_rfl
    obtain ⟨inf, h1, hz⟩ := Option.bind_eq_some_iff.1 h
    simp [zeroValue, typeInfo, h1, hz]
  have lX := delX_len hi hL
  have lA := delA_len hi hL
  have rl : ∀ y : List Int, (runV [.i16] y).length = y.length := fun y => by simp [runV]
  have one : ∀ y : List Int, ∀ v ∈ runV [.i16] y, v.oneCell' = true := fun y v hv => by
    simp only [runV, List.mem_map] at hv
    obtain ⟨j, _, rfl⟩ := hv
    exact EK.one _ _
  obtain ⟨news, hnews⟩ : ∃ news, news = runV [.i16] (delX i n L) := ⟨_, rfl⟩
  have hlen : news.length = (n - j) * 2 := by rw [hnews, rl, lX, hij]
  have hg' : w.drew.heap[b]? = some (.cells (runV [.i16] L).toArray 35 (0, 0)) := hg
  have hcell : ∀ k, w.drew.cell? ⟨b, k, none⟩ = (runV [.i16] L)[k]? := fun k => by rw [cell_at hg', List.getElem?_toArray]
  obtain ⟨A, hA, hsrc⟩ : ∃ A : Addr, (if cap = j then some (⟨b, 0, none⟩ : Addr) else some ⟨b, j * 2, none⟩) = some A ∧ Hid (∀ t u, news[t]? = some u → w.drew.cell? (A.add t) = some u) := by
    by_cases h : cap = j
    · refine ⟨⟨b, 0, none⟩, by simp [h], fun t u hu => ?_⟩
      have h0 : news.length = 0 := by rw [hlen]; omega
      rw [List.length_eq_zero_iff.1 h0] at hu
      simp at hu
    · refine ⟨⟨b, j * 2, none⟩, by simp [h], fun t u hu => ?_⟩
      have ht : t < (n - j) * 2 := by
        have := (List.getElem?_eq_some_iff.1 hu).1
        rwa [hlen] at this
      rw [addr_add, hcell, runV_get _ _ _ (by omega)]
      rw [hnews, runV_get _ _ _ (by rw [lX]; omega)] at hu
      rw [← hu]
      congr 2
      · congr 1
        first
          | (show (j * 2 + t) % 2 = t % 2; omega)
          | (show (j * 2 + t) % 1 = t % 1; omega)
      · rw [delX, List.getD_eq_getElem?_getD, List.getD_eq_getElem?_getD, List.getElem?_drop, List.getElem?_take_of_lt (by omega)]
        congr 2
        omega
  have s1 : Hid (news.length = (n - j) * 2) := hlen
  have s2 : Hid (∀ u ∈ news, u.oneCell' = true) := by rw [hnews]; exact one _
  have s3 : Hid (∀ t, t < news.length → (w.drew.cell? ⟨b, 0 + i * 2 + t, none⟩).isSome = true ∧ w.drew.frozen? ⟨b, 0 + i * 2 + t, none⟩ = false) := by
    intro t ht
    rw [hlen] at ht
    refine ⟨?_, by simp [World.frozen?, hg']⟩
    rw [hcell, runV_get _ _ _ (by omega)]; rfl
  obtain ⟨W1, hW1⟩ : ∃ W1, W1 = w.drew.setCells b (0 + i * 2) news := ⟨_, rfl⟩
  have hW1' : W1 = w.drew.setRow b (runV [.i16] (delA i n L)).toArray := by
    rw [hW1, setCells_row w.drew b (0 + i * 2) news _ _ hg' (by simp [hlen, rl]; omega) (by rw [hnews]; exact one _), delA, runV_app (by simp [lX]; omega), runV_app (by simp; omega), runV_take _ _ _ (by omega), runV_drop _ _ _ (by rw [hlen]; first | (show _ % 2 = 0; omega) | exact Nat.mod_one _), hnews, rl, Nat.zero_add]
  have hG1 : W1.heap[b]? = some (.cells (runV [.i16] (delA i n L)).toArray 35 (0, 0)) := by
    rw [hW1']; exact setRow_heap _ _ _ _ _ _ hg'
  have hcl : ∀ ty, (Builtin.clear_ #[25] ty #[.slice (some ⟨b, (i + (n - j)) * 2, none⟩) (n - (i + (n - j))) (cap - (i + (n - j)))]).run Tryd.prog W1 = .ok (.tuple #[]) (w.drew.setRow b (runV [.i16] (delL i n L)).toArray) := fun ty => by
    have := run_clear1 W1 25 35 ty _ (runV [.i16] [0, 0]) t22 v23 rfl rfl b ((i + (n - j)) * 2) (cap - (i + (n - j))) _ _ hG1 (by rw [rl [0, 0], List.size_toArray, rl, lA]; show _ + 2 ≤ _; omega) (one _)
    rw [show n - (i + (n - j)) = 1 by omega, this, hW1', setRow_setRow]
    congr 3
    rw [delL, runV_app (by simp [lA]; omega), runV_app (by simp [lA]; omega), runV_take _ _ _ (by rw [lA]; omega), runV_drop _ _ _ (by rw [rl]; first | (show (_ + 2) % 2 = 0; omega) | exact Nat.mod_one _), rl, show (i + (n - j)) * 2 = (n - 1) * 2 by omega]
    rfl
  have hW : Hid (W1 = w.drew.setCells b (0 + i * 2) news) := hW1
  have hic : i ≤ cap := by omega
  have hjc : j ≤ cap := by omega
  have heq : ¬ (i = j) := by omega
  have hlt : i < j := by omega
  have hle : j ≤ i + 1 := by omega
  clear hW1 hW1' hG1 hnews hlen hg hg' hcell hij
  go_enter Tryd.func32, Tryd.ntmps32
  go_wp2_with fail
  go_region_law_o (refine step_append_room rfl (.tmp 22) (.tmp 25) 25 rfl 35 i0 2 t22 hi0 hz1 b 0 i cap (by simp [Act.eval, Act.put]) A (n - j) (cap - j) news (by simp [Act.eval, Act.put]) s1.out hsrc.out s2.out (by omega) s3.out ?_; rw [← hW.out])
  go_wp2
  go_ret
  exact ⟨by rw [show n - 1 = i + (n - j) by omega]; rfl, rfl⟩
def gdelC : EntryC := fun args H K => match args with
  | [.a (.c (.slc id 0 z 2 len cap)), .a (.c (.int .i64 i)), .a (.c (.int .i64 j))] => match getB H id with
    | .cells true 35 [.run [.i16] m L] => (z = 0 ∧ 0 ≤ i ∧ j = i + 1 ∧ i < len ∧ len ≤ cap ∧ len.toNat * 2 ≤ m) ∧ (L.length = m → K (.a (.c (.slc id 0 0 2 (len - 1) cap))) (H.set id (.cells true 35 [.run [.i16] m (delL i.toNat len.toNat L)])))
    | _ => Stuck "delete"
  | _ => Stuck "delete"
theorem e_delC : EntryCOk Tryd.prog (TT e) 32 gdelC := by
  refine ⟨fnOk Tryd.func32 (by kernel_rfl) rfl, ?_⟩
  intro args H K h n0 w0 β w vals hG hH hA
  unfold gdelC at h
  split at h
  · split at h
    · rename_i _ id z len cap i j _ m L hb
      obtain ⟨⟨rfl, h0, rfl, hi, hc, hn⟩, hk⟩ := h
      obtain ⟨i, rfl⟩ := Int.eq_ofNat_of_zero_le h0
      obtain ⟨len, rfl⟩ := Int.eq_ofNat_of_zero_le (show 0 ≤ len by omega)
      obtain ⟨cap, rfl⟩ := Int.eq_ofNat_of_zero_le (show 0 ≤ cap by omega)
      simp only [Int.toNat_natCast] at hn hk
      obtain ⟨v1, r1, e1, q1, v2, r2, e2, q2, v3, r3, e3, q3, q4⟩ := hA
      obtain ⟨_, _, _, qs⟩ : SlcR β id 0 0 2 len cap v1 := q1
      have q2 : v2 = .int .i64 i := q2
      have q3 : v3 = .int .i64 ((i : Int) + 1) := q3
      have q4 : r3 = [] := q4
      subst q2 q3 q4 e3 e2
      obtain ⟨b, arr, hbb, hh, hcc⟩ := hH.get hb
      obtain ⟨pre, rest, ec, ⟨hLn, hpre⟩, hrest⟩ := hcc
      have hrest : rest = [] := hrest
      subst hrest
      rw [List.append_nil, hpre] at ec
      have harr : arr = (runV [.i16] L).toArray := Array.toList_inj.1 (by rw [ec])
      subst harr
      have hsz : (runV [.i16] L).toArray.size = m := by simp [runV, hLn]
      obtain ⟨hbn, hheap⟩ := hh (by rw [hsz]; omega)
      rcases qs with ⟨b', hb', rfl⟩ | ⟨q4, _⟩
      case inr => omega
      rw [hbb] at hb'
      simp only [Option.some.injEq] at hb'
      subst hb'
      have hv : vals = #[.slice (some ⟨b, 0, none⟩) len cap, .int .i64 i, .int .i64 ((i + 1 : Nat) : Int)] := Array.toList_inj.1 (by rw [e1]; simp)
      subst hv
      refine (delC_calls L w b i (i + 1) len cap rfl hheap (by omega) (by omega) (by omega)).mono ?_
      rintro e w' ⟨rfl, rfl⟩
      have hl' := delL_len (i := i) (n := len) (L := L) (by omega) (by omega)
      refine ⟨_, [], _, _, rfl, hk hLn, ?_, ?_⟩
      · rw [List.append_nil]
        exact HR.set (arr := (runV [.i16] L).toArray) (HR_ahead 1 hH) hb hbb ⟨_, [], (List.append_nil _).symm, ⟨hLn, rfl⟩, rfl⟩ (by rw [hsz]; omega) (fun _ => ⟨fun _ => hbn rfl, hheap⟩) ⟨_, [], (List.append_nil _).symm, ⟨by rw [hl', hLn], rfl⟩, rfl⟩
      · rw [List.append_nil]
        exact ⟨by omega, by omega, by omega, .inl ⟨b, hbb, by simp⟩⟩
    · exact h.elim
  · exact h.elim

end

end Go.Proofs.YtnoljgfnpabinaaDoor
