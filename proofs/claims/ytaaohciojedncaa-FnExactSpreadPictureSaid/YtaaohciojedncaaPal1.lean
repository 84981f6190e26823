/- Tones and palettes: copies, comparisons, how far tones are apart. No conditions beyond the ranges of the kinds. -/
import Derived.Test.YtaaohciojedncaaRec
set_option linter.unusedSimpArgs false
set_option linter.unusedVariables false
namespace Go.Proofs.Ytaaohciojedncaa
open Go.Sx Go.RowKit

def tonL (a : List Int) : LV := .a (.agg [.run [.u8] 3 a])
def ligL (a : List Int) : LV := .a (.agg [.run [.i64] 3 a])

/-- What the kind of a tone's lights allows. -/
structure TBl (a : List Int) : Prop where
  len : a.length = 3
  b : ∀ i, i < 3 → 0 ≤ a.getD i 0 ∧ a.getD i 0 ≤ 255

theorem list3 {a : List Int} (h : a.length = 3) : ∃ x y z, a = [x, y, z] := match a, h with | [x, y, z], _ => ⟨x, y, z, rfl⟩

theorem sq {x : Int} (h1 : -255 ≤ x) (h2 : x ≤ 255) : 0 ≤ x * x ∧ x * x ≤ 65025 := by
  have key : ∀ y : Int, 0 ≤ y → y ≤ 255 → 0 ≤ y * y ∧ y * y ≤ 65025 := fun y h h' => ⟨Int.mul_nonneg h h, Int.mul_le_mul h' h' h (by omega)⟩
  rcases Int.le_total 0 x with h | h
  · exact key x h h2
  · have := key (-x) (by omega) (by omega)
    rwa [Int.neg_mul_neg] at this

/-! ### Copies and comparisons -/
noncomputable def ILz  : List (FuncId × Func × (Nat → LM)) := [
  ]
theorem ILz_ok  : InlsOk Try.prog ILz := trivial
theorem x_toTone (a : List Int) (h : a.length = 3) : Fex true TT (inlN true TT C0 (lookI []) 4) C0 (fun _ => .unroll 4) Try.f19 [tonL a] [] (fun lv _ => leL lv (tonL a)) := by
  obtain ⟨x, y, z, rfl⟩ := list3 h
  refine Go.Sx.by_eq (q := True ∧ True ∧ True ∧ True ∧ True ∧ True ∧ True ∧ True ∧ True ∧ True ∧ True ∧ True ∧ True ∧ True ∧ True ∧ True ∧ True ∧ True ∧ True ∧ True ∧ True ∧ True ∧ True ∧ True ∧ True ∧ True ∧ True ∧ True ∧ True ∧ True ∧ True ∧ True ∧ True ∧ True ∧ True ∧ True ∧ True ∧ True ∧ True ∧ True ∧ True ∧ ([EK.u8] = [EK.u8] ∧ (3 : Nat) = (3 : Nat) ∧ List.set (List.set (List.set (List.replicate (3 : Nat) (0 : Int)) (0 : Nat) (List.getD [x, y, z] (0 : Nat) (0 : Int))) (1 : Nat) (List.getD [x, y, z] (1 : Nat) (0 : Int))) (2 : Nat) (List.getD [x, y, z] (2 : Nat) (0 : Int)) = [x, y, z]) ∧ True) (by kernel_rfl) ?_
  simp

def gTone : Entry := fun args _ => match args with
  | [.a (.agg [.run [.u8] 3 a])] => some (a.length = 3, tonL a)
  | _ => none
theorem e_toTone : EntryOk Try.prog TT 19 gTone := by
  refine ⟨fnOk Try.func19 (by kernel_rfl) rfl, ?_⟩
  intro args H p r he hp n0 w0 β w vals hG hH hA
  unfold gTone at he
  split at he
  · simp only [Option.some.injEq, Prod.mk.injEq] at he
    obtain ⟨rfl, rfl⟩ := he
    exact entry_bare tt_ok (inlN_ok tt_ok C0_ok mixed (ILz_ok).ok 4) C0_ok mixed Try.func19 (x_toTone _ hp) rfl rfl hG hH hA
  · simp at he


theorem x_eqTone (a b : List Int) : Fex true TT (inlN true TT C0 (lookI []) 4) C0 (fun _ => .unroll 4) Try.f34 [tonL a, tonL b] [] (fun lv _ => leL lv (.a (.c (.bool (eqE 3 a b))))) := by
  refine Go.Sx.by_eq (q := True ∧ True ∧ True ∧ True ∧ True ∧ True ∧ True ∧ True ∧ True ∧ True ∧ True ∧ True ∧ True ∧ ((List.getD a (0 : Nat) (0 : Int) != List.getD b (0 : Nat) (0 : Int)) = Bool.true → True ∧ eqE (3 : Nat) a b = Bool.false) ∧ ((List.getD a (0 : Nat) (0 : Int) != List.getD b (0 : Nat) (0 : Int)) = Bool.false → True ∧ True ∧ True ∧ True ∧ True ∧ True ∧ True ∧ True ∧ True ∧ True ∧ True ∧ True ∧ ((List.getD a (1 : Nat) (0 : Int) != List.getD b (1 : Nat) (0 : Int)) = Bool.true → True ∧ eqE (3 : Nat) a b = Bool.false) ∧ ((List.getD a (1 : Nat) (0 : Int) != List.getD b (1 : Nat) (0 : Int)) = Bool.false → True ∧ True ∧ True ∧ True ∧ True ∧ True ∧ True ∧ True ∧ True ∧ True ∧ True ∧ True ∧ ((List.getD a (2 : Nat) (0 : Int) != List.getD b (2 : Nat) (0 : Int)) = Bool.true → True ∧ eqE (3 : Nat) a b = Bool.false) ∧ ((List.getD a (2 : Nat) (0 : Int) != List.getD b (2 : Nat) (0 : Int)) = Bool.false → True ∧ True ∧ True ∧ True ∧ True ∧ True ∧ eqE (3 : Nat) a b = Bool.true)))) (by kernel_rfl) ?_
  simp only [eqE3]
  cases h0 : (a.getD 0 0 == b.getD 0 0) <;> cases h1 : (a.getD 1 0 == b.getD 1 0) <;> cases h2 : (a.getD 2 0 == b.getD 2 0) <;> simp_all

def gEqT : Entry := fun args _ => match args with
  | [.a (.agg [.run [.u8] 3 a]), .a (.agg [.run [.u8] 3 b])] => some (True, .a (.c (.bool (eqE 3 a b))))
  | _ => none
theorem e_eqTone : EntryOk Try.prog TT 34 gEqT := by
  refine ⟨fnOk Try.func34 (by kernel_rfl) rfl, ?_⟩
  intro args H p r he hp n0 w0 β w vals hG hH hA
  unfold gEqT at he
  split at he
  · simp only [Option.some.injEq, Prod.mk.injEq] at he
    obtain ⟨rfl, rfl⟩ := he
    exact entry_bare tt_ok (inlN_ok tt_ok C0_ok mixed (ILz_ok).ok 4) C0_ok mixed Try.func34 (x_eqTone _ _) rfl rfl hG hH hA
  · simp at he


def Ep0 : List (FuncId × Entry) := [(19, gTone), (34, gEqT)]
theorem Ep0_ok : EntriesOk Try.prog TT Ep0 := ⟨e_toTone, e_eqTone, trivial⟩
abbrev Cp0 : Ctr := ctrOf Ep0
theorem Cp0_ok : CtrOk Try.prog TT Cp0 := ctrOf_ok Ep0_ok

theorem x_szPalette (b : Nat) (i : Int) (s : Nat) (len cap left : Int) (h1 : 0 ≤ len) (h2 : len ≤ 9223372036854775807) (h3 : 0 ≤ left) (h4 : left ≤ 1048576) : Fex true TT (inlN true TT C0 (lookI []) 1) C0 U0 Try.f4 [.a (.c (.slc 0 b i s len cap)), .a (.c (.int .i64 left))] [.dead] (fun lv _ => leL lv (.a (.c (.int .i64 (szF left len))))) := by
  refine Go.Sx.by_eq (q := True ∧ True ∧ True ∧ True ∧ ((-9223372036854775808 : Int) ≤ left - len ∧ left - len ≤ (9223372036854775807 : Int)) ∧ True ∧ True ∧ True ∧ (Decidable.decide (left - len < (0 : Int)) = Bool.true → True ∧ IntKind.i64 = IntKind.i64 ∧ (-1 : Int) = szF left len) ∧ (Decidable.decide (left - len < (0 : Int)) = Bool.false → True ∧ True ∧ IntKind.i64 = IntKind.i64 ∧ left - len = szF left len)) (by kernel_rfl) ?_
  simp only [true_and, and_true, and_self, decide_eq_true_eq, decide_eq_false_iff_not, Bool.not_eq_true', Bool.not_eq_false', Bool.not_true, Bool.not_false, beq_iff_eq, beq_eq_false_iff_ne, bne_iff_ne, bne_eq_false_iff_eq, ne_eq, not_true_eq_false, not_false_eq_true, false_implies, true_implies, implies_true, forall_const, exists_const, ↓reduceIte, Int.reduceEq, Int.toNat_natCast, Bool.false_eq_true, Bool.true_eq_false, reduceCtorEq]
  refine ⟨⟨by omega, by omega⟩, fun h => by simp [szF, h], fun h => ?_⟩
  rw [szF, if_neg h]

theorem e_szPalette : EntryOk Try.prog TT 4 gSzR := by
  refine ⟨fnOk Try.func4 (by kernel_rfl) rfl, ?_⟩
  intro args H p r he hp n0 w0 β w vals hG hH hA
  unfold gSzR at he
  split at he
  · rename_i id b i s len cap left
    simp only [Option.some.injEq, Prod.mk.injEq] at he
    obtain ⟨rfl, rfl⟩ := he
    obtain ⟨h1, h2, h3, h4⟩ := hp
    exact entry_view tt_ok (inlN_ok tt_ok C0_ok mixed (InlsOk.ok (L := []) trivial) 1) C0_ok mixed Try.func4 [id] (x_szPalette b i s len cap left h1 h2 h3 h4) rfl rfl ⟨.inl rfl, trivial⟩ hG hH hA
  · simp at he

theorem x_toPalette (b n : Nat) (l : List Int) (len cap : Int) (h1 : 0 ≤ len) (h2 : len ≤ 1048576) (h3 : len.toNat * 3 ≤ n) (h4 : l.length = n) : Fex true TT (inlN true TT Cp0 (lookI ILz) 4) Cp0 (fun _ => .inv (lmToR 3 [.u8] 4 1 len l)) Try.f7 [.a (.c (.slc 0 b 0 3 len cap))] [.wnd b [.u8] n l] (fun lv H' => ∃ _ : Unit, True ∧ leSt ⟨[lv], H'⟩ ⟨[rnL ([0].length + ·) (.a (.c (.slc 0 0 0 3 len len)))], deadsN [0].length ++ [.cells true 34 [.run [.u8] (len.toNat * 3) (l.take (len.toNat * 3))]]⟩ [0].length [1]) := by
  refine Go.Sx.by_eq (q := True ∧ True ∧ True ∧ ((0 : Int) ≤ len ∧ len ≤ len ∧ len ≤ (9223372036854775807 : Int) ∧ (↑(3 : Nat) : Int) * len ≤ (281474976710656 : Int)) ∧ True ∧ True ∧ (∃ (x : Nat), x ≤ Int.toNat len ∧ (Cel.slc (0 : Nat) b (0 : Int) (3 : Nat) len cap = Cel.slc (0 : Nat) b (0 : Int) (3 : Nat) len cap ∧ Cel.val Go.undef = Cel.val Go.undef ∧ Cel.val (Go.Value.slice Option.none (0 : Nat) (0 : Nat)) = Cel.val (Go.Value.slice Option.none (0 : Nat) (0 : Nat)) ∧ Cel.slc (1 : Nat) (0 : Nat) (0 : Int) (3 : Nat) len len = Cel.slc (1 : Nat) (0 : Nat) (0 : Int) (3 : Nat) len len ∧ (IntKind.i64 = IntKind.i64 ∧ (0 : Int) = (↑x : Int)) ∧ Cel.slc (0 : Nat) b (0 : Int) (3 : Nat) len cap = Cel.slc (0 : Nat) b (0 : Int) (3 : Nat) len cap ∧ (IntKind.i64 = IntKind.i64 ∧ len = len) ∧ Cel.slc (1 : Nat) (0 : Nat) (0 : Int) (3 : Nat) len len = Cel.slc (1 : Nat) (0 : Nat) (0 : Int) (3 : Nat) len len ∧ True ∧ True ∧ True ∧ True ∧ True ∧ True ∧ True ∧ True ∧ True ∧ True ∧ True ∧ True ∧ True ∧ True ∧ Cel.val Go.undef = Cel.val Go.undef ∧ True) ∧ (b = b ∧ [EK.u8] = [EK.u8] ∧ n = n ∧ l = l) ∧ (Bool.true = Bool.true ∧ (34 : Nat) = (34 : Nat) ∧ ([EK.u8] = [EK.u8] ∧ Int.toNat len * (3 : Nat) = Int.toNat len * (3 : Nat) ∧ List.replicate (Int.toNat len * (3 : Nat)) (0 : Int) = mkN (Int.toNat len * (3 : Nat)) (toFr (x * (3 : Nat)) l)) ∧ True) ∧ True) ∧ ∀ (x : Nat), x ≤ Int.toNat len → True ∧ True ∧ True ∧ True ∧ (Decidable.decide ((↑x : Int) < len) = Bool.true → True ∧ True ∧ True ∧ True ∧ ((0 : Int) ≤ (↑x : Int) ∧ (↑x : Int) < len) ∧ (b = b ∧ (0 : Int) ≤ (0 : Int) + (↑x : Int) ∧ Int.toNat ((0 : Int) + (↑x : Int)) * (3 : Nat) + (0 : Nat) + (3 : Nat) ≤ n) ∧ List.length (List.take (3 : Nat) (List.drop (Int.toNat ((0 : Int) + (↑x : Int)) * (3 : Nat) + (0 : Nat)) l)) = (3 : Nat) ∧ ((0 : Int) ≤ (↑x : Int) ∧ (↑x : Int) < len) ∧ ((0 : Int) ≤ (0 : Int) + (↑x : Int) ∧ Int.toNat ((0 : Int) + (↑x : Int)) * (3 : Nat) + (0 : Nat) + (3 : Nat) ≤ Int.toNat len * (3 : Nat)) ∧ True ∧ ((-9223372036854775808 : Int) ≤ (↑x : Int) + (1 : Int) ∧ (↑x : Int) + (1 : Int) ≤ (9223372036854775807 : Int)) ∧ True ∧ ∃ (y : Nat), y ≤ Int.toNat len ∧ Int.toNat len - y < Int.toNat len - x ∧ (Cel.slc (0 : Nat) b (0 : Int) (3 : Nat) len cap = Cel.slc (0 : Nat) b (0 : Int) (3 : Nat) len cap ∧ Cel.val Go.undef = Cel.val Go.undef ∧ Cel.val (Go.Value.slice Option.none (0 : Nat) (0 : Nat)) = Cel.val (Go.Value.slice Option.none (0 : Nat) (0 : Nat)) ∧ Cel.slc (1 : Nat) (0 : Nat) (0 : Int) (3 : Nat) len len = Cel.slc (1 : Nat) (0 : Nat) (0 : Int) (3 : Nat) len len ∧ (IntKind.i64 = IntKind.i64 ∧ (↑x : Int) + (1 : Int) = (↑y : Int)) ∧ Cel.slc (0 : Nat) b (0 : Int) (3 : Nat) len cap = Cel.slc (0 : Nat) b (0 : Int) (3 : Nat) len cap ∧ (IntKind.i64 = IntKind.i64 ∧ len = len) ∧ Cel.slc (1 : Nat) (0 : Nat) (0 : Int) (3 : Nat) len len = Cel.slc (1 : Nat) (0 : Nat) (0 : Int) (3 : Nat) len len ∧ True ∧ True ∧ True ∧ True ∧ True ∧ True ∧ True ∧ True ∧ True ∧ True ∧ True ∧ True ∧ True ∧ True ∧ Cel.val Go.undef = Cel.val Go.undef ∧ True) ∧ (b = b ∧ [EK.u8] = [EK.u8] ∧ n = n ∧ l = l) ∧ (Bool.true = Bool.true ∧ (34 : Nat) = (34 : Nat) ∧ ([EK.u8] = [EK.u8] ∧ Int.toNat len * (3 : Nat) = Int.toNat len * (3 : Nat) ∧ List.take (Int.toNat ((0 : Int) + (↑x : Int)) * (3 : Nat) + (0 : Nat)) (mkN (Int.toNat len * (3 : Nat)) (toFr (x * (3 : Nat)) l)) ++ (List.take (3 : Nat) (List.drop (Int.toNat ((0 : Int) + (↑x : Int)) * (3 : Nat) + (0 : Nat)) l) ++ []) ++ List.drop (Int.toNat ((0 : Int) + (↑x : Int)) * (3 : Nat) + (0 : Nat) + (3 : Nat)) (mkN (Int.toNat len * (3 : Nat)) (toFr (x * (3 : Nat)) l)) = mkN (Int.toNat len * (3 : Nat)) (toFr (y * (3 : Nat)) l)) ∧ True) ∧ True) ∧ (Decidable.decide ((↑x : Int) < len) = Bool.false → True ∧ True ∧ ∃ (x_1 : Unit), True ∧ (Cel.slc (1 : Nat) (0 : Nat) (0 : Int) (3 : Nat) len len = Cel.slc (1 : Nat) (0 : Nat) (0 : Int) (3 : Nat) len len ∧ True) ∧ True ∧ (Bool.true = Bool.true ∧ (34 : Nat) = (34 : Nat) ∧ ([EK.u8] = [EK.u8] ∧ Int.toNat len * (3 : Nat) = Int.toNat len * (3 : Nat) ∧ mkN (Int.toNat len * (3 : Nat)) (toFr (x * (3 : Nat)) l) = List.take (Int.toNat len * (3 : Nat)) l) ∧ True) ∧ True)) (by kernel_rfl) ?_
  simp only [true_and, and_true, and_self, decide_eq_true_eq, decide_eq_false_iff_not, Bool.not_eq_true', Bool.not_eq_false', Bool.not_true, Bool.not_false, beq_iff_eq, beq_eq_false_iff_ne, bne_iff_ne, bne_eq_false_iff_eq, ne_eq, not_true_eq_false, not_false_eq_true, false_implies, true_implies, implies_true, forall_const, exists_const, ↓reduceIte, Int.reduceEq, Int.toNat_natCast, Bool.false_eq_true, Bool.true_eq_false, reduceCtorEq, Int.zero_add, Nat.add_zero, getD_take', getD_drop', List.append_nil]
  have hlen : (len.toNat : Int) = len := by omega
  refine ⟨⟨by omega, by omega, by omega, by omega⟩, ⟨0, by omega, rfl, ?_⟩, ?_⟩
  · exact to_zero
  intro k hk
  refine ⟨fun hlt => ?_, fun hge => ?_⟩
  · have hstep : ∀ (xs : List Int) (c : Nat), xs.length = 3 → (∀ j, j < 3 → xs.getD j 0 = l.getD (k * 3 + j) 0) → c = k * 3 + 3 → (mkN (len.toNat * 3) (toFr (k * 3) l)).take (k * 3) ++ xs ++ (mkN (len.toNat * 3) (toFr (k * 3) l)).drop c = mkN (len.toNat * 3) (toFr ((k + 1) * 3) l) := fun xs c h1 h2 h3 => to_step h1 (by omega) h2 h3
    repeat' (first | omega | apply And.intro)
    all_goals try (first | exact tk_len (by omega))
    refine ⟨k + 1, by omega, by omega, by omega, ?_⟩
    refine hstep _ _ ?_ (fun j hj => ?_) (by omega)
    · first | rfl | exact tk_len (by omega)
    · first | exact rcd_get hj | (rcases (show j = 0 ∨ j = 1 ∨ j = 2 by omega) with rfl | rfl | rfl <;> simp)
  · first | exact to_end (by omega) (by omega) | exact (to_end (by omega) (by omega)).symm

theorem e_toPalette : EntryCOk Try.prog TT 7 (gToR 34 3 [.u8]) := by
  refine ⟨fnOk Try.func7 (by kernel_rfl) rfl, ?_⟩
  intro args H K h n0 w0 β w vals hG hH hA
  unfold gToR at h
  split at h
  · split at h
    · rename_i id b i s len cap _ o ks n l hg
      obtain ⟨⟨rfl, rfl, rfl, rfl, hl, h1, h2, h3⟩, hk⟩ := h
      have hk := withLenP_sound hk
      refine (entry_fresh tt_ok (inlN_ok tt_ok Cp0_ok mixed ILz_ok.ok 4) Cp0_ok mixed Try.func7 [id] (x_toPalette b n l len cap h1 h2 h3 hl) rfl (fun _ => rfl) (fun _ => rfl) ⟨.inr (by rw [hg]; rfl), trivial⟩ hG hH hA).mono ?_
      rintro e w' ⟨v, γ, x, rfl, _, h5, h6⟩
      exact ⟨v, γ, _, _, rfl, hk, h5, h6⟩
    · exact h.elim
  · exact h.elim

theorem x_eqPalette (n1 n2 : Nat) (l1 l2 : List Int) (c1 c2 len1 len2 : Int) (h1 : 0 ≤ len1) (h2 : len1 ≤ 1048576) (h3 : 0 ≤ len2) (h4 : len1.toNat * 3 ≤ n1) (h5 : len2.toNat * 3 ≤ n2) (e1 : l1.length = n1) (e2 : l2.length = n2) : Fex true TT (inlN true TT Cp0 (lookI ILz) 4) Cp0 (fun _ => .inv (lmEq 5 3 len1 l1 l2)) Try.f10 [.a (.c (.slc 0 0 0 3 len1 c1)), .a (.c (.slc 1 0 0 3 len2 c2))] [.cells false 34 [.run [.u8] n1 l1], .cells false 34 [.run [.u8] n2 l2]] (fun lv _ => leL lv (.a (.c (.bool (eqSl 3 len1 len2 l1 l2))))) := by
  refine Go.Sx.by_eq (q := True ∧ True ∧ True ∧ True ∧ True ∧ True ∧ ((len1 != len2) = Bool.true → True ∧ eqSl (3 : Nat) len1 len2 l1 l2 = Bool.false) ∧ ((len1 != len2) = Bool.false → True ∧ (∃ (x : Nat), (x ≤ Int.toNat len1 ∧ ∀ (i : Nat), i < x * (3 : Nat) → List.getD l1 i (0 : Int) = List.getD l2 i (0 : Int)) ∧ (Cel.slc (0 : Nat) (0 : Nat) (0 : Int) (3 : Nat) len1 c1 = Cel.slc (0 : Nat) (0 : Nat) (0 : Int) (3 : Nat) len1 c1 ∧ Cel.slc (1 : Nat) (0 : Nat) (0 : Int) (3 : Nat) len2 c2 = Cel.slc (1 : Nat) (0 : Nat) (0 : Int) (3 : Nat) len2 c2 ∧ Cel.val Go.undef = Cel.val Go.undef ∧ Cel.val Go.undef = Cel.val Go.undef ∧ True ∧ (IntKind.i64 = IntKind.i64 ∧ (0 : Int) = (↑x : Int)) ∧ Cel.slc (0 : Nat) (0 : Nat) (0 : Int) (3 : Nat) len1 c1 = Cel.slc (0 : Nat) (0 : Nat) (0 : Int) (3 : Nat) len1 c1 ∧ (IntKind.i64 = IntKind.i64 ∧ len1 = len1) ∧ Cel.slc (1 : Nat) (0 : Nat) (0 : Int) (3 : Nat) len2 c2 = Cel.slc (1 : Nat) (0 : Nat) (0 : Int) (3 : Nat) len2 c2 ∧ (IntKind.i64 = IntKind.i64 ∧ len2 = len2) ∧ (len1 != len2) = (len1 != len2) ∧ True ∧ True ∧ True ∧ True ∧ True ∧ True ∧ True ∧ True ∧ True ∧ True ∧ True ∧ True ∧ True ∧ True ∧ True ∧ True ∧ True) ∧ (Bool.false = Bool.false ∧ (34 : Nat) = (34 : Nat) ∧ ([EK.u8] = [EK.u8] ∧ n1 = n1 ∧ l1 = l1) ∧ True) ∧ (Bool.false = Bool.false ∧ (34 : Nat) = (34 : Nat) ∧ ([EK.u8] = [EK.u8] ∧ n2 = n2 ∧ l2 = l2) ∧ True) ∧ True) ∧ ∀ (x : Nat), (x ≤ Int.toNat len1 ∧ ∀ (i : Nat), i < x * (3 : Nat) → List.getD l1 i (0 : Int) = List.getD l2 i (0 : Int)) → True ∧ True ∧ True ∧ True ∧ (Decidable.decide ((↑x : Int) < len1) = Bool.true → True ∧ True ∧ ((0 : Int) ≤ (↑x : Int) ∧ (↑x : Int) < len1) ∧ ((0 : Int) ≤ (0 : Int) + (↑x : Int) ∧ Int.toNat ((0 : Int) + (↑x : Int)) * (3 : Nat) + (0 : Nat) + (3 : Nat) ≤ n1) ∧ True ∧ True ∧ ((0 : Int) ≤ (↑x : Int) ∧ (↑x : Int) < len2) ∧ ((0 : Int) ≤ (0 : Int) + (↑x : Int) ∧ Int.toNat ((0 : Int) + (↑x : Int)) * (3 : Nat) + (0 : Nat) + (3 : Nat) ≤ n2) ∧ True ∧ True ∧ ((!eqE (3 : Nat) (List.take (3 : Nat) (List.drop (Int.toNat ((0 : Int) + (↑x : Int)) * (3 : Nat) + (0 : Nat)) l1)) (List.take (3 : Nat) (List.drop (Int.toNat ((0 : Int) + (↑x : Int)) * (3 : Nat) + (0 : Nat)) l2))) = Bool.true → True ∧ eqSl (3 : Nat) len1 len2 l1 l2 = Bool.false) ∧ ((!eqE (3 : Nat) (List.take (3 : Nat) (List.drop (Int.toNat ((0 : Int) + (↑x : Int)) * (3 : Nat) + (0 : Nat)) l1)) (List.take (3 : Nat) (List.drop (Int.toNat ((0 : Int) + (↑x : Int)) * (3 : Nat) + (0 : Nat)) l2))) = Bool.false → True ∧ ((-9223372036854775808 : Int) ≤ (↑x : Int) + (1 : Int) ∧ (↑x : Int) + (1 : Int) ≤ (9223372036854775807 : Int)) ∧ True ∧ ∃ (y : Nat), (y ≤ Int.toNat len1 ∧ ∀ (i : Nat), i < y * (3 : Nat) → List.getD l1 i (0 : Int) = List.getD l2 i (0 : Int)) ∧ Int.toNat len1 - y < Int.toNat len1 - x ∧ (Cel.slc (0 : Nat) (0 : Nat) (0 : Int) (3 : Nat) len1 c1 = Cel.slc (0 : Nat) (0 : Nat) (0 : Int) (3 : Nat) len1 c1 ∧ Cel.slc (1 : Nat) (0 : Nat) (0 : Int) (3 : Nat) len2 c2 = Cel.slc (1 : Nat) (0 : Nat) (0 : Int) (3 : Nat) len2 c2 ∧ Cel.val Go.undef = Cel.val Go.undef ∧ Cel.val Go.undef = Cel.val Go.undef ∧ True ∧ (IntKind.i64 = IntKind.i64 ∧ (↑x : Int) + (1 : Int) = (↑y : Int)) ∧ Cel.slc (0 : Nat) (0 : Nat) (0 : Int) (3 : Nat) len1 c1 = Cel.slc (0 : Nat) (0 : Nat) (0 : Int) (3 : Nat) len1 c1 ∧ (IntKind.i64 = IntKind.i64 ∧ len1 = len1) ∧ Cel.slc (1 : Nat) (0 : Nat) (0 : Int) (3 : Nat) len2 c2 = Cel.slc (1 : Nat) (0 : Nat) (0 : Int) (3 : Nat) len2 c2 ∧ (IntKind.i64 = IntKind.i64 ∧ len2 = len2) ∧ (len1 != len2) = (len1 != len2) ∧ True ∧ True ∧ True ∧ True ∧ True ∧ True ∧ True ∧ True ∧ True ∧ True ∧ True ∧ True ∧ True ∧ True ∧ True ∧ True ∧ True) ∧ (Bool.false = Bool.false ∧ (34 : Nat) = (34 : Nat) ∧ ([EK.u8] = [EK.u8] ∧ n1 = n1 ∧ l1 = l1) ∧ True) ∧ (Bool.false = Bool.false ∧ (34 : Nat) = (34 : Nat) ∧ ([EK.u8] = [EK.u8] ∧ n2 = n2 ∧ l2 = l2) ∧ True) ∧ True)) ∧ (Decidable.decide ((↑x : Int) < len1) = Bool.false → True ∧ eqSl (3 : Nat) len1 len2 l1 l2 = Bool.true))) (by kernel_rfl) ?_
  have e0 : ∀ a b : List Int, eqE 3 a b = eqE 3 a b := fun a b => by rfl
  simp only [e0]
  simp only [true_and, and_true, and_self, decide_eq_true_eq, decide_eq_false_iff_not, Bool.not_eq_true', Bool.not_eq_false', Bool.not_true, Bool.not_false, beq_iff_eq, beq_eq_false_iff_ne, bne_iff_ne, bne_eq_false_iff_eq, ne_eq, not_true_eq_false, not_false_eq_true, false_implies, true_implies, implies_true, forall_const, exists_const, ↓reduceIte, Int.reduceEq, Int.toNat_natCast, Bool.false_eq_true, Bool.true_eq_false, reduceCtorEq, Int.zero_add, Nat.add_zero]
  refine ⟨fun h => eqSl_ne h, fun hn => ⟨⟨0, ⟨by omega, fun i hi => by omega⟩, rfl⟩, ?_⟩⟩
  rintro k ⟨hk, hp⟩
  refine ⟨fun hlt => ?_, fun hge => eqSl_yes hn (by omega) (by omega) fun i hi => hp i (by omega)⟩
  repeat' (first | omega | apply And.intro)
  · exact fun hc => by first | exact eqE_stop (by omega) hc | exact eqE_stop' (by omega) (by omega) (by omega) hc
  · exact fun hc => ⟨by omega, k + 1, ⟨by omega, by first | exact eqE_step hp hc | exact eqE_step' (by omega) (by omega) hp hc⟩, by omega, by omega⟩

theorem e_eqPalette : EntryOk Try.prog TT 10 (gEqR 34 3 [.u8]) := by
  refine ⟨fnOk Try.func10 (by kernel_rfl) rfl, ?_⟩
  intro args H p r he hp n0 w0 β w vals hG hH hA
  obtain ⟨i1, i2, o1, o2, n1, n2, l1, l2, c1, c2, len1, len2, rfl, hg1, hg2, rfl, h1, h2, h3, h4, h5, h6, h7⟩ := gEqR_inv he hp
  exact entry_view tt_ok (inlN_ok tt_ok Cp0_ok mixed ILz_ok.ok 4) Cp0_ok mixed Try.func10 [i1, i2] (x_eqPalette n1 n2 l1 l2 c1 c2 len1 len2 h1 h2 h3 h4 h5 h6 h7) rfl rfl ⟨.inr (by rw [hg1]; rfl), .inr (by rw [hg2]; rfl), trivial⟩ hG hH hA


set_option maxRecDepth 100000 in
/-- A tone that comes in. -/
theorem open_tonL {H : Type} {enc : TypeId × Value → H} {w : World} {base : Nat} {spare : Nat → Bool} {held : Bool} {r : Reach} {b0 : Nat} {v : Value} {d : DataW H} {ps : List MemPlace}
    (hval : Value.okWide Try.prog w r b0 23 v) (hd : DataW.Trod enc Try.prog w base spare held 23 v d ps) : ∃ a, TBl a ∧ ∀ β, LVR β (tonL a) v := by
  obtain ⟨ns, h1, h2, h3⟩ := open_arr Try.underlying23 hval hd [.many [.u8] 3] (by kernel_rfl)
  have h1 : ns.length = 3 := h1
  match ns, h1 with
  | [a, b, c], _ =>
    have b1 := bounds_u8 (h2 0 .u8 a rfl rfl)
    have b2 := bounds_u8 (h2 1 .u8 b rfl rfl)
    have b3 := bounds_u8 (h2 2 .u8 c rfl rfl)
    refine ⟨[a, b, c], ⟨rfl, fun i hi => ?_⟩, fun β => by simpa [shCels, tonL, EK.of] using h3 β⟩
    rcases (show i = 0 ∨ i = 1 ∨ i = 2 by omega) with rfl | rfl | rfl
    · exact b1
    · exact b2
    · exact b3


end Go.Proofs.Ytaaohciojedncaa
