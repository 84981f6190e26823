/- Crews: a contract. No conditions beyond the ranges of the kinds. -/
import Derived.Test.YtagdkibmlfjggaaDoorJb4
import Derived.Test.YtagdkibmlfjggaaDoorJt
set_option linter.unusedSimpArgs false
set_option linter.unusedVariables false
namespace Go.Proofs.YtagdkibmlfjggaaDoor
open Go.Sx Go.RowKit

theorem Jx.jl2 {n m : Nat} {l : List Int} (q : Jx n m l) (v : VJ n l) : Jl n m l := ⟨by omega, by have := v.hi; omega, by rw [Int.toNat_natCast]; exact q.le, q.ln, by rw [Int.toNat_natCast]; exact q.jw⟩
theorem Jx.jt2 {n m : Nat} {l : List Int} (q : Jx n m l) (v : VJ n l) : Jl n (n * 2) (l.take (n * 2)) := ⟨by omega, by have := v.hi; omega, by rw [Int.toNat_natCast]; exact Nat.le_refl _, by have := q.le; have := q.ln; simp; omega, by rw [Int.toNat_natCast]; exact (Sm.take (n := n) (l := l)).jw q.jw⟩

/-! ### Crews -/
def crwB (lv : LV) : List Nat := match lv with
  | .tup (.agg (.slc id _ _ _ _ _ :: _) :: _) => [id]
  | _ => []
theorem x_crw0 (m n : Nat) (l : List Int) (cap h : Int) (q : Jx n m l) (hv : vjB n l = true) (hh : 1 ≤ h ∧ h ≤ 4) : Fex true TT (inlN true TT Cj4 (lookI ILz) 6) Cj4 U0 Tryd.f68 [.a (.c (.slc 0 0 0 2 n cap)), .a (.c (.int .i64 h))] [.cells false 64 [.run [.i8, .u16] m l]]
    (fun lv H' => ∃ _x : Unit, True ∧ leSt ⟨[lv], H'⟩ ⟨[rnL ([0].length + ·) (.tup [.agg [.slc 0 0 0 2 n n, .int .i64 h], .c (.val .nilIface)])], deadsN [0].length ++ [.cells true 80 [.run [.i64, .u16] (n * 2) (l.take (n * 2))]]⟩ [0].length (crwB lv)) := by
  refine Go.Sx.by_eq (q := True ∧ True ∧ True ∧ (((64 : Nat) = (64 : Nat) ∧ (0 : Nat) = (0 : Nat) ∧ (0 : Int) = (0 : Int) ∧ (2 : Nat) = (2 : Nat) ∧ [Go.Sx.EK.i8, Go.Sx.EK.u16] = [Go.Sx.EK.i8, Go.Sx.EK.u16]) ∧ (0 : Int) ≤ (↑n : Int) ∧ Jx (Int.toNat (↑n : Int)) m l) ∧ (vjB (Int.toNat (↑n : Int)) l = Bool.true → True ∧ True ∧ True ∧ True ∧ True ∧ True ∧ True ∧ True ∧ True ∧ True ∧ (Decidable.decide (h < (1 : Int)) = Bool.false → True ∧ True ∧ True ∧ (Decidable.decide ((4 : Int) < h) = Bool.true → True ∧ True ∧ True ∧ True ∧ ∃ (_x : Unit), True ∧ Go.Sx.Stuck "names") ∧ (Decidable.decide ((4 : Int) < h) = Bool.false → True ∧ True ∧ True ∧ True ∧ True ∧ ∃ (_x : Unit), True ∧ (((Go.Sx.Cel.slc (2 : Nat) (0 : Nat) (0 : Int) (2 : Nat) (↑n : Int) (↑n : Int) = Go.Sx.Cel.slc (2 : Nat) (0 : Nat) (0 : Int) (2 : Nat) (↑n : Int) (↑n : Int) ∧ (Go.IntKind.i64 = Go.IntKind.i64 ∧ h = h) ∧ True) ∧ Go.Sx.Cel.val Go.Value.nilIface = Go.Sx.Cel.val Go.Value.nilIface ∧ True) ∧ True) ∧ True ∧ (Bool.true = Bool.true ∧ (80 : Nat) = (80 : Nat) ∧ ([Go.Sx.EK.i64, Go.Sx.EK.u16] = [Go.Sx.EK.i64, Go.Sx.EK.u16] ∧ Int.toNat (↑n : Int) * (2 : Nat) = n * (2 : Nat) ∧ List.take (Int.toNat (↑n : Int) * (2 : Nat)) l = List.take (n * (2 : Nat)) l) ∧ True) ∧ True)) ∧ (Decidable.decide (h < (1 : Int)) = !Bool.false → True ∧ True ∧ True ∧ True ∧ True ∧ ∃ (_x : Unit), True ∧ Go.Sx.Stuck "names")) ∧ (vjB (Int.toNat (↑n : Int)) l = Bool.false → True ∧ True ∧ True ∧ True ∧ True ∧ True ∧ True ∧ True ∧ True ∧ True ∧ True ∧ ∃ (_x : Unit), True ∧ Go.Sx.Stuck "names")) (by kernel_rfl) ?_
  simp only [true_and, and_true, and_self, decide_eq_true_eq, decide_eq_false_iff_not, Bool.not_eq_true', Bool.not_eq_false', Bool.not_true, Bool.not_false, beq_iff_eq, beq_eq_false_iff_ne, bne_iff_ne, bne_eq_false_iff_eq, ne_eq, not_true_eq_false, not_false_eq_true, false_implies, true_implies, implies_true, forall_const, exists_const, ↓reduceIte, Int.reduceEq, Int.toNat_natCast, Bool.false_eq_true, Bool.true_eq_false, reduceCtorEq, Int.zero_add, Nat.add_zero, Int.ofNat_eq_natCast, Int.toNat_natCast, Nat.mul_one]
  exact ⟨⟨by omega, q⟩, fun _ => ⟨fun _ h4 => absurd h4 (by omega), fun h1 => absurd h1 (by omega)⟩, fun h => by rw [hv] at h; cases h⟩
theorem x_crw1 (m n : Nat) (l : List Int) (cap h : Int) (q : Jx n m l) (hv : vjB n l = false) : Fex true TT (inlN true TT Cj4 (lookI ILz) 6) Cj4 U0 Tryd.f68 [.a (.c (.slc 0 0 0 2 n cap)), .a (.c (.int .i64 h))] [.cells false 64 [.run [.i8, .u16] m l]]
    (fun lv _ => leL lv (.tup [.agg [.val (.slice none 0 0), .int .i64 0], .c (.val (.iface 126 (.int .i64 1)))])) := by
  refine Go.Sx.by_eq (q := True ∧ True ∧ True ∧ (((64 : Nat) = (64 : Nat) ∧ (0 : Nat) = (0 : Nat) ∧ (0 : Int) = (0 : Int) ∧ (2 : Nat) = (2 : Nat) ∧ [Go.Sx.EK.i8, Go.Sx.EK.u16] = [Go.Sx.EK.i8, Go.Sx.EK.u16]) ∧ (0 : Int) ≤ (↑n : Int) ∧ Jx (Int.toNat (↑n : Int)) m l) ∧ (vjB (Int.toNat (↑n : Int)) l = Bool.true → True ∧ True ∧ True ∧ True ∧ True ∧ True ∧ True ∧ True ∧ True ∧ True ∧ (Decidable.decide (h < (1 : Int)) = Bool.false → True ∧ True ∧ True ∧ (Decidable.decide ((4 : Int) < h) = Bool.true → True ∧ True ∧ True ∧ True ∧ (Go.Sx.Cel.val (Go.Value.slice Option.none (0 : Nat) (0 : Nat)) = Go.Sx.Cel.val (Go.Value.slice Option.none (0 : Nat) (0 : Nat)) ∧ (Go.IntKind.i64 = Go.IntKind.i64 ∧ (0 : Int) = (0 : Int)) ∧ True) ∧ Go.Sx.Cel.val (Go.Value.iface (126 : Nat) (Go.Value.int Go.IntKind.i64 (2 : Int))) = Go.Sx.Cel.val (Go.Value.iface (126 : Go.TypeId) (Go.Value.int Go.IntKind.i64 (1 : Int))) ∧ True) ∧ (Decidable.decide ((4 : Int) < h) = Bool.false → True ∧ True ∧ True ∧ True ∧ True ∧ (Go.Sx.Cel.slc (2 : Nat) (0 : Nat) (0 : Int) (2 : Nat) (↑n : Int) (↑n : Int) = Go.Sx.Cel.val (Go.Value.slice Option.none (0 : Nat) (0 : Nat)) ∧ (Go.IntKind.i64 = Go.IntKind.i64 ∧ h = (0 : Int)) ∧ True) ∧ Go.Sx.Cel.val Go.Value.nilIface = Go.Sx.Cel.val (Go.Value.iface (126 : Go.TypeId) (Go.Value.int Go.IntKind.i64 (1 : Int))) ∧ True)) ∧ (Decidable.decide (h < (1 : Int)) = !Bool.false → True ∧ True ∧ True ∧ True ∧ True ∧ (Go.Sx.Cel.val (Go.Value.slice Option.none (0 : Nat) (0 : Nat)) = Go.Sx.Cel.val (Go.Value.slice Option.none (0 : Nat) (0 : Nat)) ∧ (Go.IntKind.i64 = Go.IntKind.i64 ∧ (0 : Int) = (0 : Int)) ∧ True) ∧ Go.Sx.Cel.val (Go.Value.iface (126 : Nat) (Go.Value.int Go.IntKind.i64 (2 : Int))) = Go.Sx.Cel.val (Go.Value.iface (126 : Go.TypeId) (Go.Value.int Go.IntKind.i64 (1 : Int))) ∧ True)) ∧ (vjB (Int.toNat (↑n : Int)) l = Bool.false → True ∧ True ∧ True ∧ True ∧ True ∧ True ∧ True ∧ True ∧ True ∧ True ∧ True ∧ (Go.Sx.Cel.val (Go.Value.slice Option.none (0 : Nat) (0 : Nat)) = Go.Sx.Cel.val (Go.Value.slice Option.none (0 : Nat) (0 : Nat)) ∧ (Go.IntKind.i64 = Go.IntKind.i64 ∧ (0 : Int) = (0 : Int)) ∧ True) ∧ Go.Sx.Cel.val (Go.Value.iface (126 : Go.TypeId) (Go.Value.int Go.IntKind.i64 (1 : Int))) = Go.Sx.Cel.val (Go.Value.iface (126 : Go.TypeId) (Go.Value.int Go.IntKind.i64 (1 : Int))) ∧ True)) (by kernel_rfl) ?_
  simp only [true_and, and_true, and_self, decide_eq_true_eq, decide_eq_false_iff_not, Bool.not_eq_true', Bool.not_eq_false', Bool.not_true, Bool.not_false, beq_iff_eq, beq_eq_false_iff_ne, bne_iff_ne, bne_eq_false_iff_eq, ne_eq, not_true_eq_false, not_false_eq_true, false_implies, true_implies, implies_true, forall_const, exists_const, ↓reduceIte, Int.reduceEq, Int.toNat_natCast, Bool.false_eq_true, Bool.true_eq_false, reduceCtorEq, Int.zero_add, Nat.add_zero, Int.ofNat_eq_natCast, Int.toNat_natCast, Nat.mul_one]
  exact ⟨⟨by omega, q⟩, fun h => by rw [hv] at h; cases h⟩
theorem x_crw2 (m n : Nat) (l : List Int) (cap h : Int) (q : Jx n m l) (hv : vjB n l = true) (hh : ¬ (1 ≤ h ∧ h ≤ 4)) : Fex true TT (inlN true TT Cj4 (lookI ILz) 6) Cj4 U0 Tryd.f68 [.a (.c (.slc 0 0 0 2 n cap)), .a (.c (.int .i64 h))] [.cells false 64 [.run [.i8, .u16] m l]]
    (fun lv _ => leL lv (.tup [.agg [.val (.slice none 0 0), .int .i64 0], .c (.val (.iface 126 (.int .i64 2)))])) := by
  refine Go.Sx.by_eq (q := True ∧ True ∧ True ∧ (((64 : Nat) = (64 : Nat) ∧ (0 : Nat) = (0 : Nat) ∧ (0 : Int) = (0 : Int) ∧ (2 : Nat) = (2 : Nat) ∧ [Go.Sx.EK.i8, Go.Sx.EK.u16] = [Go.Sx.EK.i8, Go.Sx.EK.u16]) ∧ (0 : Int) ≤ (↑n : Int) ∧ Jx (Int.toNat (↑n : Int)) m l) ∧ (vjB (Int.toNat (↑n : Int)) l = Bool.true → True ∧ True ∧ True ∧ True ∧ True ∧ True ∧ True ∧ True ∧ True ∧ True ∧ (Decidable.decide (h < (1 : Int)) = Bool.false → True ∧ True ∧ True ∧ (Decidable.decide ((4 : Int) < h) = Bool.true → True ∧ True ∧ True ∧ True ∧ (Go.Sx.Cel.val (Go.Value.slice Option.none (0 : Nat) (0 : Nat)) = Go.Sx.Cel.val (Go.Value.slice Option.none (0 : Nat) (0 : Nat)) ∧ (Go.IntKind.i64 = Go.IntKind.i64 ∧ (0 : Int) = (0 : Int)) ∧ True) ∧ Go.Sx.Cel.val (Go.Value.iface (126 : Nat) (Go.Value.int Go.IntKind.i64 (2 : Int))) = Go.Sx.Cel.val (Go.Value.iface (126 : Go.TypeId) (Go.Value.int Go.IntKind.i64 (2 : Int))) ∧ True) ∧ (Decidable.decide ((4 : Int) < h) = Bool.false → True ∧ True ∧ True ∧ True ∧ True ∧ (Go.Sx.Cel.slc (2 : Nat) (0 : Nat) (0 : Int) (2 : Nat) (↑n : Int) (↑n : Int) = Go.Sx.Cel.val (Go.Value.slice Option.none (0 : Nat) (0 : Nat)) ∧ (Go.IntKind.i64 = Go.IntKind.i64 ∧ h = (0 : Int)) ∧ True) ∧ Go.Sx.Cel.val Go.Value.nilIface = Go.Sx.Cel.val (Go.Value.iface (126 : Go.TypeId) (Go.Value.int Go.IntKind.i64 (2 : Int))) ∧ True)) ∧ (Decidable.decide (h < (1 : Int)) = !Bool.false → True ∧ True ∧ True ∧ True ∧ True ∧ (Go.Sx.Cel.val (Go.Value.slice Option.none (0 : Nat) (0 : Nat)) = Go.Sx.Cel.val (Go.Value.slice Option.none (0 : Nat) (0 : Nat)) ∧ (Go.IntKind.i64 = Go.IntKind.i64 ∧ (0 : Int) = (0 : Int)) ∧ True) ∧ Go.Sx.Cel.val (Go.Value.iface (126 : Nat) (Go.Value.int Go.IntKind.i64 (2 : Int))) = Go.Sx.Cel.val (Go.Value.iface (126 : Go.TypeId) (Go.Value.int Go.IntKind.i64 (2 : Int))) ∧ True)) ∧ (vjB (Int.toNat (↑n : Int)) l = Bool.false → True ∧ True ∧ True ∧ True ∧ True ∧ True ∧ True ∧ True ∧ True ∧ True ∧ True ∧ (Go.Sx.Cel.val (Go.Value.slice Option.none (0 : Nat) (0 : Nat)) = Go.Sx.Cel.val (Go.Value.slice Option.none (0 : Nat) (0 : Nat)) ∧ (Go.IntKind.i64 = Go.IntKind.i64 ∧ (0 : Int) = (0 : Int)) ∧ True) ∧ Go.Sx.Cel.val (Go.Value.iface (126 : Go.TypeId) (Go.Value.int Go.IntKind.i64 (1 : Int))) = Go.Sx.Cel.val (Go.Value.iface (126 : Go.TypeId) (Go.Value.int Go.IntKind.i64 (2 : Int))) ∧ True)) (by kernel_rfl) ?_
  simp only [true_and, and_true, and_self, decide_eq_true_eq, decide_eq_false_iff_not, Bool.not_eq_true', Bool.not_eq_false', Bool.not_true, Bool.not_false, beq_iff_eq, beq_eq_false_iff_ne, bne_iff_ne, bne_eq_false_iff_eq, ne_eq, not_true_eq_false, not_false_eq_true, false_implies, true_implies, implies_true, forall_const, exists_const, ↓reduceIte, Int.reduceEq, Int.toNat_natCast, Bool.false_eq_true, Bool.true_eq_false, reduceCtorEq, Int.zero_add, Nat.add_zero, Int.ofNat_eq_natCast, Int.toNat_natCast, Nat.mul_one]
  exact ⟨⟨by omega, q⟩, fun _ h1 h4 => absurd ⟨by omega, by omega⟩ hh, fun h => by rw [hv] at h; cases h⟩

noncomputable def gCrw : EntryC := fun args H K => match args with
  | [.a (.c (.slc id b z s len _)), .a (.c (.int .i64 h))] => match getB H id with
    | .cells _ t [.run ks m l] => ((t = 64 ∧ b = 0 ∧ z = 0 ∧ s = 2 ∧ ks = [.i8, .u16]) ∧ 0 ≤ len ∧ Jx len.toNat m l) ∧ withLenP H fun w =>
        (vjB len.toNat l = true → 1 ≤ h ∧ h ≤ 4 → K (.tup [.agg [.slc w 0 0 2 len len, .int .i64 h], .c (.val .nilIface)]) (H ++ [.cells true 80 [.run [.i64, .u16] (len.toNat * 2) (l.take (len.toNat * 2))]])) ∧
        (vjB len.toNat l = true → ¬ (1 ≤ h ∧ h ≤ 4) → K (.tup [.agg [.val (.slice none 0 0), .int .i64 0], .c (.val (.iface 126 (.int .i64 2)))]) H) ∧
        (vjB len.toNat l = false → K (.tup [.agg [.val (.slice none 0 0), .int .i64 0], .c (.val (.iface 126 (.int .i64 1)))]) H)
    | _ => Stuck "crew"
  | _ => Stuck "crew"
theorem e_crw : EntryCOk Tryd.prog TT 68 gCrw := by
  refine ⟨fnOk Tryd.func68 (by kernel_rfl) rfl, ?_⟩
  intro args H K h n0 w0 β w vals hG hH hA
  unfold gCrw at h
  split at h
  · split at h
    · rename_i id b z s len cap hh _ o t ks m l hg
      obtain ⟨⟨⟨rfl, rfl, rfl, rfl, rfl⟩, h0, q⟩, hk⟩ := h
      obtain ⟨k0, k1, k2⟩ := withLenP_sound hk
      obtain ⟨n, rfl⟩ := Int.eq_ofNat_of_zero_le h0
      rw [Int.toNat_natCast] at q k0 k1 k2
      cases hv : vjB n l
      · refine (entry_view tt_ok (inlN_ok tt_ok Cj4_ok mixed ILz_ok.ok 6) Cj4_ok mixed Tryd.func68 [id] (x_crw1 m n l cap hh q hv) rfl rfl ⟨.inr (by rw [hg]; rfl), trivial⟩ hG hH hA).mono ?_
        rintro e w' ⟨v, rfl, hb, hlv⟩
        exact ⟨v, [], _, H, rfl, k2 hv, by simpa using hH.after hb, by simpa using hlv⟩
      · by_cases hr : 1 ≤ hh ∧ hh ≤ 4
        · refine (entry_fresh tt_ok (inlN_ok tt_ok Cj4_ok mixed ILz_ok.ok 6) Cj4_ok mixed Tryd.func68 [id] (x_crw0 m n l cap hh q hv hr) rfl (fun _ => rfl) (fun _ => rfl) ⟨.inr (by rw [hg]; rfl), trivial⟩ hG hH hA).mono ?_
          rintro e w' ⟨v, γ, x, rfl, h4, h5, h6⟩
          exact ⟨v, γ, _, _, rfl, k0 hv hr, h5, h6⟩
        · refine (entry_view tt_ok (inlN_ok tt_ok Cj4_ok mixed ILz_ok.ok 6) Cj4_ok mixed Tryd.func68 [id] (x_crw2 m n l cap hh q hv hr) rfl rfl ⟨.inr (by rw [hg]; rfl), trivial⟩ hG hH hA).mono ?_
          rintro e w' ⟨v, rfl, hb, hlv⟩
          exact ⟨v, [], _, H, rfl, k1 hv hr, by simpa using hH.after hb, by simpa using hlv⟩
    · exact h.elim
  · exact h.elim

end Go.Proofs.YtagdkibmlfjggaaDoor
