/- NearestTone: both sides. No conditions beyond the ranges of the kinds. -/
import Derived.Test.YtcmpiefbglnpkaaPal3
set_option linter.unusedSimpArgs false
set_option linter.unusedVariables false
namespace Go.Proofs.Ytcmpiefbglnpkaa
open Go.Sx Go.RowKit

noncomputable def ntR (n : Nat) (l a : List Int) : LV := .tup [.c (.int .i64 (if palB n l then ((leastAt (farAt l a) n : Nat) : Int) + 1 else 0)), .c (.int .i64 (if palB n l then farAt l a (leastAt (farAt l a) n) else 0)), .c (.int .i64 (if palB n l then 0 else 1))]

theorem x_NearestToneS (m n : Nat) (l a : List Int) (cap : Int) (h2 : n ≤ 1048576) (h3 : n * 3 ≤ m) (h4 : l.length = m) (hb : byl (n * 3) l) (ta : TBl a) : Fex true TT (inlN true TT Cp3 (lookI ILz) 4) Cp3 U0 Try.f28 [.a (.c (.slc 0 0 0 3 n cap)), tonL a] [.cells false 42 [.run [.u8] m l]] (fun lv _ => leL lv (ntR n l a)) := by
  refine Go.Sx.by_eq (q := True ∧ True ∧ True ∧ True ∧ True ∧ (((42 : Nat) = (42 : Nat) ∧ (0 : Nat) = (0 : Nat) ∧ (0 : Int) = (0 : Int) ∧ (3 : Nat) = (3 : Nat) ∧ [Go.Sx.EK.u8] = [Go.Sx.EK.u8]) ∧ (0 : Int) ≤ (↑n : Int) ∧ (↑n : Int) ≤ (1048576 : Int) ∧ Int.toNat (↑n : Int) * (3 : Nat) ≤ m ∧ List.length l = m) ∧ True ∧ ((!palB (Int.toNat (↑n : Int)) l) = Bool.true → True ∧ True ∧ True ∧ (Go.IntKind.i64 = Go.IntKind.i64 ∧ (0 : Int) = if palB n l = Bool.true then (↑(leastAt (farAt l a) n) : Int) + (1 : Int) else (0 : Int)) ∧ (Go.IntKind.i64 = Go.IntKind.i64 ∧ (0 : Int) = if palB n l = Bool.true then farAt l a (leastAt (farAt l a) n) else (0 : Int)) ∧ (Go.IntKind.i64 = Go.IntKind.i64 ∧ (1 : Int) = if palB n l = Bool.true then (0 : Int) else (1 : Int)) ∧ True) ∧ ((!palB (Int.toNat (↑n : Int)) l) = Bool.false → True ∧ True ∧ (((42 : Nat) = (42 : Nat) ∧ (0 : Nat) = (0 : Nat) ∧ (0 : Int) = (0 : Int) ∧ (3 : Nat) = (3 : Nat) ∧ [Go.Sx.EK.u8] = [Go.Sx.EK.u8]) ∧ (1 : Int) ≤ (↑n : Int) ∧ (↑n : Int) ≤ (1048576 : Int) ∧ Int.toNat (↑n : Int) * (3 : Nat) ≤ m ∧ List.length l = m ∧ (∀ (i : Nat), i < Int.toNat (↑n : Int) * (3 : Nat) → (0 : Int) ≤ List.getD l i (0 : Int) ∧ List.getD l i (0 : Int) ≤ (255 : Int)) ∧ TBl a) ∧ True ∧ True ∧ True ∧ True ∧ True ∧ True ∧ True ∧ True ∧ True ∧ True ∧ (Go.IntKind.i64 = Go.IntKind.i64 ∧ (↑(leastAt (farAt l a) (Int.toNat (↑n : Int))) : Int) + (1 : Int) = if palB n l = Bool.true then (↑(leastAt (farAt l a) n) : Int) + (1 : Int) else (0 : Int)) ∧ (Go.IntKind.i64 = Go.IntKind.i64 ∧ farAt l a (leastAt (farAt l a) (Int.toNat (↑n : Int))) = if palB n l = Bool.true then farAt l a (leastAt (farAt l a) n) else (0 : Int)) ∧ (Go.IntKind.i64 = Go.IntKind.i64 ∧ (0 : Int) = if palB n l = Bool.true then (0 : Int) else (1 : Int)) ∧ True)) (by kernel_rfl) ?_
  simp only [true_and, and_true, and_self, decide_eq_true_eq, decide_eq_false_iff_not, Bool.not_eq_true', Bool.not_eq_false', Bool.not_true, Bool.not_false, beq_iff_eq, beq_eq_false_iff_ne, bne_iff_ne, bne_eq_false_iff_eq, ne_eq, not_true_eq_false, not_false_eq_true, false_implies, true_implies, implies_true, forall_const, exists_const, ↓reduceIte, Int.reduceEq, Int.toNat_natCast, Bool.false_eq_true, Bool.true_eq_false, reduceCtorEq, Int.toNat_natCast]
  refine ⟨⟨by omega, by omega, h3, h4⟩, fun h => ?_, fun h => ?_⟩
  · simp [h]
  · have p := palB_t.1 h
    have := p.lo
    simp only [h, ↓reduceIte, and_true]
    exact ⟨by omega, by omega, h3, h4, hb, ta⟩
theorem x_NearestToneI (m n : Nat) (l a : List Int) (cap : Int) (h2 : n ≤ 1048576) (h3 : n * 3 ≤ m) (h4 : l.length = m) (hb : byl (n * 3) l) (ta : TBl a) : Fex true TT (inlN true TT Cp3 (lookI ILz) 4) Cp3 U0 Try.f30 [.a (.c (.slc 0 0 0 3 n cap)), tonL a] [.cells false 42 [.run [.u8] m l]] (fun lv _ => leL lv (ntR n l a)) := by
  refine Go.Sx.by_eq (q := True ∧ True ∧ True ∧ True ∧ True ∧ (((42 : Nat) = (42 : Nat) ∧ (0 : Nat) = (0 : Nat) ∧ (0 : Int) = (0 : Int) ∧ (3 : Nat) = (3 : Nat) ∧ [Go.Sx.EK.u8] = [Go.Sx.EK.u8]) ∧ (0 : Int) ≤ (↑n : Int) ∧ (↑n : Int) ≤ (1048576 : Int) ∧ Int.toNat (↑n : Int) * (3 : Nat) ≤ m ∧ List.length l = m) ∧ True ∧ ((!palB (Int.toNat (↑n : Int)) l) = Bool.true → True ∧ True ∧ True ∧ (Go.IntKind.i64 = Go.IntKind.i64 ∧ (0 : Int) = if palB n l = Bool.true then (↑(leastAt (farAt l a) n) : Int) + (1 : Int) else (0 : Int)) ∧ (Go.IntKind.i64 = Go.IntKind.i64 ∧ (0 : Int) = if palB n l = Bool.true then farAt l a (leastAt (farAt l a) n) else (0 : Int)) ∧ (Go.IntKind.i64 = Go.IntKind.i64 ∧ (1 : Int) = if palB n l = Bool.true then (0 : Int) else (1 : Int)) ∧ True) ∧ ((!palB (Int.toNat (↑n : Int)) l) = Bool.false → True ∧ True ∧ (((42 : Nat) = (42 : Nat) ∧ (0 : Nat) = (0 : Nat) ∧ (0 : Int) = (0 : Int) ∧ (3 : Nat) = (3 : Nat) ∧ [Go.Sx.EK.u8] = [Go.Sx.EK.u8]) ∧ (1 : Int) ≤ (↑n : Int) ∧ (↑n : Int) ≤ (1048576 : Int) ∧ Int.toNat (↑n : Int) * (3 : Nat) ≤ m ∧ List.length l = m ∧ (∀ (i : Nat), i < Int.toNat (↑n : Int) * (3 : Nat) → (0 : Int) ≤ List.getD l i (0 : Int) ∧ List.getD l i (0 : Int) ≤ (255 : Int)) ∧ TBl a) ∧ True ∧ True ∧ True ∧ True ∧ True ∧ True ∧ True ∧ True ∧ True ∧ True ∧ (Go.IntKind.i64 = Go.IntKind.i64 ∧ (↑(leastAt (farAt l a) (Int.toNat (↑n : Int))) : Int) + (1 : Int) = if palB n l = Bool.true then (↑(leastAt (farAt l a) n) : Int) + (1 : Int) else (0 : Int)) ∧ (Go.IntKind.i64 = Go.IntKind.i64 ∧ farAt l a (leastAt (farAt l a) (Int.toNat (↑n : Int))) = if palB n l = Bool.true then farAt l a (leastAt (farAt l a) n) else (0 : Int)) ∧ (Go.IntKind.i64 = Go.IntKind.i64 ∧ (0 : Int) = if palB n l = Bool.true then (0 : Int) else (1 : Int)) ∧ True)) (by kernel_rfl) ?_
  simp only [true_and, and_true, and_self, decide_eq_true_eq, decide_eq_false_iff_not, Bool.not_eq_true', Bool.not_eq_false', Bool.not_true, Bool.not_false, beq_iff_eq, beq_eq_false_iff_ne, bne_iff_ne, bne_eq_false_iff_eq, ne_eq, not_true_eq_false, not_false_eq_true, false_implies, true_implies, implies_true, forall_const, exists_const, ↓reduceIte, Int.reduceEq, Int.toNat_natCast, Bool.false_eq_true, Bool.true_eq_false, reduceCtorEq, Int.toNat_natCast]
  refine ⟨⟨by omega, by omega, h3, h4⟩, fun h => ?_, fun h => ?_⟩
  · simp [h]
  · have p := palB_t.1 h
    have := p.lo
    simp only [h, ↓reduceIte, and_true]
    exact ⟨by omega, by omega, h3, h4, hb, ta⟩

noncomputable def gNt : Entry := fun args H => match args with
  | [.a (.c (.slc id b z s len _)), .a (.agg [.run [.u8] 3 a])] => match getB H id with
    | .cells _ t [.run ks n l] => some ((t = 42 ∧ b = 0 ∧ z = 0 ∧ s = 3 ∧ ks = [.u8]) ∧ 0 ≤ len ∧ len ≤ 1048576 ∧ len.toNat * 3 ≤ n ∧ l.length = n ∧ byl (len.toNat * 3) l ∧ TBl a, ntR len.toNat l a)
    | _ => none
  | _ => none
theorem gNt_inv {args : List LV} {H : List Blk} {p : Prop} {r : LV} (he : gNt args H = some (p, r)) (hp : p) : ∃ (id m n : Nat) (o : Bool) (l a : List Int) (cap : Int),
    args = [.a (.c (.slc id 0 0 3 n cap)), tonL a] ∧ getB H id = .cells o 42 [.run [.u8] m l] ∧ r = ntR n l a ∧ n ≤ 1048576 ∧ n * 3 ≤ m ∧ l.length = m ∧ byl (n * 3) l ∧ TBl a := by
  unfold gNt at he
  split at he
  · split at he
    · rename_i id b z s len cap a _ o t ks m l hg
      simp only [Option.some.injEq, Prod.mk.injEq] at he
      obtain ⟨rfl, rfl⟩ := he
      obtain ⟨⟨rfl, rfl, rfl, rfl, rfl⟩, h1, h2, h3, h4, h5, h6⟩ := hp
      obtain ⟨n, rfl⟩ := Int.eq_ofNat_of_zero_le (show 0 ≤ len by omega)
      exact ⟨id, m, n, o, l, a, cap, rfl, hg, rfl, by omega, by simpa using h3, h4, by simpa using h5, h6⟩
    · simp at he
  · simp at he
theorem e_NearestToneS : EntryOk Try.prog TT 28 gNt := by
  refine ⟨fnOk Try.func28 (by kernel_rfl) rfl, ?_⟩
  intro args H p r he hp n0 w0 β w vals hG hH hA
  obtain ⟨id, m, n, o, l, a, cap, rfl, hg, rfl, h1, h2, h3, h4, h5⟩ := gNt_inv he hp
  exact entry_view tt_ok (inlN_ok tt_ok Cp3_ok mixed ILz_ok.ok 4) Cp3_ok mixed Try.func28 [id] (x_NearestToneS m n l a cap h1 h2 h3 h4 h5) rfl rfl ⟨.inr (by rw [hg]; rfl), trivial⟩ hG hH hA
theorem e_NearestToneI : EntryOk Try.prog TT 30 gNt := by
  refine ⟨fnOk Try.func30 (by kernel_rfl) rfl, ?_⟩
  intro args H p r he hp n0 w0 β w vals hG hH hA
  obtain ⟨id, m, n, o, l, a, cap, rfl, hg, rfl, h1, h2, h3, h4, h5⟩ := gNt_inv he hp
  exact entry_view tt_ok (inlN_ok tt_ok Cp3_ok mixed ILz_ok.ok 4) Cp3_ok mixed Try.func30 [id] (x_NearestToneI m n l a cap h1 h2 h3 h4 h5) rfl rfl ⟨.inr (by rw [hg]; rfl), trivial⟩ hG hH hA

noncomputable def Ep4 : List (FuncId × Entry) := (28, gNt) :: (30, gNt) :: Ep3
theorem Ep4_ok : EntriesOk Try.prog TT Ep4 := ⟨e_NearestToneS, e_NearestToneI, Ep3_ok⟩
noncomputable abbrev Cp4 : Ctr := ctrOfM Ep4 Mp3
theorem Cp4_ok : CtrOk Try.prog TT Cp4 := ctrOfM_ok Ep4_ok Mp3_ok

end Go.Proofs.Ytcmpiefbglnpkaa
