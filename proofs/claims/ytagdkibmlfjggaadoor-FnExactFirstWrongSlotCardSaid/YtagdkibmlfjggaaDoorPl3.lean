/- Rosters: the program's small functions, as contracts. No conditions beyond the ranges of the kinds. -/
import Derived.Test.YtagdkibmlfjggaaDoorPl2
set_option linter.unusedSimpArgs false
set_option linter.unusedVariables false
namespace Go.Proofs.YtagdkibmlfjggaaDoor
open Go.Sx Go.RowKit

def rosV (n : Int) (cap h : Int) (g : Nat) (p : List Int) : LV := .a (.agg [.slc 0 0 0 2 n cap, .int .i64 h, .int .u16 g, .run [.i8, .i16] 24 p])
abbrev Tks (m : Nat) (l : List Int) : Blk := .cells false 80 [.run [.i64, .u16] m l]
theorem x_start (n cap h j : Int) (g : Nat) (p : List Int) (sw : SW 12 p) (h0 : 0 ≤ j) (h1 : j < 12) : Fex true TT (inlN true TT Cj4 (lookI ILz) 6) Cj4 U0 Tryd.f60 [rosV n cap h g p, .a (.c (.int .i64 j))] [.dead] (fun lv _ => leL lv (.a (.c (.int .i64 (sg p j.toNat))))) := by
  refine Go.Sx.by_eq (q := True ∧ True ∧ True ∧ True ∧ ((0 : Int) ≤ j ∧ j < (↑(12 : Nat) : Int)) ∧ True ∧ ((0 : Int) ≤ j ∧ Int.toNat j * (2 : Nat) + (1 : Nat) < (24 : Nat)) ∧ ((-9223372036854775808 : Int) ≤ List.getD p (Int.toNat j * (2 : Nat) + (1 : Nat)) (0 : Int) ∧ List.getD p (Int.toNat j * (2 : Nat) + (1 : Nat)) (0 : Int) ≤ (9223372036854775807 : Int)) ∧ True ∧ Go.IntKind.i64 = Go.IntKind.i64 ∧ List.getD p (Int.toNat j * (2 : Nat) + (1 : Nat)) (0 : Int) = sg p (Int.toNat j)) (by kernel_rfl) ?_
  obtain ⟨k, rfl⟩ := Int.eq_ofNat_of_zero_le h0
  have hs := sw.s k (by omega)
  unfold sg at *
  simp only [true_and, and_true, and_self, decide_eq_true_eq, decide_eq_false_iff_not, Bool.not_eq_true', Bool.not_eq_false', Bool.not_true, Bool.not_false, beq_iff_eq, beq_eq_false_iff_ne, bne_iff_ne, bne_eq_false_iff_eq, ne_eq, not_true_eq_false, not_false_eq_true, false_implies, true_implies, implies_true, forall_const, exists_const, ↓reduceIte, Int.reduceEq, Int.toNat_natCast, Bool.false_eq_true, Bool.true_eq_false, reduceCtorEq, Int.zero_add, Nat.add_zero, Int.ofNat_eq_natCast, Int.toNat_natCast]
  exact ⟨by omega, by omega, by omega, by omega⟩
theorem x_isSlot (n cap h : Int) (a : List Int) (hh : 1 ≤ h ∧ h ≤ 4) (ha : SW 1 a) : Fex true TT (inlN true TT Cj4 (lookI ILz) 6) Cj4 U0 Tryd.f104 [.a (.agg [.slc 0 0 0 2 n cap, .int .i64 h]), sltV a] [.dead] (fun lv _ => leL lv (.a (.c (.bool (okB h a 0))))) := by
  refine Go.Sx.by_eq (q := True ∧ True ∧ True ∧ True ∧ True ∧ True ∧ True ∧ (Decidable.decide ((0 : Int) ≤ List.getD a (0 : Nat) (0 : Int)) = Bool.true → True ∧ True ∧ ((-9223372036854775808 : Int) ≤ List.getD a (0 : Nat) (0 : Int) ∧ List.getD a (0 : Nat) (0 : Int) ≤ (9223372036854775807 : Int)) ∧ True ∧ True ∧ True ∧ True ∧ True ∧ (Decidable.decide (List.getD a (0 : Nat) (0 : Int) < h) = Bool.true → True ∧ True ∧ True ∧ True ∧ True ∧ (Decidable.decide ((0 : Int) ≤ List.getD a (1 : Nat) (0 : Int)) = Bool.true → True ∧ True ∧ True ∧ True ∧ True ∧ Decidable.decide (List.getD a (1 : Nat) (0 : Int) ≤ (1000 : Int)) = okB h a (0 : Nat)) ∧ (Decidable.decide ((0 : Int) ≤ List.getD a (1 : Nat) (0 : Int)) = !Bool.true → True ∧ True ∧ okB h a (0 : Nat) = Bool.false)) ∧ (Decidable.decide (List.getD a (0 : Nat) (0 : Int) < h) = !Bool.true → True ∧ True ∧ True ∧ True ∧ okB h a (0 : Nat) = Bool.false)) ∧ (Decidable.decide ((0 : Int) ≤ List.getD a (0 : Nat) (0 : Int)) = !Bool.true → True ∧ True ∧ True ∧ True ∧ True ∧ True ∧ okB h a (0 : Nat) = Bool.false)) (by kernel_rfl) ?_
  simp only [true_and, and_true, and_self, decide_eq_true_eq, decide_eq_false_iff_not, Bool.not_eq_true', Bool.not_eq_false', Bool.not_true, Bool.not_false, beq_iff_eq, beq_eq_false_iff_ne, bne_iff_ne, bne_eq_false_iff_eq, ne_eq, not_true_eq_false, not_false_eq_true, false_implies, true_implies, implies_true, forall_const, exists_const, ↓reduceIte, Int.reduceEq, Int.toNat_natCast, Bool.false_eq_true, Bool.true_eq_false, reduceCtorEq, Nat.zero_add, Bool.and_eq_true, Bool.and_eq_false_iff]
  have h1 := ha.h 0 (by omega)
  have h2 := ha.s 0 (by omega)
  have e1 : hd a 0 = a.getD 0 0 := rfl
  have e2 : sg a 0 = a.getD 1 0 := rfl
  rw [← e1, ← e2]
  refine ⟨fun g1 => ⟨by omega, fun g2 => ⟨fun g3 => ?_, fun g3 => okB_f.2 (by omega)⟩, fun g2 => okB_f.2 (by omega)⟩, fun g1 => okB_f.2 (by omega)⟩
  rw [Bool.eq_iff_iff, okB_t, decide_eq_true_eq]; omega
theorem x_ahead (s : Nat) (j : Int) (hs : s < 65536) (h0 : 0 ≤ j) (h1 : j < 16) : Fex true TT (inlN true TT Cj4 (lookI ILz) 6) Cj4 U0 Tryd.f116 [.a (.c (.int .u16 s)), .a (.c (.int .i64 j))] [] (fun lv _ => leL lv (.a (.c (.int .u16 ((s &&& (2 ^ j.toNat - 1) : Nat) : Int))))) := by
  refine Go.Sx.by_eq (q := True ∧ True ∧ True ∧ ((0 : Int) ≤ j ∧ j < (16 : Int)) ∧ True ∧ True ∧ True ∧ Go.IntKind.u16 = Go.IntKind.u16 ∧ Go.Sx.bAnd Go.IntKind.u16 (↑s : Int) (Go.IntKind.wrap Go.IntKind.u16 ((↑((2 : Nat) ^ Int.toNat j) : Int) - (1 : Int))) = (↑(s &&& (2 : Nat) ^ Int.toNat j - (1 : Nat)) : Int)) (by kernel_rfl) ?_
  obtain ⟨k, rfl⟩ := Int.eq_ofNat_of_zero_le h0
  have hw := pow_lt16 (k := k) (by omega)
  have hp := Nat.two_pow_pos k
  simp only [true_and, and_true, and_self, decide_eq_true_eq, decide_eq_false_iff_not, Bool.not_eq_true', Bool.not_eq_false', Bool.not_true, Bool.not_false, beq_iff_eq, beq_eq_false_iff_ne, bne_iff_ne, bne_eq_false_iff_eq, ne_eq, not_true_eq_false, not_false_eq_true, false_implies, true_implies, implies_true, forall_const, exists_const, ↓reduceIte, Int.reduceEq, Int.toNat_natCast, Bool.false_eq_true, Bool.true_eq_false, reduceCtorEq, Int.zero_add, Nat.add_zero, Int.ofNat_eq_natCast, Int.toNat_natCast]
  have e : ((2 ^ k : Nat) : Int) - 1 = ((2 ^ k - 1 : Nat) : Int) := by omega
  rw [e, u16w (by omega) (by omega), bAnd16 hs (by omega)]
  exact ⟨by omega, rfl⟩
def gSt : Entry := fun args _ => match args with
  | [.a (.agg [.slc _ b z s _ _, .int .i64 _, .int .u16 g, .run ks m p]), .a (.c (.int .i64 j))] => some ((b = 0 ∧ z = 0 ∧ s = 2 ∧ ks = [.i8, .i16] ∧ m = 24) ∧ SW 12 p ∧ 0 ≤ g ∧ 0 ≤ j ∧ j < 12, .a (.c (.int .i64 (sg p j.toNat))))
  | _ => none
theorem e_start : EntryOk Tryd.prog TT 60 gSt := by
  refine ⟨fnOk Tryd.func60 (by kernel_rfl) rfl, ?_⟩
  intro args H pp r he hp n0 w0 β w vals hG hH hA
  unfold gSt at he
  split at he
  · rename_i id b z s n cap h g ks m p j
    simp only [Option.some.injEq, Prod.mk.injEq] at he
    obtain ⟨rfl, rfl⟩ := he
    obtain ⟨⟨rfl, rfl, rfl, rfl, rfl⟩, sw, hg, h0, h1⟩ := hp
    obtain ⟨g, rfl⟩ := Int.eq_ofNat_of_zero_le hg
    exact entry_view tt_ok (inlN_ok tt_ok Cj4_ok mixed ILz_ok.ok 6) Cj4_ok mixed Tryd.func60 [id] (x_start n cap h j g p sw h0 h1) rfl rfl ⟨.inl rfl, trivial⟩ hG hH hA
  · simp at he
def gIsl : Entry := fun args _ => match args with
  | [.a (.agg [.slc _ b z s _ _, .int .i64 h]), .a (.agg [.run [.i8, .i16] 2 a])] => some ((b = 0 ∧ z = 0 ∧ s = 2) ∧ (1 ≤ h ∧ h ≤ 4) ∧ SW 1 a, .a (.c (.bool (okB h a 0))))
  | _ => none
theorem e_isSlot : EntryOk Tryd.prog TT 104 gIsl := by
  refine ⟨fnOk Tryd.func104 (by kernel_rfl) rfl, ?_⟩
  intro args H pp r he hp n0 w0 β w vals hG hH hA
  unfold gIsl at he
  split at he
  · rename_i id b z s n cap h a
    simp only [Option.some.injEq, Prod.mk.injEq] at he
    obtain ⟨rfl, rfl⟩ := he
    obtain ⟨⟨rfl, rfl, rfl⟩, hh, ha⟩ := hp
    exact entry_view tt_ok (inlN_ok tt_ok Cj4_ok mixed ILz_ok.ok 6) Cj4_ok mixed Tryd.func104 [id] (x_isSlot n cap h a hh ha) rfl rfl ⟨.inl rfl, trivial⟩ hG hH hA
  · simp at he
def gAh : Entry := fun args _ => match args with
  | [.a (.c (.int .u16 s)), .a (.c (.int .i64 j))] => some ((0 ≤ s ∧ s ≤ 65535) ∧ 0 ≤ j ∧ j < 16, .a (.c (.int .u16 ((s.toNat &&& (2 ^ j.toNat - 1) : Nat) : Int))))
  | _ => none
theorem x_ahead' (s j : Int) (hs : 0 ≤ s ∧ s ≤ 65535) (h0 : 0 ≤ j) (h1 : j < 16) : Fex true TT (inlN true TT Cj4 (lookI ILz) 6) Cj4 U0 Tryd.f116 [.a (.c (.int .u16 s)), .a (.c (.int .i64 j))] [] (fun lv _ => leL lv (.a (.c (.int .u16 ((s.toNat &&& (2 ^ j.toNat - 1) : Nat) : Int))))) := by
  obtain ⟨s, rfl⟩ := Int.eq_ofNat_of_zero_le hs.1
  exact x_ahead s j (by have := hs.2; omega) h0 h1
theorem e_ahead : EntryOk Tryd.prog TT 116 gAh := by
  refine ⟨fnOk Tryd.func116 (by kernel_rfl) rfl, ?_⟩
  intro args H p r he hp n0 w0 β w vals hG hH hA
  unfold gAh at he
  split at he
  · simp only [Option.some.injEq, Prod.mk.injEq] at he
    obtain ⟨rfl, rfl⟩ := he
    exact entry_bare tt_ok (inlN_ok tt_ok Cj4_ok mixed (ILz_ok).ok 6) Cj4_ok mixed Tryd.func116 (x_ahead' _ _ hp.1 hp.2.1 hp.2.2) rfl rfl hG hH hA
  · simp at he

noncomputable def Er1 : List (FuncId × Entry) := (60, gSt) :: (104, gIsl) :: (116, gAh) :: Ej4
theorem Er1_ok : EntriesOk Tryd.prog TT Er1 := ⟨e_start, e_isSlot, e_ahead, Ej4_ok⟩
noncomputable abbrev Cr1 : Ctr := ctrOfM Er1 Mj4
theorem Cr1_ok : CtrOk Tryd.prog TT Cr1 := ctrOfM_ok Er1_ok Mj4_ok

/-! ### The day on which a job is done -/
noncomputable def ILdf  : List (FuncId × Func × (Nat → LM)) := [
  (97, Tryd.f97, U0)]
theorem ILdf_ok  : InlsOk Tryd.prog ILdf := ⟨⟨Tryd.func97, by kernel_rfl⟩, trivial⟩
theorem x_rdone (m n : Nat) (l : List Int) (cap h j : Int) (g : Nat) (p : List Int) (q : Jl n m l) (v : VJ n l) (sw : SW 12 p) (h0 : 0 ≤ j) (h1 : j < n) : Fex true TT (inlN true TT Cr1 (lookI ILdf) 6) Cr1 U0 Tryd.f115 [rosV n cap h g p, .a (.c (.int .i64 j))] [Tks m l] (fun lv _ => leL lv (.a (.c (.int .i64 (dnP l p j.toNat))))) := by
  refine Go.Sx.by_eq (q := True ∧ True ∧ True ∧ True ∧ True ∧ True ∧ ((0 : Int) ≤ j ∧ j < (↑n : Int)) ∧ True ∧ ((0 : Int) ≤ (0 : Int) + j ∧ Int.toNat ((0 : Int) + j) * (2 : Nat) + (0 : Nat) < m) ∧ True ∧ True ∧ (((0 : Nat) = (0 : Nat) ∧ (0 : Int) = (0 : Int) ∧ (2 : Nat) = (2 : Nat) ∧ [Go.Sx.EK.i8, Go.Sx.EK.i16] = [Go.Sx.EK.i8, Go.Sx.EK.i16] ∧ (24 : Nat) = (24 : Nat)) ∧ SW (12 : Nat) p ∧ (0 : Int) ≤ (↑g : Int) ∧ (0 : Int) ≤ j ∧ j < (12 : Int)) ∧ True ∧ True ∧ True ∧ ((-9223372036854775808 : Int) ≤ sg p (Int.toNat j) + List.getD l (Int.toNat ((0 : Int) + j) * (2 : Nat) + (0 : Nat)) (0 : Int) ∧ sg p (Int.toNat j) + List.getD l (Int.toNat ((0 : Int) + j) * (2 : Nat) + (0 : Nat)) (0 : Int) ≤ (9223372036854775807 : Int)) ∧ True ∧ True ∧ Go.IntKind.i64 = Go.IntKind.i64 ∧ sg p (Int.toNat j) + List.getD l (Int.toNat ((0 : Int) + j) * (2 : Nat) + (0 : Nat)) (0 : Int) = dnP l p (Int.toNat j)) (by kernel_rfl) ?_
  obtain ⟨k, rfl⟩ := Int.eq_ofNat_of_zero_le h0
  obtain ⟨_, q1, q2, q3, jw⟩ := q
  rw [Int.toNat_natCast] at q2 jw
  have hs := sw.s k (by omega)
  have hd := v.dy k (by omega)
  have ed : l.getD (k * 2) 0 = dy l k := rfl
  simp only [true_and, and_true, and_self, decide_eq_true_eq, decide_eq_false_iff_not, Bool.not_eq_true', Bool.not_eq_false', Bool.not_true, Bool.not_false, beq_iff_eq, beq_eq_false_iff_ne, bne_iff_ne, bne_eq_false_iff_eq, ne_eq, not_true_eq_false, not_false_eq_true, false_implies, true_implies, implies_true, forall_const, exists_const, ↓reduceIte, Int.reduceEq, Int.toNat_natCast, Bool.false_eq_true, Bool.true_eq_false, reduceCtorEq, Int.zero_add, Nat.add_zero, Int.ofNat_eq_natCast, Int.toNat_natCast, ed]
  exact ⟨by omega, by omega, ⟨sw, by omega, by omega, by omega⟩, by omega, rfl⟩
/-- A roster that is read beside its tasks. -/
structure Rq (b : Nat) (z : Int) (s : Nat) (ks : List EK) (m : Nat) (t : TypeId) (kt : List EK) (len : Int) (mm : Nat) (l : List Int) (p : List Int) (g : Int) : Prop where
  k : b = 0 ∧ z = 0 ∧ s = 2 ∧ ks = [.i8, .i16] ∧ m = 24 ∧ t = 80 ∧ kt = [.i64, .u16]
  q : Jl len mm l
  v : VJ len.toNat l
  sw : SW 12 p
  g : 0 ≤ g
def gRd : Entry := fun args H => match args with
  | [.a (.agg [.slc id b z s len _, .int .i64 _, .int .u16 g, .run ks m p]), .a (.c (.int .i64 j))] => match getB H id with
    | .cells _ t [.run kt mm l] => some (Rq b z s ks m t kt len mm l p g ∧ 0 ≤ j ∧ j < len, .a (.c (.int .i64 (dnP l p j.toNat))))
    | _ => none
  | _ => none
theorem e_rdone : EntryOk Tryd.prog TT 115 gRd := by
  refine ⟨fnOk Tryd.func115 (by kernel_rfl) rfl, ?_⟩
  intro args H pp r he hp n0 w0 β w vals hG hH hA
  unfold gRd at he
  split at he
  · split at he
    · rename_i id b z s len cap h g ks m p j _ o t kt mm l hg
      simp only [Option.some.injEq, Prod.mk.injEq] at he
      obtain ⟨rfl, rfl⟩ := he
      obtain ⟨⟨⟨rfl, rfl, rfl, rfl, rfl, rfl, rfl⟩, q, v, sw, h0⟩, h1, h2⟩ := hp
      obtain ⟨n, rfl⟩ := Int.eq_ofNat_of_zero_le q.lo
      obtain ⟨g, rfl⟩ := Int.eq_ofNat_of_zero_le h0
      exact entry_view tt_ok (inlN_ok tt_ok Cr1_ok mixed ILdf_ok.ok 6) Cr1_ok mixed Tryd.func115 [id] (x_rdone mm n l cap h j g p q v sw h1 h2) rfl rfl ⟨.inr (by rw [hg]; rfl), trivial⟩ hG hH hA
    · simp at he
  · simp at he
noncomputable def Er2 : List (FuncId × Entry) := (115, gRd) :: Er1
theorem Er2_ok : EntriesOk Tryd.prog TT Er2 := ⟨e_rdone, Er1_ok⟩
noncomputable abbrev Cr2 : Ctr := ctrOfM Er2 Mj4
theorem Cr2_ok : CtrOk Tryd.prog TT Cr2 := ctrOfM_ok Er2_ok Mj4_ok

/-! ### Is a job being done on a day? -/
def onB (l p : List Int) (j : Nat) (d : Int) : Bool := decide (sg p j ≤ d) && decide (d < dnP l p j)
theorem x_isOn (m n : Nat) (l : List Int) (cap h j d : Int) (g : Nat) (p : List Int) (q : Jl n m l) (v : VJ n l) (sw : SW 12 p) (h0 : 0 ≤ j) (h1 : j < n) : Fex true TT (inlN true TT Cr2 (lookI ILz) 6) Cr2 U0 Tryd.f117 [rosV n cap h g p, .a (.c (.int .i64 j)), .a (.c (.int .i64 d))] [Tks m l] (fun lv _ => leL lv (.a (.c (.bool (onB l p j.toNat d))))) := by
  refine Go.Sx.by_eq (q := True ∧ True ∧ True ∧ True ∧ True ∧ (((0 : Nat) = (0 : Nat) ∧ (0 : Int) = (0 : Int) ∧ (2 : Nat) = (2 : Nat) ∧ [Go.Sx.EK.i8, Go.Sx.EK.i16] = [Go.Sx.EK.i8, Go.Sx.EK.i16] ∧ (24 : Nat) = (24 : Nat)) ∧ SW (12 : Nat) p ∧ (0 : Int) ≤ (↑g : Int) ∧ (0 : Int) ≤ j ∧ j < (12 : Int)) ∧ True ∧ True ∧ (Decidable.decide (sg p (Int.toNat j) ≤ d) = Bool.true → True ∧ True ∧ True ∧ (Rq (0 : Nat) (0 : Int) (2 : Nat) [Go.Sx.EK.i8, Go.Sx.EK.i16] (24 : Nat) (80 : Nat) [Go.Sx.EK.i64, Go.Sx.EK.u16] (↑n : Int) m l p (↑g : Int) ∧ (0 : Int) ≤ j ∧ j < (↑n : Int)) ∧ True ∧ True ∧ True ∧ Decidable.decide (d < dnP l p (Int.toNat j)) = onB l p (Int.toNat j) d) ∧ (Decidable.decide (sg p (Int.toNat j) ≤ d) = !Bool.true → True ∧ True ∧ onB l p (Int.toNat j) d = Bool.false)) (by kernel_rfl) ?_
  obtain ⟨k, rfl⟩ := Int.eq_ofNat_of_zero_le h0
  have rq : Rq 0 0 2 [.i8, .i16] 24 80 [.i64, .u16] n m l p g := ⟨⟨rfl, rfl, rfl, rfl, rfl, rfl, rfl⟩, q, v, sw, by omega⟩
  have hv := v.hi
  simp only [true_and, and_true, and_self, decide_eq_true_eq, decide_eq_false_iff_not, Bool.not_eq_true', Bool.not_eq_false', Bool.not_true, Bool.not_false, beq_iff_eq, beq_eq_false_iff_ne, bne_iff_ne, bne_eq_false_iff_eq, ne_eq, not_true_eq_false, not_false_eq_true, false_implies, true_implies, implies_true, forall_const, exists_const, ↓reduceIte, Int.reduceEq, Int.toNat_natCast, Bool.false_eq_true, Bool.true_eq_false, reduceCtorEq, Int.zero_add, Nat.add_zero, Int.ofNat_eq_natCast, Int.toNat_natCast]
  refine ⟨⟨sw, by omega, by omega, by omega⟩, fun h1 => ⟨⟨rq, by omega, by omega⟩, ?_⟩, fun h1 => ?_⟩
  · rw [onB, decide_eq_true h1, Bool.true_and]
  · rw [onB, decide_eq_false h1, Bool.false_and]
/-! ### When all of a set are done -/
def lmAd (l p : List Int) (s : Nat) : LAnn := { ι := Nat, inv := fun _ k => k ≤ 12, slots := fun _ k => [(4, .a (.c (.int .i64 k)))], blks := fun _ k => [(2, [.int .i64 (adS l p s k)])], μ := fun _ k => 12 - k }
noncomputable def ILad (l p : List Int) (s : Nat) : List (FuncId × Func × (Nat → LM)) := [
  (57, Tryd.f57, U0),
  (90, Tryd.f90, fun _ => .inv (lmAd l p s))]
theorem ILad_ok {l p : List Int} {s : Nat} : InlsOk Tryd.prog (ILad l p s) := ⟨⟨Tryd.func57, by kernel_rfl⟩, ⟨Tryd.func90, by kernel_rfl⟩, trivial⟩
theorem x_allDone (m n : Nat) (l : List Int) (cap h : Int) (g : Nat) (p : List Int) (s : Nat) (q : Jl n m l) (v : VJ n l) (sw : SW 12 p) (hs : ∀ c, s.testBit c = true → c < n) : Fex true TT (inlN true TT Cr2 (lookI (ILad l p s)) 6) Cr2 U0 Tryd.f102 [rosV n cap h g p, .a (.c (.int .u16 s))] [Tks m l] (fun lv _ => leL lv (.a (.c (.int .i64 (adS l p s 12))))) := by
  refine Go.Sx.by_eq (q := True ∧ True ∧ True ∧ True ∧ True ∧ True ∧ True ∧ True ∧ True ∧ True ∧ (∃ (x : Nat), x ≤ (12 : Nat) ∧ (Go.Sx.Cel.yld (4 : Nat) = Go.Sx.Cel.yld (4 : Nat) ∧ Go.Sx.Cel.ptr (3 : Nat) (0 : Nat) = Go.Sx.Cel.ptr (3 : Nat) (0 : Nat) ∧ Go.Sx.Cel.val Go.undef = Go.Sx.Cel.val Go.undef ∧ True ∧ (Go.IntKind.i64 = Go.IntKind.i64 ∧ (0 : Int) = (↑x : Int)) ∧ True ∧ True ∧ True ∧ True ∧ True ∧ True ∧ True ∧ True ∧ True ∧ True ∧ True ∧ True ∧ True) ∧ (Bool.false = Bool.false ∧ (80 : Nat) = (80 : Nat) ∧ ([Go.Sx.EK.i64, Go.Sx.EK.u16] = [Go.Sx.EK.i64, Go.Sx.EK.u16] ∧ m = m ∧ l = l) ∧ True) ∧ (Bool.true = Bool.true ∧ (92 : Nat) = (92 : Nat) ∧ Go.Sx.Cel.slc (0 : Nat) (0 : Nat) (0 : Int) (2 : Nat) (↑n : Int) cap = Go.Sx.Cel.slc (0 : Nat) (0 : Nat) (0 : Int) (2 : Nat) (↑n : Int) cap ∧ (Go.IntKind.i64 = Go.IntKind.i64 ∧ h = h) ∧ (Go.IntKind.u16 = Go.IntKind.u16 ∧ (↑g : Int) = (↑g : Int)) ∧ ([Go.Sx.EK.i8, Go.Sx.EK.i16] = [Go.Sx.EK.i8, Go.Sx.EK.i16] ∧ (24 : Nat) = (24 : Nat) ∧ p = p) ∧ True) ∧ (Bool.true = Bool.true ∧ (2 : Nat) = (2 : Nat) ∧ (Go.IntKind.i64 = Go.IntKind.i64 ∧ (0 : Int) = adS l p s x) ∧ True) ∧ (Bool.true = Bool.true ∧ (78 : Nat) = (78 : Nat) ∧ (Go.IntKind.u16 = Go.IntKind.u16 ∧ (↑s : Int) = (↑s : Int)) ∧ True) ∧ (Go.LoopState.ready = Go.LoopState.ready ∧ (Option.none : Option Go.Code) = Option.none) ∧ True) ∧ ∀ (x : Nat), x ≤ (12 : Nat) → True ∧ (Decidable.decide ((↑x : Int) < (12 : Int)) = Bool.true → True ∧ True ∧ True ∧ True ∧ (((0 : Int) ≤ (↑s : Int) ∧ (↑s : Int) ≤ (65535 : Int)) ∧ (0 : Int) ≤ (↑x : Int) ∧ (↑x : Int) < (16 : Int)) ∧ True ∧ (Nat.testBit (Int.toNat (↑s : Int)) (Int.toNat (↑x : Int)) = Bool.true → True ∧ True ∧ True ∧ True ∧ True ∧ True ∧ (Rq (0 : Nat) (0 : Int) (2 : Nat) [Go.Sx.EK.i8, Go.Sx.EK.i16] (24 : Nat) (80 : Nat) [Go.Sx.EK.i64, Go.Sx.EK.u16] (↑n : Int) m l p (↑g : Int) ∧ (0 : Int) ≤ (↑x : Int) ∧ (↑x : Int) < (↑n : Int)) ∧ True ∧ True ∧ True ∧ True ∧ ((-9223372036854775808 : Int) ≤ (↑x : Int) + (1 : Int) ∧ (↑x : Int) + (1 : Int) ≤ (9223372036854775807 : Int)) ∧ True ∧ ∃ (y : Nat), y ≤ (12 : Nat) ∧ (12 : Nat) - y < (12 : Nat) - x ∧ (Go.Sx.Cel.yld (4 : Nat) = Go.Sx.Cel.yld (4 : Nat) ∧ Go.Sx.Cel.ptr (3 : Nat) (0 : Nat) = Go.Sx.Cel.ptr (3 : Nat) (0 : Nat) ∧ Go.Sx.Cel.val Go.undef = Go.Sx.Cel.val Go.undef ∧ True ∧ (Go.IntKind.i64 = Go.IntKind.i64 ∧ (↑x : Int) + (1 : Int) = (↑y : Int)) ∧ True ∧ True ∧ True ∧ True ∧ True ∧ True ∧ True ∧ True ∧ True ∧ True ∧ True ∧ True ∧ True) ∧ (Bool.false = Bool.false ∧ (80 : Nat) = (80 : Nat) ∧ ([Go.Sx.EK.i64, Go.Sx.EK.u16] = [Go.Sx.EK.i64, Go.Sx.EK.u16] ∧ m = m ∧ l = l) ∧ True) ∧ (Bool.true = Bool.true ∧ (92 : Nat) = (92 : Nat) ∧ Go.Sx.Cel.slc (0 : Nat) (0 : Nat) (0 : Int) (2 : Nat) (↑n : Int) cap = Go.Sx.Cel.slc (0 : Nat) (0 : Nat) (0 : Int) (2 : Nat) (↑n : Int) cap ∧ (Go.IntKind.i64 = Go.IntKind.i64 ∧ h = h) ∧ (Go.IntKind.u16 = Go.IntKind.u16 ∧ (↑g : Int) = (↑g : Int)) ∧ ([Go.Sx.EK.i8, Go.Sx.EK.i16] = [Go.Sx.EK.i8, Go.Sx.EK.i16] ∧ (24 : Nat) = (24 : Nat) ∧ p = p) ∧ True) ∧ (Bool.true = Bool.true ∧ (2 : Nat) = (2 : Nat) ∧ (Go.IntKind.i64 = Go.IntKind.i64 ∧ Max.max (adS l p s x) (dnP l p (Int.toNat (↑x : Int))) = adS l p s y) ∧ True) ∧ (Bool.true = Bool.true ∧ (78 : Nat) = (78 : Nat) ∧ (Go.IntKind.u16 = Go.IntKind.u16 ∧ (↑s : Int) = (↑s : Int)) ∧ True) ∧ (Go.LoopState.ready = Go.LoopState.ready ∧ (Option.none : Option Go.Code) = Option.none) ∧ True) ∧ (Nat.testBit (Int.toNat (↑s : Int)) (Int.toNat (↑x : Int)) = !Bool.true → True ∧ ((-9223372036854775808 : Int) ≤ (↑x : Int) + (1 : Int) ∧ (↑x : Int) + (1 : Int) ≤ (9223372036854775807 : Int)) ∧ True ∧ ∃ (y : Nat), y ≤ (12 : Nat) ∧ (12 : Nat) - y < (12 : Nat) - x ∧ (Go.Sx.Cel.yld (4 : Nat) = Go.Sx.Cel.yld (4 : Nat) ∧ Go.Sx.Cel.ptr (3 : Nat) (0 : Nat) = Go.Sx.Cel.ptr (3 : Nat) (0 : Nat) ∧ Go.Sx.Cel.val Go.undef = Go.Sx.Cel.val Go.undef ∧ True ∧ (Go.IntKind.i64 = Go.IntKind.i64 ∧ (↑x : Int) + (1 : Int) = (↑y : Int)) ∧ True ∧ True ∧ True ∧ True ∧ True ∧ True ∧ True ∧ True ∧ True ∧ True ∧ True ∧ True ∧ True) ∧ (Bool.false = Bool.false ∧ (80 : Nat) = (80 : Nat) ∧ ([Go.Sx.EK.i64, Go.Sx.EK.u16] = [Go.Sx.EK.i64, Go.Sx.EK.u16] ∧ m = m ∧ l = l) ∧ True) ∧ (Bool.true = Bool.true ∧ (92 : Nat) = (92 : Nat) ∧ Go.Sx.Cel.slc (0 : Nat) (0 : Nat) (0 : Int) (2 : Nat) (↑n : Int) cap = Go.Sx.Cel.slc (0 : Nat) (0 : Nat) (0 : Int) (2 : Nat) (↑n : Int) cap ∧ (Go.IntKind.i64 = Go.IntKind.i64 ∧ h = h) ∧ (Go.IntKind.u16 = Go.IntKind.u16 ∧ (↑g : Int) = (↑g : Int)) ∧ ([Go.Sx.EK.i8, Go.Sx.EK.i16] = [Go.Sx.EK.i8, Go.Sx.EK.i16] ∧ (24 : Nat) = (24 : Nat) ∧ p = p) ∧ True) ∧ (Bool.true = Bool.true ∧ (2 : Nat) = (2 : Nat) ∧ (Go.IntKind.i64 = Go.IntKind.i64 ∧ adS l p s x = adS l p s y) ∧ True) ∧ (Bool.true = Bool.true ∧ (78 : Nat) = (78 : Nat) ∧ (Go.IntKind.u16 = Go.IntKind.u16 ∧ (↑s : Int) = (↑s : Int)) ∧ True) ∧ (Go.LoopState.ready = Go.LoopState.ready ∧ (Option.none : Option Go.Code) = Option.none) ∧ True)) ∧ (Decidable.decide ((↑x : Int) < (12 : Int)) = Bool.false → True ∧ True ∧ Go.IntKind.i64 = Go.IntKind.i64 ∧ adS l p s x = adS l p s (12 : Nat))) (by kernel_rfl) ?_
  have rq : Rq 0 0 2 [.i8, .i16] 24 80 [.i64, .u16] n m l p g := ⟨⟨rfl, rfl, rfl, rfl, rfl, rfl, rfl⟩, q, v, sw, by omega⟩
  have hv := v.hi
  simp only [true_and, and_true, and_self, decide_eq_true_eq, decide_eq_false_iff_not, Bool.not_eq_true', Bool.not_eq_false', Bool.not_true, Bool.not_false, beq_iff_eq, beq_eq_false_iff_ne, bne_iff_ne, bne_eq_false_iff_eq, ne_eq, not_true_eq_false, not_false_eq_true, false_implies, true_implies, implies_true, forall_const, exists_const, ↓reduceIte, Int.reduceEq, Int.toNat_natCast, Bool.false_eq_true, Bool.true_eq_false, reduceCtorEq, Int.zero_add, Nat.add_zero, Int.ofNat_eq_natCast, Int.toNat_natCast]
  have hlt2 : s < 2 ^ n := by
    apply Nat.lt_pow_two_of_testBit
    intro i hi
    rw [Bool.eq_false_iff]
    intro h
    have := hs i h
    omega
  have hw := pow_lt16 (k := n) (by omega)
  refine ⟨⟨0, by omega, rfl, rfl⟩, ?_⟩
  intro k hk
  refine ⟨fun hlt => ⟨by omega, fun hbit => ⟨⟨rq, by omega, by have := hs k hbit; omega⟩, by omega, k + 1, by omega, by omega, by omega, by rw [adS, if_pos hbit]⟩, fun hbit => ⟨by omega, k + 1, by omega, by omega, by omega, by rw [adS, if_neg (by rw [hbit]; simp)]⟩⟩, fun hge => ?_⟩
  obtain rfl : k = 12 := by omega
  rfl
/-! ### What a hand has been given -/
def gvB (g : Nat) (p : List Int) (x : Int) (k : Nat) : Bool := g.testBit k && decide (hd p k = x)
def lmGv (g : Nat) (p : List Int) (x : Int) : LAnn := { ι := Nat, inv := fun _ k => k ≤ 12, slots := fun _ k => [(4, .a (.c (.int .i64 k)))], blks := fun _ k => [(3, [.int .u16 (bsF (gvB g p x) k)])], μ := fun _ k => 12 - k }
noncomputable def ILgv (g : Nat) (p : List Int) (x : Int) : List (FuncId × Func × (Nat → LM)) := [
  (57, Tryd.f57, U0),
  (90, Tryd.f90, fun _ => .inv (lmGv g p x))]
theorem ILgv_ok {g : Nat} {p : List Int} {x : Int} : InlsOk Tryd.prog (ILgv g p x) := ⟨⟨Tryd.func57, by kernel_rfl⟩, ⟨Tryd.func90, by kernel_rfl⟩, trivial⟩
theorem x_givenTo (n cap h x : Int) (g : Nat) (p : List Int) (sw : SW 12 p) (hg : g < 65536) : Fex true TT (inlN true TT Cr2 (lookI (ILgv g p x)) 6) Cr2 U0 Tryd.f84 [rosV n cap h g p, .a (.c (.int .i64 x))] [.dead] (fun lv _ => leL lv (.a (.c (.int .u16 (bsF (gvB g p x) 12))))) := by
  refine Go.Sx.by_eq (q := True ∧ True ∧ True ∧ True ∧ True ∧ True ∧ True ∧ True ∧ True ∧ True ∧ True ∧ True ∧ (∃ (x_1 : Nat), x_1 ≤ (12 : Nat) ∧ (Go.Sx.Cel.yld (5 : Nat) = Go.Sx.Cel.yld (5 : Nat) ∧ Go.Sx.Cel.ptr (4 : Nat) (0 : Nat) = Go.Sx.Cel.ptr (4 : Nat) (0 : Nat) ∧ Go.Sx.Cel.val Go.undef = Go.Sx.Cel.val Go.undef ∧ True ∧ (Go.IntKind.i64 = Go.IntKind.i64 ∧ (0 : Int) = (↑x_1 : Int)) ∧ True ∧ True ∧ True ∧ True ∧ True ∧ True ∧ True ∧ True ∧ True ∧ True ∧ True ∧ True ∧ True) ∧ True ∧ (Bool.true = Bool.true ∧ (92 : Nat) = (92 : Nat) ∧ Go.Sx.Cel.slc (0 : Nat) (0 : Nat) (0 : Int) (2 : Nat) n cap = Go.Sx.Cel.slc (0 : Nat) (0 : Nat) (0 : Int) (2 : Nat) n cap ∧ (Go.IntKind.i64 = Go.IntKind.i64 ∧ h = h) ∧ (Go.IntKind.u16 = Go.IntKind.u16 ∧ (↑g : Int) = (↑g : Int)) ∧ ([Go.Sx.EK.i8, Go.Sx.EK.i16] = [Go.Sx.EK.i8, Go.Sx.EK.i16] ∧ (24 : Nat) = (24 : Nat) ∧ p = p) ∧ True) ∧ (Bool.true = Bool.true ∧ (2 : Nat) = (2 : Nat) ∧ (Go.IntKind.i64 = Go.IntKind.i64 ∧ x = x) ∧ True) ∧ (Bool.true = Bool.true ∧ (78 : Nat) = (78 : Nat) ∧ (Go.IntKind.u16 = Go.IntKind.u16 ∧ (0 : Int) = (↑(bsF (gvB g p x) x_1) : Int)) ∧ True) ∧ (Bool.true = Bool.true ∧ (78 : Nat) = (78 : Nat) ∧ (Go.IntKind.u16 = Go.IntKind.u16 ∧ (↑g : Int) = (↑g : Int)) ∧ True) ∧ (Go.LoopState.ready = Go.LoopState.ready ∧ (Option.none : Option Go.Code) = Option.none) ∧ True) ∧ ∀ (x_1 : Nat), x_1 ≤ (12 : Nat) → True ∧ (Decidable.decide ((↑x_1 : Int) < (12 : Int)) = Bool.true → True ∧ True ∧ True ∧ True ∧ (((0 : Int) ≤ (↑g : Int) ∧ (↑g : Int) ≤ (65535 : Int)) ∧ (0 : Int) ≤ (↑x_1 : Int) ∧ (↑x_1 : Int) < (16 : Int)) ∧ True ∧ (Nat.testBit (Int.toNat (↑g : Int)) (Int.toNat (↑x_1 : Int)) = Bool.true → True ∧ True ∧ True ∧ True ∧ True ∧ ((0 : Int) ≤ (↑x_1 : Int) ∧ (↑x_1 : Int) < (↑(12 : Nat) : Int)) ∧ True ∧ ((0 : Int) ≤ (↑x_1 : Int) ∧ Int.toNat (↑x_1 : Int) * (2 : Nat) + (0 : Nat) < (24 : Nat)) ∧ ((-9223372036854775808 : Int) ≤ List.getD p (Int.toNat (↑x_1 : Int) * (2 : Nat) + (0 : Nat)) (0 : Int) ∧ List.getD p (Int.toNat (↑x_1 : Int) * (2 : Nat) + (0 : Nat)) (0 : Int) ≤ (9223372036854775807 : Int)) ∧ True ∧ True ∧ ((List.getD p (Int.toNat (↑x_1 : Int) * (2 : Nat) + (0 : Nat)) (0 : Int) == x) = Bool.true → True ∧ True ∧ ((0 : Int) ≤ (↑x_1 : Int) ∧ (↑x_1 : Int) < (16 : Int)) ∧ True ∧ True ∧ True ∧ True ∧ ((-9223372036854775808 : Int) ≤ (↑x_1 : Int) + (1 : Int) ∧ (↑x_1 : Int) + (1 : Int) ≤ (9223372036854775807 : Int)) ∧ True ∧ ∃ (y : Nat), y ≤ (12 : Nat) ∧ (12 : Nat) - y < (12 : Nat) - x_1 ∧ (Go.Sx.Cel.yld (5 : Nat) = Go.Sx.Cel.yld (5 : Nat) ∧ Go.Sx.Cel.ptr (4 : Nat) (0 : Nat) = Go.Sx.Cel.ptr (4 : Nat) (0 : Nat) ∧ Go.Sx.Cel.val Go.undef = Go.Sx.Cel.val Go.undef ∧ True ∧ (Go.IntKind.i64 = Go.IntKind.i64 ∧ (↑x_1 : Int) + (1 : Int) = (↑y : Int)) ∧ True ∧ True ∧ True ∧ True ∧ True ∧ True ∧ True ∧ True ∧ True ∧ True ∧ True ∧ True ∧ True) ∧ True ∧ (Bool.true = Bool.true ∧ (92 : Nat) = (92 : Nat) ∧ Go.Sx.Cel.slc (0 : Nat) (0 : Nat) (0 : Int) (2 : Nat) n cap = Go.Sx.Cel.slc (0 : Nat) (0 : Nat) (0 : Int) (2 : Nat) n cap ∧ (Go.IntKind.i64 = Go.IntKind.i64 ∧ h = h) ∧ (Go.IntKind.u16 = Go.IntKind.u16 ∧ (↑g : Int) = (↑g : Int)) ∧ ([Go.Sx.EK.i8, Go.Sx.EK.i16] = [Go.Sx.EK.i8, Go.Sx.EK.i16] ∧ (24 : Nat) = (24 : Nat) ∧ p = p) ∧ True) ∧ (Bool.true = Bool.true ∧ (2 : Nat) = (2 : Nat) ∧ (Go.IntKind.i64 = Go.IntKind.i64 ∧ x = x) ∧ True) ∧ (Bool.true = Bool.true ∧ (78 : Nat) = (78 : Nat) ∧ (Go.IntKind.u16 = Go.IntKind.u16 ∧ Go.Sx.bOr Go.IntKind.u16 (↑(bsF (gvB g p x) x_1) : Int) (↑((2 : Nat) ^ Int.toNat (↑x_1 : Int)) : Int) = (↑(bsF (gvB g p x) y) : Int)) ∧ True) ∧ (Bool.true = Bool.true ∧ (78 : Nat) = (78 : Nat) ∧ (Go.IntKind.u16 = Go.IntKind.u16 ∧ (↑g : Int) = (↑g : Int)) ∧ True) ∧ (Go.LoopState.ready = Go.LoopState.ready ∧ (Option.none : Option Go.Code) = Option.none) ∧ True) ∧ ((List.getD p (Int.toNat (↑x_1 : Int) * (2 : Nat) + (0 : Nat)) (0 : Int) == x) = Bool.false → True ∧ True ∧ ((-9223372036854775808 : Int) ≤ (↑x_1 : Int) + (1 : Int) ∧ (↑x_1 : Int) + (1 : Int) ≤ (9223372036854775807 : Int)) ∧ True ∧ ∃ (y : Nat), y ≤ (12 : Nat) ∧ (12 : Nat) - y < (12 : Nat) - x_1 ∧ (Go.Sx.Cel.yld (5 : Nat) = Go.Sx.Cel.yld (5 : Nat) ∧ Go.Sx.Cel.ptr (4 : Nat) (0 : Nat) = Go.Sx.Cel.ptr (4 : Nat) (0 : Nat) ∧ Go.Sx.Cel.val Go.undef = Go.Sx.Cel.val Go.undef ∧ True ∧ (Go.IntKind.i64 = Go.IntKind.i64 ∧ (↑x_1 : Int) + (1 : Int) = (↑y : Int)) ∧ True ∧ True ∧ True ∧ True ∧ True ∧ True ∧ True ∧ True ∧ True ∧ True ∧ True ∧ True ∧ True) ∧ True ∧ (Bool.true = Bool.true ∧ (92 : Nat) = (92 : Nat) ∧ Go.Sx.Cel.slc (0 : Nat) (0 : Nat) (0 : Int) (2 : Nat) n cap = Go.Sx.Cel.slc (0 : Nat) (0 : Nat) (0 : Int) (2 : Nat) n cap ∧ (Go.IntKind.i64 = Go.IntKind.i64 ∧ h = h) ∧ (Go.IntKind.u16 = Go.IntKind.u16 ∧ (↑g : Int) = (↑g : Int)) ∧ ([Go.Sx.EK.i8, Go.Sx.EK.i16] = [Go.Sx.EK.i8, Go.Sx.EK.i16] ∧ (24 : Nat) = (24 : Nat) ∧ p = p) ∧ True) ∧ (Bool.true = Bool.true ∧ (2 : Nat) = (2 : Nat) ∧ (Go.IntKind.i64 = Go.IntKind.i64 ∧ x = x) ∧ True) ∧ (Bool.true = Bool.true ∧ (78 : Nat) = (78 : Nat) ∧ (Go.IntKind.u16 = Go.IntKind.u16 ∧ (↑(bsF (gvB g p x) x_1) : Int) = (↑(bsF (gvB g p x) y) : Int)) ∧ True) ∧ (Bool.true = Bool.true ∧ (78 : Nat) = (78 : Nat) ∧ (Go.IntKind.u16 = Go.IntKind.u16 ∧ (↑g : Int) = (↑g : Int)) ∧ True) ∧ (Go.LoopState.ready = Go.LoopState.ready ∧ (Option.none : Option Go.Code) = Option.none) ∧ True)) ∧ (Nat.testBit (Int.toNat (↑g : Int)) (Int.toNat (↑x_1 : Int)) = !Bool.true → True ∧ ((-9223372036854775808 : Int) ≤ (↑x_1 : Int) + (1 : Int) ∧ (↑x_1 : Int) + (1 : Int) ≤ (9223372036854775807 : Int)) ∧ True ∧ ∃ (y : Nat), y ≤ (12 : Nat) ∧ (12 : Nat) - y < (12 : Nat) - x_1 ∧ (Go.Sx.Cel.yld (5 : Nat) = Go.Sx.Cel.yld (5 : Nat) ∧ Go.Sx.Cel.ptr (4 : Nat) (0 : Nat) = Go.Sx.Cel.ptr (4 : Nat) (0 : Nat) ∧ Go.Sx.Cel.val Go.undef = Go.Sx.Cel.val Go.undef ∧ True ∧ (Go.IntKind.i64 = Go.IntKind.i64 ∧ (↑x_1 : Int) + (1 : Int) = (↑y : Int)) ∧ True ∧ True ∧ True ∧ True ∧ True ∧ True ∧ True ∧ True ∧ True ∧ True ∧ True ∧ True ∧ True) ∧ True ∧ (Bool.true = Bool.true ∧ (92 : Nat) = (92 : Nat) ∧ Go.Sx.Cel.slc (0 : Nat) (0 : Nat) (0 : Int) (2 : Nat) n cap = Go.Sx.Cel.slc (0 : Nat) (0 : Nat) (0 : Int) (2 : Nat) n cap ∧ (Go.IntKind.i64 = Go.IntKind.i64 ∧ h = h) ∧ (Go.IntKind.u16 = Go.IntKind.u16 ∧ (↑g : Int) = (↑g : Int)) ∧ ([Go.Sx.EK.i8, Go.Sx.EK.i16] = [Go.Sx.EK.i8, Go.Sx.EK.i16] ∧ (24 : Nat) = (24 : Nat) ∧ p = p) ∧ True) ∧ (Bool.true = Bool.true ∧ (2 : Nat) = (2 : Nat) ∧ (Go.IntKind.i64 = Go.IntKind.i64 ∧ x = x) ∧ True) ∧ (Bool.true = Bool.true ∧ (78 : Nat) = (78 : Nat) ∧ (Go.IntKind.u16 = Go.IntKind.u16 ∧ (↑(bsF (gvB g p x) x_1) : Int) = (↑(bsF (gvB g p x) y) : Int)) ∧ True) ∧ (Bool.true = Bool.true ∧ (78 : Nat) = (78 : Nat) ∧ (Go.IntKind.u16 = Go.IntKind.u16 ∧ (↑g : Int) = (↑g : Int)) ∧ True) ∧ (Go.LoopState.ready = Go.LoopState.ready ∧ (Option.none : Option Go.Code) = Option.none) ∧ True)) ∧ (Decidable.decide ((↑x_1 : Int) < (12 : Int)) = Bool.false → True ∧ True ∧ Go.IntKind.u16 = Go.IntKind.u16 ∧ (↑(bsF (gvB g p x) x_1) : Int) = (↑(bsF (gvB g p x) (12 : Nat)) : Int))) (by kernel_rfl) ?_
  simp only [true_and, and_true, and_self, decide_eq_true_eq, decide_eq_false_iff_not, Bool.not_eq_true', Bool.not_eq_false', Bool.not_true, Bool.not_false, beq_iff_eq, beq_eq_false_iff_ne, bne_iff_ne, bne_eq_false_iff_eq, ne_eq, not_true_eq_false, not_false_eq_true, false_implies, true_implies, implies_true, forall_const, exists_const, ↓reduceIte, Int.reduceEq, Int.toNat_natCast, Bool.false_eq_true, Bool.true_eq_false, reduceCtorEq, Int.zero_add, Nat.add_zero, Int.ofNat_eq_natCast, Int.toNat_natCast]
  have eh : ∀ k, p.getD (k * 2) 0 = hd p k := fun _ => rfl
  simp only [eh]
  refine ⟨⟨0, by omega, rfl, rfl⟩, ?_⟩
  intro k hk
  refine ⟨fun hlt => ?_, fun hge => ?_⟩
  · have hb := sw.h k (by omega)
    have h1 := bsF_lt (f := gvB g p x) (c := k) (by omega)
    have h2 := pow_lt16 (k := k) (by omega)
    refine ⟨by omega, fun hbit => ⟨by omega, by omega, by omega, fun he => ⟨by omega, by omega, k + 1, by omega, by omega, by omega, ?_⟩, fun he => ⟨by omega, k + 1, by omega, by omega, by omega, ?_⟩⟩, fun hbit => ⟨by omega, k + 1, by omega, by omega, by omega, ?_⟩⟩
    · rw [bOr16 h1 h2, bsF, if_pos (by simp [gvB, hbit, he])]
    · rw [bsF, if_neg (by simp [gvB, he])]
    · rw [bsF, if_neg (by simp [gvB, hbit])]
  · obtain rfl : k = 12 := by omega
    rfl
/-! ### Contracts -/
def gOn : Entry := fun args H => match args with
  | [.a (.agg [.slc id b z s len _, .int .i64 _, .int .u16 g, .run ks m p]), .a (.c (.int .i64 j)), .a (.c (.int .i64 d))] => match getB H id with
    | .cells _ t [.run kt mm l] => some (Rq b z s ks m t kt len mm l p g ∧ 0 ≤ j ∧ j < len, .a (.c (.bool (onB l p j.toNat d))))
    | _ => none
  | _ => none
theorem e_isOn : EntryOk Tryd.prog TT 117 gOn := by
  refine ⟨fnOk Tryd.func117 (by kernel_rfl) rfl, ?_⟩
  intro args H pp r he hp n0 w0 β w vals hG hH hA
  unfold gOn at he
  split at he
  · split at he
    · rename_i id b z s len cap h g ks m p j d _ o t kt mm l hg
      simp only [Option.some.injEq, Prod.mk.injEq] at he
      obtain ⟨rfl, rfl⟩ := he
      obtain ⟨⟨⟨rfl, rfl, rfl, rfl, rfl, rfl, rfl⟩, q, v, sw, h0⟩, h1, h2⟩ := hp
      obtain ⟨n, rfl⟩ := Int.eq_ofNat_of_zero_le q.lo
      obtain ⟨g, rfl⟩ := Int.eq_ofNat_of_zero_le h0
      exact entry_view tt_ok (inlN_ok tt_ok Cr2_ok mixed ILz_ok.ok 6) Cr2_ok mixed Tryd.func117 [id] (x_isOn mm n l cap h j d g p q v sw h1 h2) rfl rfl ⟨.inr (by rw [hg]; rfl), trivial⟩ hG hH hA
    · simp at he
  · simp at he
def gAd : Entry := fun args H => match args with
  | [.a (.agg [.slc id b z s len _, .int .i64 _, .int .u16 g, .run ks m p]), .a (.c (.int .u16 c))] => match getB H id with
    | .cells _ t [.run kt mm l] => some (Rq b z s ks m t kt len mm l p g ∧ 0 ≤ c ∧ ∀ k, c.toNat.testBit k = true → k < len.toNat, .a (.c (.int .i64 (adS l p c.toNat 12))))
    | _ => none
  | _ => none
theorem e_allDone : EntryOk Tryd.prog TT 102 gAd := by
  refine ⟨fnOk Tryd.func102 (by kernel_rfl) rfl, ?_⟩
  intro args H pp r he hp n0 w0 β w vals hG hH hA
  unfold gAd at he
  split at he
  · split at he
    · rename_i id b z s len cap h g ks m p c _ o t kt mm l hg
      simp only [Option.some.injEq, Prod.mk.injEq] at he
      obtain ⟨rfl, rfl⟩ := he
      obtain ⟨⟨⟨rfl, rfl, rfl, rfl, rfl, rfl, rfl⟩, q, v, sw, h0⟩, h1, h2⟩ := hp
      obtain ⟨n, rfl⟩ := Int.eq_ofNat_of_zero_le q.lo
      obtain ⟨g, rfl⟩ := Int.eq_ofNat_of_zero_le h0
      obtain ⟨c, rfl⟩ := Int.eq_ofNat_of_zero_le h1
      exact entry_view tt_ok (inlN_ok tt_ok Cr2_ok mixed (ILad_ok (l := l) (p := p) (s := c)).ok 6) Cr2_ok mixed Tryd.func102 [id] (x_allDone mm n l cap h g p c q v sw h2) rfl rfl ⟨.inr (by rw [hg]; rfl), trivial⟩ hG hH hA
    · simp at he
  · simp at he
def gGv : Entry := fun args _ => match args with
  | [.a (.agg [.slc _ b z s _ _, .int .i64 _, .int .u16 g, .run ks m p]), .a (.c (.int .i64 x))] => some ((b = 0 ∧ z = 0 ∧ s = 2 ∧ ks = [.i8, .i16] ∧ m = 24) ∧ SW 12 p ∧ 0 ≤ g ∧ g ≤ 65535, .a (.c (.int .u16 (bsF (gvB g.toNat p x) 12))))
  | _ => none
theorem e_givenTo : EntryOk Tryd.prog TT 84 gGv := by
  refine ⟨fnOk Tryd.func84 (by kernel_rfl) rfl, ?_⟩
  intro args H pp r he hp n0 w0 β w vals hG hH hA
  unfold gGv at he
  split at he
  · rename_i id b z s n cap h g ks m p x
    simp only [Option.some.injEq, Prod.mk.injEq] at he
    obtain ⟨rfl, rfl⟩ := he
    obtain ⟨⟨rfl, rfl, rfl, rfl, rfl⟩, sw, h0, h1⟩ := hp
    obtain ⟨g, rfl⟩ := Int.eq_ofNat_of_zero_le h0
    exact entry_view tt_ok (inlN_ok tt_ok Cr2_ok mixed (ILgv_ok (g := g) (p := p) (x := x)).ok 6) Cr2_ok mixed Tryd.func84 [id] (x_givenTo n cap h x g p sw (by omega)) rfl rfl ⟨.inl rfl, trivial⟩ hG hH hA
  · simp at he
noncomputable def Er3 : List (FuncId × Entry) := (117, gOn) :: (102, gAd) :: (84, gGv) :: Er2
theorem Er3_ok : EntriesOk Tryd.prog TT Er3 := ⟨e_isOn, e_allDone, e_givenTo, Er2_ok⟩
noncomputable abbrev Cr3 : Ctr := ctrOfM Er3 Mj4
theorem Cr3_ok : CtrOk Tryd.prog TT Cr3 := ctrOfM_ok Er3_ok Mj4_ok

/-! ### Is a slot wrong? -/
/-- The jobs of the same hand that lie ahead. -/
def ahS (h : Int) (n : Nat) (p : List Int) (i : Nat) : Nat := bsF (gvB (bsF (okB h p) n) p (hd p i)) 12 &&& (2 ^ i - 1)
theorem on_iff {n : Nat} {l : List Int} (v : VJ n l) (p : List Int) {i j : Nat} (hi : i < n) (hj : j < n) : (onB l p j (sg p i) || onB l p i (sg p j)) = (decide (sg p i < dnP l p j) && decide (sg p j < dnP l p i)) := by
  have h1 := v.dy i hi
  have h2 := v.dy j hj
  have d1 : dnP l p i = sg p i + dy l i := rfl
  have d2 : dnP l p j = sg p j + dy l j := rfl
  rw [Bool.eq_iff_iff]
  simp only [onB, Bool.or_eq_true, Bool.and_eq_true, decide_eq_true_eq]
  constructor
  · rintro (⟨g1, g2⟩ | ⟨g1, g2⟩)
    · exact ⟨by omega, by omega⟩
    · exact ⟨by omega, by omega⟩
  · rintro ⟨g1, g2⟩
    by_cases c : sg p j ≤ sg p i
    · exact .inl ⟨c, g1⟩
    · exact .inr ⟨by omega, g2⟩
def lmWr (l : List Int) (h : Int) (n : Nat) (p : List Int) (i : Nat) : LAnn := { ι := Nat, inv := fun _ k => k ≤ 12 ∧ ∀ j, j < k → (ahS h n p i).testBit j = true → (onB l p j (sg p i) || onB l p i (sg p j)) = false, slots := fun _ k => [(4, .a (.c (.int .i64 k)))], blks := fun _ _ => [], μ := fun _ k => 12 - k }
noncomputable def ILwr (l : List Int) (h : Int) (n : Nat) (p : List Int) (i : Nat) : List (FuncId × Func × (Nat → LM)) := [
  (57, Tryd.f57, U0),
  (90, Tryd.f90, fun _ => .inv (lmWr l h n p i))]
theorem ILwr_ok {l : List Int} {h : Int} {n : Nat} {p : List Int} {i : Nat} : InlsOk Tryd.prog (ILwr l h n p i) := ⟨⟨Tryd.func57, by kernel_rfl⟩, ⟨Tryd.func90, by kernel_rfl⟩, trivial⟩
theorem x_isWrong (m n : Nat) (l : List Int) (cap h : Int) (i : Nat) (p : List Int) (q : Jl n m l) (v : VJ n l) (sw : SW 12 p) (hi : i < n) : Fex true TT (inlN true TT Cr3 (lookI (ILwr l h n p i)) 6) Cr3 U0 Tryd.f105 [rosV n cap h (bsF (okB h p) n) p, .a (.c (.int .i64 i))] [Tks m l] (fun lv _ => leL lv (.a (.c (.bool (ftB l h n p i))))) := by
  refine Go.Sx.by_eq (q := True ∧ True ∧ True ∧ True ∧ True ∧ True ∧ (((0 : Int) ≤ (↑(bsF (okB h p) n) : Int) ∧ (↑(bsF (okB h p) n) : Int) ≤ (65535 : Int)) ∧ (0 : Int) ≤ (↑i : Int) ∧ (↑i : Int) < (16 : Int)) ∧ True ∧ True ∧ ((!Nat.testBit (Int.toNat (↑(bsF (okB h p) n) : Int)) (Int.toNat (↑i : Int))) = Bool.false → True ∧ True ∧ (((0 : Nat) = (0 : Nat) ∧ (0 : Int) = (0 : Int) ∧ (2 : Nat) = (2 : Nat) ∧ [Go.Sx.EK.i8, Go.Sx.EK.i16] = [Go.Sx.EK.i8, Go.Sx.EK.i16] ∧ (24 : Nat) = (24 : Nat)) ∧ SW (12 : Nat) p ∧ (0 : Int) ≤ (↑(bsF (okB h p) n) : Int) ∧ (0 : Int) ≤ (↑i : Int) ∧ (↑i : Int) < (12 : Int)) ∧ True ∧ True ∧ True ∧ True ∧ True ∧ ((0 : Int) ≤ (↑i : Int) ∧ (↑i : Int) < (↑n : Int)) ∧ True ∧ ((0 : Int) ≤ (0 : Int) + (↑i : Int) ∧ Int.toNat ((0 : Int) + (↑i : Int)) * (2 : Nat) + (1 : Nat) < m) ∧ True ∧ True ∧ True ∧ (Rq (0 : Nat) (0 : Int) (2 : Nat) [Go.Sx.EK.i8, Go.Sx.EK.i16] (24 : Nat) (80 : Nat) [Go.Sx.EK.i64, Go.Sx.EK.u16] (↑n : Int) m l p (↑(bsF (okB h p) n) : Int) ∧ (0 : Int) ≤ Go.Sx.bAnd Go.IntKind.u16 (List.getD l (Int.toNat ((0 : Int) + (↑i : Int)) * (2 : Nat) + (1 : Nat)) (0 : Int)) (↑(bsF (okB h p) n) : Int) ∧ ∀ (k : Nat), Nat.testBit (Int.toNat (Go.Sx.bAnd Go.IntKind.u16 (List.getD l (Int.toNat ((0 : Int) + (↑i : Int)) * (2 : Nat) + (1 : Nat)) (0 : Int)) (↑(bsF (okB h p) n) : Int))) k = Bool.true → k < Int.toNat (↑n : Int)) ∧ True ∧ True ∧ (Decidable.decide (sg p (Int.toNat (↑i : Int)) < adS l p (Int.toNat (Go.Sx.bAnd Go.IntKind.u16 (List.getD l (Int.toNat ((0 : Int) + (↑i : Int)) * (2 : Nat) + (1 : Nat)) (0 : Int)) (↑(bsF (okB h p) n) : Int))) (12 : Nat)) = Bool.true → True ∧ ftB l h n p i = Bool.true) ∧ (Decidable.decide (sg p (Int.toNat (↑i : Int)) < adS l p (Int.toNat (Go.Sx.bAnd Go.IntKind.u16 (List.getD l (Int.toNat ((0 : Int) + (↑i : Int)) * (2 : Nat) + (1 : Nat)) (0 : Int)) (↑(bsF (okB h p) n) : Int))) (12 : Nat)) = Bool.false → True ∧ True ∧ True ∧ ((0 : Int) ≤ (↑i : Int) ∧ (↑i : Int) < (↑(12 : Nat) : Int)) ∧ True ∧ ((0 : Int) ≤ (↑i : Int) ∧ Int.toNat (↑i : Int) * (2 : Nat) + (0 : Nat) < (24 : Nat)) ∧ ((-9223372036854775808 : Int) ≤ List.getD p (Int.toNat (↑i : Int) * (2 : Nat) + (0 : Nat)) (0 : Int) ∧ List.getD p (Int.toNat (↑i : Int) * (2 : Nat) + (0 : Nat)) (0 : Int) ≤ (9223372036854775807 : Int)) ∧ (((0 : Nat) = (0 : Nat) ∧ (0 : Int) = (0 : Int) ∧ (2 : Nat) = (2 : Nat) ∧ [Go.Sx.EK.i8, Go.Sx.EK.i16] = [Go.Sx.EK.i8, Go.Sx.EK.i16] ∧ (24 : Nat) = (24 : Nat)) ∧ SW (12 : Nat) p ∧ (0 : Int) ≤ (↑(bsF (okB h p) n) : Int) ∧ (↑(bsF (okB h p) n) : Int) ≤ (65535 : Int)) ∧ True ∧ (((0 : Int) ≤ (↑(bsF (gvB (Int.toNat (↑(bsF (okB h p) n) : Int)) p (List.getD p (Int.toNat (↑i : Int) * (2 : Nat) + (0 : Nat)) (0 : Int))) (12 : Nat)) : Int) ∧ (↑(bsF (gvB (Int.toNat (↑(bsF (okB h p) n) : Int)) p (List.getD p (Int.toNat (↑i : Int) * (2 : Nat) + (0 : Nat)) (0 : Int))) (12 : Nat)) : Int) ≤ (65535 : Int)) ∧ (0 : Int) ≤ (↑i : Int) ∧ (↑i : Int) < (16 : Int)) ∧ True ∧ True ∧ True ∧ True ∧ True ∧ (∃ (x : Nat), (x ≤ (12 : Nat) ∧ ∀ (j : Nat), j < x → Nat.testBit (ahS h n p i) j = Bool.true → (onB l p j (sg p i) || onB l p i (sg p j)) = Bool.false) ∧ (Go.Sx.Cel.yld (5 : Nat) = Go.Sx.Cel.yld (5 : Nat) ∧ Go.Sx.Cel.ptr (4 : Nat) (0 : Nat) = Go.Sx.Cel.ptr (4 : Nat) (0 : Nat) ∧ Go.Sx.Cel.val Go.undef = Go.Sx.Cel.val Go.undef ∧ True ∧ (Go.IntKind.i64 = Go.IntKind.i64 ∧ (0 : Int) = (↑x : Int)) ∧ True ∧ True ∧ True ∧ True ∧ True ∧ True ∧ True ∧ True ∧ True ∧ True ∧ True ∧ True ∧ True) ∧ (Bool.false = Bool.false ∧ (80 : Nat) = (80 : Nat) ∧ ([Go.Sx.EK.i64, Go.Sx.EK.u16] = [Go.Sx.EK.i64, Go.Sx.EK.u16] ∧ m = m ∧ l = l) ∧ True) ∧ (Bool.true = Bool.true ∧ (92 : Nat) = (92 : Nat) ∧ Go.Sx.Cel.slc (0 : Nat) (0 : Nat) (0 : Int) (2 : Nat) (↑n : Int) cap = Go.Sx.Cel.slc (0 : Nat) (0 : Nat) (0 : Int) (2 : Nat) (↑n : Int) cap ∧ (Go.IntKind.i64 = Go.IntKind.i64 ∧ h = h) ∧ (Go.IntKind.u16 = Go.IntKind.u16 ∧ (↑(bsF (okB h p) n) : Int) = (↑(bsF (okB h p) n) : Int)) ∧ ([Go.Sx.EK.i8, Go.Sx.EK.i16] = [Go.Sx.EK.i8, Go.Sx.EK.i16] ∧ (24 : Nat) = (24 : Nat) ∧ p = p) ∧ True) ∧ (Bool.true = Bool.true ∧ (2 : Nat) = (2 : Nat) ∧ (Go.IntKind.i64 = Go.IntKind.i64 ∧ (↑i : Int) = (↑i : Int)) ∧ True) ∧ (Bool.true = Bool.true ∧ (4 : Nat) = (4 : Nat) ∧ True ∧ True) ∧ (Bool.true = Bool.true ∧ (78 : Nat) = (78 : Nat) ∧ (Go.IntKind.u16 = Go.IntKind.u16 ∧ (↑(Int.toNat (↑(bsF (gvB (Int.toNat (↑(bsF (okB h p) n) : Int)) p (List.getD p (Int.toNat (↑i : Int) * (2 : Nat) + (0 : Nat)) (0 : Int))) (12 : Nat)) : Int) &&& (2 : Nat) ^ Int.toNat (↑i : Int) - (1 : Nat)) : Int) = (↑(Int.toNat (↑(bsF (gvB (Int.toNat (↑(bsF (okB h p) n) : Int)) p (List.getD p (Int.toNat (↑i : Int) * (2 : Nat) + (0 : Nat)) (0 : Int))) (12 : Nat)) : Int) &&& (2 : Nat) ^ Int.toNat (↑i : Int) - (1 : Nat)) : Int)) ∧ True) ∧ (Go.LoopState.ready = Go.LoopState.ready ∧ (Option.none : Option Go.Code) = Option.none) ∧ True) ∧ ∀ (x : Nat), (x ≤ (12 : Nat) ∧ ∀ (j : Nat), j < x → Nat.testBit (ahS h n p i) j = Bool.true → (onB l p j (sg p i) || onB l p i (sg p j)) = Bool.false) → True ∧ (Decidable.decide ((↑x : Int) < (12 : Int)) = Bool.true → True ∧ True ∧ True ∧ True ∧ (((0 : Int) ≤ (↑(Int.toNat (↑(bsF (gvB (Int.toNat (↑(bsF (okB h p) n) : Int)) p (List.getD p (Int.toNat (↑i : Int) * (2 : Nat) + (0 : Nat)) (0 : Int))) (12 : Nat)) : Int) &&& (2 : Nat) ^ Int.toNat (↑i : Int) - (1 : Nat)) : Int) ∧ (↑(Int.toNat (↑(bsF (gvB (Int.toNat (↑(bsF (okB h p) n) : Int)) p (List.getD p (Int.toNat (↑i : Int) * (2 : Nat) + (0 : Nat)) (0 : Int))) (12 : Nat)) : Int) &&& (2 : Nat) ^ Int.toNat (↑i : Int) - (1 : Nat)) : Int) ≤ (65535 : Int)) ∧ (0 : Int) ≤ (↑x : Int) ∧ (↑x : Int) < (16 : Int)) ∧ True ∧ (Nat.testBit (Int.toNat (↑(Int.toNat (↑(bsF (gvB (Int.toNat (↑(bsF (okB h p) n) : Int)) p (List.getD p (Int.toNat (↑i : Int) * (2 : Nat) + (0 : Nat)) (0 : Int))) (12 : Nat)) : Int) &&& (2 : Nat) ^ Int.toNat (↑i : Int) - (1 : Nat)) : Int)) (Int.toNat (↑x : Int)) = Bool.true → True ∧ True ∧ True ∧ True ∧ True ∧ True ∧ True ∧ (((0 : Nat) = (0 : Nat) ∧ (0 : Int) = (0 : Int) ∧ (2 : Nat) = (2 : Nat) ∧ [Go.Sx.EK.i8, Go.Sx.EK.i16] = [Go.Sx.EK.i8, Go.Sx.EK.i16] ∧ (24 : Nat) = (24 : Nat)) ∧ SW (12 : Nat) p ∧ (0 : Int) ≤ (↑(bsF (okB h p) n) : Int) ∧ (0 : Int) ≤ (↑i : Int) ∧ (↑i : Int) < (12 : Int)) ∧ (Rq (0 : Nat) (0 : Int) (2 : Nat) [Go.Sx.EK.i8, Go.Sx.EK.i16] (24 : Nat) (80 : Nat) [Go.Sx.EK.i64, Go.Sx.EK.u16] (↑n : Int) m l p (↑(bsF (okB h p) n) : Int) ∧ (0 : Int) ≤ (↑x : Int) ∧ (↑x : Int) < (↑n : Int)) ∧ True ∧ (onB l p (Int.toNat (↑x : Int)) (sg p (Int.toNat (↑i : Int))) = Bool.false → True ∧ True ∧ True ∧ True ∧ (((0 : Nat) = (0 : Nat) ∧ (0 : Int) = (0 : Int) ∧ (2 : Nat) = (2 : Nat) ∧ [Go.Sx.EK.i8, Go.Sx.EK.i16] = [Go.Sx.EK.i8, Go.Sx.EK.i16] ∧ (24 : Nat) = (24 : Nat)) ∧ SW (12 : Nat) p ∧ (0 : Int) ≤ (↑(bsF (okB h p) n) : Int) ∧ (0 : Int) ≤ (↑x : Int) ∧ (↑x : Int) < (12 : Int)) ∧ (Rq (0 : Nat) (0 : Int) (2 : Nat) [Go.Sx.EK.i8, Go.Sx.EK.i16] (24 : Nat) (80 : Nat) [Go.Sx.EK.i64, Go.Sx.EK.u16] (↑n : Int) m l p (↑(bsF (okB h p) n) : Int) ∧ (0 : Int) ≤ (↑i : Int) ∧ (↑i : Int) < (↑n : Int)) ∧ True ∧ (onB l p (Int.toNat (↑i : Int)) (sg p (Int.toNat (↑x : Int))) = Bool.true → True ∧ True ∧ True ∧ ftB l h n p i = Bool.true) ∧ (onB l p (Int.toNat (↑i : Int)) (sg p (Int.toNat (↑x : Int))) = Bool.false → True ∧ True ∧ ((-9223372036854775808 : Int) ≤ (↑x : Int) + (1 : Int) ∧ (↑x : Int) + (1 : Int) ≤ (9223372036854775807 : Int)) ∧ True ∧ ∃ (y : Nat), (y ≤ (12 : Nat) ∧ ∀ (j : Nat), j < y → Nat.testBit (ahS h n p i) j = Bool.true → (onB l p j (sg p i) || onB l p i (sg p j)) = Bool.false) ∧ (12 : Nat) - y < (12 : Nat) - x ∧ (Go.Sx.Cel.yld (5 : Nat) = Go.Sx.Cel.yld (5 : Nat) ∧ Go.Sx.Cel.ptr (4 : Nat) (0 : Nat) = Go.Sx.Cel.ptr (4 : Nat) (0 : Nat) ∧ Go.Sx.Cel.val Go.undef = Go.Sx.Cel.val Go.undef ∧ True ∧ (Go.IntKind.i64 = Go.IntKind.i64 ∧ (↑x : Int) + (1 : Int) = (↑y : Int)) ∧ True ∧ True ∧ True ∧ True ∧ True ∧ True ∧ True ∧ True ∧ True ∧ True ∧ True ∧ True ∧ True) ∧ (Bool.false = Bool.false ∧ (80 : Nat) = (80 : Nat) ∧ ([Go.Sx.EK.i64, Go.Sx.EK.u16] = [Go.Sx.EK.i64, Go.Sx.EK.u16] ∧ m = m ∧ l = l) ∧ True) ∧ (Bool.true = Bool.true ∧ (92 : Nat) = (92 : Nat) ∧ Go.Sx.Cel.slc (0 : Nat) (0 : Nat) (0 : Int) (2 : Nat) (↑n : Int) cap = Go.Sx.Cel.slc (0 : Nat) (0 : Nat) (0 : Int) (2 : Nat) (↑n : Int) cap ∧ (Go.IntKind.i64 = Go.IntKind.i64 ∧ h = h) ∧ (Go.IntKind.u16 = Go.IntKind.u16 ∧ (↑(bsF (okB h p) n) : Int) = (↑(bsF (okB h p) n) : Int)) ∧ ([Go.Sx.EK.i8, Go.Sx.EK.i16] = [Go.Sx.EK.i8, Go.Sx.EK.i16] ∧ (24 : Nat) = (24 : Nat) ∧ p = p) ∧ True) ∧ (Bool.true = Bool.true ∧ (2 : Nat) = (2 : Nat) ∧ (Go.IntKind.i64 = Go.IntKind.i64 ∧ (↑i : Int) = (↑i : Int)) ∧ True) ∧ (Bool.true = Bool.true ∧ (4 : Nat) = (4 : Nat) ∧ True ∧ True) ∧ (Bool.true = Bool.true ∧ (78 : Nat) = (78 : Nat) ∧ (Go.IntKind.u16 = Go.IntKind.u16 ∧ (↑(Int.toNat (↑(bsF (gvB (Int.toNat (↑(bsF (okB h p) n) : Int)) p (List.getD p (Int.toNat (↑i : Int) * (2 : Nat) + (0 : Nat)) (0 : Int))) (12 : Nat)) : Int) &&& (2 : Nat) ^ Int.toNat (↑i : Int) - (1 : Nat)) : Int) = (↑(Int.toNat (↑(bsF (gvB (Int.toNat (↑(bsF (okB h p) n) : Int)) p (List.getD p (Int.toNat (↑i : Int) * (2 : Nat) + (0 : Nat)) (0 : Int))) (12 : Nat)) : Int) &&& (2 : Nat) ^ Int.toNat (↑i : Int) - (1 : Nat)) : Int)) ∧ True) ∧ (Go.LoopState.ready = Go.LoopState.ready ∧ (Option.none : Option Go.Code) = Option.none) ∧ True)) ∧ (onB l p (Int.toNat (↑x : Int)) (sg p (Int.toNat (↑i : Int))) = !Bool.false → True ∧ True ∧ True ∧ True ∧ ftB l h n p i = Bool.true)) ∧ (Nat.testBit (Int.toNat (↑(Int.toNat (↑(bsF (gvB (Int.toNat (↑(bsF (okB h p) n) : Int)) p (List.getD p (Int.toNat (↑i : Int) * (2 : Nat) + (0 : Nat)) (0 : Int))) (12 : Nat)) : Int) &&& (2 : Nat) ^ Int.toNat (↑i : Int) - (1 : Nat)) : Int)) (Int.toNat (↑x : Int)) = !Bool.true → True ∧ ((-9223372036854775808 : Int) ≤ (↑x : Int) + (1 : Int) ∧ (↑x : Int) + (1 : Int) ≤ (9223372036854775807 : Int)) ∧ True ∧ ∃ (y : Nat), (y ≤ (12 : Nat) ∧ ∀ (j : Nat), j < y → Nat.testBit (ahS h n p i) j = Bool.true → (onB l p j (sg p i) || onB l p i (sg p j)) = Bool.false) ∧ (12 : Nat) - y < (12 : Nat) - x ∧ (Go.Sx.Cel.yld (5 : Nat) = Go.Sx.Cel.yld (5 : Nat) ∧ Go.Sx.Cel.ptr (4 : Nat) (0 : Nat) = Go.Sx.Cel.ptr (4 : Nat) (0 : Nat) ∧ Go.Sx.Cel.val Go.undef = Go.Sx.Cel.val Go.undef ∧ True ∧ (Go.IntKind.i64 = Go.IntKind.i64 ∧ (↑x : Int) + (1 : Int) = (↑y : Int)) ∧ True ∧ True ∧ True ∧ True ∧ True ∧ True ∧ True ∧ True ∧ True ∧ True ∧ True ∧ True ∧ True) ∧ (Bool.false = Bool.false ∧ (80 : Nat) = (80 : Nat) ∧ ([Go.Sx.EK.i64, Go.Sx.EK.u16] = [Go.Sx.EK.i64, Go.Sx.EK.u16] ∧ m = m ∧ l = l) ∧ True) ∧ (Bool.true = Bool.true ∧ (92 : Nat) = (92 : Nat) ∧ Go.Sx.Cel.slc (0 : Nat) (0 : Nat) (0 : Int) (2 : Nat) (↑n : Int) cap = Go.Sx.Cel.slc (0 : Nat) (0 : Nat) (0 : Int) (2 : Nat) (↑n : Int) cap ∧ (Go.IntKind.i64 = Go.IntKind.i64 ∧ h = h) ∧ (Go.IntKind.u16 = Go.IntKind.u16 ∧ (↑(bsF (okB h p) n) : Int) = (↑(bsF (okB h p) n) : Int)) ∧ ([Go.Sx.EK.i8, Go.Sx.EK.i16] = [Go.Sx.EK.i8, Go.Sx.EK.i16] ∧ (24 : Nat) = (24 : Nat) ∧ p = p) ∧ True) ∧ (Bool.true = Bool.true ∧ (2 : Nat) = (2 : Nat) ∧ (Go.IntKind.i64 = Go.IntKind.i64 ∧ (↑i : Int) = (↑i : Int)) ∧ True) ∧ (Bool.true = Bool.true ∧ (4 : Nat) = (4 : Nat) ∧ True ∧ True) ∧ (Bool.true = Bool.true ∧ (78 : Nat) = (78 : Nat) ∧ (Go.IntKind.u16 = Go.IntKind.u16 ∧ (↑(Int.toNat (↑(bsF (gvB (Int.toNat (↑(bsF (okB h p) n) : Int)) p (List.getD p (Int.toNat (↑i : Int) * (2 : Nat) + (0 : Nat)) (0 : Int))) (12 : Nat)) : Int) &&& (2 : Nat) ^ Int.toNat (↑i : Int) - (1 : Nat)) : Int) = (↑(Int.toNat (↑(bsF (gvB (Int.toNat (↑(bsF (okB h p) n) : Int)) p (List.getD p (Int.toNat (↑i : Int) * (2 : Nat) + (0 : Nat)) (0 : Int))) (12 : Nat)) : Int) &&& (2 : Nat) ^ Int.toNat (↑i : Int) - (1 : Nat)) : Int)) ∧ True) ∧ (Go.LoopState.ready = Go.LoopState.ready ∧ (Option.none : Option Go.Code) = Option.none) ∧ True)) ∧ (Decidable.decide ((↑x : Int) < (12 : Int)) = Bool.false → True ∧ ftB l h n p i = Bool.false))) ∧ ((!Nat.testBit (Int.toNat (↑(bsF (okB h p) n) : Int)) (Int.toNat (↑i : Int))) = !Bool.false → True ∧ True ∧ ftB l h n p i = Bool.true)) (by kernel_rfl) ?_
  have hv := v.hi
  have hg := bsF_lt (f := okB h p) (c := n) (by omega)
  have rq : Rq 0 0 2 [.i8, .i16] 24 80 [.i64, .u16] n m l p (bsF (okB h p) n : Nat) := ⟨⟨rfl, rfl, rfl, rfl, rfl, rfl, rfl⟩, q, v, sw, by omega⟩
  simp only [true_and, and_true, and_self, decide_eq_true_eq, decide_eq_false_iff_not, Bool.not_eq_true', Bool.not_eq_false', Bool.not_true, Bool.not_false, beq_iff_eq, beq_eq_false_iff_ne, bne_iff_ne, bne_eq_false_iff_eq, ne_eq, not_true_eq_false, not_false_eq_true, false_implies, true_implies, implies_true, forall_const, exists_const, ↓reduceIte, Int.reduceEq, Int.toNat_natCast, Bool.false_eq_true, Bool.true_eq_false, reduceCtorEq, Int.zero_add, Nat.add_zero, Int.ofNat_eq_natCast, Int.toNat_natCast]
  obtain ⟨_, q1, q2, q3, jw⟩ := id q
  rw [Int.toNat_natCast] at q2 jw
  obtain ⟨e1, e2⟩ := jw.af (k := i) hi
  have hhd := sw.h i (by omega)
  have ehd : p.getD (i * 2) 0 = hd p i := rfl
  have ea : bsF (gvB (bsF (okB h p) n) p (hd p i)) 12 &&& 2 ^ i - 1 = ahS h n p i := rfl
  rw [e1, bAnd16 e2 hg, Int.toNat_natCast, ehd, ea]
  have hG : ∀ k, (bsF (okB h p) n).testBit k = (decide (k < n) && okB h p k) := fun k => bsF_bit n
  have hS : ∀ k, (af l i &&& bsF (okB h p) n).testBit k = ((af l i).testBit k && (decide (k < n) && okB h p k)) := fun k => by rw [Nat.testBit_and, hG]
  have hA : ∀ k, (ahS h n p i).testBit k = true ↔ k < n ∧ okB h p k = true ∧ hd p k = hd p i ∧ k < i := fun k => by
    rw [ahS, Nat.testBit_and, Nat.testBit_two_pow_sub_one, bsF_bit, gvB, hG]
    simp only [Bool.and_eq_true, decide_eq_true_eq]
    exact ⟨fun ⟨⟨_, ⟨a1, a2⟩, a3⟩, a4⟩ => ⟨a1, a2, a3, a4⟩, fun ⟨a1, a2, a3, a4⟩ => ⟨⟨by omega, ⟨a1, a2⟩, a3⟩, a4⟩⟩
  have hAl : ahS h n p i ≤ 65535 := by
    have := and_lt (a := bsF (gvB (bsF (okB h p) n) p (hd p i)) 12) (b := 2 ^ i - 1) (bsF_lt (by omega))
    rw [ea] at this; omega
  have hB : (bsF (gvB (bsF (okB h p) n) p (hd p i)) 12) ≤ 65535 := by have := bsF_lt (f := gvB (bsF (okB h p) n) p (hd p i)) (c := 12) (by omega); omega
  refine ⟨by omega, fun hbit => ?_, fun hbit => ?_⟩
  · have hok : okB h p i = true := by rw [hG, decide_eq_true hi, Bool.true_and] at hbit; exact hbit
    have ho := okB_t.1 hok
    have hlt12 := adS_lt (l := l) (p := p) (s := af l i &&& bsF (okB h p) n) (x := sg p i) (by omega) 12
    refine ⟨⟨sw, by omega, by omega, by omega⟩, by omega, by omega, ⟨rq, by omega, fun k hk => ?_⟩, fun hf => ?_, fun hf => ?_⟩
    · rw [hS] at hk
      simp only [Bool.and_eq_true, decide_eq_true_eq] at hk
      exact hk.2.1
    · obtain ⟨j, h1, h2, h3⟩ := hlt12.1 hf
      rw [hS] at h2
      simp only [Bool.and_eq_true, decide_eq_true_eq] at h2
      exact ftB_at h2.2.1 (by simp [fjB, h2.2.2, h2.1, h3])
    · refine ⟨by omega, by omega, by omega, ⟨sw, by omega, by omega⟩, by omega, ⟨0, ⟨by omega, fun j hj => by omega⟩, rfl⟩, ?_⟩
      rintro k ⟨hk, hp⟩
      refine ⟨fun hlt => ⟨by omega, fun hb => ?_, fun hb => ⟨by omega, k + 1, ⟨by omega, fun j hj hjb => ?_⟩, by omega, by omega⟩⟩, fun hge => ?_⟩
      · obtain ⟨a1, a2, a3, a4⟩ := (hA k).1 hb
        have hon := on_iff (i := i) (j := k) v p hi a1
        have hF : (onB l p k (sg p i) || onB l p i (sg p k)) = true → ftB l h n p i = true := fun ht => by
          rw [hon, Bool.and_eq_true, decide_eq_true_eq, decide_eq_true_eq] at ht
          exact ftB_at a1 (by simp [fjB, a2, a3, a4, ht.1, ht.2])
        refine ⟨⟨sw, by omega, by omega, by omega⟩, ⟨rq, by omega, by omega⟩, fun g1 => ⟨⟨sw, by omega, by omega, by omega⟩, ⟨rq, by omega, by omega⟩, fun g2 => hF (by rw [g1, g2]; rfl), fun g2 => ⟨by omega, k + 1, ⟨by omega, fun j hj hjb => ?_⟩, by omega, by omega⟩⟩, fun g1 => hF (by rw [g1]; rfl)⟩
        rcases (show j < k ∨ j = k by omega) with h' | rfl
        · exact hp j h' hjb
        · rw [g1, g2]; rfl
      · rcases (show j < k ∨ j = k by omega) with h' | rfl
        · exact hp j h' hjb
        · rw [hb] at hjb; cases hjb
      · refine ftB_no hok fun j hj => ?_
        rw [Bool.eq_false_iff]
        intro hc
        simp only [fjB, Bool.and_eq_true, Bool.or_eq_true, decide_eq_true_eq] at hc
        obtain ⟨c1, c2⟩ := hc
        rcases c2 with ⟨c2, c3⟩ | ⟨⟨⟨c2, c3⟩, c4⟩, c5⟩
        · exact hf (hlt12.2 ⟨j, by omega, by rw [hS, c2, decide_eq_true hj, c1]; rfl, c3⟩)
        · have := hp j (by omega) ((hA j).2 ⟨hj, c1, c3, c2⟩)
          rw [on_iff v p hi hj, decide_eq_true c4, decide_eq_true c5] at this
          cases this
  · exact ftB_bad (by rw [hG, decide_eq_true hi, Bool.true_and] at hbit; exact hbit)
end Go.Proofs.YtagdkibmlfjggaaDoor
