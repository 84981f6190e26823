/- LengthOfPlan: both sides. No conditions beyond the ranges of the kinds. -/
import Derived.Test.YtmgkecegfjpagaaDoorAs2
import Derived.Test.YtmgkecegfjpagaaDoorPl4
import Derived.Test.YtmgkecegfjpagaaDoorCrw
import Derived.Test.YtmgkecegfjpagaaDoorJmx
import Derived.Test.YtmgkecegfjpagaaDoorPl1b
set_option linter.unusedSimpArgs false
set_option linter.unusedVariables false
namespace Go.Proofs.YtmgkecegfjpagaaDoor
open Go.Sx Go.RowKit

/-! ### No jobs of no roster -/
def gRdZ : Entry := fun args H => match args with
  | [.a (.agg [.val (.slice none 0 0), .int .i64 _, .int .u16 _, .run _ _ _]), .a (.c (.int .i64 _))] => some (False, .a (.c (.int .i64 0)))
  | _ => gRd args H
theorem e_rdoneZ : EntryOk Tryd.prog TT 102 gRdZ := by
  refine ⟨fnOk Tryd.func102 (by kernel_rfl) rfl, ?_⟩
  intro args H pp r he hp n0 w0 β w vals hG hH hA
  unfold gRdZ at he
  split at he
  · simp only [Option.some.injEq, Prod.mk.injEq] at he
    obtain ⟨rfl, rfl⟩ := he
    exact hp.elim
  · exact e_rdone.2 args H pp r he hp n0 w0 β w vals hG hH hA
noncomputable def Er2z : List (FuncId × Entry) := (102, gRdZ) :: Er1
theorem Er2z_ok : EntriesOk Tryd.prog TT Er2z := ⟨e_rdoneZ, Er1_ok⟩
noncomputable abbrev Cr2z : Ctr := ctrOfM Er2z Mj4
theorem Cr2z_ok : CtrOk Tryd.prog TT Cr2z := ctrOfM_ok Er2z_ok Mj4_ok
def lmAdZ : LAnn := { ι := Nat, inv := fun _ k => k ≤ 12, slots := fun _ k => [(4, .a (.c (.int .i64 k)))], blks := fun _ _ => [(1, [.int .i64 0])], μ := fun _ k => 12 - k }
noncomputable def ILadz  : List (FuncId × Func × (Nat → LM)) := [
  (67, Tryd.f67, U0),
  (100, Tryd.f100, fun _ => .inv lmAdZ)]
theorem ILadz_ok  : InlsOk Tryd.prog ILadz := ⟨⟨Tryd.func67, by kernel_rfl⟩, ⟨Tryd.func100, by kernel_rfl⟩, trivial⟩
theorem x_allDoneZ : Fex true TT (inlN true TT Cr2z (lookI ILadz) 6) Cr2z U0 Tryd.f110 [.a rosZ, .a (.c (.int .u16 0))] [] (fun lv _ => leL lv (.a (.c (.int .i64 0)))) := by
  refine Go.Sx.by_eq (q := True ∧ True ∧ True ∧ True ∧ True ∧ True ∧ True ∧ True ∧ True ∧ True ∧ (∃ (x : Nat), x ≤ (12 : Nat) ∧ (Go.Sx.Cel.yld (3 : Nat) = Go.Sx.Cel.yld (3 : Nat) ∧ Go.Sx.Cel.ptr (2 : Nat) (0 : Nat) = Go.Sx.Cel.ptr (2 : Nat) (0 : Nat) ∧ Go.Sx.Cel.val Go.undef = Go.Sx.Cel.val Go.undef ∧ True ∧ (Go.IntKind.i64 = Go.IntKind.i64 ∧ (0 : Int) = (↑x : Int)) ∧ True ∧ True ∧ True ∧ True ∧ True ∧ True ∧ True ∧ True ∧ True ∧ True ∧ True ∧ True ∧ True) ∧ (Bool.true = Bool.true ∧ (97 : Nat) = (97 : Nat) ∧ Go.Sx.Cel.val (Go.Value.slice Option.none (0 : Nat) (0 : Nat)) = Go.Sx.Cel.val (Go.Value.slice Option.none (0 : Nat) (0 : Nat)) ∧ (Go.IntKind.i64 = Go.IntKind.i64 ∧ (0 : Int) = (0 : Int)) ∧ (Go.IntKind.u16 = Go.IntKind.u16 ∧ (0 : Int) = (0 : Int)) ∧ ([Go.Sx.EK.i8, Go.Sx.EK.i16] = [Go.Sx.EK.i8, Go.Sx.EK.i16] ∧ (24 : Nat) = (24 : Nat) ∧ List.replicate (24 : Nat) (0 : Int) = List.replicate (24 : Nat) (0 : Int)) ∧ True) ∧ (Bool.true = Bool.true ∧ (2 : Nat) = (2 : Nat) ∧ (Go.IntKind.i64 = Go.IntKind.i64 ∧ (0 : Int) = (0 : Int)) ∧ True) ∧ (Bool.true = Bool.true ∧ (83 : Nat) = (83 : Nat) ∧ (Go.IntKind.u16 = Go.IntKind.u16 ∧ (0 : Int) = (0 : Int)) ∧ True) ∧ (Go.LoopState.ready = Go.LoopState.ready ∧ (Option.none : Option Go.Code) = Option.none) ∧ True) ∧ ∀ (x : Nat), x ≤ (12 : Nat) → True ∧ (Decidable.decide ((↑x : Int) < (12 : Int)) = Bool.true → True ∧ True ∧ True ∧ True ∧ (((0 : Int) ≤ (0 : Int) ∧ (0 : Int) ≤ (65535 : Int)) ∧ (0 : Int) ≤ (↑x : Int) ∧ (↑x : Int) < (16 : Int)) ∧ True ∧ (Nat.testBit (Int.toNat (0 : Int)) (Int.toNat (↑x : Int)) = Bool.true → True ∧ True ∧ True ∧ True ∧ True ∧ True ∧ False ∧ True ∧ True ∧ True ∧ True ∧ ((-9223372036854775808 : Int) ≤ (↑x : Int) + (1 : Int) ∧ (↑x : Int) + (1 : Int) ≤ (9223372036854775807 : Int)) ∧ True ∧ ∃ (y : Nat), y ≤ (12 : Nat) ∧ (12 : Nat) - y < (12 : Nat) - x ∧ (Go.Sx.Cel.yld (3 : Nat) = Go.Sx.Cel.yld (3 : Nat) ∧ Go.Sx.Cel.ptr (2 : Nat) (0 : Nat) = Go.Sx.Cel.ptr (2 : Nat) (0 : Nat) ∧ Go.Sx.Cel.val Go.undef = Go.Sx.Cel.val Go.undef ∧ True ∧ (Go.IntKind.i64 = Go.IntKind.i64 ∧ (↑x : Int) + (1 : Int) = (↑y : Int)) ∧ True ∧ True ∧ True ∧ True ∧ True ∧ True ∧ True ∧ True ∧ True ∧ True ∧ True ∧ True ∧ True) ∧ (Bool.true = Bool.true ∧ (97 : Nat) = (97 : Nat) ∧ Go.Sx.Cel.val (Go.Value.slice Option.none (0 : Nat) (0 : Nat)) = Go.Sx.Cel.val (Go.Value.slice Option.none (0 : Nat) (0 : Nat)) ∧ (Go.IntKind.i64 = Go.IntKind.i64 ∧ (0 : Int) = (0 : Int)) ∧ (Go.IntKind.u16 = Go.IntKind.u16 ∧ (0 : Int) = (0 : Int)) ∧ ([Go.Sx.EK.i8, Go.Sx.EK.i16] = [Go.Sx.EK.i8, Go.Sx.EK.i16] ∧ (24 : Nat) = (24 : Nat) ∧ List.replicate (24 : Nat) (0 : Int) = List.replicate (24 : Nat) (0 : Int)) ∧ True) ∧ (Bool.true = Bool.true ∧ (2 : Nat) = (2 : Nat) ∧ (Go.IntKind.i64 = Go.IntKind.i64 ∧ Max.max (0 : Int) (0 : Int) = (0 : Int)) ∧ True) ∧ (Bool.true = Bool.true ∧ (83 : Nat) = (83 : Nat) ∧ (Go.IntKind.u16 = Go.IntKind.u16 ∧ (0 : Int) = (0 : Int)) ∧ True) ∧ (Go.LoopState.ready = Go.LoopState.ready ∧ (Option.none : Option Go.Code) = Option.none) ∧ True) ∧ (Nat.testBit (Int.toNat (0 : Int)) (Int.toNat (↑x : Int)) = !Bool.true → True ∧ ((-9223372036854775808 : Int) ≤ (↑x : Int) + (1 : Int) ∧ (↑x : Int) + (1 : Int) ≤ (9223372036854775807 : Int)) ∧ True ∧ ∃ (y : Nat), y ≤ (12 : Nat) ∧ (12 : Nat) - y < (12 : Nat) - x ∧ (Go.Sx.Cel.yld (3 : Nat) = Go.Sx.Cel.yld (3 : Nat) ∧ Go.Sx.Cel.ptr (2 : Nat) (0 : Nat) = Go.Sx.Cel.ptr (2 : Nat) (0 : Nat) ∧ Go.Sx.Cel.val Go.undef = Go.Sx.Cel.val Go.undef ∧ True ∧ (Go.IntKind.i64 = Go.IntKind.i64 ∧ (↑x : Int) + (1 : Int) = (↑y : Int)) ∧ True ∧ True ∧ True ∧ True ∧ True ∧ True ∧ True ∧ True ∧ True ∧ True ∧ True ∧ True ∧ True) ∧ (Bool.true = Bool.true ∧ (97 : Nat) = (97 : Nat) ∧ Go.Sx.Cel.val (Go.Value.slice Option.none (0 : Nat) (0 : Nat)) = Go.Sx.Cel.val (Go.Value.slice Option.none (0 : Nat) (0 : Nat)) ∧ (Go.IntKind.i64 = Go.IntKind.i64 ∧ (0 : Int) = (0 : Int)) ∧ (Go.IntKind.u16 = Go.IntKind.u16 ∧ (0 : Int) = (0 : Int)) ∧ ([Go.Sx.EK.i8, Go.Sx.EK.i16] = [Go.Sx.EK.i8, Go.Sx.EK.i16] ∧ (24 : Nat) = (24 : Nat) ∧ List.replicate (24 : Nat) (0 : Int) = List.replicate (24 : Nat) (0 : Int)) ∧ True) ∧ (Bool.true = Bool.true ∧ (2 : Nat) = (2 : Nat) ∧ (Go.IntKind.i64 = Go.IntKind.i64 ∧ (0 : Int) = (0 : Int)) ∧ True) ∧ (Bool.true = Bool.true ∧ (83 : Nat) = (83 : Nat) ∧ (Go.IntKind.u16 = Go.IntKind.u16 ∧ (0 : Int) = (0 : Int)) ∧ True) ∧ (Go.LoopState.ready = Go.LoopState.ready ∧ (Option.none : Option Go.Code) = Option.none) ∧ True)) ∧ (Decidable.decide ((↑x : Int) < (12 : Int)) = Bool.false → True ∧ True ∧ Go.IntKind.i64 = Go.IntKind.i64 ∧ (0 : Int) = (0 : Int))) (by kernel_rfl) ?_
  simp only [true_and, and_true, and_self, decide_eq_true_eq, decide_eq_false_iff_not, Bool.not_eq_true', Bool.not_eq_false', Bool.not_true, Bool.not_false, beq_iff_eq, beq_eq_false_iff_ne, bne_iff_ne, bne_eq_false_iff_eq, ne_eq, not_true_eq_false, not_false_eq_true, false_implies, true_implies, implies_true, forall_const, exists_const, ↓reduceIte, Int.reduceEq, Int.toNat_natCast, Bool.false_eq_true, Bool.true_eq_false, reduceCtorEq, Int.zero_add, Nat.add_zero, Int.ofNat_eq_natCast, Int.toNat_natCast, Int.toNat_zero, Nat.zero_testBit]
  refine ⟨⟨0, by omega, rfl⟩, ?_⟩
  intro k hk hlt
  exact ⟨by omega, by omega, k + 1, by omega, by omega⟩
def gAdZ : Entry := fun args H => match args with
  | [.a (.agg [.val (.slice none 0 0), .int .i64 h, .int .u16 g, .run ks m p]), .a (.c (.int .u16 c))] => some (h = 0 ∧ g = 0 ∧ c = 0 ∧ ks = [.i8, .i16] ∧ m = 24 ∧ p = List.replicate 24 0, .a (.c (.int .i64 0)))
  | _ => gAd args H
theorem e_allDoneZ : EntryOk Tryd.prog TT 110 gAdZ := by
  refine ⟨fnOk Tryd.func110 (by kernel_rfl) rfl, ?_⟩
  intro args H pp r he hp n0 w0 β w vals hG hH hA
  unfold gAdZ at he
  split at he
  · simp only [Option.some.injEq, Prod.mk.injEq] at he
    obtain ⟨rfl, rfl⟩ := he
    obtain ⟨rfl, rfl, rfl, rfl, rfl, rfl⟩ := hp
    exact entry_bare tt_ok (inlN_ok tt_ok Cr2z_ok mixed ILadz_ok.ok 6) Cr2z_ok mixed Tryd.func110 x_allDoneZ rfl rfl hG hH hA
  · exact e_allDone.2 args H pp r he hp n0 w0 β w vals hG hH hA
noncomputable def Er7 : List (FuncId × Entry) := (51, gCodeW) :: (110, gAdZ) :: (131, gFt) :: (155, gSlS) :: (64, gDnS) :: (94, gMx) :: Er3
theorem Er7_ok : EntriesOk Tryd.prog TT Er7 := ⟨e_codeW, e_allDoneZ, e_l07Fault, e_l07Slot, e_l07Done, e_l00Max, Er3_ok⟩
noncomputable def Mr7 : List (FuncId × EntryC) := (99, gWs) :: (77, gCrw) :: Mj4
theorem Mr7_ok : EntriesCOk Tryd.prog TT Mr7 := ⟨e_withSlots, e_crw, Mj4_ok⟩
noncomputable abbrev Cr7 : Ctr := ctrOfM Er7 Mr7
theorem Cr7_ok : CtrOk Tryd.prog TT Cr7 := ctrOfM_ok Er7_ok Mr7_ok

/-! ### The length of a plan -/
def lnS (l p : List Int) : Nat → Int
  | 0 => 0
  | c + 1 => max (lnS l p c) (dnP l p c)
noncomputable def plE (n : Nat) (l : List Int) (h : Int) (np : Nat) (p : List Int) : Int := if vjB n l = true then (if 1 ≤ h ∧ h ≤ 4 then (if np = n ∧ fwO l h n p = none then 0 else 1) else 2) else 1
theorem pl_1 {n : Nat} {l : List Int} {h : Int} {np : Nat} {p : List Int} (hv : vjB n l = false) : plE n l h np p = 1 := by rw [plE, hv]; rfl
theorem pl_2 {n : Nat} {l : List Int} {h : Int} {np : Nat} {p : List Int} (hv : vjB n l = true) (hh : ¬ (1 ≤ h ∧ h ≤ 4)) : plE n l h np p = 2 := by rw [plE, if_pos hv, if_neg hh]
theorem pl_3 {n : Nat} {l : List Int} {h : Int} {np : Nat} {p : List Int} (hv : vjB n l = true) (hh : 1 ≤ h ∧ h ≤ 4) (hn : ¬ np = n) : plE n l h np p = 1 := by rw [plE, if_pos hv, if_pos hh, if_neg (fun c => hn c.1)]
theorem pl_4 {n : Nat} {l : List Int} {h : Int} {np : Nat} {p : List Int} {i : Nat} (hv : vjB n l = true) (hh : 1 ≤ h ∧ h ≤ 4) (hf : fwO l h n p = some i) : plE n l h np p = 1 := by rw [plE, if_pos hv, if_pos hh, if_neg (fun c => by rw [hf] at c; cases c.2)]
theorem pl_0 {n : Nat} {l : List Int} {h : Int} {np : Nat} {p : List Int} (hv : vjB n l = true) (hh : 1 ≤ h ∧ h ≤ 4) (hn : np = n) (hf : fwO l h n p = none) : plE n l h np p = 0 := by rw [plE, if_pos hv, if_pos hh, if_pos ⟨hn, hf⟩]
noncomputable def lnR (n : Nat) (l : List Int) (h : Int) (np : Nat) (p : List Int) : Int := if plE n l h np p = 0 then lnS l p n else 0
theorem ln_e {n : Nat} {l : List Int} {h : Int} {np : Nat} {p : List Int} {c : Int} (he : plE n l h np p = c) (hc : c ≠ 0) : lnR n l h np p = 0 := by rw [lnR, he, if_neg hc]
/-- Of a plan without a fault each slot is as told by itself. -/
theorem fw_ok {n : Nat} {l p : List Int} {h : Int} (hf : fwO l h n p = none) : ∀ k, k < n → okB h p k = true := fun k hk => by
  have := List.find?_eq_none.1 hf k (List.mem_range.2 hk)
  rw [ftB, Bool.or_eq_true, Bool.not_eq_true'] at this
  cases hb : okB h p k
  · exact absurd (.inl hb) this
  · rfl
theorem Sp.dn {n : Nat} {p p' l : List Int} (s : Sp n p p') {k : Nat} (hk : k < n) : dnP l p k = dnP l p' k := by rw [dnP, dnP, s.sg hk]
theorem ad_ln {n : Nat} {l p p' : List Int} {g : Nat} (s : Sp n p' p) (hg : ∀ k, k < n → g.testBit k = true) : ∀ c, c ≤ n → adS l p' g c = lnS l p c
  | 0, _ => rfl
  | c + 1, hc => by rw [adS, lnS, if_pos (hg c (by omega)), ad_ln s hg c (by omega), s.dn (by omega)]
/-- The length that the program finds. -/
theorem ln_ad {n : Nat} {l p : List Int} {h : Int} (hn : n ≤ 12) (hl : n * 2 ≤ p.length) (hf : fwO l h n p = none) : adS l (psA n p) (bsF (okB h p) n) 12 = lnS l p n := by
  have hb : ∀ k, (bsF (okB h p) n).testBit k = true → k < n := fun k hk => by
    rw [bsF_bit] at hk
    simp only [Bool.and_eq_true, decide_eq_true_eq] at hk
    exact hk.1
  have e := ad_up (l := l) (p := psA n p) (s := bsF (okB h p) n) (n := n) hb (12 - n)
  rw [show n + (12 - n) = 12 by omega] at e
  rw [e]
  exact ad_ln (psA_sp hl) (fun k hk => by rw [bsF_bit, decide_eq_true hk, fw_ok hf k hk]; rfl) n (Nat.le_refl _)
theorem Sm.ln {n : Nat} {l l' p : List Int} (s : Sm n l l') : ∀ c, c ≤ n → lnS l p c = lnS l' p c
  | 0, _ => rfl
  | c + 1, hc => by rw [lnS, lnS, Sm.ln s c (by omega), dnP, dnP, s.dy (by omega)]
theorem Sm.fw' {n : Nat} {l l' : List Int} (s : Sm n l l') {h : Int} {p : List Int} : fwO l h n p = fwO l' h n p := by
  have hj : ∀ i j, i < n → j < n → fjB l h p i j = fjB l' h p i j := fun i j hi hj => by
    rw [fjB, fjB, s.af hi, dnP, dnP, dnP, dnP, s.dy hi, s.dy hj]
  have ha : ∀ i, i < n → ∀ xs : List Nat, (∀ x ∈ xs, x < n) → xs.any (fjB l h p i) = xs.any (fjB l' h p i) := by
    intro i hi xs
    induction xs with
    | nil => intro _; rfl
    | cons x xs ih => intro hx; rw [List.any_cons, List.any_cons, ih fun y hy => hx y (by simp [hy]), hj i x hi (hx x (by simp))]
  have hf : ∀ xs : List Nat, (∀ x ∈ xs, x < n) → xs.find? (ftB l h n p) = xs.find? (ftB l' h n p) := by
    intro xs
    induction xs with
    | nil => intro _; rfl
    | cons x xs ih =>
      intro hx
      rw [List.find?_cons, List.find?_cons, ih fun y hy => hx y (by simp [hy])]
      rw [ftB, ftB, ha x (hx x (by simp)) _ fun y hy => List.mem_range.1 hy]
  exact hf _ fun x hx => List.mem_range.1 hx
def lmLn (l p : List Int) (n : Nat) : LAnn := { ι := Nat, inv := fun _ k => k ≤ n, slots := fun _ k => [(5, .a (.c (.int .i64 (lnS l p k)))), (6, .a (.c (.int .i64 k)))], blks := fun _ _ => [], μ := fun _ k => n - k }
theorem x_l07Length (m n m2 np : Nat) (l p : List Int) (cap cap2 : Int) (q : Jl n m l) (qp : Pq n m2 p) : Fex true TT (inlN true TT Cr7 (lookI ILz) 6) Cr7 (fun _ => .inv (lmLn l p n)) Tryd.f134 [.a (.c (.slc 0 0 0 2 n cap)), .a (.c (.slc 1 0 0 2 n cap2))] [.cells false 63 [.run [.i8, .u16] m l], .cells false 89 [.run [.i8, .i16] m2 p]] (fun lv _ => leL lv (.a (.c (.int .i64 (lnS l p n))))) := by
  refine Go.Sx.by_eq (q := True ∧ True ∧ True ∧ (∃ (x : Nat), x ≤ n ∧ (Go.Sx.Cel.slc (0 : Nat) (0 : Nat) (0 : Int) (2 : Nat) (↑n : Int) cap = Go.Sx.Cel.slc (0 : Nat) (0 : Nat) (0 : Int) (2 : Nat) (↑n : Int) cap ∧ Go.Sx.Cel.slc (1 : Nat) (0 : Nat) (0 : Int) (2 : Nat) (↑n : Int) cap2 = Go.Sx.Cel.slc (1 : Nat) (0 : Nat) (0 : Int) (2 : Nat) (↑n : Int) cap2 ∧ Go.Sx.Cel.val Go.undef = Go.Sx.Cel.val Go.undef ∧ Go.Sx.Cel.val Go.undef = Go.Sx.Cel.val Go.undef ∧ (Go.IntKind.i64 = Go.IntKind.i64 ∧ (0 : Int) = (0 : Int)) ∧ (Go.IntKind.i64 = Go.IntKind.i64 ∧ (0 : Int) = lnS l p x) ∧ (Go.IntKind.i64 = Go.IntKind.i64 ∧ (0 : Int) = (↑x : Int)) ∧ True ∧ True ∧ True ∧ True ∧ True ∧ True ∧ True ∧ True ∧ True ∧ True ∧ True ∧ True ∧ Go.Sx.Cel.val Go.undef = Go.Sx.Cel.val Go.undef ∧ True) ∧ (Bool.false = Bool.false ∧ (63 : Nat) = (63 : Nat) ∧ ([Go.Sx.EK.i8, Go.Sx.EK.u16] = [Go.Sx.EK.i8, Go.Sx.EK.u16] ∧ m = m ∧ l = l) ∧ True) ∧ (Bool.false = Bool.false ∧ (89 : Nat) = (89 : Nat) ∧ ([Go.Sx.EK.i8, Go.Sx.EK.i16] = [Go.Sx.EK.i8, Go.Sx.EK.i16] ∧ m2 = m2 ∧ p = p) ∧ True) ∧ True) ∧ ∀ (x : Nat), x ≤ n → True ∧ True ∧ True ∧ True ∧ (Decidable.decide ((↑x : Int) < (↑n : Int)) = Bool.true → True ∧ True ∧ True ∧ True ∧ ((((63 : Nat) = (63 : Nat) ∧ (0 : Nat) = (0 : Nat) ∧ (0 : Int) = (0 : Int) ∧ (2 : Nat) = (2 : Nat) ∧ [Go.Sx.EK.i8, Go.Sx.EK.u16] = [Go.Sx.EK.i8, Go.Sx.EK.u16]) ∧ (89 : Nat) = (89 : Nat) ∧ (0 : Nat) = (0 : Nat) ∧ (0 : Int) = (0 : Int) ∧ (2 : Nat) = (2 : Nat) ∧ [Go.Sx.EK.i8, Go.Sx.EK.i16] = [Go.Sx.EK.i8, Go.Sx.EK.i16]) ∧ Jl (↑n : Int) m l ∧ (0 : Int) ≤ (↑n : Int) ∧ Pq (Int.toNat (↑n : Int)) m2 p ∧ (0 : Int) ≤ (↑x : Int) ∧ (↑x : Int) < (↑n : Int) ∧ (↑x : Int) < (↑n : Int)) ∧ True ∧ True ∧ True ∧ ((-9223372036854775808 : Int) ≤ (↑x : Int) + (1 : Int) ∧ (↑x : Int) + (1 : Int) ≤ (9223372036854775807 : Int)) ∧ True ∧ ∃ (y : Nat), y ≤ n ∧ n - y < n - x ∧ (Go.Sx.Cel.slc (0 : Nat) (0 : Nat) (0 : Int) (2 : Nat) (↑n : Int) cap = Go.Sx.Cel.slc (0 : Nat) (0 : Nat) (0 : Int) (2 : Nat) (↑n : Int) cap ∧ Go.Sx.Cel.slc (1 : Nat) (0 : Nat) (0 : Int) (2 : Nat) (↑n : Int) cap2 = Go.Sx.Cel.slc (1 : Nat) (0 : Nat) (0 : Int) (2 : Nat) (↑n : Int) cap2 ∧ Go.Sx.Cel.val Go.undef = Go.Sx.Cel.val Go.undef ∧ Go.Sx.Cel.val Go.undef = Go.Sx.Cel.val Go.undef ∧ (Go.IntKind.i64 = Go.IntKind.i64 ∧ (0 : Int) = (0 : Int)) ∧ (Go.IntKind.i64 = Go.IntKind.i64 ∧ Max.max (lnS l p x) (dnP l p (Int.toNat (↑x : Int))) = lnS l p y) ∧ (Go.IntKind.i64 = Go.IntKind.i64 ∧ (↑x : Int) + (1 : Int) = (↑y : Int)) ∧ True ∧ True ∧ True ∧ True ∧ True ∧ True ∧ True ∧ True ∧ True ∧ True ∧ True ∧ True ∧ Go.Sx.Cel.val Go.undef = Go.Sx.Cel.val Go.undef ∧ True) ∧ (Bool.false = Bool.false ∧ (63 : Nat) = (63 : Nat) ∧ ([Go.Sx.EK.i8, Go.Sx.EK.u16] = [Go.Sx.EK.i8, Go.Sx.EK.u16] ∧ m = m ∧ l = l) ∧ True) ∧ (Bool.false = Bool.false ∧ (89 : Nat) = (89 : Nat) ∧ ([Go.Sx.EK.i8, Go.Sx.EK.i16] = [Go.Sx.EK.i8, Go.Sx.EK.i16] ∧ m2 = m2 ∧ p = p) ∧ True) ∧ True) ∧ (Decidable.decide ((↑x : Int) < (↑n : Int)) = Bool.false → True ∧ True ∧ Go.IntKind.i64 = Go.IntKind.i64 ∧ lnS l p x = lnS l p n)) (by kernel_rfl) ?_
  simp only [true_and, and_true, and_self, decide_eq_true_eq, decide_eq_false_iff_not, Bool.not_eq_true', Bool.not_eq_false', Bool.not_true, Bool.not_false, beq_iff_eq, beq_eq_false_iff_ne, bne_iff_ne, bne_eq_false_iff_eq, ne_eq, not_true_eq_false, not_false_eq_true, false_implies, true_implies, implies_true, forall_const, exists_const, ↓reduceIte, Int.reduceEq, Int.toNat_natCast, Bool.false_eq_true, Bool.true_eq_false, reduceCtorEq, Int.zero_add, Nat.add_zero, Int.ofNat_eq_natCast, Int.toNat_natCast]
  have hq := q.hi
  refine ⟨⟨0, by omega, rfl, rfl⟩, ?_⟩
  intro k hk
  refine ⟨fun hlt => ⟨⟨q, by omega, qp, by omega, by omega⟩, by omega, k + 1, by omega, by omega, rfl, by omega⟩, fun hge => ?_⟩
  obtain rfl : k = n := by omega
  rfl
def gLnS : Entry := fun args H => match args with
  | [.a (.c (.slc id b z s len _)), .a (.c (.slc id2 b2 z2 s2 len2 _))] => match getB H id, getB H id2 with
    | .cells _ t [.run ks m l], .cells _ t2 [.run ks2 m2 p] => some (((t = 63 ∧ b = 0 ∧ z = 0 ∧ s = 2 ∧ ks = [.i8, .u16]) ∧ (t2 = 89 ∧ b2 = 0 ∧ z2 = 0 ∧ s2 = 2 ∧ ks2 = [.i8, .i16])) ∧ Jl len m l ∧ len2 = len ∧ Pq len.toNat m2 p, .a (.c (.int .i64 (lnS l p len.toNat))))
    | _, _ => none
  | _ => none
theorem e_l07Length : EntryOk Tryd.prog TT 134 gLnS := by
  refine ⟨fnOk Tryd.func134 (by kernel_rfl) rfl, ?_⟩
  intro args H pp r he hp n0 w0 β w vals hG hH hA
  unfold gLnS at he
  split at he
  · split at he
    · rename_i id b z s len cap id2 b2 z2 s2 len2 cap2 _ _ o t ks m l o2 t2 ks2 m2 p hg hg2
      simp only [Option.some.injEq, Prod.mk.injEq] at he
      obtain ⟨rfl, rfl⟩ := he
      obtain ⟨⟨⟨rfl, rfl, rfl, rfl, rfl⟩, rfl, rfl, rfl, rfl, rfl⟩, q, rfl, qp⟩ := hp
      obtain ⟨n, rfl⟩ := Int.eq_ofNat_of_zero_le q.lo
      exact entry_view tt_ok (inlN_ok tt_ok Cr7_ok mixed ILz_ok.ok 6) Cr7_ok mixed Tryd.func134 [id, id2] (x_l07Length m n m2 n l p cap cap2 q qp) rfl rfl ⟨.inr (by rw [hg]; rfl), .inr (by rw [hg2]; rfl), trivial⟩ hG hH hA
    · simp at he
  · simp at he
noncomputable def Er8 : List (FuncId × Entry) := (134, gLnS) :: Er7
theorem Er8_ok : EntriesOk Tryd.prog TT Er8 := ⟨e_l07Length, Er7_ok⟩
noncomputable abbrev Cr8 : Ctr := ctrOfM Er8 Mr7
theorem Cr8_ok : CtrOk Tryd.prog TT Cr8 := ctrOfM_ok Er8_ok Mr7_ok
noncomputable def ILln  : List (FuncId × Func × (Nat → LM)) := [
  (76, Tryd.f76, U0),
  (66, Tryd.f66, U0),
  (62, Tryd.f62, U0),
  (97, Tryd.f97, U0),
  (98, Tryd.f98, U0)]
theorem ILln_ok  : InlsOk Tryd.prog ILln := ⟨⟨Tryd.func76, by kernel_rfl⟩, ⟨Tryd.func66, by kernel_rfl⟩, ⟨Tryd.func62, by kernel_rfl⟩, ⟨Tryd.func97, by kernel_rfl⟩, ⟨Tryd.func98, by kernel_rfl⟩, trivial⟩
/-! ### Functions of jobs, hands and a plan -/
noncomputable def gJp (R : Nat → List Int → Int → Nat → List Int → LV) : Entry := fun args H => match args with
  | [.a (.c (.slc id b z s len _)), .a (.c (.int .i64 h)), .a (.c (.slc id2 b2 z2 s2 len2 _))] => match getB H id, getB H id2 with
    | .cells _ t [.run ks m l], .cells _ t2 [.run ks2 m2 p] => some (((t = 63 ∧ b = 0 ∧ z = 0 ∧ s = 2 ∧ ks = [.i8, .u16]) ∧ (t2 = 89 ∧ b2 = 0 ∧ z2 = 0 ∧ s2 = 2 ∧ ks2 = [.i8, .i16])) ∧ 0 ≤ len ∧ Jx len.toNat m l ∧ 0 ≤ len2 ∧ Pq len2.toNat m2 p, R len.toNat l h len2.toNat p)
    | _, _ => none
  | _ => none
theorem gJp_ok {f : FuncId} {fn : Func} {R : Nat → List Int → Int → Nat → List Int → LV} (hR : ∀ n l h np p k, rnL k (R n l h np p) = R n l h np p) (hI0 : ∀ n l h np p, inL 0 (R n l h np p) = true) {C : Ctr} (hC : CtrOk Tryd.prog TT C) {inl : Nat → List Int → Int → Nat → List Int → FuncId → Option (Func × (Nat → LM))} (hI : ∀ n l h np p, InlOk Tryd.prog (inl n l h np p)) {Λ : Nat → List Int → Int → Nat → List Int → Nat → LM}
    (hf : Tryd.prog.funcs[f]? = some fn) (h2 : (fn.name == "runtime.NumGoroutine") = false) (h3 : fn.body.isNone = false)
    (x : ∀ (m n m2 np : Nat) (l p : List Int) (cap cap2 h : Int), Jx n m l → Pq np m2 p → Fex true TT (inlN true TT C (inl n l h np p) 6) C (Λ n l h np p) fn [.a (.c (.slc 0 0 0 2 n cap)), .a (.c (.int .i64 h)), .a (.c (.slc 1 0 0 2 np cap2))] [.cells false 63 [.run [.i8, .u16] m l], .cells false 89 [.run [.i8, .i16] m2 p]] (fun lv _ => leL lv (R n l h np p))) :
    EntryOk Tryd.prog TT f (gJp R) := by
  refine ⟨fnOk hf h2 h3, ?_⟩
  intro args H pp r he hp n0 w0 β w vals hG hH hA
  unfold gJp at he
  split at he
  · split at he
    · rename_i id b z s len cap h id2 b2 z2 s2 len2 cap2 _ _ o t ks m l o2 t2 ks2 m2 p hg hg2
      simp only [Option.some.injEq, Prod.mk.injEq] at he
      obtain ⟨rfl, rfl⟩ := he
      obtain ⟨⟨⟨rfl, rfl, rfl, rfl, rfl⟩, rfl, rfl, rfl, rfl, rfl⟩, h0, q, h1, qp⟩ := hp
      obtain ⟨n, rfl⟩ := Int.eq_ofNat_of_zero_le h0
      obtain ⟨np, rfl⟩ := Int.eq_ofNat_of_zero_le h1
      simp only [Int.ofNat_eq_natCast, Int.toNat_natCast] at *
      exact entry_view tt_ok (inlN_ok tt_ok hC mixed (hI n l h np p) 6) hC mixed hf [id, id2] (x m n m2 np l p cap cap2 h q qp) (hI0 n l h np p) rfl ⟨.inr (by rw [hg]; rfl), .inr (by rw [hg2]; rfl), trivial⟩ hG hH hA
    · simp at he
  · simp at he
end Go.Proofs.YtmgkecegfjpagaaDoor
