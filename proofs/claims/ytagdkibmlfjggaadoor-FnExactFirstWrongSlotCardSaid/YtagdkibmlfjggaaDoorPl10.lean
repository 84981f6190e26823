/- LengthOfPlan: both sides. No conditions beyond the ranges of the kinds. -/
import Derived.Test.YtagdkibmlfjggaaDoorAs2
import Derived.Test.YtagdkibmlfjggaaDoorPl4
import Derived.Test.YtagdkibmlfjggaaDoorCrw
import Derived.Test.YtagdkibmlfjggaaDoorJmx
import Derived.Test.YtagdkibmlfjggaaDoorPl1b
set_option linter.unusedSimpArgs false
set_option linter.unusedVariables false
namespace Go.Proofs.YtagdkibmlfjggaaDoor
open Go.Sx Go.RowKit

/-! ### No jobs of no roster -/
def gRdZ : Entry := fun args H => match args with
  | [.a (.agg [.val (.slice none 0 0), .int .i64 _, .int .u16 _, .run _ _ _]), .a (.c (.int .i64 _))] => some (False, .a (.c (.int .i64 0)))
  | _ => gRd args H
theorem e_rdoneZ : EntryOk Tryd.prog TT 115 gRdZ := by
  refine ⟨fnOk Tryd.func115 (by kernel_rfl) rfl, ?_⟩
  intro args H pp r he hp n0 w0 β w vals hG hH hA
  unfold gRdZ at he
  split at he
  · simp only [Option.some.injEq, Prod.mk.injEq] at he
    obtain ⟨rfl, rfl⟩ := he
    exact hp.elim
  · exact e_rdone.2 args H pp r he hp n0 w0 β w vals hG hH hA
noncomputable def Er2z : List (FuncId × Entry) := (115, gRdZ) :: Er1
theorem Er2z_ok : EntriesOk Tryd.prog TT Er2z := ⟨e_rdoneZ, Er1_ok⟩
noncomputable abbrev Cr2z : Ctr := ctrOfM Er2z Mj4
theorem Cr2z_ok : CtrOk Tryd.prog TT Cr2z := ctrOfM_ok Er2z_ok Mj4_ok
def lmAdZ : LAnn := { ι := Nat, inv := fun _ k => k ≤ 12, slots := fun _ k => [(4, .a (.c (.int .i64 k)))], blks := fun _ _ => [(1, [.int .i64 0])], μ := fun _ k => 12 - k }
noncomputable def ILadz  : List (FuncId × Func × (Nat → LM)) := [
  (57, Tryd.f57, U0),
  (90, Tryd.f90, fun _ => .inv lmAdZ)]
theorem ILadz_ok  : InlsOk Tryd.prog ILadz := ⟨⟨Tryd.func57, by kernel_rfl⟩, ⟨Tryd.func90, by kernel_rfl⟩, trivial⟩
theorem x_allDoneZ : Fex true TT (inlN true TT Cr2z (lookI ILadz) 6) Cr2z U0 Tryd.f102 [.a rosZ, .a (.c (.int .u16 0))] [] (fun lv _ => leL lv (.a (.c (.int .i64 0)))) := by
  refine Go.Sx.by_eq (q := True ∧ True ∧ True ∧ True ∧ True ∧ True ∧ True ∧ True ∧ True ∧ True ∧ (∃ (x : Nat), x ≤ (12 : Nat) ∧ (Go.Sx.Cel.yld (3 : Nat) = Go.Sx.Cel.yld (3 : Nat) ∧ Go.Sx.Cel.ptr (2 : Nat) (0 : Nat) = Go.Sx.Cel.ptr (2 : Nat) (0 : Nat) ∧ Go.Sx.Cel.val Go.undef = Go.Sx.Cel.val Go.undef ∧ True ∧ (Go.IntKind.i64 = Go.IntKind.i64 ∧ (0 : Int) = (↑x : Int)) ∧ True ∧ True ∧ True ∧ True ∧ True ∧ True ∧ True ∧ True ∧ True ∧ True ∧ True ∧ True ∧ True) ∧ (Bool.true = Bool.true ∧ (92 : Nat) = (92 : Nat) ∧ Go.Sx.Cel.val (Go.Value.slice Option.none (0 : Nat) (0 : Nat)) = Go.Sx.Cel.val (Go.Value.slice Option.none (0 : Nat) (0 : Nat)) ∧ (Go.IntKind.i64 = Go.IntKind.i64 ∧ (0 : Int) = (0 : Int)) ∧ (Go.IntKind.u16 = Go.IntKind.u16 ∧ (0 : Int) = (0 : Int)) ∧ ([Go.Sx.EK.i8, Go.Sx.EK.i16] = [Go.Sx.EK.i8, Go.Sx.EK.i16] ∧ (24 : Nat) = (24 : Nat) ∧ List.replicate (24 : Nat) (0 : Int) = List.replicate (24 : Nat) (0 : Int)) ∧ True) ∧ (Bool.true = Bool.true ∧ (2 : Nat) = (2 : Nat) ∧ (Go.IntKind.i64 = Go.IntKind.i64 ∧ (0 : Int) = (0 : Int)) ∧ True) ∧ (Bool.true = Bool.true ∧ (78 : Nat) = (78 : Nat) ∧ (Go.IntKind.u16 = Go.IntKind.u16 ∧ (0 : Int) = (0 : Int)) ∧ True) ∧ (Go.LoopState.ready = Go.LoopState.ready ∧ (Option.none : Option Go.Code) = Option.none) ∧ True) ∧ ∀ (x : Nat), x ≤ (12 : Nat) → True ∧ (Decidable.decide ((↑x : Int) < (12 : Int)) = Bool.true → True ∧ True ∧ True ∧ True ∧ (((0 : Int) ≤ (0 : Int) ∧ (0 : Int) ≤ (65535 : Int)) ∧ (0 : Int) ≤ (↑x : Int) ∧ (↑x : Int) < (16 : Int)) ∧ True ∧ (Nat.testBit (Int.toNat (0 : Int)) (Int.toNat (↑x : Int)) = Bool.true → True ∧ True ∧ True ∧ True ∧ True ∧ True ∧ False ∧ True ∧ True ∧ True ∧ True ∧ ((-9223372036854775808 : Int) ≤ (↑x : Int) + (1 : Int) ∧ (↑x : Int) + (1 : Int) ≤ (9223372036854775807 : Int)) ∧ True ∧ ∃ (y : Nat), y ≤ (12 : Nat) ∧ (12 : Nat) - y < (12 : Nat) - x ∧ (Go.Sx.Cel.yld (3 : Nat) = Go.Sx.Cel.yld (3 : Nat) ∧ Go.Sx.Cel.ptr (2 : Nat) (0 : Nat) = Go.Sx.Cel.ptr (2 : Nat) (0 : Nat) ∧ Go.Sx.Cel.val Go.undef = Go.Sx.Cel.val Go.undef ∧ True ∧ (Go.IntKind.i64 = Go.IntKind.i64 ∧ (↑x : Int) + (1 : Int) = (↑y : Int)) ∧ True ∧ True ∧ True ∧ True ∧ True ∧ True ∧ True ∧ True ∧ True ∧ True ∧ True ∧ True ∧ True) ∧ (Bool.true = Bool.true ∧ (92 : Nat) = (92 : Nat) ∧ Go.Sx.Cel.val (Go.Value.slice Option.none (0 : Nat) (0 : Nat)) = Go.Sx.Cel.val (Go.Value.slice Option.none (0 : Nat) (0 : Nat)) ∧ (Go.IntKind.i64 = Go.IntKind.i64 ∧ (0 : Int) = (0 : Int)) ∧ (Go.IntKind.u16 = Go.IntKind.u16 ∧ (0 : Int) = (0 : Int)) ∧ ([Go.Sx.EK.i8, Go.Sx.EK.i16] = [Go.Sx.EK.i8, Go.Sx.EK.i16] ∧ (24 : Nat) = (24 : Nat) ∧ List.replicate (24 : Nat) (0 : Int) = List.replicate (24 : Nat) (0 : Int)) ∧ True) ∧ (Bool.true = Bool.true ∧ (2 : Nat) = (2 : Nat) ∧ (Go.IntKind.i64 = Go.IntKind.i64 ∧ Max.max (0 : Int) (0 : Int) = (0 : Int)) ∧ True) ∧ (Bool.true = Bool.true ∧ (78 : Nat) = (78 : Nat) ∧ (Go.IntKind.u16 = Go.IntKind.u16 ∧ (0 : Int) = (0 : Int)) ∧ True) ∧ (Go.LoopState.ready = Go.LoopState.ready ∧ (Option.none : Option Go.Code) = Option.none) ∧ True) ∧ (Nat.testBit (Int.toNat (0 : Int)) (Int.toNat (↑x : Int)) = !Bool.true → True ∧ ((-9223372036854775808 : Int) ≤ (↑x : Int) + (1 : Int) ∧ (↑x : Int) + (1 : Int) ≤ (9223372036854775807 : Int)) ∧ True ∧ ∃ (y : Nat), y ≤ (12 : Nat) ∧ (12 : Nat) - y < (12 : Nat) - x ∧ (Go.Sx.Cel.yld (3 : Nat) = Go.Sx.Cel.yld (3 : Nat) ∧ Go.Sx.Cel.ptr (2 : Nat) (0 : Nat) = Go.Sx.Cel.ptr (2 : Nat) (0 : Nat) ∧ Go.Sx.Cel.val Go.undef = Go.Sx.Cel.val Go.undef ∧ True ∧ (Go.IntKind.i64 = Go.IntKind.i64 ∧ (↑x : Int) + (1 : Int) = (↑y : Int)) ∧ True ∧ True ∧ True ∧ True ∧ True ∧ True ∧ True ∧ True ∧ True ∧ True ∧ True ∧ True ∧ True) ∧ (Bool.true = Bool.true ∧ (92 : Nat) = (92 : Nat) ∧ Go.Sx.Cel.val (Go.Value.slice Option.none (0 : Nat) (0 : Nat)) = Go.Sx.Cel.val (Go.Value.slice Option.none (0 : Nat) (0 : Nat)) ∧ (Go.IntKind.i64 = Go.IntKind.i64 ∧ (0 : Int) = (0 : Int)) ∧ (Go.IntKind.u16 = Go.IntKind.u16 ∧ (0 : Int) = (0 : Int)) ∧ ([Go.Sx.EK.i8, Go.Sx.EK.i16] = [Go.Sx.EK.i8, Go.Sx.EK.i16] ∧ (24 : Nat) = (24 : Nat) ∧ List.replicate (24 : Nat) (0 : Int) = List.replicate (24 : Nat) (0 : Int)) ∧ True) ∧ (Bool.true = Bool.true ∧ (2 : Nat) = (2 : Nat) ∧ (Go.IntKind.i64 = Go.IntKind.i64 ∧ (0 : Int) = (0 : Int)) ∧ True) ∧ (Bool.true = Bool.true ∧ (78 : Nat) = (78 : Nat) ∧ (Go.IntKind.u16 = Go.IntKind.u16 ∧ (0 : Int) = (0 : Int)) ∧ True) ∧ (Go.LoopState.ready = Go.LoopState.ready ∧ (Option.none : Option Go.Code) = Option.none) ∧ True)) ∧ (Decidable.decide ((↑x : Int) < (12 : Int)) = Bool.false → True ∧ True ∧ Go.IntKind.i64 = Go.IntKind.i64 ∧ (0 : Int) = (0 : Int))) (by kernel_rfl) ?_
  simp only [true_and, and_true, and_self, decide_eq_true_eq, decide_eq_false_iff_not, Bool.not_eq_true', Bool.not_eq_false', Bool.not_true, Bool.not_false, beq_iff_eq, beq_eq_false_iff_ne, bne_iff_ne, bne_eq_false_iff_eq, ne_eq, not_true_eq_false, not_false_eq_true, false_implies, true_implies, implies_true, forall_const, exists_const, ↓reduceIte, Int.reduceEq, Int.toNat_natCast, Bool.false_eq_true, Bool.true_eq_false, reduceCtorEq, Int.zero_add, Nat.add_zero, Int.ofNat_eq_natCast, Int.toNat_natCast, Int.toNat_zero, Nat.zero_testBit]
  refine ⟨⟨0, by omega, rfl⟩, ?_⟩
  intro k hk hlt
  exact ⟨by omega, by omega, k + 1, by omega, by omega⟩
def gAdZ : Entry := fun args H => match args with
  | [.a (.agg [.val (.slice none 0 0), .int .i64 h, .int .u16 g, .run ks m p]), .a (.c (.int .u16 c))] => some (h = 0 ∧ g = 0 ∧ c = 0 ∧ ks = [.i8, .i16] ∧ m = 24 ∧ p = List.replicate 24 0, .a (.c (.int .i64 0)))
  | _ => gAd args H
theorem e_allDoneZ : EntryOk Tryd.prog TT 102 gAdZ := by
  refine ⟨fnOk Tryd.func102 (by kernel_rfl) rfl, ?_⟩
  intro args H pp r he hp n0 w0 β w vals hG hH hA
  unfold gAdZ at he
  split at he
  · simp only [Option.some.injEq, Prod.mk.injEq] at he
    obtain ⟨rfl, rfl⟩ := he
    obtain ⟨rfl, rfl, rfl, rfl, rfl, rfl⟩ := hp
    exact entry_bare tt_ok (inlN_ok tt_ok Cr2z_ok mixed ILadz_ok.ok 6) Cr2z_ok mixed Tryd.func102 x_allDoneZ rfl rfl hG hH hA
  · exact e_allDone.2 args H pp r he hp n0 w0 β w vals hG hH hA
noncomputable def Er7 : List (FuncId × Entry) := (54, gCodeW) :: (102, gAdZ) :: (80, gFt) :: (103, gSlS) :: (71, gDnS) :: (92, gMx) :: Er3
theorem Er7_ok : EntriesOk Tryd.prog TT Er7 := ⟨e_codeW, e_allDoneZ, e_l07Fault, e_l07Slot, e_l07Done, e_l00Max, Er3_ok⟩
noncomputable def Mr7 : List (FuncId × EntryC) := (81, gWs) :: (68, gCrw) :: Mj4
theorem Mr7_ok : EntriesCOk Tryd.prog TT Mr7 := ⟨e_withSlots, e_crw, Mj4_ok⟩
noncomputable abbrev Cr7 : Ctr := ctrOfM Er7 Mr7
theorem Cr7_ok : CtrOk Tryd.prog TT Cr7 := ctrOfM_ok Er7_ok Mr7_ok

/-! ### The length of a plan -/
def lnS (l p : List Int) : Nat → Int
  | 0 => 0
  | c + 1 => max (lnS l p c) (dnP l p c)
noncomputable def plE (n : Nat) (l : List Int) (h : Int) (np : Nat) (p : List Int) : Int := if vjB n l = true then (if 1 ≤ h ∧ h ≤ 4 then (if np = n ∧ fwO l h n p = none then 0 else 1) else 2) else 1
theorem pl_1 {n : Nat} {l : List Int} {h : Int} {np : Nat} {p : List Int} (hv : vjB n l = false) : plE n l h np p = 1 := by rw [plE, hv]; rfl
theorem pl_2 {n : Nat} {l : List Int} {h : Int} {np : Nat} {p : List Int} (hv : vjB n l = true) (hh : ¬ (1 ≤ h ∧ h ≤ 4)) : plE n l h np p = 2 := by rw [plE, if_pos hv, if_neg hh]
theorem pl_3 {n : Nat} {l : List Int} {h : Int} {np : Nat} {p : List Int} (hv : vjB n l = true) (hh : 1 ≤ h ∧ h ≤ 4) (hn : ¬ np = n) : plE n l h np p = 1 := by rw [plE, if_pos hv, if_pos hh, if_neg (fun c => hn c.1)]
theorem pl_4 {n : Nat} {l : List Int} {h : Int} {np : Nat} {p : List Int} {i : Nat} (hv : vjB n l = true) (hh : 1 ≤ h ∧ h ≤ 4) (hf : fwO l h n p = some i) : plE n l h np p = 1 := by rw [plE, if_pos hv, if_pos hh, if_neg (fun c => by rw [hf] at c; cases c.2)]
theorem pl_0 {n : Nat} {l : List Int} {h : Int} {np : Nat} {p : List Int} (hv : vjB n l = true) (hh : 1 ≤ h ∧ h ≤ 4) (hn : np = n) (hf : fwO l h n p = none) : plE n l h np p = 0 := by rw [plE, if_pos hv, if_pos hh, if_pos ⟨hn, hf⟩]
noncomputable def lnR (n : Nat) (l : List Int) (h : Int) (np : Nat) (p : List Int) : Int := if plE n l h np p = 0 then lnS l p n else 0
theorem ln_e {n : Nat} {l : List Int} {h : Int} {np : Nat} {p : List Int} {c : Int} (he : plE n l h np p = c) (hc : c ≠ 0) : lnR n l h np p = 0 := by rw [lnR, he, if_neg hc]
/-- Of a plan without a fault each slot is as told by itself. -/
theorem fw_ok {n : Nat} {l p : List Int} {h : Int} (hf : fwO l h n p = none) : ∀ k, k < n → okB h p k = true := fun k hk => by
  have := List.find?_eq_none.1 hf k (List.mem_range.2 hk)
  rw [ftB, Bool.or_eq_true, Bool.not_eq_true'] at this
  cases hb : okB h p k
  · exact absurd (.inl hb) this
  · rfl
theorem Sp.dn {n : Nat} {p p' l : List Int} (s : Sp n p p') {k : Nat} (hk : k < n) : dnP l p k = dnP l p' k := by rw [dnP, dnP, s.sg hk]
theorem ad_ln {n : Nat} {l p p' : List Int} {g : Nat} (s : Sp n p' p) (hg : ∀ k, k < n → g.testBit k = true) : ∀ c, c ≤ n → adS l p' g c = lnS l p c
  | 0, _ => rfl
  | c + 1, hc => by rw [adS, lnS, if_pos (hg c (by omega)), ad_ln s hg c (by omega), s.dn (by omega)]
/-- The length that the program finds. -/
theorem ln_ad {n : Nat} {l p : List Int} {h : Int} (hn : n ≤ 12) (hl : n * 2 ≤ p.length) (hf : fwO l h n p = none) : adS l (psA n p) (bsF (okB h p) n) 12 = lnS l p n := by
  have hb : ∀ k, (bsF (okB h p) n).testBit k = true → k < n := fun k hk => by
    rw [bsF_bit] at hk
    simp only [Bool.and_eq_true, decide_eq_true_eq] at hk
    exact hk.1
  have e := ad_up (l := l) (p := psA n p) (s := bsF (okB h p) n) (n := n) hb (12 - n)
  rw [show n + (12 - n) = 12 by omega] at e
  rw [e]
  exact ad_ln (psA_sp hl) (fun k hk => by rw [bsF_bit, decide_eq_true hk, fw_ok hf k hk]; rfl) n (Nat.le_refl _)
theorem Sm.ln {n : Nat} {l l' p : List Int} (s : Sm n l l') : ∀ c, c ≤ n → lnS l p c = lnS l' p c
  | 0, _ => rfl
  | c + 1, hc => by rw [lnS, lnS, Sm.ln s c (by omega), dnP, dnP, s.dy (by omega)]
theorem Sm.fw' {n : Nat} {l l' : List Int} (s : Sm n l l') {h : Int} {p : List Int} : fwO l h n p = fwO l' h n p := by
  have hj : ∀ i j, i < n → j < n → fjB l h p i j = fjB l' h p i j := fun i j hi hj => by
    rw [fjB, fjB, s.af hi, dnP, dnP, dnP, dnP, s.dy hi, s.dy hj]
  have ha : ∀ i, i < n → ∀ xs : List Nat, (∀ x ∈ xs, x < n) → xs.any (fjB l h p i) = xs.any (fjB l' h p i) := by
    intro i hi xs
    induction xs with
    | nil => intro _; rfl
    | cons x xs ih => intro hx; rw [List.any_cons, List.any_cons, ih fun y hy => hx y (by simp [hy]), hj i x hi (hx x (by simp))]
  have hf : ∀ xs : List Nat, (∀ x ∈ xs, x < n) → xs.find? (ftB l h n p) = xs.find? (ftB l' h n p) := by
    intro xs
    induction xs with
    | nil => intro _; rfl
    | cons x xs ih =>
      intro hx
      rw [List.find?_cons, List.find?_cons, ih fun y hy => hx y (by simp [hy])]
      rw [ftB, ftB, ha x (hx x (by simp)) _ fun y hy => List.mem_range.1 hy]
  exact hf _ fun x hx => List.mem_range.1 hx
def lmLn (l p : List Int) (n : Nat) : LAnn := { ι := Nat, inv := fun _ k => k ≤ n, slots := fun _ k => [(5, .a (.c (.int .i64 (lnS l p k)))), (6, .a (.c (.int .i64 k)))], blks := fun _ _ => [], μ := fun _ k => n - k }
theorem x_l07Length (m n m2 np : Nat) (l p : List Int) (cap cap2 : Int) (q : Jl n m l) (qp : Pq n m2 p) : Fex true TT (inlN true TT Cr7 (lookI ILz) 6) Cr7 (fun _ => .inv (lmLn l p n)) Tryd.f76 [.a (.c (.slc 0 0 0 2 n cap)), .a (.c (.slc 1 0 0 2 n cap2))] [.cells false 64 [.run [.i8, .u16] m l], .cells false 89 [.run [.i8, .i16] m2 p]] (fun lv _ => leL lv (.a (.c (.int .i64 (lnS l p n))))) := by
  refine Go.Sx.by_eq (q := True ∧ True ∧ True ∧ (∃ (x : Nat), x ≤ n ∧ (Go.Sx.Cel.slc (0 : Nat) (0 : Nat) (0 : Int) (2 : Nat) (↑n : Int) cap = Go.Sx.Cel.slc (0 : Nat) (0 : Nat) (0 : Int) (2 : Nat) (↑n : Int) cap ∧ Go.Sx.Cel.slc (1 : Nat) (0 : Nat) (0 : Int) (2 : Nat) (↑n : Int) cap2 = Go.Sx.Cel.slc (1 : Nat) (0 : Nat) (0 : Int) (2 : Nat) (↑n : Int) cap2 ∧ Go.Sx.Cel.val Go.undef = Go.Sx.Cel.val Go.undef ∧ Go.Sx.Cel.val Go.undef = Go.Sx.Cel.val Go.undef ∧ (Go.IntKind.i64 = Go.IntKind.i64 ∧ (0 : Int) = (0 : Int)) ∧ (Go.IntKind.i64 = Go.IntKind.i64 ∧ (0 : Int) = lnS l p x) ∧ (Go.IntKind.i64 = Go.IntKind.i64 ∧ (0 : Int) = (↑x : Int)) ∧ True ∧ True ∧ True ∧ True ∧ True ∧ True ∧ True ∧ True ∧ True ∧ True ∧ True ∧ True ∧ Go.Sx.Cel.val Go.undef = Go.Sx.Cel.val Go.undef ∧ True) ∧ (Bool.false = Bool.false ∧ (64 : Nat) = (64 : Nat) ∧ ([Go.Sx.EK.i8, Go.Sx.EK.u16] = [Go.Sx.EK.i8, Go.Sx.EK.u16] ∧ m = m ∧ l = l) ∧ True) ∧ (Bool.false = Bool.false ∧ (89 : Nat) = (89 : Nat) ∧ ([Go.Sx.EK.i8, Go.Sx.EK.i16] = [Go.Sx.EK.i8, Go.Sx.EK.i16] ∧ m2 = m2 ∧ p = p) ∧ True) ∧ True) ∧ ∀ (x : Nat), x ≤ n → True ∧ True ∧ True ∧ True ∧ (Decidable.decide ((↑x : Int) < (↑n : Int)) = Bool.true → True ∧ True ∧ True ∧ True ∧ ((((64 : Nat) = (64 : Nat) ∧ (0 : Nat) = (0 : Nat) ∧ (0 : Int) = (0 : Int) ∧ (2 : Nat) = (2 : Nat) ∧ [Go.Sx.EK.i8, Go.Sx.EK.u16] = [Go.Sx.EK.i8, Go.Sx.EK.u16]) ∧ (89 : Nat) = (89 : Nat) ∧ (0 : Nat) = (0 : Nat) ∧ (0 : Int) = (0 : Int) ∧ (2 : Nat) = (2 : Nat) ∧ [Go.Sx.EK.i8, Go.Sx.EK.i16] = [Go.Sx.EK.i8, Go.Sx.EK.i16]) ∧ Jl (↑n : Int) m l ∧ (0 : Int) ≤ (↑n : Int) ∧ Pq (Int.toNat (↑n : Int)) m2 p ∧ (0 : Int) ≤ (↑x : Int) ∧ (↑x : Int) < (↑n : Int) ∧ (↑x : Int) < (↑n : Int)) ∧ True ∧ True ∧ True ∧ ((-9223372036854775808 : Int) ≤ (↑x : Int) + (1 : Int) ∧ (↑x : Int) + (1 : Int) ≤ (9223372036854775807 : Int)) ∧ True ∧ ∃ (y : Nat), y ≤ n ∧ n - y < n - x ∧ (Go.Sx.Cel.slc (0 : Nat) (0 : Nat) (0 : Int) (2 : Nat) (↑n : Int) cap = Go.Sx.Cel.slc (0 : Nat) (0 : Nat) (0 : Int) (2 : Nat) (↑n : Int) cap ∧ Go.Sx.Cel.slc (1 : Nat) (0 : Nat) (0 : Int) (2 : Nat) (↑n : Int) cap2 = Go.Sx.Cel.slc (1 : Nat) (0 : Nat) (0 : Int) (2 : Nat) (↑n : Int) cap2 ∧ Go.Sx.Cel.val Go.undef = Go.Sx.Cel.val Go.undef ∧ Go.Sx.Cel.val Go.undef = Go.Sx.Cel.val Go.undef ∧ (Go.IntKind.i64 = Go.IntKind.i64 ∧ (0 : Int) = (0 : Int)) ∧ (Go.IntKind.i64 = Go.IntKind.i64 ∧ Max.max (lnS l p x) (dnP l p (Int.toNat (↑x : Int))) = lnS l p y) ∧ (Go.IntKind.i64 = Go.IntKind.i64 ∧ (↑x : Int) + (1 : Int) = (↑y : Int)) ∧ True ∧ True ∧ True ∧ True ∧ True ∧ True ∧ True ∧ True ∧ True ∧ True ∧ True ∧ True ∧ Go.Sx.Cel.val Go.undef = Go.Sx.Cel.val Go.undef ∧ True) ∧ (Bool.false = Bool.false ∧ (64 : Nat) = (64 : Nat) ∧ ([Go.Sx.EK.i8, Go.Sx.EK.u16] = [Go.Sx.EK.i8, Go.Sx.EK.u16] ∧ m = m ∧ l = l) ∧ True) ∧ (Bool.false = Bool.false ∧ (89 : Nat) = (89 : Nat) ∧ ([Go.Sx.EK.i8, Go.Sx.EK.i16] = [Go.Sx.EK.i8, Go.Sx.EK.i16] ∧ m2 = m2 ∧ p = p) ∧ True) ∧ True) ∧ (Decidable.decide ((↑x : Int) < (↑n : Int)) = Bool.false → True ∧ True ∧ Go.IntKind.i64 = Go.IntKind.i64 ∧ lnS l p x = lnS l p n)) (by kernel_rfl) ?_
  simp only [true_and, and_true, and_self, decide_eq_true_eq, decide_eq_false_iff_not, Bool.not_eq_true', Bool.not_eq_false', Bool.not_true, Bool.not_false, beq_iff_eq, beq_eq_false_iff_ne, bne_iff_ne, bne_eq_false_iff_eq, ne_eq, not_true_eq_false, not_false_eq_true, false_implies, true_implies, implies_true, forall_const, exists_const, ↓reduceIte, Int.reduceEq, Int.toNat_natCast, Bool.false_eq_true, Bool.true_eq_false, reduceCtorEq, Int.zero_add, Nat.add_zero, Int.ofNat_eq_natCast, Int.toNat_natCast]
  have hq := q.hi
  refine ⟨⟨0, by omega, rfl, rfl⟩, ?_⟩
  intro k hk
  refine ⟨fun hlt => ⟨⟨q, by omega, qp, by omega, by omega⟩, by omega, k + 1, by omega, by omega, rfl, by omega⟩, fun hge => ?_⟩
  obtain rfl : k = n := by omega
  rfl
def gLnS : Entry := fun args H => match args with
  | [.a (.c (.slc id b z s len _)), .a (.c (.slc id2 b2 z2 s2 len2 _))] => match getB H id, getB H id2 with
    | .cells _ t [.run ks m l], .cells _ t2 [.run ks2 m2 p] => some (((t = 64 ∧ b = 0 ∧ z = 0 ∧ s = 2 ∧ ks = [.i8, .u16]) ∧ (t2 = 89 ∧ b2 = 0 ∧ z2 = 0 ∧ s2 = 2 ∧ ks2 = [.i8, .i16])) ∧ Jl len m l ∧ len2 = len ∧ Pq len.toNat m2 p, .a (.c (.int .i64 (lnS l p len.toNat))))
    | _, _ => none
  | _ => none
theorem e_l07Length : EntryOk Tryd.prog TT 76 gLnS := by
  refine ⟨fnOk Tryd.func76 (by kernel_rfl) rfl, ?_⟩
  intro args H pp r he hp n0 w0 β w vals hG hH hA
  unfold gLnS at he
  split at he
  · split at he
    · rename_i id b z s len cap id2 b2 z2 s2 len2 cap2 _ _ o t ks m l o2 t2 ks2 m2 p hg hg2
      simp only [Option.some.injEq, Prod.mk.injEq] at he
      obtain ⟨rfl, rfl⟩ := he
      obtain ⟨⟨⟨rfl, rfl, rfl, rfl, rfl⟩, rfl, rfl, rfl, rfl, rfl⟩, q, rfl, qp⟩ := hp
      obtain ⟨n, rfl⟩ := Int.eq_ofNat_of_zero_le q.lo
      exact entry_view tt_ok (inlN_ok tt_ok Cr7_ok mixed ILz_ok.ok 6) Cr7_ok mixed Tryd.func76 [id, id2] (x_l07Length m n m2 n l p cap cap2 q qp) rfl rfl ⟨.inr (by rw [hg]; rfl), .inr (by rw [hg2]; rfl), trivial⟩ hG hH hA
    · simp at he
  · simp at he
noncomputable def Er8 : List (FuncId × Entry) := (76, gLnS) :: Er7
theorem Er8_ok : EntriesOk Tryd.prog TT Er8 := ⟨e_l07Length, Er7_ok⟩
noncomputable abbrev Cr8 : Ctr := ctrOfM Er8 Mr7
theorem Cr8_ok : CtrOk Tryd.prog TT Cr8 := ctrOfM_ok Er8_ok Mr7_ok
noncomputable def ILln  : List (FuncId × Func × (Nat → LM)) := [
  (79, Tryd.f79, U0),
  (78, Tryd.f78, U0),
  (75, Tryd.f75, U0),
  (98, Tryd.f98, U0),
  (101, Tryd.f101, U0)]
theorem ILln_ok  : InlsOk Tryd.prog ILln := ⟨⟨Tryd.func79, by kernel_rfl⟩, ⟨Tryd.func78, by kernel_rfl⟩, ⟨Tryd.func75, by kernel_rfl⟩, ⟨Tryd.func98, by kernel_rfl⟩, ⟨Tryd.func101, by kernel_rfl⟩, trivial⟩
theorem x_LengthOfPlanI (m n m2 np : Nat) (l p : List Int) (cap cap2 h : Int) (q : Jx n m l) (qp : Pq np m2 p) : Fex true TT (inlN true TT Cr7 (lookI ILln) 6) Cr7 U0 Tryd.f44 [.a (.c (.slc 0 0 0 2 n cap)), .a (.c (.int .i64 h)), .a (.c (.slc 1 0 0 2 np cap2))] [.cells false 64 [.run [.i8, .u16] m l], .cells false 89 [.run [.i8, .i16] m2 p]] (fun lv _ => leL lv (.tup [.c (.int .i64 (lnR n l h np p)), .c (.int .i64 (plE n l h np p))])) := by
  refine Go.Sx.by_eq (q := True ∧ True ∧ True ∧ True ∧ True ∧ True ∧ True ∧ True ∧ True ∧ (((64 : Nat) = (64 : Nat) ∧ (0 : Nat) = (0 : Nat) ∧ (0 : Int) = (0 : Int) ∧ (2 : Nat) = (2 : Nat) ∧ [Go.Sx.EK.i8, Go.Sx.EK.u16] = [Go.Sx.EK.i8, Go.Sx.EK.u16]) ∧ (0 : Int) ≤ (↑n : Int) ∧ Jx (Int.toNat (↑n : Int)) m l) ∧ (vjB (Int.toNat (↑n : Int)) l = Bool.true → (1 : Int) ≤ h ∧ h ≤ (4 : Int) → True ∧ True ∧ True ∧ True ∧ True ∧ True ∧ True ∧ True ∧ True ∧ True ∧ ((((80 : Nat) = (80 : Nat) ∧ (0 : Nat) = (0 : Nat) ∧ (0 : Int) = (0 : Int) ∧ (2 : Nat) = (2 : Nat) ∧ [Go.Sx.EK.i64, Go.Sx.EK.u16] = [Go.Sx.EK.i64, Go.Sx.EK.u16]) ∧ (89 : Nat) = (89 : Nat) ∧ (0 : Nat) = (0 : Nat) ∧ (0 : Int) = (0 : Int) ∧ (2 : Nat) = (2 : Nat) ∧ [Go.Sx.EK.i8, Go.Sx.EK.i16] = [Go.Sx.EK.i8, Go.Sx.EK.i16]) ∧ Jl (↑n : Int) (Int.toNat (↑n : Int) * (2 : Nat)) (List.take (Int.toNat (↑n : Int) * (2 : Nat)) l) ∧ VJ (Int.toNat (↑n : Int)) (List.take (Int.toNat (↑n : Int) * (2 : Nat)) l) ∧ (0 : Int) ≤ (↑np : Int) ∧ Pq (Int.toNat (↑np : Int)) m2 p ∧ (1 : Int) ≤ h ∧ h ≤ (4 : Int)) ∧ ((↑np : Int) = (↑n : Int) → fwO (List.take (Int.toNat (↑n : Int) * (2 : Nat)) l) h (Int.toNat (↑n : Int)) p = Option.none → True ∧ True ∧ True ∧ True ∧ True ∧ True ∧ True ∧ True ∧ True ∧ True ∧ True ∧ True ∧ True ∧ True ∧ True ∧ True ∧ (Rq (0 : Nat) (0 : Int) (2 : Nat) [Go.Sx.EK.i8, Go.Sx.EK.i16] (24 : Nat) (80 : Nat) [Go.Sx.EK.i64, Go.Sx.EK.u16] (↑n : Int) (Int.toNat (↑n : Int) * (2 : Nat)) (List.take (Int.toNat (↑n : Int) * (2 : Nat)) l) (psA (Int.toNat (↑n : Int)) p) (↑(bsF (okB h p) (Int.toNat (↑n : Int))) : Int) ∧ (0 : Int) ≤ (↑(bsF (okB h p) (Int.toNat (↑n : Int))) : Int) ∧ ∀ (k : Nat), Nat.testBit (Int.toNat (↑(bsF (okB h p) (Int.toNat (↑n : Int))) : Int)) k = Bool.true → k < Int.toNat (↑n : Int)) ∧ True ∧ True ∧ True ∧ True ∧ True ∧ (Go.IntKind.i64 = Go.IntKind.i64 ∧ adS (List.take (Int.toNat (↑n : Int) * (2 : Nat)) l) (psA (Int.toNat (↑n : Int)) p) (Int.toNat (↑(bsF (okB h p) (Int.toNat (↑n : Int))) : Int)) (12 : Nat) = lnR n l h np p) ∧ (Go.IntKind.i64 = Go.IntKind.i64 ∧ (0 : Int) = plE n l h np p) ∧ True) ∧ (∀ (i : Nat), (↑np : Int) = (↑n : Int) → fwO (List.take (Int.toNat (↑n : Int) * (2 : Nat)) l) h (Int.toNat (↑n : Int)) p = Option.some i → True ∧ True ∧ True ∧ True ∧ True ∧ True ∧ True ∧ True ∧ True ∧ True ∧ True ∧ True ∧ True ∧ True ∧ True ∧ True ∧ ((0 : Int) = (0 : Int) ∧ (0 : Int) = (0 : Int) ∧ (0 : Int) = (0 : Int) ∧ [Go.Sx.EK.i8, Go.Sx.EK.i16] = [Go.Sx.EK.i8, Go.Sx.EK.i16] ∧ (24 : Nat) = (24 : Nat) ∧ List.replicate (24 : Nat) (0 : Int) = List.replicate (24 : Nat) (0 : Int)) ∧ True ∧ True ∧ ((117 : Nat) = (117 : Nat) ∧ [Go.Sx.EK.i64] = [Go.Sx.EK.i64] ∧ (1 : Nat) = (1 : Nat)) ∧ True ∧ True ∧ (Go.IntKind.i64 = Go.IntKind.i64 ∧ (0 : Int) = lnR n l h np p) ∧ (Go.IntKind.i64 = Go.IntKind.i64 ∧ (1 : Int) = plE n l h np p) ∧ True) ∧ (¬(↑np : Int) = (↑n : Int) → True ∧ True ∧ True ∧ True ∧ True ∧ True ∧ True ∧ True ∧ True ∧ True ∧ True ∧ True ∧ True ∧ True ∧ True ∧ True ∧ ((0 : Int) = (0 : Int) ∧ (0 : Int) = (0 : Int) ∧ (0 : Int) = (0 : Int) ∧ [Go.Sx.EK.i8, Go.Sx.EK.i16] = [Go.Sx.EK.i8, Go.Sx.EK.i16] ∧ (24 : Nat) = (24 : Nat) ∧ List.replicate (24 : Nat) (0 : Int) = List.replicate (24 : Nat) (0 : Int)) ∧ True ∧ True ∧ (126 : Nat) = (126 : Nat) ∧ True ∧ True ∧ (Go.IntKind.i64 = Go.IntKind.i64 ∧ (0 : Int) = lnR n l h np p) ∧ (Go.IntKind.i64 = Go.IntKind.i64 ∧ (1 : Int) = plE n l h np p) ∧ True)) ∧ (vjB (Int.toNat (↑n : Int)) l = Bool.true → ¬((1 : Int) ≤ h ∧ h ≤ (4 : Int)) → True ∧ True ∧ True ∧ True ∧ True ∧ True ∧ True ∧ True ∧ True ∧ True ∧ True ∧ True ∧ True ∧ True ∧ True ∧ True ∧ True ∧ True ∧ True ∧ True ∧ True ∧ True ∧ True ∧ True ∧ ((0 : Int) = (0 : Int) ∧ (0 : Int) = (0 : Int) ∧ (0 : Int) = (0 : Int) ∧ [Go.Sx.EK.i8, Go.Sx.EK.i16] = [Go.Sx.EK.i8, Go.Sx.EK.i16] ∧ (24 : Nat) = (24 : Nat) ∧ List.replicate (24 : Nat) (0 : Int) = List.replicate (24 : Nat) (0 : Int)) ∧ True ∧ True ∧ (126 : Nat) = (126 : Nat) ∧ True ∧ True ∧ (Go.IntKind.i64 = Go.IntKind.i64 ∧ (0 : Int) = lnR n l h np p) ∧ (Go.IntKind.i64 = Go.IntKind.i64 ∧ (2 : Int) = plE n l h np p) ∧ True) ∧ (vjB (Int.toNat (↑n : Int)) l = Bool.false → True ∧ True ∧ True ∧ True ∧ True ∧ True ∧ True ∧ True ∧ True ∧ True ∧ True ∧ True ∧ True ∧ True ∧ True ∧ True ∧ True ∧ True ∧ True ∧ True ∧ True ∧ True ∧ True ∧ True ∧ ((0 : Int) = (0 : Int) ∧ (0 : Int) = (0 : Int) ∧ (0 : Int) = (0 : Int) ∧ [Go.Sx.EK.i8, Go.Sx.EK.i16] = [Go.Sx.EK.i8, Go.Sx.EK.i16] ∧ (24 : Nat) = (24 : Nat) ∧ List.replicate (24 : Nat) (0 : Int) = List.replicate (24 : Nat) (0 : Int)) ∧ True ∧ True ∧ (126 : Nat) = (126 : Nat) ∧ True ∧ True ∧ (Go.IntKind.i64 = Go.IntKind.i64 ∧ (0 : Int) = lnR n l h np p) ∧ (Go.IntKind.i64 = Go.IntKind.i64 ∧ (1 : Int) = plE n l h np p) ∧ True)) (by kernel_rfl) ?_
  simp only [true_and, and_true, and_self, decide_eq_true_eq, decide_eq_false_iff_not, Bool.not_eq_true', Bool.not_eq_false', Bool.not_true, Bool.not_false, beq_iff_eq, beq_eq_false_iff_ne, bne_iff_ne, bne_eq_false_iff_eq, ne_eq, not_true_eq_false, not_false_eq_true, false_implies, true_implies, implies_true, forall_const, exists_const, ↓reduceIte, Int.reduceEq, Int.toNat_natCast, Bool.false_eq_true, Bool.true_eq_false, reduceCtorEq, Int.zero_add, Nat.add_zero, Int.ofNat_eq_natCast, Int.toNat_natCast]
  have sm : Sm n (l.take (n * 2)) l := Sm.take
  refine ⟨⟨by omega, q⟩, fun hv hh => ?_, fun hv hh => ?_, fun hv => ?_⟩
  · have v := vjB_t.1 hv
    have v' := sm.vj v
    have hn12 := v.hi
    have jt := q.jt2 v
    obtain ⟨p1, p2, sw⟩ := id qp
    refine ⟨⟨jt, v', by omega, qp, hh.1, hh.2⟩, fun hn hf => ?_, fun i hn hf => ?_, fun hn => ?_⟩
    · have hnn : np = n := by omega
      subst hnn
      rw [sm.fw'] at hf
      have e := pl_0 hv hh rfl hf
      have hp24 := psA_sw (n := np) (p := p) (by omega) sw
      refine ⟨⟨⟨⟨rfl, rfl, rfl, rfl, rfl, rfl, rfl⟩, jt, v', hp24, by omega⟩, by omega, fun k hk => ?_⟩, ?_, e.symm⟩
      · rw [bsF_bit] at hk
        simp only [Bool.and_eq_true, decide_eq_true_eq] at hk
        exact hk.1
      · rw [lnR, if_pos e, ← sm.ln np (Nat.le_refl _)]
        exact ln_ad (by omega) (by omega) (by rw [sm.fw']; exact hf)
    · rw [sm.fw'] at hf
      have e := pl_4 (np := np) hv hh hf
      exact ⟨(ln_e e (by decide)).symm, e.symm⟩
    · have e := pl_3 (p := p) hv hh (show ¬ np = n by omega)
      exact ⟨(ln_e e (by decide)).symm, e.symm⟩
  · have e := pl_2 (np := np) (p := p) hv hh
    exact ⟨(ln_e e (by decide)).symm, e.symm⟩
  · have e := pl_1 (h := h) (np := np) (p := p) hv
    exact ⟨(ln_e e (by decide)).symm, e.symm⟩
theorem x_LengthOfPlanS (m n m2 np : Nat) (l p : List Int) (cap cap2 h : Int) (q : Jx n m l) (qp : Pq np m2 p) : Fex true TT (inlN true TT Cr8 (lookI ILln) 6) Cr8 U0 Tryd.f42 [.a (.c (.slc 0 0 0 2 n cap)), .a (.c (.int .i64 h)), .a (.c (.slc 1 0 0 2 np cap2))] [.cells false 64 [.run [.i8, .u16] m l], .cells false 89 [.run [.i8, .i16] m2 p]] (fun lv _ => leL lv (.tup [.c (.int .i64 (lnR n l h np p)), .c (.int .i64 (plE n l h np p))])) := by
  refine Go.Sx.by_eq (q := True ∧ True ∧ True ∧ True ∧ True ∧ True ∧ True ∧ (((64 : Nat) = (64 : Nat) ∧ (0 : Nat) = (0 : Nat) ∧ (0 : Int) = (0 : Int) ∧ (2 : Nat) = (2 : Nat) ∧ [Go.Sx.EK.i8, Go.Sx.EK.u16] = [Go.Sx.EK.i8, Go.Sx.EK.u16]) ∧ (0 : Int) ≤ (↑n : Int) ∧ Jx (Int.toNat (↑n : Int)) m l) ∧ True ∧ ((!vjB (Int.toNat (↑n : Int)) l) = Bool.true → True ∧ True ∧ True ∧ True ∧ True ∧ True ∧ True ∧ (Go.IntKind.i64 = Go.IntKind.i64 ∧ (0 : Int) = lnR n l h np p) ∧ (Go.IntKind.i64 = Go.IntKind.i64 ∧ (1 : Int) = plE n l h np p) ∧ True) ∧ ((!vjB (Int.toNat (↑n : Int)) l) = Bool.false → True ∧ True ∧ True ∧ True ∧ True ∧ True ∧ ((!(Decidable.decide ((1 : Int) ≤ h) && Decidable.decide (h ≤ (4 : Int)))) = Bool.true → True ∧ True ∧ True ∧ True ∧ True ∧ True ∧ True ∧ (Go.IntKind.i64 = Go.IntKind.i64 ∧ (0 : Int) = lnR n l h np p) ∧ (Go.IntKind.i64 = Go.IntKind.i64 ∧ (2 : Int) = plE n l h np p) ∧ True) ∧ ((!(Decidable.decide ((1 : Int) ≤ h) && Decidable.decide (h ≤ (4 : Int)))) = Bool.false → True ∧ True ∧ True ∧ True ∧ True ∧ True ∧ True ∧ True ∧ True ∧ True ∧ (((↑np : Int) == (↑n : Int)) = Bool.true → True ∧ True ∧ True ∧ ((((64 : Nat) = (64 : Nat) ∧ (0 : Nat) = (0 : Nat) ∧ (0 : Int) = (0 : Int) ∧ (2 : Nat) = (2 : Nat) ∧ [Go.Sx.EK.i8, Go.Sx.EK.u16] = [Go.Sx.EK.i8, Go.Sx.EK.u16]) ∧ (89 : Nat) = (89 : Nat) ∧ (0 : Nat) = (0 : Nat) ∧ (0 : Int) = (0 : Int) ∧ (2 : Nat) = (2 : Nat) ∧ [Go.Sx.EK.i8, Go.Sx.EK.i16] = [Go.Sx.EK.i8, Go.Sx.EK.i16]) ∧ Jl (↑n : Int) m l ∧ VJ (Int.toNat (↑n : Int)) l ∧ (↑np : Int) = (↑n : Int) ∧ Pq (Int.toNat (↑n : Int)) m2 p ∧ (1 : Int) ≤ h ∧ h ≤ (4 : Int)) ∧ True ∧ True ∧ True ∧ True ∧ ((!Decidable.decide (fwI l h (Int.toNat (↑n : Int)) p < (0 : Int))) = Bool.true → True ∧ True ∧ True ∧ True ∧ True ∧ True ∧ True ∧ (Go.IntKind.i64 = Go.IntKind.i64 ∧ (0 : Int) = lnR n l h np p) ∧ (Go.IntKind.i64 = Go.IntKind.i64 ∧ (1 : Int) = plE n l h np p) ∧ True) ∧ ((!Decidable.decide (fwI l h (Int.toNat (↑n : Int)) p < (0 : Int))) = Bool.false → True ∧ True ∧ True ∧ True ∧ True ∧ True ∧ ((((64 : Nat) = (64 : Nat) ∧ (0 : Nat) = (0 : Nat) ∧ (0 : Int) = (0 : Int) ∧ (2 : Nat) = (2 : Nat) ∧ [Go.Sx.EK.i8, Go.Sx.EK.u16] = [Go.Sx.EK.i8, Go.Sx.EK.u16]) ∧ (89 : Nat) = (89 : Nat) ∧ (0 : Nat) = (0 : Nat) ∧ (0 : Int) = (0 : Int) ∧ (2 : Nat) = (2 : Nat) ∧ [Go.Sx.EK.i8, Go.Sx.EK.i16] = [Go.Sx.EK.i8, Go.Sx.EK.i16]) ∧ Jl (↑n : Int) m l ∧ (↑np : Int) = (↑n : Int) ∧ Pq (Int.toNat (↑n : Int)) m2 p) ∧ True ∧ True ∧ (Go.IntKind.i64 = Go.IntKind.i64 ∧ lnS l p (Int.toNat (↑n : Int)) = lnR n l h np p) ∧ (Go.IntKind.i64 = Go.IntKind.i64 ∧ (0 : Int) = plE n l h np p) ∧ True)) ∧ (((↑np : Int) == (↑n : Int)) = !Bool.true → True ∧ True ∧ True ∧ True ∧ True ∧ True ∧ True ∧ True ∧ True ∧ True ∧ (Go.IntKind.i64 = Go.IntKind.i64 ∧ (0 : Int) = lnR n l h np p) ∧ (Go.IntKind.i64 = Go.IntKind.i64 ∧ (1 : Int) = plE n l h np p) ∧ True)))) (by kernel_rfl) ?_
  simp only [true_and, and_true, and_self, decide_eq_true_eq, decide_eq_false_iff_not, Bool.not_eq_true', Bool.not_eq_false', Bool.not_true, Bool.not_false, beq_iff_eq, beq_eq_false_iff_ne, bne_iff_ne, bne_eq_false_iff_eq, ne_eq, not_true_eq_false, not_false_eq_true, false_implies, true_implies, implies_true, forall_const, exists_const, ↓reduceIte, Int.reduceEq, Int.toNat_natCast, Bool.false_eq_true, Bool.true_eq_false, reduceCtorEq, Int.zero_add, Nat.add_zero, Int.ofNat_eq_natCast, Int.toNat_natCast, Bool.and_eq_true, Bool.and_eq_false_iff]
  have hneg : fwI l h n p < 0 ↔ fwO l h n p = none := by
    rw [fwI]
    cases fwO l h n p with
    | none => simp
    | some i => simp
  refine ⟨⟨by omega, q⟩, fun hv => ?_, fun hv => ⟨fun hh => ?_, fun hh => ⟨fun hn => ?_, fun hn => ?_⟩⟩⟩
  · have e := pl_1 (h := h) (np := np) (p := p) hv
    exact ⟨(ln_e e (by decide)).symm, e.symm⟩
  · have e := pl_2 (np := np) (p := p) hv (show ¬ (1 ≤ h ∧ h ≤ 4) by omega)
    exact ⟨(ln_e e (by decide)).symm, e.symm⟩
  · have hnn : np = n := by omega
    subst hnn
    have v := vjB_t.1 hv
    have jl := q.jl2 v
    refine ⟨⟨jl, v, rfl, qp, hh.1, hh.2⟩, fun hf => ?_, fun hf => ⟨⟨jl, rfl, qp⟩, ?_⟩⟩
    · cases hf' : fwO l h np p with
      | none => exact absurd (hneg.2 hf') hf
      | some i =>
        have e := pl_4 (np := np) hv (show 1 ≤ h ∧ h ≤ 4 by omega) hf'
        exact ⟨(ln_e e (by decide)).symm, e.symm⟩
    · have e := pl_0 hv (show 1 ≤ h ∧ h ≤ 4 by omega) rfl (hneg.1 hf)
      exact ⟨by rw [lnR, if_pos e], e.symm⟩
  · have e := pl_3 (p := p) hv (show 1 ≤ h ∧ h ≤ 4 by omega) (show ¬ np = n by omega)
    exact ⟨(ln_e e (by decide)).symm, e.symm⟩
/-! ### Functions of jobs, hands and a plan -/
noncomputable def gJp (R : Nat → List Int → Int → Nat → List Int → LV) : Entry := fun args H => match args with
  | [.a (.c (.slc id b z s len _)), .a (.c (.int .i64 h)), .a (.c (.slc id2 b2 z2 s2 len2 _))] => match getB H id, getB H id2 with
    | .cells _ t [.run ks m l], .cells _ t2 [.run ks2 m2 p] => some (((t = 64 ∧ b = 0 ∧ z = 0 ∧ s = 2 ∧ ks = [.i8, .u16]) ∧ (t2 = 89 ∧ b2 = 0 ∧ z2 = 0 ∧ s2 = 2 ∧ ks2 = [.i8, .i16])) ∧ 0 ≤ len ∧ Jx len.toNat m l ∧ 0 ≤ len2 ∧ Pq len2.toNat m2 p, R len.toNat l h len2.toNat p)
    | _, _ => none
  | _ => none
theorem gJp_ok {f : FuncId} {fn : Func} {R : Nat → List Int → Int → Nat → List Int → LV} (hR : ∀ n l h np p k, rnL k (R n l h np p) = R n l h np p) (hI0 : ∀ n l h np p, inL 0 (R n l h np p) = true) {C : Ctr} (hC : CtrOk Tryd.prog TT C) {inl : Nat → List Int → Int → Nat → List Int → FuncId → Option (Func × (Nat → LM))} (hI : ∀ n l h np p, InlOk Tryd.prog (inl n l h np p)) {Λ : Nat → List Int → Int → Nat → List Int → Nat → LM}
    (hf : Tryd.prog.funcs[f]? = some fn) (h2 : (fn.name == "runtime.NumGoroutine") = false) (h3 : fn.body.isNone = false)
    (x : ∀ (m n m2 np : Nat) (l p : List Int) (cap cap2 h : Int), Jx n m l → Pq np m2 p → Fex true TT (inlN true TT C (inl n l h np p) 6) C (Λ n l h np p) fn [.a (.c (.slc 0 0 0 2 n cap)), .a (.c (.int .i64 h)), .a (.c (.slc 1 0 0 2 np cap2))] [.cells false 64 [.run [.i8, .u16] m l], .cells false 89 [.run [.i8, .i16] m2 p]] (fun lv _ => leL lv (R n l h np p))) :
    EntryOk Tryd.prog TT f (gJp R) := by
  refine ⟨fnOk hf h2 h3, ?_⟩
  intro args H pp r he hp n0 w0 β w vals hG hH hA
  unfold gJp at he
  split at he
  · split at he
    · rename_i id b z s len cap h id2 b2 z2 s2 len2 cap2 _ _ o t ks m l o2 t2 ks2 m2 p hg hg2
      simp only [Option.some.injEq, Prod.mk.injEq] at he
      obtain ⟨rfl, rfl⟩ := he
      obtain ⟨⟨⟨rfl, rfl, rfl, rfl, rfl⟩, rfl, rfl, rfl, rfl, rfl⟩, h0, q, h1, qp⟩ := hp
      obtain ⟨n, rfl⟩ := Int.eq_ofNat_of_zero_le h0
      obtain ⟨np, rfl⟩ := Int.eq_ofNat_of_zero_le h1
      simp only [Int.ofNat_eq_natCast, Int.toNat_natCast] at *
      exact entry_view tt_ok (inlN_ok tt_ok hC mixed (hI n l h np p) 6) hC mixed hf [id, id2] (x m n m2 np l p cap cap2 h q qp) (hI0 n l h np p) rfl ⟨.inr (by rw [hg]; rfl), .inr (by rw [hg2]; rfl), trivial⟩ hG hH hA
    · simp at he
  · simp at he
noncomputable def lnP (n : Nat) (l : List Int) (h : Int) (np : Nat) (p : List Int) : LV := .tup [.c (.int .i64 (lnR n l h np p)), .c (.int .i64 (plE n l h np p))]
theorem e_LengthOfPlanS : EntryOk Tryd.prog TT 42 (gJp lnP) := gJp_ok (fun _ _ _ _ _ _ => rfl) (fun _ _ _ _ _ => rfl) Cr8_ok (inl := fun _ _ _ _ _ => lookI ILln) (Λ := fun _ _ _ _ _ => U0) (fun _ _ _ _ _ => ILln_ok.ok) Tryd.func42 (by kernel_rfl) rfl x_LengthOfPlanS
theorem e_LengthOfPlanI : EntryOk Tryd.prog TT 44 (gJp lnP) := gJp_ok (fun _ _ _ _ _ _ => rfl) (fun _ _ _ _ _ => rfl) Cr7_ok (inl := fun _ _ _ _ _ => lookI ILln) (Λ := fun _ _ _ _ _ => U0) (fun _ _ _ _ _ => ILln_ok.ok) Tryd.func44 (by kernel_rfl) rfl x_LengthOfPlanI
end Go.Proofs.YtagdkibmlfjggaaDoor
