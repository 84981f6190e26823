/- ValidSlots: both sides. No conditions beyond the ranges of the kinds. -/
import Derived.Test.YtagdkibmlfjggaaPl4
import Derived.Test.YtagdkibmlfjggaaCrw
set_option linter.unusedSimpArgs false
set_option linter.unusedVariables false
namespace Go.Proofs.Ytagdkibmlfjggaa
open Go.Sx Go.RowKit

noncomputable def Mr5 : List (FuncId × EntryC) := (31, gWs) :: (30, gCrw) :: Mj4
theorem Mr5_ok : EntriesCOk Try.prog TT Mr5 := ⟨e_withSlots, e_crw, Mj4_ok⟩
noncomputable def Er5 : List (FuncId × Entry) := (29, gFt) :: (35, gSlS) :: (37, gDnS) :: Er4
theorem Er5_ok : EntriesOk Try.prog TT Er5 := ⟨e_l07Fault, e_l07Slot, e_l07Done, Er4_ok⟩
noncomputable abbrev Cr5 : Ctr := ctrOfM Er5 Mr5
theorem Cr5_ok : CtrOk Try.prog TT Cr5 := ctrOfM_ok Er5_ok Mr5_ok
/-- Is a plan valid? -/
noncomputable def vsB (n : Nat) (l : List Int) (h : Int) (np : Nat) (p : List Int) : Bool := vjB n l && decide (1 ≤ h ∧ h ≤ 4) && decide (np = n) && (fwO l h n p).isNone
theorem fwI_neg {l : List Int} {h : Int} {n : Nat} {p : List Int} : decide (fwI l h n p < 0) = (fwO l h n p).isNone := by
  rw [fwI]
  cases fwO l h n p with
  | none => rfl
  | some i => simp
theorem Sm.fw {n : Nat} {l l' : List Int} (s : Sm n l l') {h : Int} {p : List Int} : fwO l h n p = fwO l' h n p := by
  have hj : ∀ i j, i < n → j < n → fjB l h p i j = fjB l' h p i j := fun i j hi hj => by
    rw [fjB, fjB, s.af hi, dnP, dnP, dnP, dnP, s.dy hi, s.dy hj]
  have ha : ∀ i, i < n → ∀ xs : List Nat, (∀ x ∈ xs, x < n) → xs.any (fjB l h p i) = xs.any (fjB l' h p i) := by
    intro i hi xs
    induction xs with
    | nil => intro _; rfl
    | cons x xs ih => intro hx; rw [List.any_cons, List.any_cons, ih fun y hy => hx y (by simp [hy]), hj i x hi (hx x (by simp))]
  have hf : ∀ xs : List Nat, (∀ x ∈ xs, x < n) → xs.find? (ftB l h n p) = xs.find? (ftB l' h n p) := by
    intro xs
    induction xs with
    | nil => intro _; rfl
    | cons x xs ih =>
      intro hx
      rw [List.find?_cons, List.find?_cons, ih fun y hy => hx y (by simp [hy])]
      rw [ftB, ftB, ha x (hx x (by simp)) _ fun y hy => List.mem_range.1 hy]
  exact hf _ fun x hx => List.mem_range.1 hx
noncomputable def ILvs  : List (FuncId × Func × (Nat → LM)) := [
  (19, Try.f19, U0),
  (20, Try.f20, U0),
  (22, Try.f22, U0)]
theorem ILvs_ok  : InlsOk Try.prog ILvs := ⟨⟨Try.func19, by kernel_rfl⟩, ⟨Try.func20, by kernel_rfl⟩, ⟨Try.func22, by kernel_rfl⟩, trivial⟩
theorem x_ValidSlotsS (m n m2 np : Nat) (l p : List Int) (cap cap2 h : Int) (q : Jx n m l) (qp : Pq np m2 p) : Fex true TT (inlN true TT Cr5 (lookI ILvs) 6) Cr5 U0 Try.f11 [.a (.c (.slc 0 0 0 2 n cap)), .a (.c (.int .i64 h)), .a (.c (.slc 1 0 0 2 np cap2))] [.cells false 39 [.run [.i8, .u16] m l], .cells false 52 [.run [.i8, .i16] m2 p]] (fun lv _ => leL lv (.a (.c (.bool (vsB n l h np p))))) := by
  refine Go.Sx.by_eq (q := True ∧ True ∧ (((39 : Nat) = (39 : Nat) ∧ (0 : Nat) = (0 : Nat) ∧ (0 : Int) = (0 : Int) ∧ (2 : Nat) = (2 : Nat) ∧ [Go.Sx.EK.i8, Go.Sx.EK.u16] = [Go.Sx.EK.i8, Go.Sx.EK.u16]) ∧ (0 : Int) ≤ (↑n : Int) ∧ Jx (Int.toNat (↑n : Int)) m l) ∧ True ∧ (vjB (Int.toNat (↑n : Int)) l = Bool.true → True ∧ True ∧ True ∧ True ∧ True ∧ True ∧ True ∧ ((Decidable.decide ((1 : Int) ≤ h) && Decidable.decide (h ≤ (4 : Int))) = Bool.true → True ∧ True ∧ True ∧ True ∧ True ∧ True ∧ True ∧ True ∧ True ∧ True ∧ (((↑np : Int) == (↑n : Int)) = Bool.true → True ∧ True ∧ True ∧ ((((39 : Nat) = (39 : Nat) ∧ (0 : Nat) = (0 : Nat) ∧ (0 : Int) = (0 : Int) ∧ (2 : Nat) = (2 : Nat) ∧ [Go.Sx.EK.i8, Go.Sx.EK.u16] = [Go.Sx.EK.i8, Go.Sx.EK.u16]) ∧ (52 : Nat) = (52 : Nat) ∧ (0 : Nat) = (0 : Nat) ∧ (0 : Int) = (0 : Int) ∧ (2 : Nat) = (2 : Nat) ∧ [Go.Sx.EK.i8, Go.Sx.EK.i16] = [Go.Sx.EK.i8, Go.Sx.EK.i16]) ∧ Jl (↑n : Int) m l ∧ VJ (Int.toNat (↑n : Int)) l ∧ (↑np : Int) = (↑n : Int) ∧ Pq (Int.toNat (↑n : Int)) m2 p ∧ (1 : Int) ≤ h ∧ h ≤ (4 : Int)) ∧ True ∧ True ∧ True ∧ True ∧ True ∧ Decidable.decide (fwI l h (Int.toNat (↑n : Int)) p < (0 : Int)) = vsB n l h np p) ∧ (((↑np : Int) == (↑n : Int)) = !Bool.true → True ∧ True ∧ True ∧ True ∧ vsB n l h np p = Bool.false)) ∧ ((Decidable.decide ((1 : Int) ≤ h) && Decidable.decide (h ≤ (4 : Int))) = !Bool.true → True ∧ True ∧ vsB n l h np p = Bool.false)) ∧ (vjB (Int.toNat (↑n : Int)) l = !Bool.true → True ∧ True ∧ True ∧ True ∧ vsB n l h np p = Bool.false)) (by kernel_rfl) ?_
  simp only [true_and, and_true, and_self, decide_eq_true_eq, decide_eq_false_iff_not, Bool.not_eq_true', Bool.not_eq_false', Bool.not_true, Bool.not_false, beq_iff_eq, beq_eq_false_iff_ne, bne_iff_ne, bne_eq_false_iff_eq, ne_eq, not_true_eq_false, not_false_eq_true, false_implies, true_implies, implies_true, forall_const, exists_const, ↓reduceIte, Int.reduceEq, Int.toNat_natCast, Bool.false_eq_true, Bool.true_eq_false, reduceCtorEq, Int.zero_add, Nat.add_zero, Int.ofNat_eq_natCast, Int.toNat_natCast, Bool.and_eq_true, Bool.and_eq_false_iff]
  refine ⟨⟨by omega, q⟩, fun hv => ⟨fun hh => ⟨fun hn => ?_, fun hn => ?_⟩, fun hh => ?_⟩, fun hv => by rw [vsB, hv]; rfl⟩
  · have hnn : np = n := by omega
    subst hnn
    exact ⟨⟨q.jl2 (vjB_t.1 hv), vjB_t.1 hv, rfl, qp, hh.1, hh.2⟩, by rw [fwI_neg, vsB, hv, decide_eq_true hh, decide_eq_true rfl]; rfl⟩
  · rw [vsB, decide_eq_false (show ¬ np = n by omega), Bool.and_false, Bool.false_and]
  · rw [vsB, decide_eq_false (show ¬ (1 ≤ h ∧ h ≤ 4) by omega), Bool.and_false, Bool.false_and, Bool.false_and]
theorem x_ValidSlotsI (m n m2 np : Nat) (l p : List Int) (cap cap2 h : Int) (q : Jx n m l) (qp : Pq np m2 p) : Fex true TT (inlN true TT Cr5 (lookI ILvs) 6) Cr5 U0 Try.f13 [.a (.c (.slc 0 0 0 2 n cap)), .a (.c (.int .i64 h)), .a (.c (.slc 1 0 0 2 np cap2))] [.cells false 39 [.run [.i8, .u16] m l], .cells false 52 [.run [.i8, .i16] m2 p]] (fun lv _ => leL lv (.a (.c (.bool (vsB n l h np p))))) := by
  refine Go.Sx.by_eq (q := True ∧ True ∧ True ∧ True ∧ True ∧ True ∧ True ∧ True ∧ (((39 : Nat) = (39 : Nat) ∧ (0 : Nat) = (0 : Nat) ∧ (0 : Int) = (0 : Int) ∧ (2 : Nat) = (2 : Nat) ∧ [Go.Sx.EK.i8, Go.Sx.EK.u16] = [Go.Sx.EK.i8, Go.Sx.EK.u16]) ∧ (0 : Int) ≤ (↑n : Int) ∧ Jx (Int.toNat (↑n : Int)) m l) ∧ (vjB (Int.toNat (↑n : Int)) l = Bool.true → (1 : Int) ≤ h ∧ h ≤ (4 : Int) → True ∧ True ∧ True ∧ True ∧ True ∧ True ∧ True ∧ True ∧ True ∧ True ∧ ((((85 : Nat) = (85 : Nat) ∧ (0 : Nat) = (0 : Nat) ∧ (0 : Int) = (0 : Int) ∧ (2 : Nat) = (2 : Nat) ∧ [Go.Sx.EK.i64, Go.Sx.EK.u16] = [Go.Sx.EK.i64, Go.Sx.EK.u16]) ∧ (52 : Nat) = (52 : Nat) ∧ (0 : Nat) = (0 : Nat) ∧ (0 : Int) = (0 : Int) ∧ (2 : Nat) = (2 : Nat) ∧ [Go.Sx.EK.i8, Go.Sx.EK.i16] = [Go.Sx.EK.i8, Go.Sx.EK.i16]) ∧ Jl (↑n : Int) (Int.toNat (↑n : Int) * (2 : Nat)) (List.take (Int.toNat (↑n : Int) * (2 : Nat)) l) ∧ VJ (Int.toNat (↑n : Int)) (List.take (Int.toNat (↑n : Int) * (2 : Nat)) l) ∧ (0 : Int) ≤ (↑np : Int) ∧ Pq (Int.toNat (↑np : Int)) m2 p ∧ (1 : Int) ≤ h ∧ h ≤ (4 : Int)) ∧ ((↑np : Int) = (↑n : Int) → fwO (List.take (Int.toNat (↑n : Int) * (2 : Nat)) l) h (Int.toNat (↑n : Int)) p = Option.none → True ∧ True ∧ True ∧ True ∧ True ∧ True ∧ True ∧ True ∧ True ∧ True ∧ True ∧ True ∧ True ∧ vsB n l h np p = Bool.true) ∧ (∀ (i : Nat), (↑np : Int) = (↑n : Int) → fwO (List.take (Int.toNat (↑n : Int) * (2 : Nat)) l) h (Int.toNat (↑n : Int)) p = Option.some i → True ∧ True ∧ True ∧ True ∧ True ∧ True ∧ True ∧ True ∧ True ∧ True ∧ True ∧ True ∧ True ∧ vsB n l h np p = Bool.false) ∧ (¬(↑np : Int) = (↑n : Int) → True ∧ True ∧ True ∧ True ∧ True ∧ True ∧ True ∧ True ∧ True ∧ True ∧ True ∧ True ∧ True ∧ vsB n l h np p = Bool.false)) ∧ (vjB (Int.toNat (↑n : Int)) l = Bool.true → ¬((1 : Int) ≤ h ∧ h ≤ (4 : Int)) → True ∧ True ∧ True ∧ True ∧ True ∧ True ∧ True ∧ True ∧ True ∧ True ∧ True ∧ True ∧ True ∧ True ∧ True ∧ True ∧ True ∧ True ∧ True ∧ True ∧ True ∧ vsB n l h np p = Bool.false) ∧ (vjB (Int.toNat (↑n : Int)) l = Bool.false → True ∧ True ∧ True ∧ True ∧ True ∧ True ∧ True ∧ True ∧ True ∧ True ∧ True ∧ True ∧ True ∧ True ∧ True ∧ True ∧ True ∧ True ∧ True ∧ True ∧ True ∧ vsB n l h np p = Bool.false)) (by kernel_rfl) ?_
  simp only [true_and, and_true, and_self, decide_eq_true_eq, decide_eq_false_iff_not, Bool.not_eq_true', Bool.not_eq_false', Bool.not_true, Bool.not_false, beq_iff_eq, beq_eq_false_iff_ne, bne_iff_ne, bne_eq_false_iff_eq, ne_eq, not_true_eq_false, not_false_eq_true, false_implies, true_implies, implies_true, forall_const, exists_const, ↓reduceIte, Int.reduceEq, Int.toNat_natCast, Bool.false_eq_true, Bool.true_eq_false, reduceCtorEq, Int.zero_add, Nat.add_zero, Int.ofNat_eq_natCast, Int.toNat_natCast, Bool.and_eq_true, Bool.and_eq_false_iff]
  have sm : Sm n (l.take (n * 2)) l := Sm.take
  refine ⟨⟨by omega, q⟩, fun hv hh => ⟨⟨q.jt2 (vjB_t.1 hv), sm.vj (vjB_t.1 hv), by omega, qp, hh.1, hh.2⟩, fun hn hf => ?_, fun i hn hf => ?_, fun hn => ?_⟩, fun hv hh => ?_, fun hv => by rw [vsB, hv]; rfl⟩
  · rw [sm.fw] at hf
    rw [vsB, hv, decide_eq_true hh, decide_eq_true (show np = n by omega), hf]; rfl
  · rw [sm.fw] at hf
    rw [vsB, hf]; simp
  · rw [vsB, decide_eq_false (show ¬ np = n by omega), Bool.and_false, Bool.false_and]
  · rw [vsB, decide_eq_false hh, Bool.and_false, Bool.false_and, Bool.false_and]
/-- Functions of jobs, hands and a plan that answer whether something is so. -/
noncomputable def gVs (F : Nat → List Int → Int → Nat → List Int → Bool) : Entry := fun args H => match args with
  | [.a (.c (.slc id b z s len _)), .a (.c (.int .i64 h)), .a (.c (.slc id2 b2 z2 s2 len2 _))] => match getB H id, getB H id2 with
    | .cells _ t [.run ks m l], .cells _ t2 [.run ks2 m2 p] => some (((t = 39 ∧ b = 0 ∧ z = 0 ∧ s = 2 ∧ ks = [.i8, .u16]) ∧ (t2 = 52 ∧ b2 = 0 ∧ z2 = 0 ∧ s2 = 2 ∧ ks2 = [.i8, .i16])) ∧ 0 ≤ len ∧ Jx len.toNat m l ∧ 0 ≤ len2 ∧ Pq len2.toNat m2 p, .a (.c (.bool (F len.toNat l h len2.toNat p))))
    | _, _ => none
  | _ => none
theorem gVs_ok {f : FuncId} {fn : Func} {F : Nat → List Int → Int → Nat → List Int → Bool} {C : Ctr} (hC : CtrOk Try.prog TT C) {inl : FuncId → Option (Func × (Nat → LM))} (hI : InlOk Try.prog inl) {Λ : Nat → LM}
    (hf : Try.prog.funcs[f]? = some fn) (h2 : (fn.name == "runtime.NumGoroutine") = false) (h3 : fn.body.isNone = false)
    (x : ∀ (m n m2 np : Nat) (l p : List Int) (cap cap2 h : Int), Jx n m l → Pq np m2 p → Fex true TT (inlN true TT C inl 6) C Λ fn [.a (.c (.slc 0 0 0 2 n cap)), .a (.c (.int .i64 h)), .a (.c (.slc 1 0 0 2 np cap2))] [.cells false 39 [.run [.i8, .u16] m l], .cells false 52 [.run [.i8, .i16] m2 p]] (fun lv _ => leL lv (.a (.c (.bool (F n l h np p)))))) :
    EntryOk Try.prog TT f (gVs F) := by
  refine ⟨fnOk hf h2 h3, ?_⟩
  intro args H pp r he hp n0 w0 β w vals hG hH hA
  unfold gVs at he
  split at he
  · split at he
    · rename_i id b z s len cap h id2 b2 z2 s2 len2 cap2 _ _ o t ks m l o2 t2 ks2 m2 p hg hg2
      simp only [Option.some.injEq, Prod.mk.injEq] at he
      obtain ⟨rfl, rfl⟩ := he
      obtain ⟨⟨⟨rfl, rfl, rfl, rfl, rfl⟩, rfl, rfl, rfl, rfl, rfl⟩, h0, q, h1, qp⟩ := hp
      obtain ⟨n, rfl⟩ := Int.eq_ofNat_of_zero_le h0
      obtain ⟨np, rfl⟩ := Int.eq_ofNat_of_zero_le h1
      exact entry_view tt_ok (inlN_ok tt_ok hC mixed hI 6) hC mixed hf [id, id2] (x m n m2 np l p cap cap2 h q qp) rfl rfl ⟨.inr (by rw [hg]; rfl), .inr (by rw [hg2]; rfl), trivial⟩ hG hH hA
    · simp at he
  · simp at he
theorem e_ValidSlotsS : EntryOk Try.prog TT 11 (gVs vsB) := gVs_ok Cr5_ok ILvs_ok.ok Try.func11 (by kernel_rfl) rfl x_ValidSlotsS
theorem e_ValidSlotsI : EntryOk Try.prog TT 13 (gVs vsB) := gVs_ok Cr5_ok ILvs_ok.ok Try.func13 (by kernel_rfl) rfl x_ValidSlotsI
end Go.Proofs.Ytagdkibmlfjggaa
