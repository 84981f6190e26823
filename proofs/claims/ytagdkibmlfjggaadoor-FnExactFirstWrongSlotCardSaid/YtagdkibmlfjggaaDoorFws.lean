/- FirstWrongSlot: both sides. No conditions beyond the ranges of the kinds. -/
import Derived.Test.YtagdkibmlfjggaaDoorPl10
import Derived.Test.YtagdkibmlfjggaaDoorAsw
set_option linter.unusedSimpArgs false
set_option linter.unusedVariables false
namespace Go.Proofs.YtagdkibmlfjggaaDoor
open Go.Sx Go.RowKit Go.Extern.Stop Go.Stop Go.Extern

/-! ### errors.As at a wrong slot, as a contract -/
noncomputable def gAsW : EntryC := fun args H K => match args with
  | [.a (.c (.val .nilIface)), .a (.c (.ifp _ _))] => K (.a (.c (.bool false))) H
  | [.a (.c (.ifr t ks l)), .a (.c (.ifp tp id))] => match getB H id with
    | .cells true tb [.int .i64 x] => (t = 117 ∧ ks = [.i64] ∧ tp = 119) ∧ K (.a (.c (.bool true))) (H.set id (.cells true tb [.int .i64 (l.getD 0 0)]))
    | .cells true tb [.lit .i64 x] => (t = 117 ∧ ks = [.i64] ∧ tp = 119) ∧ K (.a (.c (.bool true))) (H.set id (.cells true tb [.int .i64 (l.getD 0 0)]))
    | .cells true tb [.run [.i64] 1 _] => (t = 117 ∧ ks = [.i64] ∧ tp = 119) ∧ K (.a (.c (.bool true))) (H.set id (.cells true tb [.run [.i64] 1 [l.getD 0 0]]))
    | _ => Stuck "asslot"
  | _ => Stuck "as"
theorem asW_core {n0 : Nat} {w0 : Base} {w : World} {β : List Nat} {H : List Blk} (hG : GOk TT w0) (hH : HR n0 w0 β H w) {id b : Nat} {tb : TypeId} {cs cs' : List Cel} {j : Int} (hgB : getB H id = .cells true tb cs) (hb : β[id]? = some b)
    (hc : ∀ arr : Array Value, CelsR β cs arr.toList → ∃ x, arr = #[.int .i64 x]) (hc' : CelsR β cs' [.int .i64 j]) :
    Calls Tryd.prog 82 #[.iface 117 (.agg #[.int .i64 j]), .iface 119 (.pointer (some ⟨b, 0, none⟩))] w fun e w' => e = .returned (.bool true) ∧ HR n0 w0 β (H.set id (.cells true tb cs')) w' := by
  obtain ⟨b', arr, hbb, hh, hcs⟩ := hH.get hgB
  rw [hb] at hbb
  simp only [Option.some.injEq] at hbb
  subst hbb
  obtain ⟨x, ea⟩ := hc arr hcs
  subst ea
  obtain ⟨hbn, hheap⟩ := hh (by simp)
  have ht0 : w.cell? ⟨b, 0, none⟩ = some (.int .i64 x) := by rw [cell_at hheap]; rfl
  have hf0 : w.frozen? ⟨b, 0, none⟩ = false := by simp [World.frozen?, hheap]
  have hlt : b < w.heap.size := (Array.getElem?_eq_some_iff.1 hheap).1
  refine (as_wslot j ⟨b, 0, none⟩ (.int .i64 x) w (errCell hG hH.ext) ht0 hf0).mono ?_
  rintro e w' ⟨rfl, rfl⟩
  refine ⟨rfl, ?_⟩
  have grow : ∀ {W : World} (o : Obj), W.heap[b]? = some (.cells #[.int .i64 x] tb (0, 0)) → (W.alloc o).heap[b]? = some (.cells #[.int .i64 x] tb (0, 0)) := by
    intro W o hW
    have hl := (Array.getElem?_eq_some_iff.1 hW).1
    rw [Below.heap_alloc _ _ _ hl]; exact hW
  have hX := grow (.cells #[.int .i64 j] 117) (grow (.cells #[.pointer (some ⟨1, 119, none⟩), .pointer (some ⟨w.heap.size, 0, none⟩), .int .u64 150] 144) (grow (.cells #[.pointer (some ⟨1, 119, none⟩), .pointer (some ⟨w.heap.size, 0, none⟩), .int .u64 150] 144) (grow (.cells #[.pointer (some ⟨b, 0, none⟩)] 119) hheap)))
  rw [setCell_eq_setRow _ b 0 _ _ (0, 0) _ hX]
  exact HR.set ((((hH.alloc _).alloc _).alloc _).alloc _) hgB hb hcs (by simp) (fun _ => ⟨hbn, hX⟩) hc'
theorem e_AsW : EntryCOk Tryd.prog TT 82 gAsW := by
  refine ⟨fnOk Tryd.func82 (by kernel_rfl) rfl, ?_⟩
  intro args H K h n0 w0 β w vals hG hH hA
  unfold gAsW at h
  split at h
  · obtain ⟨v1, r1, e1, h1, v2, r2, e2, h2, h3⟩ := hA
    have h1 : v1 = .nilIface := h1
    have h3 : r2 = [] := h3
    subst h1; subst h3; subst e2
    have hv : vals = #[.nilIface, v2] := Array.toList_inj.1 e1
    rw [hv]
    refine (as_nil v2 w).mono ?_
    rintro e w' ⟨rfl, rfl⟩
    exact ⟨_, [], _, _, rfl, h, by simpa using hH, rfl⟩
  · rename_i t ks l tp id
    obtain ⟨v1, r1, e1, h1, v2, r2, e2, h2, h3⟩ := hA
    obtain ⟨hl, h1⟩ : l.length = ks.length ∧ v1 = .iface t (keyV ks l) := h1
    obtain ⟨b, hb, h2⟩ : ∃ b, β[id]? = some b ∧ v2 = .iface tp (.pointer (some ⟨b, 0, none⟩)) := h2
    have h3 : r2 = [] := h3
    subst h1; subst h2; subst h3; subst e2
    have hv : vals = #[.iface t (keyV ks l), .iface tp (.pointer (some ⟨b, 0, none⟩))] := Array.toList_inj.1 e1
    rw [hv]
    split at h
    · rename_i tb x hgB
      obtain ⟨⟨rfl, rfl, rfl⟩, hk⟩ := h
      obtain ⟨j, rfl⟩ : ∃ j, l = [j] := by
        match l, hl with
        | [j], _ => exact ⟨j, rfl⟩
      refine (asW_core hG hH hgB hb (j := j) (cs' := [.int .i64 j]) ?_ ?_).mono ?_
      · rintro arr ⟨pre, rest, ec, ⟨v, rfl, hv⟩, hr⟩
        have hv : v = .int .i64 x := hv
        have hr : rest = [] := hr
        subst hv; subst hr
        exact ⟨x, Array.toList_inj.1 ec⟩
      · exact ⟨_, [], rfl, ⟨_, rfl, rfl⟩, rfl⟩
      · rintro e w' ⟨rfl, hH'⟩
        exact ⟨_, [], _, _, rfl, hk, by rw [List.append_nil]; exact hH', rfl⟩
    · rename_i tb x hgB
      obtain ⟨⟨rfl, rfl, rfl⟩, hk⟩ := h
      obtain ⟨j, rfl⟩ : ∃ j, l = [j] := by
        match l, hl with
        | [j], _ => exact ⟨j, rfl⟩
      refine (asW_core hG hH hgB hb (j := j) (cs' := [.int .i64 j]) ?_ ?_).mono ?_
      · rintro arr ⟨pre, rest, ec, ⟨v, rfl, hv⟩, hr⟩
        have hv : v = .int .i64 x := hv
        have hr : rest = [] := hr
        subst hv; subst hr
        exact ⟨x, Array.toList_inj.1 ec⟩
      · exact ⟨_, [], rfl, ⟨_, rfl, rfl⟩, rfl⟩
      · rintro e w' ⟨rfl, hH'⟩
        exact ⟨_, [], _, _, rfl, hk, by rw [List.append_nil]; exact hH', rfl⟩
    · rename_i tb L hgB
      obtain ⟨⟨rfl, rfl, rfl⟩, hk⟩ := h
      obtain ⟨j, rfl⟩ : ∃ j, l = [j] := by
        match l, hl with
        | [j], _ => exact ⟨j, rfl⟩
      refine (asW_core hG hH hgB hb (j := j) (cs' := [.run [.i64] 1 [j]]) ?_ ?_).mono ?_
      · rintro arr ⟨pre, rest, ec, ⟨hL, hv⟩, hr⟩
        have hr : rest = [] := hr
        subst hr
        rw [hv, List.append_nil] at ec
        match L, hL with
        | [x], _ => exact ⟨x, Array.toList_inj.1 ec⟩
      · exact ⟨_, [], (List.append_nil _).symm, ⟨rfl, rfl⟩, rfl⟩
      · rintro e w' ⟨rfl, hH'⟩
        exact ⟨_, [], _, _, rfl, hk, by rw [List.append_nil]; exact hH', rfl⟩
    · exact h.elim
  · exact h.elim
noncomputable def Mfw : List (FuncId × EntryC) := (82, gAsW) :: Mr7
theorem Mfw_ok : EntriesCOk Tryd.prog TT Mfw := ⟨e_AsW, Mr7_ok⟩
noncomputable abbrev Cfw : Ctr := ctrOfM Er7 Mfw
theorem Cfw_ok : CtrOk Tryd.prog TT Cfw := ctrOfM_ok Er7_ok Mfw_ok

/-! ### FirstWrongSlot -/
noncomputable def fwE (n : Nat) (l : List Int) (h : Int) (np : Nat) (p : List Int) : Int := if vjB n l = true then (if 1 ≤ h ∧ h ≤ 4 then (if np = n then (match fwO l h n p with | none => 6 | some _ => 0) else 4) else 2) else 1
noncomputable def fwV (n : Nat) (l : List Int) (h : Int) (np : Nat) (p : List Int) : Int := if fwE n l h np p = 0 then (match fwO l h n p with | none => 0 | some i => (i : Int)) else 0
theorem fw_e {n : Nat} {l : List Int} {h : Int} {np : Nat} {p : List Int} {c : Int} (he : fwE n l h np p = c) (hc : c ≠ 0) : 0 = fwV n l h np p ∧ c = fwE n l h np p := ⟨by rw [fwV, he, if_neg hc], he.symm⟩
theorem fw_1 {n : Nat} {l : List Int} {h : Int} {np : Nat} {p : List Int} (hv : vjB n l = false) : 0 = fwV n l h np p ∧ 1 = fwE n l h np p := fw_e (by rw [fwE, hv]; rfl) (by decide)
theorem fw_2 {n : Nat} {l : List Int} {h : Int} {np : Nat} {p : List Int} (hv : vjB n l = true) (hh : ¬ (1 ≤ h ∧ h ≤ 4)) : 0 = fwV n l h np p ∧ 2 = fwE n l h np p := fw_e (by rw [fwE, if_pos hv, if_neg hh]) (by decide)
theorem fw_4 {n : Nat} {l : List Int} {h : Int} {np : Nat} {p : List Int} (hv : vjB n l = true) (hh : 1 ≤ h ∧ h ≤ 4) (hn : ¬ np = n) : 0 = fwV n l h np p ∧ 4 = fwE n l h np p := fw_e (by rw [fwE, if_pos hv, if_pos hh, if_neg hn]) (by decide)
theorem fw_6 {n : Nat} {l : List Int} {h : Int} {np : Nat} {p : List Int} (hv : vjB n l = true) (hh : 1 ≤ h ∧ h ≤ 4) (hn : np = n) (hf : fwO l h n p = none) : 0 = fwV n l h np p ∧ 6 = fwE n l h np p := fw_e (by rw [fwE, if_pos hv, if_pos hh, if_pos hn, hf]) (by decide)
theorem fw_0 {n : Nat} {l : List Int} {h : Int} {np : Nat} {p : List Int} {i : Nat} (hv : vjB n l = true) (hh : 1 ≤ h ∧ h ≤ 4) (hn : np = n) (hf : fwO l h n p = some i) : (i : Int) = fwV n l h np p ∧ 0 = fwE n l h np p := by
  have e : fwE n l h np p = 0 := by rw [fwE, if_pos hv, if_pos hh, if_pos hn, hf]
  exact ⟨by rw [fwV, if_pos e, hf], e.symm⟩
noncomputable def fwP (n : Nat) (l : List Int) (h : Int) (np : Nat) (p : List Int) : LV := .tup [.c (.int .i64 (fwV n l h np p)), .c (.int .i64 (fwE n l h np p))]
noncomputable def ILfw  : List (FuncId × Func × (Nat → LM)) := [
  (66, Tryd.f66, U0),
  (98, Tryd.f98, U0)]
theorem ILfw_ok  : InlsOk Tryd.prog ILfw := ⟨⟨Tryd.func66, by kernel_rfl⟩, ⟨Tryd.func98, by kernel_rfl⟩, trivial⟩
theorem x_FirstWrongSlotI (m n m2 np : Nat) (l p : List Int) (cap cap2 h : Int) (q : Jx n m l) (qp : Pq np m2 p) : Fex true TT (inlN true TT Cfw (lookI ILfw) 6) Cfw U0 Tryd.f46 [.a (.c (.slc 0 0 0 2 n cap)), .a (.c (.int .i64 h)), .a (.c (.slc 1 0 0 2 np cap2))] [.cells false 64 [.run [.i8, .u16] m l], .cells false 89 [.run [.i8, .i16] m2 p]] (fun lv _ => leL lv (fwP n l h np p)) := by
  refine Go.Sx.by_eq (q := True ∧ True ∧ True ∧ True ∧ (((64 : Nat) = (64 : Nat) ∧ (0 : Nat) = (0 : Nat) ∧ (0 : Int) = (0 : Int) ∧ (2 : Nat) = (2 : Nat) ∧ [Go.Sx.EK.i8, Go.Sx.EK.u16] = [Go.Sx.EK.i8, Go.Sx.EK.u16]) ∧ (0 : Int) ≤ (↑n : Int) ∧ Jx (Int.toNat (↑n : Int)) m l) ∧ (vjB (Int.toNat (↑n : Int)) l = Bool.true → (1 : Int) ≤ h ∧ h ≤ (4 : Int) → True ∧ True ∧ True ∧ True ∧ True ∧ True ∧ True ∧ True ∧ True ∧ True ∧ True ∧ True ∧ True ∧ (((↑np : Int) != (↑n : Int)) = Bool.true → True ∧ True ∧ (Go.IntKind.i64 = Go.IntKind.i64 ∧ (0 : Int) = fwV n l h np p) ∧ (Go.IntKind.i64 = Go.IntKind.i64 ∧ (4 : Int) = fwE n l h np p) ∧ True) ∧ (((↑np : Int) != (↑n : Int)) = Bool.false → True ∧ True ∧ ((((80 : Nat) = (80 : Nat) ∧ (0 : Nat) = (0 : Nat) ∧ (0 : Int) = (0 : Int) ∧ (2 : Nat) = (2 : Nat) ∧ [Go.Sx.EK.i64, Go.Sx.EK.u16] = [Go.Sx.EK.i64, Go.Sx.EK.u16]) ∧ (89 : Nat) = (89 : Nat) ∧ (0 : Nat) = (0 : Nat) ∧ (0 : Int) = (0 : Int) ∧ (2 : Nat) = (2 : Nat) ∧ [Go.Sx.EK.i8, Go.Sx.EK.i16] = [Go.Sx.EK.i8, Go.Sx.EK.i16]) ∧ Jl (↑n : Int) (Int.toNat (↑n : Int) * (2 : Nat)) (List.take (Int.toNat (↑n : Int) * (2 : Nat)) l) ∧ VJ (Int.toNat (↑n : Int)) (List.take (Int.toNat (↑n : Int) * (2 : Nat)) l) ∧ (0 : Int) ≤ (↑np : Int) ∧ Pq (Int.toNat (↑np : Int)) m2 p ∧ (1 : Int) ≤ h ∧ h ≤ (4 : Int)) ∧ ((↑np : Int) = (↑n : Int) → fwO (List.take (Int.toNat (↑n : Int) * (2 : Nat)) l) h (Int.toNat (↑n : Int)) p = Option.none → True ∧ True ∧ True ∧ True ∧ True ∧ True ∧ True ∧ (Bool.false = Bool.true → True ∧ True ∧ True ∧ True ∧ (Go.IntKind.i64 = Go.IntKind.i64 ∧ (0 : Int) = fwV n l h np p) ∧ (Go.IntKind.i64 = Go.IntKind.i64 ∧ (0 : Int) = fwE n l h np p) ∧ True) ∧ (Bool.false = Bool.false → True ∧ True ∧ (Go.IntKind.i64 = Go.IntKind.i64 ∧ (0 : Int) = fwV n l h np p) ∧ (Go.IntKind.i64 = Go.IntKind.i64 ∧ (6 : Int) = fwE n l h np p) ∧ True)) ∧ (∀ (i : Nat), (↑np : Int) = (↑n : Int) → fwO (List.take (Int.toNat (↑n : Int) * (2 : Nat)) l) h (Int.toNat (↑n : Int)) p = Option.some i → True ∧ True ∧ True ∧ True ∧ True ∧ True ∧ True ∧ ((117 : Nat) = (117 : Nat) ∧ [Go.Sx.EK.i64] = [Go.Sx.EK.i64] ∧ (119 : Nat) = (119 : Nat)) ∧ (Bool.true = Bool.true → True ∧ True ∧ True ∧ True ∧ (Go.IntKind.i64 = Go.IntKind.i64 ∧ List.getD [(↑i : Int)] (0 : Nat) (0 : Int) = fwV n l h np p) ∧ (Go.IntKind.i64 = Go.IntKind.i64 ∧ (0 : Int) = fwE n l h np p) ∧ True) ∧ (Bool.true = Bool.false → True ∧ True ∧ (Go.IntKind.i64 = Go.IntKind.i64 ∧ (0 : Int) = fwV n l h np p) ∧ (Go.IntKind.i64 = Go.IntKind.i64 ∧ (6 : Int) = fwE n l h np p) ∧ True)) ∧ (¬(↑np : Int) = (↑n : Int) → True ∧ True ∧ True ∧ True ∧ True ∧ True ∧ True ∧ Go.Sx.Stuck "as"))) ∧ (vjB (Int.toNat (↑n : Int)) l = Bool.true → ¬((1 : Int) ≤ h ∧ h ≤ (4 : Int)) → True ∧ True ∧ True ∧ True ∧ True ∧ True ∧ True ∧ True ∧ True ∧ (126 : Nat) = (126 : Nat) ∧ True ∧ True ∧ (Go.IntKind.i64 = Go.IntKind.i64 ∧ (0 : Int) = fwV n l h np p) ∧ (Go.IntKind.i64 = Go.IntKind.i64 ∧ (2 : Int) = fwE n l h np p) ∧ True) ∧ (vjB (Int.toNat (↑n : Int)) l = Bool.false → True ∧ True ∧ True ∧ True ∧ True ∧ True ∧ True ∧ True ∧ True ∧ (126 : Nat) = (126 : Nat) ∧ True ∧ True ∧ (Go.IntKind.i64 = Go.IntKind.i64 ∧ (0 : Int) = fwV n l h np p) ∧ (Go.IntKind.i64 = Go.IntKind.i64 ∧ (1 : Int) = fwE n l h np p) ∧ True)) (by kernel_rfl) ?_
  simp only [true_and, and_true, and_self, decide_eq_true_eq, decide_eq_false_iff_not, Bool.not_eq_true', Bool.not_eq_false', Bool.not_true, Bool.not_false, beq_iff_eq, beq_eq_false_iff_ne, bne_iff_ne, bne_eq_false_iff_eq, ne_eq, not_true_eq_false, not_false_eq_true, false_implies, true_implies, implies_true, forall_const, exists_const, ↓reduceIte, Int.reduceEq, Int.toNat_natCast, Bool.false_eq_true, Bool.true_eq_false, reduceCtorEq, Int.zero_add, Nat.add_zero, Int.ofNat_eq_natCast, Int.toNat_natCast]
  have sm : Sm n (l.take (n * 2)) l := Sm.take
  refine ⟨⟨by omega, q⟩, fun hv hh => ⟨fun hn => fw_4 (np := np) (p := p) hv hh (by omega), fun hn => ?_⟩, fun hv hh => fw_2 hv hh, fun hv => fw_1 hv⟩
  have v := vjB_t.1 hv
  refine ⟨⟨q.jt2 v, sm.vj v, by omega, qp, hh.1, hh.2⟩, fun _ hf => ?_, fun i _ hf => ?_, fun hn' => absurd hn hn'⟩
  · exact fw_6 (np := np) hv hh (by omega) (by rw [← sm.fw']; exact hf)
  · exact fw_0 (np := np) hv hh (by omega) (by rw [← sm.fw']; exact hf)
theorem x_FirstWrongSlotS (m n m2 np : Nat) (l p : List Int) (cap cap2 h : Int) (q : Jx n m l) (qp : Pq np m2 p) : Fex true TT (inlN true TT Cfw (lookI ILfw) 6) Cfw U0 Tryd.f45 [.a (.c (.slc 0 0 0 2 n cap)), .a (.c (.int .i64 h)), .a (.c (.slc 1 0 0 2 np cap2))] [.cells false 64 [.run [.i8, .u16] m l], .cells false 89 [.run [.i8, .i16] m2 p]] (fun lv _ => leL lv (fwP n l h np p)) := by
  refine Go.Sx.by_eq (q := True ∧ True ∧ True ∧ True ∧ True ∧ True ∧ (((64 : Nat) = (64 : Nat) ∧ (0 : Nat) = (0 : Nat) ∧ (0 : Int) = (0 : Int) ∧ (2 : Nat) = (2 : Nat) ∧ [Go.Sx.EK.i8, Go.Sx.EK.u16] = [Go.Sx.EK.i8, Go.Sx.EK.u16]) ∧ (0 : Int) ≤ (↑n : Int) ∧ Jx (Int.toNat (↑n : Int)) m l) ∧ True ∧ ((!vjB (Int.toNat (↑n : Int)) l) = Bool.true → True ∧ True ∧ True ∧ True ∧ True ∧ True ∧ True ∧ True ∧ True ∧ True ∧ True ∧ (Go.IntKind.i64 = Go.IntKind.i64 ∧ (0 : Int) = fwV n l h np p) ∧ (Go.IntKind.i64 = Go.IntKind.i64 ∧ (1 : Int) = fwE n l h np p) ∧ True) ∧ ((!vjB (Int.toNat (↑n : Int)) l) = Bool.false → True ∧ True ∧ True ∧ True ∧ True ∧ True ∧ ((!(Decidable.decide ((1 : Int) ≤ h) && Decidable.decide (h ≤ (4 : Int)))) = Bool.true → True ∧ True ∧ True ∧ True ∧ True ∧ True ∧ True ∧ True ∧ True ∧ True ∧ True ∧ (Go.IntKind.i64 = Go.IntKind.i64 ∧ (0 : Int) = fwV n l h np p) ∧ (Go.IntKind.i64 = Go.IntKind.i64 ∧ (2 : Int) = fwE n l h np p) ∧ True) ∧ ((!(Decidable.decide ((1 : Int) ≤ h) && Decidable.decide (h ≤ (4 : Int)))) = Bool.false → True ∧ True ∧ True ∧ True ∧ True ∧ True ∧ True ∧ True ∧ True ∧ True ∧ True ∧ (((↑np : Int) != (↑n : Int)) = Bool.true → True ∧ True ∧ True ∧ True ∧ True ∧ True ∧ (Go.IntKind.i64 = Go.IntKind.i64 ∧ (0 : Int) = fwV n l h np p) ∧ (Go.IntKind.i64 = Go.IntKind.i64 ∧ (4 : Int) = fwE n l h np p) ∧ True) ∧ (((↑np : Int) != (↑n : Int)) = Bool.false → True ∧ True ∧ True ∧ True ∧ True ∧ ((((64 : Nat) = (64 : Nat) ∧ (0 : Nat) = (0 : Nat) ∧ (0 : Int) = (0 : Int) ∧ (2 : Nat) = (2 : Nat) ∧ [Go.Sx.EK.i8, Go.Sx.EK.u16] = [Go.Sx.EK.i8, Go.Sx.EK.u16]) ∧ (89 : Nat) = (89 : Nat) ∧ (0 : Nat) = (0 : Nat) ∧ (0 : Int) = (0 : Int) ∧ (2 : Nat) = (2 : Nat) ∧ [Go.Sx.EK.i8, Go.Sx.EK.i16] = [Go.Sx.EK.i8, Go.Sx.EK.i16]) ∧ Jl (↑n : Int) m l ∧ VJ (Int.toNat (↑n : Int)) l ∧ (↑np : Int) = (↑n : Int) ∧ Pq (Int.toNat (↑n : Int)) m2 p ∧ (1 : Int) ≤ h ∧ h ≤ (4 : Int)) ∧ True ∧ True ∧ True ∧ (Decidable.decide (fwI l h (Int.toNat (↑n : Int)) p < (0 : Int)) = Bool.true → True ∧ True ∧ (Go.IntKind.i64 = Go.IntKind.i64 ∧ (0 : Int) = fwV n l h np p) ∧ (Go.IntKind.i64 = Go.IntKind.i64 ∧ (6 : Int) = fwE n l h np p) ∧ True) ∧ (Decidable.decide (fwI l h (Int.toNat (↑n : Int)) p < (0 : Int)) = Bool.false → True ∧ True ∧ True ∧ (Go.IntKind.i64 = Go.IntKind.i64 ∧ fwI l h (Int.toNat (↑n : Int)) p = fwV n l h np p) ∧ (Go.IntKind.i64 = Go.IntKind.i64 ∧ (0 : Int) = fwE n l h np p) ∧ True))))) (by kernel_rfl) ?_
  simp only [true_and, and_true, and_self, decide_eq_true_eq, decide_eq_false_iff_not, Bool.not_eq_true', Bool.not_eq_false', Bool.not_true, Bool.not_false, beq_iff_eq, beq_eq_false_iff_ne, bne_iff_ne, bne_eq_false_iff_eq, ne_eq, not_true_eq_false, not_false_eq_true, false_implies, true_implies, implies_true, forall_const, exists_const, ↓reduceIte, Int.reduceEq, Int.toNat_natCast, Bool.false_eq_true, Bool.true_eq_false, reduceCtorEq, Int.zero_add, Nat.add_zero, Int.ofNat_eq_natCast, Int.toNat_natCast, Bool.and_eq_true, Bool.and_eq_false_iff]
  refine ⟨⟨by omega, q⟩, fun hv => fw_1 hv, fun hv => ⟨fun hh => fw_2 hv (by omega), fun hh => ⟨fun hn => fw_4 (np := np) (p := p) hv hh (by omega), fun hn => ?_⟩⟩⟩
  have hnn : np = n := by omega
  subst hnn
  have v := vjB_t.1 hv
  refine ⟨⟨q.jl2 v, v, rfl, qp, hh.1, hh.2⟩, fun hf => ?_, fun hf => ?_⟩
  · cases hf' : fwO l h np p with
    | none => exact fw_6 hv hh rfl hf'
    | some i => rw [fwI, hf'] at hf; simp at hf; omega
  · cases hf' : fwO l h np p with
    | none => rw [fwI, hf'] at hf; simp at hf
    | some i =>
      have e := fw_0 hv hh rfl hf'
      rw [fwI, hf']
      exact e
theorem e_FirstWrongSlotS : EntryOk Tryd.prog TT 45 (gJp fwP) := gJp_ok (fun _ _ _ _ _ _ => rfl) (fun _ _ _ _ _ => rfl) Cfw_ok (inl := fun _ _ _ _ _ => lookI ILfw) (Λ := fun _ _ _ _ _ => U0) (fun _ _ _ _ _ => ILfw_ok.ok) Tryd.func45 (by kernel_rfl) rfl x_FirstWrongSlotS
theorem e_FirstWrongSlotI : EntryOk Tryd.prog TT 46 (gJp fwP) := gJp_ok (fun _ _ _ _ _ _ => rfl) (fun _ _ _ _ _ => rfl) Cfw_ok (inl := fun _ _ _ _ _ => lookI ILfw) (Λ := fun _ _ _ _ _ => U0) (fun _ _ _ _ _ => ILfw_ok.ok) Tryd.func46 (by kernel_rfl) rfl x_FirstWrongSlotI
end Go.Proofs.YtagdkibmlfjggaaDoor
