/- FieldAt: both sides. No conditions beyond the ranges of the kinds. -/
import Derived.Test.YtepblgefgdllfaaFl3
set_option linter.unusedSimpArgs false
set_option linter.unusedVariables false
namespace Go.Proofs.Ytepblgefgdllfaa
open Go.Sx Go.RowKit

theorem x_fieldOf' (w h : Int) (l : List Int) (r : Rg w h l) (hw : w ≤ 12) (hh : h ≤ 12) (c : Int) (h0 : 0 ≤ c) (hc : c < 144) (hb : isB w h c.toNat = true) : Fex true TT (inlN true TT Cfo (lookI (ILfo w h l c.toNat)) 6) Cfo (fun _ => .inv (lmFdI w h l c.toNat)) Try.f32 [pic w h l, .a (.c (.int .i64 c))] []
    (fun lv H' => ∃ x : Nat × List Int × Int, Gr (fOf w h l c.toNat) x.1 x.2.1 x.2.2 ∧ leSt ⟨[lv], H'⟩ ⟨[rnL (([] : List Nat).length + ·) (.a (.c (.slc 0 0 0 1 (fOf w h l c.toNat).length x.2.2)))], deadsN ([] : List Nat).length ++ [.cells true 2 [.run [.i64] x.1 x.2.1]]⟩ ([] : List Nat).length (resB lv)) := by
  obtain ⟨k, rfl⟩ := Int.eq_ofNat_of_zero_le h0
  rw [Int.toNat_natCast] at *
  exact x_fieldOf w h l r hw hh k (by omega) hb
def gFof : EntryC := fun args H K => match args with
  | [.a (.agg [.int .i8 w, .int .i8 h, .run [.u8] 144 l]), .a (.c (.int .i64 c))] => (Rg w h l ∧ (w ≤ 12 ∧ h ≤ 12) ∧ (0 ≤ c ∧ c < 144) ∧ isB w h c.toNat = true) ∧
    withLenP H fun m => ∀ n L cap, Gr (fOf w h l c.toNat) n L cap → K (.a (.c (.slc m 0 0 1 (fOf w h l c.toNat).length cap))) (H ++ [.cells true 2 [.run [.i64] n L]])
  | _ => Stuck "field"
theorem e_fieldOf : EntryCOk Try.prog TT 32 gFof := by
  refine ⟨fnOk Try.func32 (by kernel_rfl) rfl, ?_⟩
  intro args H K h n0 w0 β w vals hG hH hA
  unfold gFof at h
  split at h
  · obtain ⟨hp, hk⟩ := h
    have hk := withLenP_sound hk
    refine (entry_fresh tt_ok (inlN_ok tt_ok Cfo_ok mixed (ILfo_ok).ok 6) Cfo_ok mixed Try.func32 [] (x_fieldOf' _ _ _ hp.1 hp.2.1.1 hp.2.1.2 _ hp.2.2.1.1 hp.2.2.1.2 hp.2.2.2) rfl (fun _ => rfl) (fun _ => rfl) trivial hG hH (by rw [map_self _ fun c hc => rnL_in0 _ c (List.all_eq_true.1 (show (List.all _ (inL 0)) = true from rfl) c hc)]; exact hA)).mono ?_
    rintro e w' ⟨v, γ, x, rfl, h4, h5, h6⟩
    exact ⟨v, γ, _, _, rfl, hk _ _ _ h4, h5, h6⟩
  · exact h.elim


def Efl : List (FuncId × Entry) := (26, gPlace) :: (27, gFld) :: E10
theorem Efl_ok : EntriesOk Try.prog TT Efl := ⟨e_l01Place, e_l01Field, E10_ok⟩
def Mfl : List (FuncId × EntryC) := [(28, gLst), (34, gBes), (32, gFof)]
theorem Mfl_ok : EntriesCOk Try.prog TT Mfl := ⟨e_l01Listed, e_l01Beside, e_fieldOf, trivial⟩
abbrev Cfl : Ctr := ctrOfM Efl Mfl
theorem Cfl_ok : CtrOk Try.prog TT Cfl := ctrOfM_ok Efl_ok Mfl_ok

def faR (w h : Int) (l : List Int) (x y : Int) : List Int := if placeE w h l x y = 0 then fOf w h l (x + 12 * y).toNat else []
theorem fa_0 {w h : Int} {l : List Int} {x y : Int} (e : placeE w h l x y = 0) : faR w h l x y = fOf w h l (x + 12 * y).toNat := if_pos e
theorem fa_1 {w h : Int} {l : List Int} {x y : Int} (e : ¬ placeE w h l x y = 0) : faR w h l x y = [] := if_neg e
theorem place_cell {w h : Int} {l : List Int} {x y : Int} (e : placeE w h l x y = 0) : (w ≤ 12 ∧ h ≤ 12) ∧ (0 ≤ x + 12 * y ∧ x + 12 * y < 144) ∧ isB w h (x + 12 * y).toNat = true := by
  obtain ⟨e1, e2, e3, e4, e5, e6, e7⟩ := place_in e
  exact ⟨⟨e6, e7⟩, by omega, isB_t.2 (by omega)⟩
theorem fld_len {w h : Int} {l : List Int} {x y : Int} (e : placeE w h l x y = 0) : (fdF w h l (x + 12 * y).toNat).length = 144 := by
  rw [fdF_eq]
  obtain ⟨e1, e2, e3⟩ := place_cell e
  exact (fld_FI e1.1 e1.2 (by omega) e3).n

theorem fOf_F {w h : Int} {l : List Int} {c : Nat} : selF (fOn (fdF w h l c)) 144 = fOf w h l c := by rw [fdF_eq]; rfl
set_option maxRecDepth 100000 in
theorem x_FieldAtS (w h : Int) (l : List Int) (r : Rg w h l) (x y : Int) : Fex true TT (inlN true TT Cfl (lookI ILz) 4) Cfl U0 Try.f9 [pic w h l, .a (.c (.int .i64 x)), .a (.c (.int .i64 y))] []
    (fun lv H' => ∃ z : Nat × List Int × Int, Gr (faR w h l x y) z.1 z.2.1 z.2.2 ∧ leSt ⟨[lv], H'⟩ ⟨[rnL (([] : List Nat).length + ·) (.tup [.c (.slc 0 0 0 1 (faR w h l x y).length z.2.2), .c (.int .i64 (placeE w h l x y))])], deadsN ([] : List Nat).length ++ [.cells true 2 [.run [.i64] z.1 z.2.1]]⟩ ([] : List Nat).length (resB lv)) := by
  refine Go.Sx.by_eq (q := True ∧ True ∧ True ∧ True ∧ True ∧ Rg w h l ∧ True ∧ True ∧ True ∧ ((placeE w h l x y != (0 : Int)) = Bool.true → True ∧ True ∧ True ∧ True ∧ ∃ (z : Nat × List Int × Int), Gr (faR w h l x y) z.fst z.snd.fst z.snd.snd ∧ ((Go.Sx.Cel.slc (1 : Nat) (0 : Nat) (0 : Int) (1 : Nat) (0 : Int) (0 : Int) = Go.Sx.Cel.slc (1 : Nat) (0 : Nat) (0 : Int) (1 : Nat) (↑(List.length (faR w h l x y)) : Int) z.snd.snd ∧ (Go.IntKind.i64 = Go.IntKind.i64 ∧ placeE w h l x y = placeE w h l x y) ∧ True) ∧ True) ∧ (Bool.true = Bool.true ∧ (2 : Nat) = (2 : Nat) ∧ ([Go.Sx.EK.i64] = [Go.Sx.EK.i64] ∧ (0 : Nat) = z.fst ∧ [] = z.snd.fst) ∧ True) ∧ True) ∧ ((placeE w h l x y != (0 : Int)) = Bool.false → True ∧ True ∧ ((-9223372036854775808 : Int) ≤ (12 : Int) * y ∧ (12 : Int) * y ≤ (9223372036854775807 : Int)) ∧ ((-9223372036854775808 : Int) ≤ x + (12 : Int) * y ∧ x + (12 : Int) * y ≤ (9223372036854775807 : Int)) ∧ (Rg w h l ∧ (w ≤ (12 : Int) ∧ h ≤ (12 : Int)) ∧ ((0 : Int) ≤ x + (12 : Int) * y ∧ x + (12 : Int) * y < (144 : Int)) ∧ isB w h (Int.toNat (x + (12 : Int) * y)) = Bool.true) ∧ True ∧ True ∧ List.length (fdF w h l (Int.toNat (x + (12 : Int) * y))) = (144 : Nat) ∧ ∀ (n : Nat) (L : List Int) (cap : Int), Gr (selF (fOn (fdF w h l (Int.toNat (x + (12 : Int) * y)))) (144 : Nat)) n L cap → True ∧ True ∧ ∃ (z : Nat × List Int × Int), Gr (faR w h l x y) z.fst z.snd.fst z.snd.snd ∧ ((Go.Sx.Cel.slc (2 : Nat) (0 : Nat) (0 : Int) (1 : Nat) (↑(List.length (selF (fOn (fdF w h l (Int.toNat (x + (12 : Int) * y)))) (144 : Nat))) : Int) cap = Go.Sx.Cel.slc (2 : Nat) (0 : Nat) (0 : Int) (1 : Nat) (↑(List.length (faR w h l x y)) : Int) z.snd.snd ∧ (Go.IntKind.i64 = Go.IntKind.i64 ∧ (0 : Int) = placeE w h l x y) ∧ True) ∧ True) ∧ (Bool.true = Bool.true ∧ (2 : Nat) = (2 : Nat) ∧ ([Go.Sx.EK.i64] = [Go.Sx.EK.i64] ∧ n = z.fst ∧ L = z.snd.fst) ∧ True) ∧ True)) (by kernel_rfl) ?_
  simp only [true_and, and_true, and_self, decide_eq_true_eq, decide_eq_false_iff_not, Bool.not_eq_true', Bool.not_eq_false', Bool.not_true, Bool.not_false, beq_iff_eq, beq_eq_false_iff_ne, bne_iff_ne, bne_eq_false_iff_eq, ne_eq, not_true_eq_false, not_false_eq_true, false_implies, true_implies, implies_true, forall_const, exists_const, ↓reduceIte, Int.reduceEq, Int.toNat_natCast, Bool.false_eq_true, Bool.true_eq_false, reduceCtorEq, Int.zero_add, Nat.add_zero, Nat.mul_one, Cel.slc.injEq, List.drop_zero, Int.toNat_zero, List.take_succ_cons, List.take_zero]
  refine ⟨r, fun e => by rw [fa_1 e]; exact ⟨(0, [], 0), Gr.nil, ⟨rfl, rfl⟩, rfl, rfl⟩, fun e => ?_⟩
  obtain ⟨e1, e2, e3, e4, e5, e6, e7⟩ := place_in e
  rw [fOf_F, fa_0 e]
  exact ⟨by omega, by omega, ⟨r, place_cell e⟩, fld_len e, fun n L cap g => ⟨(n, L, cap), g, ⟨⟨rfl, rfl⟩, e.symm⟩, rfl, rfl⟩⟩

set_option maxRecDepth 100000 in
theorem x_FieldAtI (w h : Int) (l : List Int) (r : Rg w h l) (x y : Int) : Fex true TT (inlN true TT Cfl (lookI ILz) 4) Cfl U0 Try.f11 [pic w h l, .a (.c (.int .i64 x)), .a (.c (.int .i64 y))] []
    (fun lv H' => ∃ z : Nat × List Int × Int, Gr (faR w h l x y) z.1 z.2.1 z.2.2 ∧ leSt ⟨[lv], H'⟩ ⟨[rnL (([] : List Nat).length + ·) (.tup [.c (.slc 0 0 0 1 (faR w h l x y).length z.2.2), .c (.int .i64 (placeE w h l x y))])], deadsN ([] : List Nat).length ++ [.cells true 2 [.run [.i64] z.1 z.2.1]]⟩ ([] : List Nat).length (resB lv)) := by
  refine Go.Sx.by_eq (q := True ∧ True ∧ True ∧ True ∧ Rg w h l ∧ True ∧ ((!okB w h l) = Bool.true → True ∧ True ∧ ∃ (z : Nat × List Int × Int), Gr (faR w h l x y) z.fst z.snd.fst z.snd.snd ∧ ((((0 : Int) = (0 : Int) ∧ (↑(List.length (faR w h l x y)) : Int) = (0 : Int) ∧ z.snd.snd = (0 : Int)) ∧ (Go.IntKind.i64 = Go.IntKind.i64 ∧ (1 : Int) = placeE w h l x y) ∧ True) ∧ True) ∧ (z.fst = (0 : Nat) ∧ z.snd.fst = []) ∧ True) ∧ ((!okB w h l) = Bool.false → True ∧ True ∧ True ∧ Rg w h l ∧ True ∧ ((!hasB w h x y) = Bool.true → True ∧ True ∧ ∃ (z : Nat × List Int × Int), Gr (faR w h l x y) z.fst z.snd.fst z.snd.snd ∧ ((((0 : Int) = (0 : Int) ∧ (↑(List.length (faR w h l x y)) : Int) = (0 : Int) ∧ z.snd.snd = (0 : Int)) ∧ (Go.IntKind.i64 = Go.IntKind.i64 ∧ (2 : Int) = placeE w h l x y) ∧ True) ∧ True) ∧ (z.fst = (0 : Nat) ∧ z.snd.fst = []) ∧ True) ∧ ((!hasB w h x y) = Bool.false → True ∧ True ∧ True ∧ (((-1000000 : Int) ≤ x ∧ x ≤ (1000000 : Int)) ∧ (-1000000 : Int) ≤ y ∧ y ≤ (1000000 : Int)) ∧ (Rg w h l ∧ (w ≤ (12 : Int) ∧ h ≤ (12 : Int)) ∧ ((0 : Int) ≤ x + (12 : Int) * y ∧ x + (12 : Int) * y < (144 : Int)) ∧ isB w h (Int.toNat (x + (12 : Int) * y)) = Bool.true) ∧ ∀ (n : Nat) (L : List Int) (cap : Int), Gr (fOf w h l (Int.toNat (x + (12 : Int) * y))) n L cap → True ∧ True ∧ ∃ (z : Nat × List Int × Int), Gr (faR w h l x y) z.fst z.snd.fst z.snd.snd ∧ ((Go.Sx.Cel.slc (1 : Nat) (0 : Nat) (0 : Int) (1 : Nat) (↑(List.length (fOf w h l (Int.toNat (x + (12 : Int) * y)))) : Int) cap = Go.Sx.Cel.slc (1 : Nat) (0 : Nat) (0 : Int) (1 : Nat) (↑(List.length (faR w h l x y)) : Int) z.snd.snd ∧ (Go.IntKind.i64 = Go.IntKind.i64 ∧ (0 : Int) = placeE w h l x y) ∧ True) ∧ True) ∧ (Bool.true = Bool.true ∧ (2 : Nat) = (2 : Nat) ∧ ([Go.Sx.EK.i64] = [Go.Sx.EK.i64] ∧ n = z.fst ∧ L = z.snd.fst) ∧ True) ∧ True))) (by kernel_rfl) ?_
  simp only [true_and, and_true, and_self, decide_eq_true_eq, decide_eq_false_iff_not, Bool.not_eq_true', Bool.not_eq_false', Bool.not_true, Bool.not_false, beq_iff_eq, beq_eq_false_iff_ne, bne_iff_ne, bne_eq_false_iff_eq, ne_eq, not_true_eq_false, not_false_eq_true, false_implies, true_implies, implies_true, forall_const, exists_const, ↓reduceIte, Int.reduceEq, Int.toNat_natCast, Bool.false_eq_true, Bool.true_eq_false, reduceCtorEq, Int.zero_add, Nat.add_zero, Nat.mul_one, Cel.slc.injEq, List.drop_zero, Int.toNat_zero, List.take_succ_cons, List.take_zero]
  refine ⟨r, fun e => ?_, fun e => ⟨r, fun e' => ?_, fun e' => ?_⟩⟩
  · have ep : placeE w h l x y = 1 := by rw [placeE, if_neg (by rw [e]; decide)]
    rw [fa_1 (by omega), ep]; exact ⟨(0, [], 0), Gr.nil, ⟨⟨rfl, rfl⟩, rfl⟩, rfl, rfl⟩
  · have ep : placeE w h l x y = 2 := by rw [placeE, if_pos e, if_neg (hasB_f.1 e')]
    rw [fa_1 (by omega), ep]; exact ⟨(0, [], 0), Gr.nil, ⟨⟨rfl, rfl⟩, rfl⟩, rfl, rfl⟩
  · have ep : placeE w h l x y = 0 := by rw [placeE, if_pos e, if_pos (hasB_t.1 e')]
    obtain ⟨e1, e2, e3, e4, e5, e6, e7⟩ := place_in ep
    rw [fa_0 ep]
    exact ⟨by omega, ⟨r, place_cell ep⟩, fun n L cap g => ⟨(n, L, cap), g, ⟨⟨rfl, rfl⟩, ep.symm⟩, rfl, rfl⟩⟩

def gFat : EntryC := fun args H K => match args with
  | [.a (.agg [.int .i8 w, .int .i8 h, .run [.u8] 144 l]), .a (.c (.int .i64 x)), .a (.c (.int .i64 y))] => Rg w h l ∧
    withLenP H fun m => ∀ n L cap, Gr (faR w h l x y) n L cap → K (.tup [.c (.slc m 0 0 1 (faR w h l x y).length cap), .c (.int .i64 (placeE w h l x y))]) (H ++ [.cells true 2 [.run [.i64] n L]])
  | _ => Stuck "fieldat"
theorem e_FieldAtS : EntryCOk Try.prog TT 9 gFat := by
  refine ⟨fnOk Try.func9 (by kernel_rfl) rfl, ?_⟩
  intro args H K h n0 w0 β w vals hG hH hA
  unfold gFat at h
  split at h
  · obtain ⟨hp, hk⟩ := h
    have hk := withLenP_sound hk
    refine (entry_fresh tt_ok (inlN_ok tt_ok Cfl_ok mixed (ILz_ok).ok 4) Cfl_ok mixed Try.func9 [] (x_FieldAtS _ _ _ hp _ _) rfl (fun _ => rfl) (fun _ => rfl) trivial hG hH (by rw [map_self _ fun c hc => rnL_in0 _ c (List.all_eq_true.1 (show (List.all _ (inL 0)) = true from rfl) c hc)]; exact hA)).mono ?_
    rintro e w' ⟨v, γ, x, rfl, h4, h5, h6⟩
    exact ⟨v, γ, _, _, rfl, hk _ _ _ h4, h5, h6⟩
  · exact h.elim

theorem e_FieldAtI : EntryCOk Try.prog TT 11 gFat := by
  refine ⟨fnOk Try.func11 (by kernel_rfl) rfl, ?_⟩
  intro args H K h n0 w0 β w vals hG hH hA
  unfold gFat at h
  split at h
  · obtain ⟨hp, hk⟩ := h
    have hk := withLenP_sound hk
    refine (entry_fresh tt_ok (inlN_ok tt_ok Cfl_ok mixed (ILz_ok).ok 4) Cfl_ok mixed Try.func11 [] (x_FieldAtI _ _ _ hp _ _) rfl (fun _ => rfl) (fun _ => rfl) trivial hG hH (by rw [map_self _ fun c hc => rnL_in0 _ c (List.all_eq_true.1 (show (List.all _ (inL 0)) = true from rfl) c hc)]; exact hA)).mono ?_
    rintro e w' ⟨v, γ, x, rfl, h4, h5, h6⟩
    exact ⟨v, γ, _, _, rfl, hk _ _ _ h4, h5, h6⟩
  · exact h.elim

def Mfa : List (FuncId × EntryC) := [(9, gFat), (11, gFat), (28, gLst), (34, gBes)]
theorem Mfa_ok : EntriesCOk Try.prog TT Mfa := ⟨e_FieldAtS, e_FieldAtI, e_l01Listed, e_l01Beside, trivial⟩
abbrev Cfa : Ctr := ctrOfM Efl Mfa
theorem Cfa_ok : CtrOk Try.prog TT Cfa := ctrOfM_ok Efl_ok Mfa_ok
theorem fOf_in {w h : Int} {l : List Int} {c : Nat} (hw : w ≤ 12) (hh : h ≤ 12) (hc : c < 144) (hb : isB w h c = true) {z : Int} (hz : z ∈ fOf w h l c) : ∃ d : Nat, z = (d : Int) ∧ d < 144 ∧ isB w h d = true ∧ fOn (fdF w h l c) d = true := by
  obtain ⟨i, h1, h2, h3⟩ := selF_mem.1 hz
  exact ⟨i, h3, h1, ((fld_FI hw hh hc hb).b i h2).2.1, by rw [fdF_eq]; exact h2⟩
theorem faR_get {w h : Int} {l : List Int} {x y : Int} (e : placeE w h l x y = 0) {i : Nat} (hi : i < (faR w h l x y).length) : ∃ d : Nat, (faR w h l x y).getD i 0 = (d : Int) ∧ d < 144 ∧ isB w h d = true := by
  have hm : (faR w h l x y).getD i 0 ∈ faR w h l x y := by
    rw [List.getD_eq_getElem?_getD, List.getElem?_eq_getElem hi]; exact List.getElem_mem hi
  obtain ⟨e1, e2, e3⟩ := place_cell e
  have hm2 : (faR w h l x y).getD i 0 ∈ fOf w h l (x + 12 * y).toNat := by
    have := hm
    rw [fa_0 e] at this ⊢
    exact this
  obtain ⟨d, d1, d2, d3, _⟩ := fOf_in e1.1 e1.2 (by omega) e3 hm2
  exact ⟨d, d1, d2, d3⟩
theorem faR_len (w h : Int) (l : List Int) (x y : Int) : (faR w h l x y).length ≤ 144 := by
  unfold faR
  split
  · exact selF_len _ _
  · simp

end Go.Proofs.Ytepblgefgdllfaa
