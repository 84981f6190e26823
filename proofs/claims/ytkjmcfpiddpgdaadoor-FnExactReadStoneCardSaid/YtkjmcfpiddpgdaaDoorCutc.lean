/- strings.Cut as a contract, and numerals with a sign. No conditions beyond the ranges of the kinds. -/
import Derived.Test.YtkjmcfpiddpgdaaDoorNuc
import Derived.Shelf.Strings.Cut
set_option linter.unusedSimpArgs false
set_option linter.unusedVariables false
namespace Go.Proofs.YtkjmcfpiddpgdaaDoor
open Go.Sx Go.RowKit
variable {mx : Nat → Value}

def layCut_ren : Go.Shelf.Ren := ⟨fun | 145 => 23 | 220 => 34 | 219 => 46 | 217 => 59 | 225 => 60 | 224 => 61 | 267 => 62 | 266 => 75 | 314 => 76 | n => n, fun | 9 => 9 | 4 => 4 | 59 => 46 | 3 => 3 | 5 => 5 | 46 => 78 | 146 => 108 | 51 => 107 | n => n, fun | 1 => 3 | n => n⟩
theorem layCut : Go.Proofs.LaysM.n145 Tryd.prog layCut_ren := {
  mixed := by kernel_rfl
  f145 := Tryd.func23.trans (congrArg some (by kernel_rfl))
  f217 := Tryd.func59.trans (congrArg some (by kernel_rfl))
  f219 := Tryd.func46.trans (congrArg some (by kernel_rfl))
  f220 := Tryd.func34.trans (congrArg some (by kernel_rfl))
  f224 := Tryd.func61.trans (congrArg some (by kernel_rfl))
  f225 := Tryd.func60.trans (congrArg some (by kernel_rfl))
  f266 := Tryd.func75.trans (congrArg some (by kernel_rfl))
  f267 := Tryd.func62.trans (congrArg some (by kernel_rfl))
  f314 := Tryd.func76.trans (congrArg some (by kernel_rfl))
  t3 := Tryd.underlying3
  a3 := Tryd.isAgg3
  z3 := Tryd.sizeOf3
  v3 := Tryd.zeroValue3
  t4 := Tryd.underlying4
  a4 := Tryd.isAgg4
  z4 := Tryd.sizeOf4
  v4 := Tryd.zeroValue4
  t5 := Tryd.underlying5
  a5 := Tryd.isAgg5
  z5 := Tryd.sizeOf5
  v5 := Tryd.zeroValue5
  t9 := Tryd.underlying9
  a9 := Tryd.isAgg9
  z9 := Tryd.sizeOf9
  v9 := Tryd.zeroValue9
  t46 := Tryd.underlying78
  a46 := Tryd.isAgg78
  z46 := Tryd.sizeOf78
  v46 := Tryd.zeroValue78
  t51 := Tryd.underlying107
  a51 := Tryd.isAgg107
  z51 := Tryd.sizeOf107
  v51 := Tryd.zeroValue107
  t59 := Tryd.underlying46
  a59 := Tryd.isAgg46
  z59 := Tryd.sizeOf46
  v59 := Tryd.zeroValue46
  t146 := Tryd.underlying108
  a146 := Tryd.isAgg108
  z146 := Tryd.sizeOf108
  v146 := Tryd.zeroValue108
  g1 := by kernel_rfl
  i3 := by kernel_rfl
  i4 := by kernel_rfl
  i5 := by kernel_rfl
  i9 := by kernel_rfl
  i46 := by kernel_rfl
  i51 := by kernel_rfl
  i59 := by kernel_rfl
  i146 := by kernel_rfl
  m1 := by kernel_rfl
  s1_3 := fun w h => Go.Proofs.cell_of_shapedOpen_int (zero := #[.int .i64 0]) (t := 3) h (of_decide_eq_true (by kernel_rfl)) (by kernel_rfl) rfl (by kernel_rfl) (by kernel_rfl) Tryd.underlying3 }

def cutL (l : List UInt8) (sep : List UInt8) : List UInt8 × List UInt8 × Bool := Lib.cut l sep
def gCut : Entry := fun args _ => match args with
  | [.a (.c (.str s)), .a (.c (.str sep))] => some (s.size ≤ 1048576, .tup [.c (.str (bsl (cutL s.data.toList sep.data.toList).1)), .c (.str (bsl (cutL s.data.toList sep.data.toList).2.1)), .c (.bool (cutL s.data.toList sep.data.toList).2.2)])
  | _ => none
theorem e_Cut : EntryOk Tryd.prog (TT mx) 23 gCut := by
  refine ⟨fnOk Tryd.func23 (by kernel_rfl) rfl, ?_⟩
  intro args H p r he hp n0 w0 β w vals hG hH hA
  unfold gCut at he
  split at he
  · rename_i s sep
    simp only [Option.some.injEq, Prod.mk.injEq] at he
    obtain ⟨rfl, rfl⟩ := he
    obtain ⟨v1, r1, e1, hv1, v2, r2, rfl, hv2, hr⟩ := hA
    have hv1 : v1 = .string s := hv1
    have hv2 : v2 = .string sep := hv2
    have hr : r2 = [] := hr
    subst hv1 hv2 hr
    obtain rfl : vals = #[.string s, .string sep] := Array.toList_inj.1 e1
    obtain ⟨tm, fm, csm, g1, g2, _⟩ := hG 3 (.int .i64 (ivl (mx 3))) rfl w hH.ext
    have hm : w.cell? ⟨3, 0, none⟩ = some (.int .i64 (ivl (mx 3))) := by rw [cell_at g1]; exact g2
    refine (Any.strings_Cut { layCut with } s sep _ w (by omega) hm).mono ?_
    rintro e w' ⟨rfl, k, rfl⟩
    exact ⟨_, rfl, below_drewN (Below.refl _ _) k, _, rfl, _, _, rfl, rfl, _, _, rfl, rfl, _, _, rfl, rfl, rfl⟩
  · simp at he
theorem cut_at {a r : List UInt8} {c : UInt8} (h : c ∉ a) : cutL (a ++ c :: r) [c] = (a, r, true) := by
  rcases index_one (c := c) (l := a ++ c :: r) with ⟨_, hn⟩ | ⟨a', r', he, hn, hi⟩
  · exact absurd (List.mem_append_right _ List.mem_cons_self) hn
  · have e1 := wds_app (l := r) h
    rw [he, wds_app hn] at e1
    have ea : a' = a := (List.cons.inj e1).1
    subst ea
    rw [cutL, Lib.cut, hi, if_pos (by omega), Int.toNat_natCast, List.take_left, List.length_singleton]
    have : (a' ++ c :: r).drop (a'.length + 1) = r := by
      rw [show a' ++ c :: r = (a' ++ [c]) ++ r by simp, show a'.length + 1 = (a' ++ [c]).length by simp, List.drop_left]
    rw [this]

/-! ### The document's numbers with a sign -/
noncomputable def sgB (l : List UInt8) : Bool := if l.getD 0 0 = 45 then nmB (l.drop 1) && decide (0 < nmV (l.drop 1)) else nmB l
noncomputable def sgV (l : List UInt8) : Int := if l.getD 0 0 = 45 then -(nmV (l.drop 1) : Int) else nmV l
noncomputable def sgR (s : ByteArray) : LV := .tup [.c (.int .i64 (sgV s.data.toList)), .c (.bool (sgB s.data.toList))]
noncomputable def Esg : List (FuncId × Entry) := [(18, gNm)]
theorem Esg_ok : EntriesOk Tryd.prog (TT mx) Esg := ⟨e_l01Number, trivial⟩
noncomputable abbrev Csg : Ctr := ctrOf Esg
theorem Csg_ok : CtrOk Tryd.prog (TT mx) Csg := ctrOf_ok Esg_ok
theorem x_l01Signed (s : ByteArray) (hs : s.size ≤ 1048576) : Fex true (TT mx) (inlN true (TT mx) Csg (lookI ILnu) 4) Csg U0 Tryd.f10 [.a (.c (.str s))] [] (fun lv _ => leL lv (sgR s)) := by
  unfold sgR
  refine Go.Sx.by_eq (q := True ∧ True ∧ True ∧ True ∧ True ∧ ((!ByteArray.toList s == ByteArray.toList (ByteArray.mk #[])) = Bool.true → True ∧ ((0 : Int) ≤ (0 : Int) ∧ (0 : Int) < (↑(ByteArray.size s) : Int)) ∧ True ∧ True ∧ ((Go.Sx.byteAt s (0 : Int) == (45 : Int)) = Bool.true → True ∧ ((0 : Int) ≤ (1 : Int) ∧ (1 : Int) ≤ (↑(ByteArray.size s) : Int) ∧ (↑(ByteArray.size s) : Int) ≤ (↑(ByteArray.size s) : Int)) ∧ ByteArray.size (ByteArray.extract s (Int.toNat (1 : Int)) (Int.toNat (↑(ByteArray.size s) : Int))) ≤ (1048576 : Nat) ∧ True ∧ True ∧ True ∧ True ∧ True ∧ True ∧ ((-9223372036854775808 : Int) ≤ (0 : Int) - (↑(nmV (ByteArray.extract s (Int.toNat (1 : Int)) (Int.toNat (↑(ByteArray.size s) : Int))).data.toList) : Int) ∧ (0 : Int) - (↑(nmV (ByteArray.extract s (Int.toNat (1 : Int)) (Int.toNat (↑(ByteArray.size s) : Int))).data.toList) : Int) ≤ (9223372036854775807 : Int)) ∧ True ∧ True ∧ (nmB (ByteArray.extract s (Int.toNat (1 : Int)) (Int.toNat (↑(ByteArray.size s) : Int))).data.toList = Bool.true → True ∧ True ∧ True ∧ True ∧ True ∧ (Go.IntKind.i64 = Go.IntKind.i64 ∧ (0 : Int) - (↑(nmV (ByteArray.extract s (Int.toNat (1 : Int)) (Int.toNat (↑(ByteArray.size s) : Int))).data.toList) : Int) = sgV s.data.toList) ∧ Decidable.decide ((0 : Int) < (↑(nmV (ByteArray.extract s (Int.toNat (1 : Int)) (Int.toNat (↑(ByteArray.size s) : Int))).data.toList) : Int)) = sgB s.data.toList ∧ True) ∧ (nmB (ByteArray.extract s (Int.toNat (1 : Int)) (Int.toNat (↑(ByteArray.size s) : Int))).data.toList = !Bool.true → True ∧ True ∧ True ∧ (Go.IntKind.i64 = Go.IntKind.i64 ∧ (0 : Int) - (↑(nmV (ByteArray.extract s (Int.toNat (1 : Int)) (Int.toNat (↑(ByteArray.size s) : Int))).data.toList) : Int) = sgV s.data.toList) ∧ sgB s.data.toList = Bool.false ∧ True)) ∧ ((Go.Sx.byteAt s (0 : Int) == (45 : Int)) = Bool.false → True ∧ ByteArray.size s ≤ (1048576 : Nat) ∧ True ∧ True ∧ True ∧ True ∧ (Go.IntKind.i64 = Go.IntKind.i64 ∧ (↑(nmV s.data.toList) : Int) = sgV s.data.toList) ∧ nmB s.data.toList = sgB s.data.toList ∧ True)) ∧ ((!ByteArray.toList s == ByteArray.toList (ByteArray.mk #[])) = !Bool.true → True ∧ True ∧ ByteArray.size s ≤ (1048576 : Nat) ∧ True ∧ True ∧ True ∧ True ∧ (Go.IntKind.i64 = Go.IntKind.i64 ∧ (↑(nmV s.data.toList) : Int) = sgV s.data.toList) ∧ nmB s.data.toList = sgB s.data.toList ∧ True)) (by kernel_rfl) ?_
  simp only [true_and, and_true, and_self, decide_eq_true_eq, decide_eq_false_iff_not, Bool.not_eq_true', Bool.not_eq_false', Bool.not_true, Bool.not_false, beq_iff_eq, beq_eq_false_iff_ne, bne_iff_ne, bne_eq_false_iff_eq, ne_eq, not_true_eq_false, not_false_eq_true, false_implies, true_implies, implies_true, forall_const, exists_const, ↓reduceIte, Int.reduceEq, Int.toNat_natCast, Bool.false_eq_true, Bool.true_eq_false, reduceCtorEq, str_nil, Int.zero_add, Nat.add_zero, Int.ofNat_eq_natCast, Int.toNat_natCast, Nat.mul_one]
  have hsz := size_list s
  have e1 : Int.toNat 1 = 1 := rfl
  have ex : (s.extract 1 s.size).data.toList = s.data.toList.drop 1 := by
    rw [Lib.extract_data, List.take_of_length_le (by rw [List.length_drop]; omega)]
  have exs : (s.extract 1 s.size).size ≤ s.size := by rw [← size_list, ex, List.length_drop]; omega
  simp only [e1, ex]
  have lt := nmV_lt (s.data.toList.drop 1)
  have no : ¬ s.data.toList.getD 0 0 = 45 → (nmV s.data.toList : Int) = sgV s.data.toList ∧ nmB s.data.toList = sgB s.data.toList := fun h => by rw [sgV, sgB, if_neg h, if_neg h]; exact ⟨rfl, rfl⟩
  have yes : s.data.toList.getD 0 0 = 45 → 0 - (nmV (s.data.toList.drop 1) : Int) = sgV s.data.toList ∧ (nmB (s.data.toList.drop 1) && decide (0 < nmV (s.data.toList.drop 1))) = sgB s.data.toList := fun h => by rw [sgV, sgB, if_pos h, if_pos h]; exact ⟨by omega, rfl⟩
  have e45 : (45 : UInt8).toNat = 45 := rfl
  refine ⟨fun h0 => ⟨by omega, fun h45 => ?_, fun h45 => ⟨hs, no fun q => ?_⟩⟩, fun h0 => ⟨hs, no fun q => ?_⟩⟩
  · have eb := byteAt_D s (k := 0) (by omega)
    have h : s.data.toList.getD 0 0 = 45 := UInt8.toNat_inj.1 (by have eb : byteAt s 0 = ((s.data.toList.getD 0 0).toNat : Int) := eb
                                                                  omega)
    obtain ⟨y1, y2⟩ := yes h
    refine ⟨by omega, by omega, by omega, fun hn => ⟨y1, ?_⟩, fun hn => ⟨y1, ?_⟩⟩
    · rw [← y2, hn, Bool.true_and]
      exact decide_eq_decide.2 (by omega)
    · rw [← y2, hn, Bool.false_and]
  · have eb : byteAt s 0 = ((s.data.toList.getD 0 0).toNat : Int) := byteAt_D s (k := 0) (by omega)
    rw [q] at eb
    exact h45 (by omega)
  · rw [show s.data.toList = [] from List.length_eq_zero_iff.1 (by omega)] at q
    exact absurd q (by decide)
noncomputable def gSg : Entry := fun args _ => match args with
  | [.a (.c (.str s))] => some (s.size ≤ 1048576, sgR s)
  | _ => none
theorem e_l01Signed : EntryOk Tryd.prog (TT mx) 10 gSg := by
  refine ⟨fnOk Tryd.func10 (by kernel_rfl) rfl, ?_⟩
  intro args H p r he hp n0 w0 β w vals hG hH hA
  unfold gSg at he
  split at he
  · simp only [Option.some.injEq, Prod.mk.injEq] at he
    obtain ⟨rfl, rfl⟩ := he
    exact entry_bare tt_ok (inlN_ok tt_ok Csg_ok mixed (ILnu_ok).ok 4) Csg_ok mixed Tryd.func10 (x_l01Signed _ hp) rfl rfl hG hH hA
  · simp at he

theorem sg_itoa {v : Int} (h1 : -10000000000 < v) (h2 : v < 10000000000) : sgB (Lib.itoa v) = true ∧ sgV (Lib.itoa v) = v := by
  by_cases h : v < 0
  · obtain ⟨q1, q2⟩ := nm_itoa (u := -v) (by omega) (by omega)
    rw [itoa_neg h, sgB, sgV, List.getD_cons_zero, if_pos rfl, if_pos rfl, List.drop_succ_cons, List.drop_zero, nmB_t.2 q1, q2]
    exact ⟨by rw [Bool.true_and, decide_eq_true_eq]; omega, by omega⟩
  · obtain ⟨q1, q2⟩ := nm_itoa (u := v) (by omega) h2
    have hd : (Lib.itoa v).getD 0 0 ≠ 45 := by
      obtain ⟨c, r, e⟩ := List.exists_cons_of_ne_nil q1.ne
      rw [e, List.getD_cons_zero]
      rintro rfl
      have := q1.d 45 (by rw [e]; exact List.mem_cons_self)
      revert this; decide
    rw [sgB, sgV, if_neg hd, if_neg hd]
    exact ⟨nmB_t.2 q1, q2⟩
theorem itoa_sg {l : List UInt8} (h : sgB l = true) : Lib.itoa (sgV l) = l := by
  unfold sgB at h
  unfold sgV
  split at h
  · rename_i h45
    rw [if_pos h45]
    rw [Bool.and_eq_true, decide_eq_true_eq] at h
    have q := nmB_t.1 h.1
    rw [itoa_neg (by omega), Int.neg_neg, q.itoa]
    match l, h45, q with
    | c :: r, h45, _ =>
      have h45 : c = 45 := h45
      rw [h45]; rfl
    | [], _, q => exact absurd rfl q.ne
  · rename_i h45
    rw [if_neg h45, (nmB_t.1 h).itoa]
theorem sg_pi {l : List UInt8} (h : sgB l = true) (h1 : -32768 ≤ sgV l) (h2 : sgV l ≤ 32767) : piB 16 l = true ∧ piV 16 l = sgV l := by
  have e : 2 ^ (16 - 1) = 32768 := by decide
  unfold sgB at h
  unfold sgV at h1 h2 ⊢
  split at h
  · rename_i h45
    rw [if_pos h45] at h1 h2 ⊢
    rw [Bool.and_eq_true, decide_eq_true_eq] at h
    have q := nmB_t.1 h.1
    match l, h45, q with
    | c :: r, h45, q =>
      have h45 : c = 45 := h45
      subst h45
      exact q.piN (.inr rfl) (by rw [e]; have : -32768 ≤ -(nmV r : Int) := h1
                                 omega)
    | [], _, q => exact absurd rfl q.ne
  · rename_i h45
    rw [if_neg h45] at h1 h2 ⊢
    exact (nmB_t.1 h).pi (.inr rfl) (by rw [e]; omega)

end Go.Proofs.YtkjmcfpiddpgdaaDoor
