/- Stones, in a program whose error values are listed: the functions of the laws that copy and compare them. No conditions beyond the ranges of the kinds. -/
import Derived.Test.YtnoljgfnpabinaaDoorSl
set_option linter.unusedSimpArgs false
set_option linter.unusedVariables false
namespace Go.Proofs.YtnoljgfnpabinaaDoor
open Go.Sx Go.RowKit

def txT : Nat → Option (List Value) := fun _ => none
def TT (e : Nat → Value) : Tab := ⟨[(2, ⟨.int .i64, 1, [.lit .i64 0], 8⟩),
  (3, ⟨.int .i64, 1, [.lit .i64 0], 8⟩),
  (4, ⟨.bool, 1, [.ff], 1⟩),
  (5, ⟨.int .u8, 1, [.lit .u8 0], 1⟩),
  (9, ⟨.str, 1, [.str ByteArray.empty], 16⟩),
  (22, ⟨.slice 39, 1, [.val (.slice none 0 0)], 24⟩),
  (24, ⟨.slice 35, 1, [.val (.slice none 0 0)], 24⟩),
  (25, ⟨.slice 35, 1, [.val (.slice none 0 0)], 24⟩),
  (29, ⟨.fn, 1, [.val .nilFunc], 8⟩),
  (33, ⟨.int .i16, 1, [.lit .i16 0], 2⟩),
  (35, ⟨.struct [(0, 33), (1, 33)], 2, [.lit .i16 0, .lit .i16 0], 4⟩),
  (39, ⟨.struct [(0, 33), (1, 33)], 2, [.lit .i16 0, .lit .i16 0], 4⟩),
  (47, ⟨.slice 25, 1, [.val (.slice none 0 0)], 24⟩),
  (48, ⟨.map 35 2, 1, [.val (.map none)], 8⟩),
  (53, ⟨.ifc, 1, [.val .nilIface], 16⟩)], fun g => match g with
  | 0 => some (.iface 77 (e 0))
  | 1 => some (.iface 77 (e 1))
  | 2 => some (.iface 77 (e 2))
  | _ => none, [], fun _ => false, txT⟩
theorem tt_ok {e : Nat → Value} : TabOk Tryd.prog (TT e) := Tab.chk_sound (by kernel_rfl) (by kernel_rfl) (by kernel_rfl) (trivial)

variable {e : Nat → Value}

noncomputable def IL0 : List (FuncId × Func × (Nat → LM)) := [(15, Tryd.f15, U0)]
theorem IL0_ok : InlsOk Tryd.prog IL0 := ⟨⟨Tryd.func15, by kernel_rfl⟩, trivial⟩

abbrev C0 : Ctr := ctrOf []
theorem C0_ok : CtrOk Tryd.prog (TT e) C0 := ctrOf_ok trivial

/-! ### szStone -/
def gSz : Entry := fun args _ => match args with
  | [.a (.c (.slc _ _ _ _ len _)), .a (.c (.int .i64 left))] => some (0 ≤ len ∧ len ≤ 9223372036854775807 ∧ 0 ≤ left ∧ left ≤ 1048576, .a (.c (.int .i64 (szF left len))))
  | _ => none

theorem x_szStone (b : Nat) (i : Int) (s : Nat) (len cap left : Int) (h1 : 0 ≤ len) (h2 : len ≤ 9223372036854775807) (h3 : 0 ≤ left) (h4 : left ≤ 1048576) : Fex true (TT e) (inlN true (TT e) C0 (lookI IL0) 1) C0 U0 Tryd.f4 [.a (.c (.slc 0 b i s len cap)), .a (.c (.int .i64 left))] [.dead] (fun lv _ => leL lv (.a (.c (.int .i64 (szF left len))))) := by
  refine Go.Sx.by_eq (q := True ∧ True ∧ True ∧ True ∧ ((-9223372036854775808 : Int) ≤ left - len ∧ left - len ≤ (9223372036854775807 : Int)) ∧ True ∧ True ∧ True ∧ (Decidable.decide (left - len < (0 : Int)) = Bool.true → True ∧ IntKind.i64 = IntKind.i64 ∧ (-1 : Int) = szF left len) ∧ (Decidable.decide (left - len < (0 : Int)) = Bool.false → True ∧ True ∧ IntKind.i64 = IntKind.i64 ∧ left - len = szF left len)) (by kernel_rfl) ?_
  simp only [true_and, and_true, and_self, decide_eq_true_eq, decide_eq_false_iff_not, Bool.not_eq_true', Bool.not_eq_false', Bool.not_true, Bool.not_false, beq_iff_eq, beq_eq_false_iff_ne, bne_iff_ne, bne_eq_false_iff_eq, ne_eq, not_true_eq_false, not_false_eq_true, false_implies, true_implies, implies_true, forall_const, exists_const, ↓reduceIte, Int.reduceEq, Int.toNat_natCast, Bool.false_eq_true, Bool.true_eq_false, reduceCtorEq]
  refine ⟨⟨by omega, by omega⟩, fun h => by simp [szF, h], fun h => ?_⟩
  rw [szF, if_neg h]

/-! ### toStone -/
def toF (k : Nat) (l : List Int) (i : Nat) : Int := if i < k then l.getD i 0 else 0
def lmTo (len : Int) (l : List Int) : LAnn := { ι := Nat, inv := fun _ k => k ≤ len.toNat, slots := fun _ k => [(4, .a (.c (.int .i64 k)))], blks := fun _ k => [(1, [.run [.i16] (len.toNat * 2) (mkN (len.toNat * 2) (toF (2 * k) l))])], μ := fun _ k => len.toNat - k }

theorem x_toStone (b n : Nat) (l : List Int) (len cap : Int) (h1 : 0 ≤ len) (h2 : len ≤ 1048576) (h3 : len.toNat * 2 ≤ n) (h4 : l.length = n) : Fex true (TT e) (inlN true (TT e) C0 (lookI IL0) 1) C0 (fun _ => .inv (lmTo len l)) Tryd.f6 [.a (.c (.slc 0 b 0 2 len cap))] [.wnd b [.i16] n l] (fun lv H' => ∃ _ : Unit, True ∧ leSt ⟨[lv], H'⟩ ⟨[rnL ([0].length + ·) (.a (.c (.slc 0 0 0 2 len len)))], deadsN [0].length ++ [.cells true 35 [.run [.i16] (len.toNat * 2) (l.take (len.toNat * 2))]]⟩ [0].length [1]) := by
  refine Go.Sx.by_eq (q := True ∧ True ∧ True ∧ ((0 : Int) ≤ len ∧ len ≤ len ∧ len ≤ (9223372036854775807 : Int) ∧ (↑(4 : Nat) : Int) * len ≤ (281474976710656 : Int)) ∧ True ∧ True ∧ (∃ (x : Nat), x ≤ Int.toNat len ∧ (Cel.slc (0 : Nat) b (0 : Int) (2 : Nat) len cap = Cel.slc (0 : Nat) b (0 : Int) (2 : Nat) len cap ∧ Cel.val Go.undef = Cel.val Go.undef ∧ Cel.val (Go.Value.slice Option.none (0 : Nat) (0 : Nat)) = Cel.val (Go.Value.slice Option.none (0 : Nat) (0 : Nat)) ∧ Cel.slc (1 : Nat) (0 : Nat) (0 : Int) (2 : Nat) len len = Cel.slc (1 : Nat) (0 : Nat) (0 : Int) (2 : Nat) len len ∧ (IntKind.i64 = IntKind.i64 ∧ (0 : Int) = (↑x : Int)) ∧ Cel.slc (0 : Nat) b (0 : Int) (2 : Nat) len cap = Cel.slc (0 : Nat) b (0 : Int) (2 : Nat) len cap ∧ (IntKind.i64 = IntKind.i64 ∧ len = len) ∧ Cel.slc (1 : Nat) (0 : Nat) (0 : Int) (2 : Nat) len len = Cel.slc (1 : Nat) (0 : Nat) (0 : Int) (2 : Nat) len len ∧ True ∧ True ∧ True ∧ True ∧ True ∧ True ∧ True ∧ True ∧ True ∧ True ∧ True ∧ True ∧ True ∧ True ∧ Cel.val Go.undef = Cel.val Go.undef ∧ True) ∧ (b = b ∧ [EK.i16] = [EK.i16] ∧ n = n ∧ l = l) ∧ (Bool.true = Bool.true ∧ (35 : Nat) = (35 : Nat) ∧ ([EK.i16] = [EK.i16] ∧ Int.toNat len * (2 : Nat) = Int.toNat len * (2 : Nat) ∧ List.replicate (Int.toNat len * (2 : Nat)) (0 : Int) = mkN (Int.toNat len * (2 : Nat)) (toF ((2 : Nat) * x) l)) ∧ True) ∧ True) ∧ ∀ (x : Nat), x ≤ Int.toNat len → True ∧ True ∧ True ∧ True ∧ (Decidable.decide ((↑x : Int) < len) = Bool.true → True ∧ True ∧ True ∧ True ∧ ((0 : Int) ≤ (↑x : Int) ∧ (↑x : Int) < len) ∧ (b = b ∧ (0 : Int) ≤ (0 : Int) + (↑x : Int) ∧ Int.toNat ((0 : Int) + (↑x : Int)) * (2 : Nat) + (0 : Nat) + (2 : Nat) ≤ n) ∧ True ∧ True ∧ True ∧ True ∧ True ∧ True ∧ True ∧ True ∧ True ∧ True ∧ True ∧ True ∧ True ∧ ((0 : Int) ≤ (↑x : Int) ∧ (↑x : Int) < len) ∧ ((0 : Int) ≤ (0 : Int) + (↑x : Int) ∧ Int.toNat ((0 : Int) + (↑x : Int)) * (2 : Nat) + (0 : Nat) + (2 : Nat) ≤ Int.toNat len * (2 : Nat)) ∧ True ∧ ((-9223372036854775808 : Int) ≤ (↑x : Int) + (1 : Int) ∧ (↑x : Int) + (1 : Int) ≤ (9223372036854775807 : Int)) ∧ True ∧ ∃ (y : Nat), y ≤ Int.toNat len ∧ Int.toNat len - y < Int.toNat len - x ∧ (Cel.slc (0 : Nat) b (0 : Int) (2 : Nat) len cap = Cel.slc (0 : Nat) b (0 : Int) (2 : Nat) len cap ∧ Cel.val Go.undef = Cel.val Go.undef ∧ Cel.val (Go.Value.slice Option.none (0 : Nat) (0 : Nat)) = Cel.val (Go.Value.slice Option.none (0 : Nat) (0 : Nat)) ∧ Cel.slc (1 : Nat) (0 : Nat) (0 : Int) (2 : Nat) len len = Cel.slc (1 : Nat) (0 : Nat) (0 : Int) (2 : Nat) len len ∧ (IntKind.i64 = IntKind.i64 ∧ (↑x : Int) + (1 : Int) = (↑y : Int)) ∧ Cel.slc (0 : Nat) b (0 : Int) (2 : Nat) len cap = Cel.slc (0 : Nat) b (0 : Int) (2 : Nat) len cap ∧ (IntKind.i64 = IntKind.i64 ∧ len = len) ∧ Cel.slc (1 : Nat) (0 : Nat) (0 : Int) (2 : Nat) len len = Cel.slc (1 : Nat) (0 : Nat) (0 : Int) (2 : Nat) len len ∧ True ∧ True ∧ True ∧ True ∧ True ∧ True ∧ True ∧ True ∧ True ∧ True ∧ True ∧ True ∧ True ∧ True ∧ Cel.val Go.undef = Cel.val Go.undef ∧ True) ∧ (b = b ∧ [EK.i16] = [EK.i16] ∧ n = n ∧ l = l) ∧ (Bool.true = Bool.true ∧ (35 : Nat) = (35 : Nat) ∧ ([EK.i16] = [EK.i16] ∧ Int.toNat len * (2 : Nat) = Int.toNat len * (2 : Nat) ∧ List.take (Int.toNat ((0 : Int) + (↑x : Int)) * (2 : Nat) + (0 : Nat)) (mkN (Int.toNat len * (2 : Nat)) (toF ((2 : Nat) * x) l)) ++ [List.getD (List.take (2 : Nat) (List.drop (Int.toNat ((0 : Int) + (↑x : Int)) * (2 : Nat) + (0 : Nat)) l)) (0 : Nat) (0 : Int), List.getD (List.take (2 : Nat) (List.drop (Int.toNat ((0 : Int) + (↑x : Int)) * (2 : Nat) + (0 : Nat)) l)) (1 : Nat) (0 : Int)] ++ List.drop (Int.toNat ((0 : Int) + (↑x : Int)) * (2 : Nat) + (0 : Nat) + (2 : Nat)) (mkN (Int.toNat len * (2 : Nat)) (toF ((2 : Nat) * x) l)) = mkN (Int.toNat len * (2 : Nat)) (toF ((2 : Nat) * y) l)) ∧ True) ∧ True) ∧ (Decidable.decide ((↑x : Int) < len) = Bool.false → True ∧ True ∧ ∃ (x_1 : Unit), True ∧ (Cel.slc (1 : Nat) (0 : Nat) (0 : Int) (2 : Nat) len len = Cel.slc (1 : Nat) (0 : Nat) (0 : Int) (2 : Nat) len len ∧ True) ∧ True ∧ (Bool.true = Bool.true ∧ (35 : Nat) = (35 : Nat) ∧ ([EK.i16] = [EK.i16] ∧ Int.toNat len * (2 : Nat) = Int.toNat len * (2 : Nat) ∧ mkN (Int.toNat len * (2 : Nat)) (toF ((2 : Nat) * x) l) = List.take (Int.toNat len * (2 : Nat)) l) ∧ True) ∧ True)) (by kernel_rfl) ?_
  simp only [true_and, and_true, and_self, decide_eq_true_eq, decide_eq_false_iff_not, Bool.not_eq_true', Bool.not_eq_false', Bool.not_true, Bool.not_false, beq_iff_eq, beq_eq_false_iff_ne, bne_iff_ne, bne_eq_false_iff_eq, ne_eq, not_true_eq_false, not_false_eq_true, false_implies, true_implies, implies_true, forall_const, exists_const, ↓reduceIte, Int.reduceEq, Int.toNat_natCast, Bool.false_eq_true, Bool.true_eq_false, reduceCtorEq, Int.zero_add, Nat.add_zero, getD_take', getD_drop']
  have hlen : (len.toNat : Int) = len := by omega
  refine ⟨⟨by omega, by omega, by omega, by omega⟩, ⟨0, by omega, rfl, ?_⟩, ?_⟩
  · exact mkN_zero fun i hi => by simp [toF]
  intro k hk

  refine ⟨fun hlt => ⟨by omega, by omega, by omega, by omega, by omega, k + 1, by omega, by omega, by omega, ?_⟩, fun hge => ?_⟩
  · refine mkN_put (by simp) (by omega) (fun i hi hne => ?_) fun j hj => ?_
    · simp only [toF]
      by_cases h : i < 2 * k
      · rw [if_pos h, if_pos (by omega)]
      · rw [if_neg h, if_neg (by omega)]
    · simp only [List.length_cons, List.length_nil] at hj
      rw [toF, if_pos (by omega)]
      rcases (show j = 0 ∨ j = 1 by omega) with rfl | rfl <;> simp
  · rw [take_mkN (by omega)]
    exact mkN_congr fun i hi => by rw [toF, if_pos (by omega)]

def gTo : EntryC := fun args H K => match args with
  | [.a (.c (.slc id b i s len cap))] => match getB H id with
    | .wnd o ks n l => (b = o ∧ i = 0 ∧ s = 2 ∧ ks = [.i16] ∧ l.length = n ∧ 0 ≤ len ∧ len ≤ 1048576 ∧ len.toNat * 2 ≤ n) ∧ withLenP H fun m => K (.a (.c (.slc m 0 0 2 len len))) (H ++ [.cells true 35 [.run [.i16] (len.toNat * 2) (l.take (len.toNat * 2))]])
    | _ => Stuck "to"
  | _ => Stuck "to"

theorem e_toStone : EntryCOk Tryd.prog (TT e) 6 gTo := by
  refine ⟨fnOk Tryd.func6 (by kernel_rfl) rfl, ?_⟩
  intro args H K h n0 w0 β w vals hG hH hA
  unfold gTo at h
  split at h
  · split at h
    · rename_i id b i s len cap _ o ks n l hg
      obtain ⟨⟨rfl, rfl, rfl, rfl, hl, h1, h2, h3⟩, hk⟩ := h
      have hk := withLenP_sound hk
      refine (entry_fresh tt_ok (inlN_ok tt_ok C0_ok mixed IL0_ok.ok 1) C0_ok mixed Tryd.func6 [id] (x_toStone b n l len cap h1 h2 h3 hl) rfl (fun _ => rfl) (fun _ => rfl) ⟨.inr (by rw [hg]; rfl), trivial⟩ hG hH hA).mono ?_
      rintro e w' ⟨v, γ, x, rfl, _, h5, h6⟩
      exact ⟨v, γ, _, _, rfl, hk, h5, h6⟩
    · exact h.elim
  · exact h.elim

theorem e_szStone : EntryOk Tryd.prog (TT e) 4 gSz := by
  refine ⟨fnOk Tryd.func4 (by kernel_rfl) rfl, ?_⟩
  intro args H p r he hp n0 w0 β w vals hG hH hA
  unfold gSz at he
  split at he
  · rename_i id b i s len cap left
    simp only [Option.some.injEq, Prod.mk.injEq] at he
    obtain ⟨rfl, rfl⟩ := he
    obtain ⟨h1, h2, h3, h4⟩ := hp
    exact entry_view tt_ok (inlN_ok tt_ok C0_ok mixed IL0_ok.ok 1) C0_ok mixed Tryd.func4 [id] (x_szStone b i s len cap left h1 h2 h3 h4) rfl rfl ⟨.inl rfl, trivial⟩ hG hH hA
  · simp at he

/-! ### Stones compared -/
def eqC (a b : List Int) : Bool := a.getD 0 0 == b.getD 0 0 && a.getD 1 0 == b.getD 1 0
def gEqC : Entry := fun args _ => match args with
  | [.a (.agg [.run [.i16] 2 a]), .a (.agg [.run [.i16] 2 b])] => some (True, .a (.c (.bool (eqC a b))))
  | _ => none

theorem x_eqCorner (a b : List Int) : Fex true (TT e) (inlN true (TT e) C0 (lookI IL0) 1) C0 U0 Tryd.f20 [.a (.agg [.run [.i16] 2 a]), .a (.agg [.run [.i16] 2 b])] [] (fun lv _ => leL lv (.a (.c (.bool (eqC a b))))) := by
  refine Go.Sx.by_eq (q := True ∧ True ∧ True ∧ True ∧ True ∧ True ∧ True ∧ True ∧ ((List.getD a (0 : Nat) (0 : Int) != List.getD b (0 : Nat) (0 : Int)) = Bool.true → True ∧ eqC a b = Bool.false) ∧ ((List.getD a (0 : Nat) (0 : Int) != List.getD b (0 : Nat) (0 : Int)) = Bool.false → True ∧ True ∧ True ∧ True ∧ True ∧ ((List.getD a (1 : Nat) (0 : Int) != List.getD b (1 : Nat) (0 : Int)) = Bool.true → True ∧ eqC a b = Bool.false) ∧ ((List.getD a (1 : Nat) (0 : Int) != List.getD b (1 : Nat) (0 : Int)) = Bool.false → True ∧ eqC a b = Bool.true))) (by kernel_rfl) ?_
  simp only [eqC]
  cases h1 : (a.getD 0 0 == b.getD 0 0) <;> cases h2 : (a.getD 1 0 == b.getD 1 0) <;> simp_all

theorem e_eqCorner : EntryOk Tryd.prog (TT e) 20 gEqC := by
  refine ⟨fnOk Tryd.func20 (by kernel_rfl) rfl, ?_⟩
  intro args H p r he hp n0 w0 β w vals hG hH hA
  unfold gEqC at he
  split at he
  · rename_i a b
    simp only [Option.some.injEq, Prod.mk.injEq] at he
    obtain ⟨rfl, rfl⟩ := he
    exact entry_bare tt_ok (inlN_ok tt_ok C0_ok mixed IL0_ok.ok 1) C0_ok mixed Tryd.func20 (x_eqCorner a b) rfl rfl hG hH hA
  · simp at he

def E1 : List (FuncId × Entry) := [(4, gSz), (20, gEqC)]
theorem E1_ok : EntriesOk Tryd.prog (TT e) E1 := ⟨e_szStone, e_eqCorner, trivial⟩
abbrev C1 : Ctr := ctrOf E1
theorem C1_ok : CtrOk Tryd.prog (TT e) C1 := ctrOf_ok E1_ok

theorem eqC_t {k : Nat} {l1 l2 : List Int} : eqC (List.take 2 (List.drop (k * 2) l1)) (List.take 2 (List.drop (k * 2) l2)) = true ↔ (l1.getD (k * 2) 0 = l2.getD (k * 2) 0 ∧ l1.getD (k * 2 + 1) 0 = l2.getD (k * 2 + 1) 0) := by
  simp only [eqC, Bool.and_eq_true, beq_iff_eq, getD_take' (show (0 : Nat) < 2 by omega), getD_take' (show (1 : Nat) < 2 by omega), getD_drop', Nat.add_zero]

theorem eqC_step {k : Nat} {l1 l2 : List Int} (hp : ∀ i, i < k * 2 → l1.getD i 0 = l2.getD i 0) (hc : eqC (List.take 2 (List.drop (k * 2) l1)) (List.take 2 (List.drop (k * 2) l2)) = true) : ∀ i, i < (k + 1) * 2 → l1.getD i 0 = l2.getD i 0 := by
  intro i hi
  obtain ⟨h0, h1⟩ := eqC_t.1 hc
  rcases (show i < k * 2 ∨ i = k * 2 ∨ i = k * 2 + 1 by omega) with h | rfl | rfl
  · exact hp i h
  · exact h0
  · exact h1

theorem eqC_stop {k : Nat} {n m : Int} {l1 l2 : List Int} (hk : k < n.toNat) (hc : eqC (List.take 2 (List.drop (k * 2) l1)) (List.take 2 (List.drop (k * 2) l2)) = false) : eqSl 2 n m l1 l2 = false := by
  by_cases h0 : l1.getD (k * 2) 0 = l2.getD (k * 2) 0
  · by_cases h1 : l1.getD (k * 2 + 1) 0 = l2.getD (k * 2 + 1) 0
    · rw [eqC_t.2 ⟨h0, h1⟩] at hc; cases hc
    · exact eqSl_no (i := k * 2 + 1) (by omega) h1
  · exact eqSl_no (i := k * 2) (by omega) h0

def gEqS : Entry := fun args H => match args with
  | [.a (.c (.slc i1 0 z1 2 len1 _)), .a (.c (.slc i2 0 z2 2 len2 _))] => match getB H i1, getB H i2 with
    | .cells _ t1 [.run [.i16] n1 l1], .cells _ t2 [.run [.i16] n2 l2] => if t1 = 35 ∧ t2 = 35 then some (z1 = 0 ∧ z2 = 0 ∧ 0 ≤ len1 ∧ len1 ≤ 1048576 ∧ 0 ≤ len2 ∧ len1.toNat * 2 ≤ n1 ∧ len2.toNat * 2 ≤ n2 ∧ l1.length = n1 ∧ l2.length = n2, .a (.c (.bool (eqSl 2 len1 len2 l1 l2)))) else none
    | _, _ => none
  | _ => none

theorem gEqS_inv {args : List LV} {H : List Blk} {p : Prop} {r : LV} (he : gEqS args H = some (p, r)) (hp : p) : ∃ (i1 i2 : Nat) (o1 o2 : Bool) (n1 n2 : Nat) (l1 l2 : List Int) (c1 c2 len1 len2 : Int),
    args = [.a (.c (.slc i1 0 0 2 len1 c1)), .a (.c (.slc i2 0 0 2 len2 c2))] ∧ getB H i1 = .cells o1 35 [.run [.i16] n1 l1] ∧ getB H i2 = .cells o2 35 [.run [.i16] n2 l2] ∧ r = .a (.c (.bool (eqSl 2 len1 len2 l1 l2))) ∧
    0 ≤ len1 ∧ len1 ≤ 1048576 ∧ 0 ≤ len2 ∧ len1.toNat * 2 ≤ n1 ∧ len2.toNat * 2 ≤ n2 ∧ l1.length = n1 ∧ l2.length = n2 := by
  unfold gEqS at he
  split at he
  · split at he
    · rename_i hg1 hg2
      split at he
      · rename_i ht
        obtain ⟨rfl, rfl⟩ := ht
        simp only [Option.some.injEq, Prod.mk.injEq] at he
        obtain ⟨rfl, rfl⟩ := he
        obtain ⟨rfl, rfl, hh⟩ := hp
        exact ⟨_, _, _, _, _, _, _, _, _, _, _, _, rfl, hg1, hg2, rfl, hh⟩
      · simp at he
    · simp at he
  · simp at he

theorem x_eqStone (n1 n2 : Nat) (l1 l2 : List Int) (c1 c2 len1 len2 : Int) (h1 : 0 ≤ len1) (h2 : len1 ≤ 1048576) (h3 : 0 ≤ len2) (h4 : len1.toNat * 2 ≤ n1) (h5 : len2.toNat * 2 ≤ n2) (e1 : l1.length = n1) (e2 : l2.length = n2) : Fex true (TT e) (inlN true (TT e) C1 (lookI IL0) 1) C1 (fun _ => .inv (lmEq 5 2 len1 l1 l2)) Tryd.f8 [.a (.c (.slc 0 0 0 2 len1 c1)), .a (.c (.slc 1 0 0 2 len2 c2))] [.cells false 35 [.run [.i16] n1 l1], .cells false 35 [.run [.i16] n2 l2]] (fun lv _ => leL lv (.a (.c (.bool (eqSl 2 len1 len2 l1 l2))))) := by
  refine Go.Sx.by_eq (q := True ∧ True ∧ True ∧ True ∧ True ∧ True ∧ ((len1 != len2) = Bool.true → True ∧ eqSl (2 : Nat) len1 len2 l1 l2 = Bool.false) ∧ ((len1 != len2) = Bool.false → True ∧ (∃ (x : Nat), (x ≤ Int.toNat len1 ∧ ∀ (i : Nat), i < x * (2 : Nat) → List.getD l1 i (0 : Int) = List.getD l2 i (0 : Int)) ∧ (Cel.slc (0 : Nat) (0 : Nat) (0 : Int) (2 : Nat) len1 c1 = Cel.slc (0 : Nat) (0 : Nat) (0 : Int) (2 : Nat) len1 c1 ∧ Cel.slc (1 : Nat) (0 : Nat) (0 : Int) (2 : Nat) len2 c2 = Cel.slc (1 : Nat) (0 : Nat) (0 : Int) (2 : Nat) len2 c2 ∧ Cel.val Go.undef = Cel.val Go.undef ∧ Cel.val Go.undef = Cel.val Go.undef ∧ True ∧ (IntKind.i64 = IntKind.i64 ∧ (0 : Int) = (↑x : Int)) ∧ Cel.slc (0 : Nat) (0 : Nat) (0 : Int) (2 : Nat) len1 c1 = Cel.slc (0 : Nat) (0 : Nat) (0 : Int) (2 : Nat) len1 c1 ∧ (IntKind.i64 = IntKind.i64 ∧ len1 = len1) ∧ Cel.slc (1 : Nat) (0 : Nat) (0 : Int) (2 : Nat) len2 c2 = Cel.slc (1 : Nat) (0 : Nat) (0 : Int) (2 : Nat) len2 c2 ∧ (IntKind.i64 = IntKind.i64 ∧ len2 = len2) ∧ (len1 != len2) = (len1 != len2) ∧ True ∧ True ∧ True ∧ True ∧ True ∧ True ∧ True ∧ True ∧ True ∧ True ∧ True ∧ True ∧ True ∧ True ∧ True ∧ True ∧ True) ∧ (Bool.false = Bool.false ∧ (35 : Nat) = (35 : Nat) ∧ ([EK.i16] = [EK.i16] ∧ n1 = n1 ∧ l1 = l1) ∧ True) ∧ (Bool.false = Bool.false ∧ (35 : Nat) = (35 : Nat) ∧ ([EK.i16] = [EK.i16] ∧ n2 = n2 ∧ l2 = l2) ∧ True) ∧ True) ∧ ∀ (x : Nat), (x ≤ Int.toNat len1 ∧ ∀ (i : Nat), i < x * (2 : Nat) → List.getD l1 i (0 : Int) = List.getD l2 i (0 : Int)) → True ∧ True ∧ True ∧ True ∧ (Decidable.decide ((↑x : Int) < len1) = Bool.true → True ∧ True ∧ ((0 : Int) ≤ (↑x : Int) ∧ (↑x : Int) < len1) ∧ ((0 : Int) ≤ (0 : Int) + (↑x : Int) ∧ Int.toNat ((0 : Int) + (↑x : Int)) * (2 : Nat) + (0 : Nat) + (2 : Nat) ≤ n1) ∧ True ∧ True ∧ ((0 : Int) ≤ (↑x : Int) ∧ (↑x : Int) < len2) ∧ ((0 : Int) ≤ (0 : Int) + (↑x : Int) ∧ Int.toNat ((0 : Int) + (↑x : Int)) * (2 : Nat) + (0 : Nat) + (2 : Nat) ≤ n2) ∧ True ∧ True ∧ ((!eqC (List.take (2 : Nat) (List.drop (Int.toNat ((0 : Int) + (↑x : Int)) * (2 : Nat) + (0 : Nat)) l1)) (List.take (2 : Nat) (List.drop (Int.toNat ((0 : Int) + (↑x : Int)) * (2 : Nat) + (0 : Nat)) l2))) = Bool.true → True ∧ eqSl (2 : Nat) len1 len2 l1 l2 = Bool.false) ∧ ((!eqC (List.take (2 : Nat) (List.drop (Int.toNat ((0 : Int) + (↑x : Int)) * (2 : Nat) + (0 : Nat)) l1)) (List.take (2 : Nat) (List.drop (Int.toNat ((0 : Int) + (↑x : Int)) * (2 : Nat) + (0 : Nat)) l2))) = Bool.false → True ∧ ((-9223372036854775808 : Int) ≤ (↑x : Int) + (1 : Int) ∧ (↑x : Int) + (1 : Int) ≤ (9223372036854775807 : Int)) ∧ True ∧ ∃ (y : Nat), (y ≤ Int.toNat len1 ∧ ∀ (i : Nat), i < y * (2 : Nat) → List.getD l1 i (0 : Int) = List.getD l2 i (0 : Int)) ∧ Int.toNat len1 - y < Int.toNat len1 - x ∧ (Cel.slc (0 : Nat) (0 : Nat) (0 : Int) (2 : Nat) len1 c1 = Cel.slc (0 : Nat) (0 : Nat) (0 : Int) (2 : Nat) len1 c1 ∧ Cel.slc (1 : Nat) (0 : Nat) (0 : Int) (2 : Nat) len2 c2 = Cel.slc (1 : Nat) (0 : Nat) (0 : Int) (2 : Nat) len2 c2 ∧ Cel.val Go.undef = Cel.val Go.undef ∧ Cel.val Go.undef = Cel.val Go.undef ∧ True ∧ (IntKind.i64 = IntKind.i64 ∧ (↑x : Int) + (1 : Int) = (↑y : Int)) ∧ Cel.slc (0 : Nat) (0 : Nat) (0 : Int) (2 : Nat) len1 c1 = Cel.slc (0 : Nat) (0 : Nat) (0 : Int) (2 : Nat) len1 c1 ∧ (IntKind.i64 = IntKind.i64 ∧ len1 = len1) ∧ Cel.slc (1 : Nat) (0 : Nat) (0 : Int) (2 : Nat) len2 c2 = Cel.slc (1 : Nat) (0 : Nat) (0 : Int) (2 : Nat) len2 c2 ∧ (IntKind.i64 = IntKind.i64 ∧ len2 = len2) ∧ (len1 != len2) = (len1 != len2) ∧ True ∧ True ∧ True ∧ True ∧ True ∧ True ∧ True ∧ True ∧ True ∧ True ∧ True ∧ True ∧ True ∧ True ∧ True ∧ True ∧ True) ∧ (Bool.false = Bool.false ∧ (35 : Nat) = (35 : Nat) ∧ ([EK.i16] = [EK.i16] ∧ n1 = n1 ∧ l1 = l1) ∧ True) ∧ (Bool.false = Bool.false ∧ (35 : Nat) = (35 : Nat) ∧ ([EK.i16] = [EK.i16] ∧ n2 = n2 ∧ l2 = l2) ∧ True) ∧ True)) ∧ (Decidable.decide ((↑x : Int) < len1) = Bool.false → True ∧ eqSl (2 : Nat) len1 len2 l1 l2 = Bool.true))) (by kernel_rfl) ?_
  simp only [true_and, and_true, and_self, decide_eq_true_eq, decide_eq_false_iff_not, Bool.not_eq_true', Bool.not_eq_false', Bool.not_true, Bool.not_false, beq_iff_eq, beq_eq_false_iff_ne, bne_iff_ne, bne_eq_false_iff_eq, ne_eq, not_true_eq_false, not_false_eq_true, false_implies, true_implies, implies_true, forall_const, exists_const, ↓reduceIte, Int.reduceEq, Int.toNat_natCast, Bool.false_eq_true, Bool.true_eq_false, reduceCtorEq, Int.zero_add, Nat.add_zero]
  refine ⟨fun h => eqSl_ne h, fun hn => ⟨⟨0, ⟨by omega, fun i hi => by omega⟩, rfl⟩, ?_⟩⟩
  rintro k ⟨hk, hp⟩
  exact ⟨fun hlt => ⟨by omega, by omega, by omega, by omega, fun hc => eqC_stop (by omega) hc, fun hc => ⟨by omega, k + 1, ⟨by omega, eqC_step hp hc⟩, by omega, by omega⟩⟩, fun hge => eqSl_yes hn (by omega) (by omega) fun i hi => hp i (by omega)⟩

theorem e_eqStone : EntryOk Tryd.prog (TT e) 8 gEqS := by
  refine ⟨fnOk Tryd.func8 (by kernel_rfl) rfl, ?_⟩
  intro args H p r he hp n0 w0 β w vals hG hH hA
  obtain ⟨i1, i2, o1, o2, n1, n2, l1, l2, c1, c2, len1, len2, rfl, hg1, hg2, rfl, h1, h2, h3, h4, h5, h6, h7⟩ := gEqS_inv he hp
  exact entry_view tt_ok (inlN_ok tt_ok C1_ok mixed IL0_ok.ok 1) C1_ok mixed Tryd.func8 [i1, i2] (x_eqStone n1 n2 l1 l2 c1 c2 len1 len2 h1 h2 h3 h4 h5 h6 h7) rfl rfl ⟨.inr (by rw [hg1]; rfl), .inr (by rw [hg2]; rfl), trivial⟩ hG hH hA

end Go.Proofs.YtnoljgfnpabinaaDoor
