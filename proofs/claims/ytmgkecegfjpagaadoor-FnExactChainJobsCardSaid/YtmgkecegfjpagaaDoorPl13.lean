/- ChainJobs: both sides. No conditions beyond the ranges of the kinds. -/
import Derived.Test.YtmgkecegfjpagaaDoorJb5
import Derived.Test.YtmgkecegfjpagaaDoorPl1b
set_option linter.unusedSimpArgs false
set_option linter.unusedVariables false
namespace Go.Proofs.YtmgkecegfjpagaaDoor
open Go.Sx Go.RowKit

theorem take_set2 {l : List Int} {n i : Nat} {a : Int} : (l.set i a).take n = (l.take n).set i a := by
  apply List.ext_getElem?
  intro k
  by_cases hk : k < n
  · rw [List.getElem?_take_of_lt hk, List.getElem?_set, List.getElem?_set, List.getElem?_take_of_lt hk, List.length_take]
    by_cases e : i = k
    · subst e
      rw [if_pos rfl, if_pos rfl]
      by_cases hl : i < l.length
      · rw [if_pos hl, if_pos (by omega)]
      · rw [if_neg hl, if_neg (by omega)]
    · rw [if_neg e, if_neg e]
  · rw [List.getElem?_eq_none (by rw [List.length_take]; omega), List.getElem?_eq_none (by rw [List.length_set, List.length_take]; omega)]
/-- The jobs of which one waits for another one more. -/
def chX (n : Nat) (l : List Int) (f s : Int) : List Int := (l.take (n * 2)).set (s.toNat * 2 + 1) ((af l s.toNat ||| 2 ^ f.toNat : Nat) : Int)
noncomputable def chE (n : Nat) (l : List Int) (f s : Int) : Int := if vjB n l = true then (if (0 ≤ f ∧ f < n) ∧ 0 ≤ s ∧ s < n then (if vjB n (chX n l f s) = true then 0 else 4) else 2) else 1
noncomputable def chK (n : Nat) (l : List Int) (f s : Int) : Nat := if chE n l f s = 0 then n else 0
noncomputable def chF (n : Nat) (l : List Int) (f s : Int) : List Int := if chE n l f s = 0 then chX n l f s else []
theorem ch_no {n : Nat} {l : List Int} {f s c : Int} (hc : chE n l f s = c) (h0 : c ≠ 0) : chK n l f s = 0 ∧ chF n l f s = [] ∧ chE n l f s = c := by
  subst hc
  exact ⟨by rw [chK, if_neg h0], by rw [chF, if_neg h0], rfl⟩
theorem ch_1 {n : Nat} {l : List Int} {f s : Int} (hv : vjB n l = false) : chK n l f s = 0 ∧ chF n l f s = [] ∧ chE n l f s = 1 := ch_no (by rw [chE, if_neg (by rw [hv]; simp)]) (by decide)
theorem ch_2 {n : Nat} {l : List Int} {f s : Int} (hv : vjB n l = true) (h : ¬ ((0 ≤ f ∧ f < n) ∧ 0 ≤ s ∧ s < n)) : chK n l f s = 0 ∧ chF n l f s = [] ∧ chE n l f s = 2 := ch_no (by rw [chE, if_pos hv, if_neg h]) (by decide)
theorem ch_4 {n : Nat} {l : List Int} {f s : Int} (hv : vjB n l = true) (h : (0 ≤ f ∧ f < n) ∧ 0 ≤ s ∧ s < n) (hx : vjB n (chX n l f s) = false) : chK n l f s = 0 ∧ chF n l f s = [] ∧ chE n l f s = 4 := ch_no (by rw [chE, if_pos hv, if_pos h, if_neg (by rw [hx]; simp)]) (by decide)
theorem ch_0 {n : Nat} {l : List Int} {f s : Int} (hv : vjB n l = true) (h : (0 ≤ f ∧ f < n) ∧ 0 ≤ s ∧ s < n) (hx : vjB n (chX n l f s) = true) : chK n l f s = n ∧ chF n l f s = chX n l f s ∧ chE n l f s = 0 := by
  have e : chE n l f s = 0 := by rw [chE, if_pos hv, if_pos h, if_pos hx]
  exact ⟨by rw [chK, if_pos e], by rw [chF, if_pos e], e⟩
theorem chK_le {n : Nat} {l : List Int} {f s : Int} : chK n l f s ≤ 12 := by
  cases hv : vjB n l
  · rw [(ch_1 hv).1]; omega
  · have := (vjB_t.1 hv).hi
    rw [chK]
    split <;> omega
theorem chX_len {n m : Nat} {l : List Int} {f s : Int} (h : n * 2 ≤ l.length) : (chX n l f s).length = n * 2 := by rw [chX, List.length_set, List.length_take]; omega
theorem chX_get {n : Nat} {l : List Int} {f s : Int} (h : n * 2 ≤ l.length) (hs : 0 ≤ s ∧ s < n) {i : Nat} (hi : i < n * 2) : (chX n l f s).getD i 0 = if i = s.toNat * 2 + 1 then ((af l s.toNat ||| 2 ^ f.toNat : Nat) : Int) else l.getD i 0 := by
  rw [chX, List.getD_eq_getElem?_getD, List.getElem?_set]
  by_cases e : s.toNat * 2 + 1 = i
  · rw [if_pos e, if_pos e.symm, if_pos (by rw [List.length_take]; omega)]; rfl
  · rw [if_neg e, if_neg (fun e' => e e'.symm), List.getElem?_take_of_lt hi, ← List.getD_eq_getElem?_getD]
theorem chX_jw {n : Nat} {l : List Int} {f s : Int} (h : n * 2 ≤ l.length) (jw : JW n l) (hn : n ≤ 12) (hf : 0 ≤ f ∧ f < n) (hs : 0 ≤ s ∧ s < n) : JW n (chX n l f s) := by
  constructor
  · intro k hk
    rw [chX_get h hs (by omega), if_neg (by omega)]
    exact jw.d k hk
  · intro k hk
    rw [chX_get h hs (by omega)]
    by_cases e : k * 2 + 1 = s.toNat * 2 + 1
    · rw [if_pos e]
      have := or_lt (jw.af (k := s.toNat) (by omega)).2 (pow_lt16 (k := f.toNat) (by omega))
      omega
    · rw [if_neg e]; exact jw.a k hk
theorem ch_or {n : Nat} {l L : List Int} {s : Int} {f : Nat} (jw : JW n l) (hL : L.take (n * 2) = l.take (n * 2)) (hs : 0 ≤ s ∧ s < n) (hf : f < 16) : bOr .u16 (L.getD (s.toNat * 2 + 1) 0) ((2 ^ f : Nat) : Int) = ((af l s.toNat ||| 2 ^ f : Nat) : Int) := by
  have e : L.getD (s.toNat * 2 + 1) 0 = l.getD (s.toNat * 2 + 1) 0 := by
    have h1 := getD_take' (l := L) (n := n * 2) (i := s.toNat * 2 + 1) (by omega)
    have h2 := getD_take' (l := l) (n := n * 2) (i := s.toNat * 2 + 1) (by omega)
    rw [← h1, ← h2, hL]
  have h := jw.af (k := s.toNat) (by omega)
  rw [e, h.1, bOr16 h.2 (pow_lt16 hf)]
/-- The copy with its new number: what it has in front. -/
theorem ch_set {n N : Nat} {l L : List Int} {f s : Int} (hn : n ≤ 12) (h : n * 2 ≤ l.length) (jw : JW n l) (hL : L.take (n * 2) = l.take (n * 2)) (hN : n * 2 ≤ N) (hl : L.length = N) (hf : 0 ≤ f ∧ f < n) (hs : 0 ≤ s ∧ s < n) :
    (L.set (s.toNat * 2 + 1) ((af l s.toNat ||| 2 ^ f.toNat : Nat) : Int)).take (n * 2) = chX n l f s ∧ Jx n N (L.set (s.toNat * 2 + 1) ((af l s.toNat ||| 2 ^ f.toNat : Nat) : Int)) ∧ vjB n (L.set (s.toNat * 2 + 1) ((af l s.toNat ||| 2 ^ f.toNat : Nat) : Int)) = vjB n (chX n l f s) := by
  have e : (L.set (s.toNat * 2 + 1) ((af l s.toNat ||| 2 ^ f.toNat : Nat) : Int)).take (n * 2) = chX n l f s := by rw [take_set2, hL]; rfl
  have sm := Sm.take (n := n) (l := L.set (s.toNat * 2 + 1) ((af l s.toNat ||| 2 ^ f.toNat : Nat) : Int))
  rw [e] at sm
  exact ⟨e, ⟨by omega, hN, by rw [List.length_set]; exact hl, sm.symm.jw (chX_jw h jw hn hf hs)⟩, sm.symm.vjB⟩
noncomputable def ILch  : List (FuncId × Func × (Nat → LM)) := [
  (61, Tryd.f61, U0),
  (59, Tryd.f59, U0),
  (57, Tryd.f57, U0)]
theorem ILch_ok  : InlsOk Tryd.prog ILch := ⟨⟨Tryd.func61, by kernel_rfl⟩, ⟨Tryd.func59, by kernel_rfl⟩, ⟨Tryd.func57, by kernel_rfl⟩, trivial⟩
theorem x_ChainJobsI (m n : Nat) (l : List Int) (cap f s : Int) (hc : (n : Int) ≤ cap) (q : Jx n m l) : Fex true TT (inlN true TT Cj4 (lookI ILch) 6) Cj4 U0 Tryd.f25 [.a (.c (.slc 0 0 0 2 n cap)), .a (.c (.int .i64 f)), .a (.c (.int .i64 s))] [.cells false 63 [.run [.i8, .u16] m l]] (PJs 63 2 [.i8, .u16] (chK n l f s) (chF n l f s) (chE n l f s)) := by
  refine Go.Sx.by_eq (q := True ∧ True ∧ True ∧ (((63 : Nat) = (63 : Nat) ∧ (0 : Nat) = (0 : Nat) ∧ (0 : Int) = (0 : Int) ∧ (2 : Nat) = (2 : Nat) ∧ [Go.Sx.EK.i8, Go.Sx.EK.u16] = [Go.Sx.EK.i8, Go.Sx.EK.u16]) ∧ (0 : Int) ≤ (↑n : Int) ∧ Jx (Int.toNat (↑n : Int)) m l) ∧ (vjB (Int.toNat (↑n : Int)) l = Bool.true → True ∧ True ∧ True ∧ True ∧ True ∧ True ∧ True ∧ True ∧ True ∧ True ∧ True ∧ True ∧ ((!(Decidable.decide ((0 : Int) ≤ f) && Decidable.decide (f < (↑n : Int)))) = Bool.false → True ∧ True ∧ True ∧ True ∧ True ∧ ((!(Decidable.decide ((0 : Int) ≤ s) && Decidable.decide (s < (↑n : Int)))) = Bool.true → True ∧ True ∧ ∃ (x : Nat × List Int × Int), Gq (2 : Nat) (chK n l f s) (chF n l f s) x.fst x.snd.fst x.snd.snd ∧ ((((0 : Int) = (0 : Int) ∧ (↑(chK n l f s) : Int) = (0 : Int) ∧ x.snd.snd = (0 : Int)) ∧ (Go.IntKind.i64 = Go.IntKind.i64 ∧ (2 : Int) = chE n l f s) ∧ True) ∧ True) ∧ True ∧ (x.fst = (0 : Nat) ∧ x.snd.fst = []) ∧ True) ∧ ((!(Decidable.decide ((0 : Int) ≤ s) && Decidable.decide (s < (↑n : Int)))) = Bool.false → True ∧ True ∧ True ∧ (0 : Int) < cap ∧ True ∧ True ∧ ((Int.toNat (0 : Int) + Int.toNat (0 : Int)) * (2 : Nat) ≤ (0 : Nat) ∧ (Int.toNat (0 : Int) + Int.toNat (↑n : Int)) * (2 : Nat) ≤ m ∧ ((0 : Int) + (↑n : Int)) * (↑(4 : Nat) : Int) ≤ (140737488355328 : Int) ∧ (0 : Int) + (↑n : Int) ≤ (9223372036854775807 : Int)) ∧ ((0 : Int) = (0 : Int) ∧ (0 : Nat) = (0 : Nat)) ∧ ∀ (n_1 : Nat) (L : List Int) (cap : Int), (0 : Int) + (↑n : Int) ≤ cap → n_1 = Int.toNat cap * (2 : Nat) → List.length L = n_1 → List.take (Int.toNat ((0 : Int) + (↑n : Int)) * (2 : Nat)) L = List.take (Int.toNat (0 : Int) * (2 : Nat)) (List.drop (Int.toNat (0 : Int) * (2 : Nat)) []) ++ List.take (Int.toNat (↑n : Int) * (2 : Nat)) (List.drop (Int.toNat (0 : Int) * (2 : Nat)) l) → True ∧ True ∧ True ∧ True ∧ ((0 : Int) ≤ s ∧ s < (0 : Int) + (↑n : Int)) ∧ True ∧ ((0 : Int) ≤ (0 : Int) + s ∧ Int.toNat ((0 : Int) + s) * (2 : Nat) + (1 : Nat) < n_1) ∧ True ∧ ((0 : Int) ≤ f ∧ f < (16 : Int)) ∧ True ∧ ((0 : Int) ≤ s ∧ s < (0 : Int) + (↑n : Int)) ∧ True ∧ ((0 : Int) ≤ (0 : Int) + s ∧ Int.toNat ((0 : Int) + s) * (2 : Nat) + (1 : Nat) < n_1) ∧ True ∧ True ∧ True ∧ (((63 : Nat) = (63 : Nat) ∧ (0 : Nat) = (0 : Nat) ∧ (0 : Int) = (0 : Int) ∧ (2 : Nat) = (2 : Nat) ∧ [Go.Sx.EK.i8, Go.Sx.EK.u16] = [Go.Sx.EK.i8, Go.Sx.EK.u16]) ∧ (0 : Int) ≤ (0 : Int) + (↑n : Int) ∧ Jx (Int.toNat ((0 : Int) + (↑n : Int))) n_1 (List.set L (Int.toNat ((0 : Int) + s) * (2 : Nat) + (1 : Nat)) (Go.Sx.bOr Go.IntKind.u16 (List.getD L (Int.toNat ((0 : Int) + s) * (2 : Nat) + (1 : Nat)) (0 : Int)) (↑((2 : Nat) ^ Int.toNat f) : Int)))) ∧ (vjB (Int.toNat ((0 : Int) + (↑n : Int))) (List.set L (Int.toNat ((0 : Int) + s) * (2 : Nat) + (1 : Nat)) (Go.Sx.bOr Go.IntKind.u16 (List.getD L (Int.toNat ((0 : Int) + s) * (2 : Nat) + (1 : Nat)) (0 : Int)) (↑((2 : Nat) ^ Int.toNat f) : Int))) = Bool.true → True ∧ True ∧ True ∧ True ∧ True ∧ True ∧ True ∧ True ∧ True ∧ True ∧ True ∧ True ∧ ∃ (x : Nat × List Int × Int), Gq (2 : Nat) (chK n l f s) (chF n l f s) x.fst x.snd.fst x.snd.snd ∧ ((Go.Sx.Cel.slc (3 : Nat) (0 : Nat) (0 : Int) (2 : Nat) ((0 : Int) + (↑n : Int)) cap = Go.Sx.Cel.slc (3 : Nat) (0 : Nat) (0 : Int) (2 : Nat) (↑(chK n l f s) : Int) x.snd.snd ∧ (Go.IntKind.i64 = Go.IntKind.i64 ∧ (0 : Int) = chE n l f s) ∧ True) ∧ True) ∧ True ∧ (Bool.true = Bool.true ∧ (63 : Nat) = (63 : Nat) ∧ ([Go.Sx.EK.i8, Go.Sx.EK.u16] = [Go.Sx.EK.i8, Go.Sx.EK.u16] ∧ n_1 = x.fst ∧ List.set L (Int.toNat ((0 : Int) + s) * (2 : Nat) + (1 : Nat)) (Go.Sx.bOr Go.IntKind.u16 (List.getD L (Int.toNat ((0 : Int) + s) * (2 : Nat) + (1 : Nat)) (0 : Int)) (↑((2 : Nat) ^ Int.toNat f) : Int)) = x.snd.fst) ∧ True) ∧ True) ∧ (vjB (Int.toNat ((0 : Int) + (↑n : Int))) (List.set L (Int.toNat ((0 : Int) + s) * (2 : Nat) + (1 : Nat)) (Go.Sx.bOr Go.IntKind.u16 (List.getD L (Int.toNat ((0 : Int) + s) * (2 : Nat) + (1 : Nat)) (0 : Int)) (↑((2 : Nat) ^ Int.toNat f) : Int))) = Bool.false → True ∧ True ∧ True ∧ True ∧ True ∧ True ∧ True ∧ True ∧ True ∧ True ∧ True ∧ ∃ (x : Nat × List Int × Int), Gq (2 : Nat) (chK n l f s) (chF n l f s) x.fst x.snd.fst x.snd.snd ∧ ((((0 : Int) = (0 : Int) ∧ (↑(chK n l f s) : Int) = (0 : Int) ∧ x.snd.snd = (0 : Int)) ∧ (Go.IntKind.i64 = Go.IntKind.i64 ∧ (4 : Int) = chE n l f s) ∧ True) ∧ True) ∧ True ∧ (x.fst = (0 : Nat) ∧ x.snd.fst = []) ∧ True))) ∧ ((!(Decidable.decide ((0 : Int) ≤ f) && Decidable.decide (f < (↑n : Int)))) = !Bool.false → True ∧ True ∧ True ∧ ∃ (x : Nat × List Int × Int), Gq (2 : Nat) (chK n l f s) (chF n l f s) x.fst x.snd.fst x.snd.snd ∧ ((((0 : Int) = (0 : Int) ∧ (↑(chK n l f s) : Int) = (0 : Int) ∧ x.snd.snd = (0 : Int)) ∧ (Go.IntKind.i64 = Go.IntKind.i64 ∧ (2 : Int) = chE n l f s) ∧ True) ∧ True) ∧ True ∧ (x.fst = (0 : Nat) ∧ x.snd.fst = []) ∧ True)) ∧ (vjB (Int.toNat (↑n : Int)) l = Bool.false → True ∧ True ∧ True ∧ True ∧ True ∧ True ∧ True ∧ True ∧ (129 : Nat) = (129 : Nat) ∧ True ∧ True ∧ ∃ (x : Nat × List Int × Int), Gq (2 : Nat) (chK n l f s) (chF n l f s) x.fst x.snd.fst x.snd.snd ∧ ((((0 : Int) = (0 : Int) ∧ (↑(chK n l f s) : Int) = (0 : Int) ∧ x.snd.snd = (0 : Int)) ∧ (Go.IntKind.i64 = Go.IntKind.i64 ∧ (1 : Int) = chE n l f s) ∧ True) ∧ True) ∧ True ∧ (x.fst = (0 : Nat) ∧ x.snd.fst = []) ∧ True)) (by kernel_rfl) ?_
  simp only [true_and, and_true, and_self, decide_eq_true_eq, decide_eq_false_iff_not, Bool.not_eq_true', Bool.not_eq_false', Bool.not_true, Bool.not_false, beq_iff_eq, beq_eq_false_iff_ne, bne_iff_ne, bne_eq_false_iff_eq, ne_eq, not_true_eq_false, not_false_eq_true, false_implies, true_implies, implies_true, forall_const, exists_const, ↓reduceIte, Int.reduceEq, Int.toNat_natCast, Bool.false_eq_true, Bool.true_eq_false, reduceCtorEq, Int.zero_add, Nat.add_zero, Nat.zero_add, Nat.zero_mul, Nat.zero_le, List.take_zero, List.nil_append, List.drop_zero, Int.toNat_zero, Int.ofNat_eq_natCast, Int.toNat_natCast, Nat.mul_one, Cel.slc.injEq, Bool.and_eq_true, Bool.and_eq_false_iff, decide_eq_false_iff_not]
  have hi := q.hi
  have hle := q.le
  have hln := q.ln
  refine ⟨⟨by omega, q⟩, fun hv => ?_, fun hv => ?_⟩
  · have v := vjB_t.1 hv
    have hn := v.hi
    refine ⟨fun h1 => ⟨fun h2 => ?_, fun h2 => ⟨by omega, ⟨by omega, by omega, by omega⟩, ?_⟩⟩, fun h1 => ?_⟩
    · have e := ch_2 (f := f) (s := s) hv (by omega)
      exact gq_err' e.1 e.2.1 e.2.2.symm
    · intro N L cp g1 g2 g3 g4
      rw [ch_or q.jw g4 (by omega) (by omega)]
      obtain ⟨e1, e2, e3⟩ := ch_set (N := N) hn (by omega) q.jw g4 (by omega) g3 ⟨h1.1, by omega⟩ ⟨h2.1, by omega⟩
      refine ⟨by omega, by omega, by omega, by omega, by omega, ⟨by omega, e2⟩, fun hx => ?_, fun hx => ?_⟩
      · rw [e3] at hx
        obtain ⟨k1, k2, k3⟩ := ch_0 hv ⟨h1, h2⟩ hx
        exact ⟨(N, _, cp), ⟨by rw [k1]; exact g1, g2, by rw [List.length_set]; exact g3, by rw [k1, k2]; exact e1⟩, ⟨⟨by rw [k1], rfl⟩, k3.symm⟩, rfl, rfl⟩
      · rw [e3] at hx
        obtain ⟨k1, k2, k3⟩ := ch_4 hv ⟨h1, h2⟩ hx
        exact gq_err' k1 k2 k3.symm
    · have e := ch_2 (f := f) (s := s) hv (by omega)
      exact gq_err' e.1 e.2.1 e.2.2.symm
  · exact gq_err' (ch_1 hv).1 (ch_1 hv).2.1 (ch_1 hv).2.2.symm
theorem x_ChainJobsS (m n : Nat) (l : List Int) (cap f s : Int) (q : Jx n m l) : Fex true TT (inlN true TT Cj4 (lookI ILch) 6) Cj4 U0 Tryd.f24 [.a (.c (.slc 0 0 0 2 n cap)), .a (.c (.int .i64 f)), .a (.c (.int .i64 s))] [.cells false 63 [.run [.i8, .u16] m l]] (PJs 63 2 [.i8, .u16] (chK n l f s) (chF n l f s) (chE n l f s)) := by
  refine Go.Sx.by_eq (q := True ∧ True ∧ True ∧ True ∧ True ∧ True ∧ (((63 : Nat) = (63 : Nat) ∧ (0 : Nat) = (0 : Nat) ∧ (0 : Int) = (0 : Int) ∧ (2 : Nat) = (2 : Nat) ∧ [Go.Sx.EK.i8, Go.Sx.EK.u16] = [Go.Sx.EK.i8, Go.Sx.EK.u16]) ∧ (0 : Int) ≤ (↑n : Int) ∧ Jx (Int.toNat (↑n : Int)) m l) ∧ True ∧ ((!vjB (Int.toNat (↑n : Int)) l) = Bool.true → True ∧ True ∧ True ∧ True ∧ True ∧ True ∧ True ∧ True ∧ True ∧ True ∧ ∃ (x : Nat × List Int × Int), Gq (2 : Nat) (chK n l f s) (chF n l f s) x.fst x.snd.fst x.snd.snd ∧ ((Go.Sx.Cel.slc (1 : Nat) (0 : Nat) (0 : Int) (2 : Nat) (0 : Int) (0 : Int) = Go.Sx.Cel.slc (1 : Nat) (0 : Nat) (0 : Int) (2 : Nat) (↑(chK n l f s) : Int) x.snd.snd ∧ (Go.IntKind.i64 = Go.IntKind.i64 ∧ (1 : Int) = chE n l f s) ∧ True) ∧ True) ∧ True ∧ (Bool.true = Bool.true ∧ (63 : Nat) = (63 : Nat) ∧ ([Go.Sx.EK.i8, Go.Sx.EK.u16] = [Go.Sx.EK.i8, Go.Sx.EK.u16] ∧ (0 : Nat) = x.fst ∧ [] = x.snd.fst) ∧ True) ∧ True) ∧ ((!vjB (Int.toNat (↑n : Int)) l) = Bool.false → True ∧ True ∧ True ∧ ((-9223372036854775808 : Int) ≤ (↑n : Int) - (1 : Int) ∧ (↑n : Int) - (1 : Int) ≤ (9223372036854775807 : Int)) ∧ True ∧ True ∧ ((!(Decidable.decide ((0 : Int) ≤ f) && Decidable.decide (f ≤ (↑n : Int) - (1 : Int)))) = Bool.true → True ∧ True ∧ True ∧ True ∧ True ∧ True ∧ True ∧ True ∧ True ∧ True ∧ ∃ (x : Nat × List Int × Int), Gq (2 : Nat) (chK n l f s) (chF n l f s) x.fst x.snd.fst x.snd.snd ∧ ((Go.Sx.Cel.slc (1 : Nat) (0 : Nat) (0 : Int) (2 : Nat) (0 : Int) (0 : Int) = Go.Sx.Cel.slc (1 : Nat) (0 : Nat) (0 : Int) (2 : Nat) (↑(chK n l f s) : Int) x.snd.snd ∧ (Go.IntKind.i64 = Go.IntKind.i64 ∧ (2 : Int) = chE n l f s) ∧ True) ∧ True) ∧ True ∧ (Bool.true = Bool.true ∧ (63 : Nat) = (63 : Nat) ∧ ([Go.Sx.EK.i8, Go.Sx.EK.u16] = [Go.Sx.EK.i8, Go.Sx.EK.u16] ∧ (0 : Nat) = x.fst ∧ [] = x.snd.fst) ∧ True) ∧ True) ∧ ((!(Decidable.decide ((0 : Int) ≤ f) && Decidable.decide (f ≤ (↑n : Int) - (1 : Int)))) = Bool.false → True ∧ True ∧ True ∧ True ∧ True ∧ True ∧ True ∧ True ∧ (((63 : Nat) = (63 : Nat) ∧ (0 : Nat) = (0 : Nat) ∧ (0 : Int) = (0 : Int) ∧ (2 : Nat) = (2 : Nat) ∧ [Go.Sx.EK.i8, Go.Sx.EK.u16] = [Go.Sx.EK.i8, Go.Sx.EK.u16]) ∧ (0 : Int) ≤ (↑n : Int) ∧ Jx (Int.toNat (↑n : Int)) m l) ∧ True ∧ ((!vjB (Int.toNat (↑n : Int)) l) = Bool.true → True ∧ True ∧ True ∧ True ∧ True ∧ True ∧ True ∧ True ∧ ∃ (x : Nat × List Int × Int), Gq (2 : Nat) (chK n l f s) (chF n l f s) x.fst x.snd.fst x.snd.snd ∧ ((Go.Sx.Cel.slc (1 : Nat) (0 : Nat) (0 : Int) (2 : Nat) (0 : Int) (0 : Int) = Go.Sx.Cel.slc (1 : Nat) (0 : Nat) (0 : Int) (2 : Nat) (↑(chK n l f s) : Int) x.snd.snd ∧ (Go.IntKind.i64 = Go.IntKind.i64 ∧ (1 : Int) = chE n l f s) ∧ True) ∧ True) ∧ True ∧ (Bool.true = Bool.true ∧ (63 : Nat) = (63 : Nat) ∧ ([Go.Sx.EK.i8, Go.Sx.EK.u16] = [Go.Sx.EK.i8, Go.Sx.EK.u16] ∧ (0 : Nat) = x.fst ∧ [] = x.snd.fst) ∧ True) ∧ True) ∧ ((!vjB (Int.toNat (↑n : Int)) l) = Bool.false → True ∧ True ∧ True ∧ ((-9223372036854775808 : Int) ≤ (↑n : Int) - (1 : Int) ∧ (↑n : Int) - (1 : Int) ≤ (9223372036854775807 : Int)) ∧ True ∧ True ∧ ((!(Decidable.decide ((0 : Int) ≤ s) && Decidable.decide (s ≤ (↑n : Int) - (1 : Int)))) = Bool.true → True ∧ True ∧ True ∧ True ∧ True ∧ True ∧ True ∧ True ∧ ∃ (x : Nat × List Int × Int), Gq (2 : Nat) (chK n l f s) (chF n l f s) x.fst x.snd.fst x.snd.snd ∧ ((Go.Sx.Cel.slc (1 : Nat) (0 : Nat) (0 : Int) (2 : Nat) (0 : Int) (0 : Int) = Go.Sx.Cel.slc (1 : Nat) (0 : Nat) (0 : Int) (2 : Nat) (↑(chK n l f s) : Int) x.snd.snd ∧ (Go.IntKind.i64 = Go.IntKind.i64 ∧ (2 : Int) = chE n l f s) ∧ True) ∧ True) ∧ True ∧ (Bool.true = Bool.true ∧ (63 : Nat) = (63 : Nat) ∧ ([Go.Sx.EK.i8, Go.Sx.EK.u16] = [Go.Sx.EK.i8, Go.Sx.EK.u16] ∧ (0 : Nat) = x.fst ∧ [] = x.snd.fst) ∧ True) ∧ True) ∧ ((!(Decidable.decide ((0 : Int) ≤ s) && Decidable.decide (s ≤ (↑n : Int) - (1 : Int)))) = Bool.false → True ∧ True ∧ True ∧ True ∧ True ∧ True ∧ ((Int.toNat (0 : Int) + Int.toNat (0 : Int)) * (2 : Nat) ≤ (0 : Nat) ∧ (Int.toNat (0 : Int) + Int.toNat (↑n : Int)) * (2 : Nat) ≤ m ∧ ((0 : Int) + (↑n : Int)) * (↑(4 : Nat) : Int) ≤ (140737488355328 : Int) ∧ (0 : Int) + (↑n : Int) ≤ (9223372036854775807 : Int)) ∧ ((0 : Int) = (0 : Int) ∧ (0 : Nat) = (0 : Nat)) ∧ ∀ (n_1 : Nat) (L : List Int) (cap : Int), (0 : Int) + (↑n : Int) ≤ cap → n_1 = Int.toNat cap * (2 : Nat) → List.length L = n_1 → List.take (Int.toNat ((0 : Int) + (↑n : Int)) * (2 : Nat)) L = List.take (Int.toNat (0 : Int) * (2 : Nat)) (List.drop (Int.toNat (0 : Int) * (2 : Nat)) []) ++ List.take (Int.toNat (↑n : Int) * (2 : Nat)) (List.drop (Int.toNat (0 : Int) * (2 : Nat)) l) → True ∧ True ∧ True ∧ True ∧ True ∧ ((0 : Int) ≤ s ∧ s < (0 : Int) + (↑n : Int)) ∧ True ∧ ((0 : Int) ≤ (0 : Int) + s ∧ Int.toNat ((0 : Int) + s) * (2 : Nat) + (1 : Nat) < n_1) ∧ True ∧ True ∧ ((0 : Int) ≤ Go.IntKind.wrap Go.IntKind.u64 f ∧ Int.toNat (Go.IntKind.wrap Go.IntKind.u64 f) ≤ Go.IntKind.bits Go.IntKind.u16) ∧ True ∧ ((0 : Int) ≤ s ∧ s < (0 : Int) + (↑n : Int)) ∧ True ∧ ((0 : Int) ≤ (0 : Int) + s ∧ Int.toNat ((0 : Int) + s) * (2 : Nat) + (1 : Nat) < n_1) ∧ True ∧ (((63 : Nat) = (63 : Nat) ∧ (0 : Nat) = (0 : Nat) ∧ (0 : Int) = (0 : Int) ∧ (2 : Nat) = (2 : Nat) ∧ [Go.Sx.EK.i8, Go.Sx.EK.u16] = [Go.Sx.EK.i8, Go.Sx.EK.u16]) ∧ (0 : Int) ≤ (0 : Int) + (↑n : Int) ∧ Jx (Int.toNat ((0 : Int) + (↑n : Int))) n_1 (List.set L (Int.toNat ((0 : Int) + s) * (2 : Nat) + (1 : Nat)) (Go.Sx.bOr Go.IntKind.u16 (List.getD L (Int.toNat ((0 : Int) + s) * (2 : Nat) + (1 : Nat)) (0 : Int)) (Go.Sx.bShl Go.IntKind.u16 (1 : Int) (Go.IntKind.wrap Go.IntKind.u64 f))))) ∧ True ∧ ((!vjB (Int.toNat ((0 : Int) + (↑n : Int))) (List.set L (Int.toNat ((0 : Int) + s) * (2 : Nat) + (1 : Nat)) (Go.Sx.bOr Go.IntKind.u16 (List.getD L (Int.toNat ((0 : Int) + s) * (2 : Nat) + (1 : Nat)) (0 : Int)) (Go.Sx.bShl Go.IntKind.u16 (1 : Int) (Go.IntKind.wrap Go.IntKind.u64 f))))) = Bool.true → True ∧ True ∧ True ∧ ∃ (x : Nat × List Int × Int), Gq (2 : Nat) (chK n l f s) (chF n l f s) x.fst x.snd.fst x.snd.snd ∧ ((Go.Sx.Cel.slc (3 : Nat) (0 : Nat) (0 : Int) (2 : Nat) (0 : Int) (0 : Int) = Go.Sx.Cel.slc (3 : Nat) (0 : Nat) (0 : Int) (2 : Nat) (↑(chK n l f s) : Int) x.snd.snd ∧ (Go.IntKind.i64 = Go.IntKind.i64 ∧ (4 : Int) = chE n l f s) ∧ True) ∧ True) ∧ True ∧ (Bool.true = Bool.true ∧ (63 : Nat) = (63 : Nat) ∧ ([Go.Sx.EK.i8, Go.Sx.EK.u16] = [Go.Sx.EK.i8, Go.Sx.EK.u16] ∧ (0 : Nat) = x.fst ∧ [] = x.snd.fst) ∧ True) ∧ True) ∧ ((!vjB (Int.toNat ((0 : Int) + (↑n : Int))) (List.set L (Int.toNat ((0 : Int) + s) * (2 : Nat) + (1 : Nat)) (Go.Sx.bOr Go.IntKind.u16 (List.getD L (Int.toNat ((0 : Int) + s) * (2 : Nat) + (1 : Nat)) (0 : Int)) (Go.Sx.bShl Go.IntKind.u16 (1 : Int) (Go.IntKind.wrap Go.IntKind.u64 f))))) = Bool.false → True ∧ True ∧ True ∧ ∃ (x : Nat × List Int × Int), Gq (2 : Nat) (chK n l f s) (chF n l f s) x.fst x.snd.fst x.snd.snd ∧ ((Go.Sx.Cel.slc (2 : Nat) (0 : Nat) (0 : Int) (2 : Nat) ((0 : Int) + (↑n : Int)) cap = Go.Sx.Cel.slc (2 : Nat) (0 : Nat) (0 : Int) (2 : Nat) (↑(chK n l f s) : Int) x.snd.snd ∧ (Go.IntKind.i64 = Go.IntKind.i64 ∧ (0 : Int) = chE n l f s) ∧ True) ∧ True) ∧ True ∧ (Bool.true = Bool.true ∧ (63 : Nat) = (63 : Nat) ∧ ([Go.Sx.EK.i8, Go.Sx.EK.u16] = [Go.Sx.EK.i8, Go.Sx.EK.u16] ∧ n_1 = x.fst ∧ List.set L (Int.toNat ((0 : Int) + s) * (2 : Nat) + (1 : Nat)) (Go.Sx.bOr Go.IntKind.u16 (List.getD L (Int.toNat ((0 : Int) + s) * (2 : Nat) + (1 : Nat)) (0 : Int)) (Go.Sx.bShl Go.IntKind.u16 (1 : Int) (Go.IntKind.wrap Go.IntKind.u64 f))) = x.snd.fst) ∧ True) ∧ True)))))) (by kernel_rfl) ?_
  simp only [true_and, and_true, and_self, decide_eq_true_eq, decide_eq_false_iff_not, Bool.not_eq_true', Bool.not_eq_false', Bool.not_true, Bool.not_false, beq_iff_eq, beq_eq_false_iff_ne, bne_iff_ne, bne_eq_false_iff_eq, ne_eq, not_true_eq_false, not_false_eq_true, false_implies, true_implies, implies_true, forall_const, exists_const, ↓reduceIte, Int.reduceEq, Int.toNat_natCast, Bool.false_eq_true, Bool.true_eq_false, reduceCtorEq, Int.zero_add, Nat.add_zero, Nat.zero_add, Nat.zero_mul, Nat.zero_le, List.take_zero, List.nil_append, List.drop_zero, Int.toNat_zero, Int.ofNat_eq_natCast, Int.toNat_natCast, Nat.mul_one, Cel.slc.injEq, Bool.and_eq_true, Bool.and_eq_false_iff, decide_eq_false_iff_not]
  have hi := q.hi
  have hle := q.le
  have hln := q.ln
  have hn2 : vjB n l = true → n ≤ 12 := fun hv => (vjB_t.1 hv).hi
  refine ⟨⟨by omega, q⟩, fun hv => gq_err (ch_1 hv).1 (ch_1 hv).2.1 (ch_1 hv).2.2.symm, fun hv => ?_⟩
  have hn := hn2 hv
  refine ⟨by omega, fun h1 => ?_, fun h1 => ⟨⟨by omega, q⟩, fun hv' => absurd hv (by rw [hv']; simp), fun _ => ⟨by omega, fun h2 => ?_, fun h2 => ⟨⟨by omega, by omega, by omega⟩, ?_⟩⟩⟩⟩
  · have e := ch_2 (f := f) (s := s) hv (by omega)
    exact gq_err e.1 e.2.1 e.2.2.symm
  · have e := ch_2 (f := f) (s := s) hv (by omega)
    exact gq_err e.1 e.2.1 e.2.2.symm
  · intro N L cp g1 g2 g3 g4
    have hf : f = (f.toNat : Int) := by omega
    rw [u64w h1.1 (by omega)]
    rw [show bShl .u16 1 f = ((2 ^ f.toNat : Nat) : Int) from by rw [hf, bShl1 (by omega), Int.toNat_natCast], ch_or q.jw g4 (by omega) (by omega)]
    obtain ⟨e1, e2, e3⟩ := ch_set (N := N) hn (by omega) q.jw g4 (by omega) g3 ⟨h1.1, by omega⟩ ⟨h2.1, by omega⟩
    refine ⟨by omega, by omega, ⟨by omega, by show _ ≤ 16; omega⟩, by omega, by omega, ⟨by omega, e2⟩, fun hx => ?_, fun hx => ?_⟩
    · rw [e3] at hx
      obtain ⟨k1, k2, k3⟩ := ch_4 hv ⟨⟨h1.1, by omega⟩, h2.1, by omega⟩ hx
      exact gq_err k1 k2 k3.symm
    · rw [e3] at hx
      obtain ⟨k1, k2, k3⟩ := ch_0 hv ⟨⟨h1.1, by omega⟩, h2.1, by omega⟩ hx
      exact ⟨(N, _, cp), ⟨by rw [k1]; exact g1, g2, by rw [List.length_set]; exact g3, by rw [k1, k2]; exact e1⟩, ⟨⟨by rw [k1], rfl⟩, k3.symm⟩, rfl, rfl⟩

/-! ### A contract: jobs with room, two numbers -/
noncomputable def gJdd (t : TypeId) (s : Nat) (kk : List EK) (K : Nat → List Int → Int → Int → Nat) (F : Nat → List Int → Int → Int → List Int) (E : Nat → List Int → Int → Int → Int) : EntryC := fun args H k => match args with
  | [.a (.c (.slc id b z st len cap)), .a (.c (.int .i64 d)), .a (.c (.int .i64 e))] => match getB H id with
    | .cells _ t' [.run ks m l] => ((t' = 63 ∧ b = 0 ∧ z = 0 ∧ st = 2 ∧ ks = [.i8, .u16]) ∧ 0 ≤ len ∧ len ≤ cap ∧ Jx len.toNat m l) ∧
      withLenP H fun h => ∀ N L cp, Gq s (K len.toNat l d e) (F len.toNat l d e) N L cp → k (.tup [.c (.slc h 0 0 s (K len.toNat l d e) cp), .c (.int .i64 (E len.toNat l d e))]) (H ++ [.cells true t [.run kk N L]])
    | _ => Stuck "jobs"
  | _ => Stuck "jobs"
theorem gJdd_ok {f : FuncId} {fn : Func} {t : TypeId} {s : Nat} {kk : List EK} {K : Nat → List Int → Int → Int → Nat} {F : Nat → List Int → Int → Int → List Int} {E : Nat → List Int → Int → Int → Int} {C : Ctr} (hC : CtrOk Tryd.prog TT C) {inl : Nat → List Int → FuncId → Option (Func × (Nat → LM))} (hI : ∀ n l, InlOk Tryd.prog (inl n l)) {Λ : Nat → List Int → Int → Int → Nat → LM}
    (hf : Tryd.prog.funcs[f]? = some fn) (h2 : (fn.name == "runtime.NumGoroutine") = false) (h3 : fn.body.isNone = false)
    (x : ∀ (m n : Nat) (l : List Int) (cap d e : Int), (n : Int) ≤ cap → Jx n m l → Fex true TT (inlN true TT C (inl n l) 6) C (Λ n l d e) fn [.a (.c (.slc 0 0 0 2 n cap)), .a (.c (.int .i64 d)), .a (.c (.int .i64 e))] [.cells false 63 [.run [.i8, .u16] m l]] (PJs t s kk (K n l d e) (F n l d e) (E n l d e))) :
    EntryCOk Tryd.prog TT f (gJdd t s kk K F E) := by
  refine ⟨fnOk hf h2 h3, ?_⟩
  intro args H k hh n0 w0 β w vals hG hH hA
  unfold gJdd at hh
  split at hh
  · split at hh
    · rename_i id b z st len cap d e _ o t' ks m l hg
      obtain ⟨⟨⟨rfl, rfl, rfl, rfl, rfl⟩, h0, h1, q⟩, hk⟩ := hh
      have hk := withLenP_sound hk
      obtain ⟨n, rfl⟩ := Int.eq_ofNat_of_zero_le h0
      rw [Int.toNat_natCast] at q hk
      refine (entry_fresh tt_ok (inlN_ok tt_ok hC mixed (hI n l) 6) hC mixed hf [id] (x m n l cap d e h1 q) rfl (fun _ => rfl) (fun _ => rfl) ⟨.inr (by rw [hg]; rfl), trivial⟩ hG hH hA).mono ?_
      rintro e w' ⟨v, γ, x, rfl, h4, h5, h6⟩
      exact ⟨v, γ, _, _, rfl, hk _ _ _ h4, h5, h6⟩
    · exact hh.elim
  · exact hh.elim
theorem e_ChainJobsI : EntryCOk Tryd.prog TT 25 (gJdd 63 2 [.i8, .u16] chK chF chE) :=
  gJdd_ok Cj4_ok (inl := fun _ _ => lookI ILch) (Λ := fun _ _ _ _ => U0) (fun _ _ => ILch_ok.ok) Tryd.func25 (by kernel_rfl) rfl fun m n l cap d e hc q => x_ChainJobsI m n l cap d e hc q
theorem e_ChainJobsS : EntryCOk Tryd.prog TT 24 (gJdd 63 2 [.i8, .u16] chK chF chE) :=
  gJdd_ok Cj4_ok (inl := fun _ _ => lookI ILch) (Λ := fun _ _ _ _ => U0) (fun _ _ => ILch_ok.ok) Tryd.func24 (by kernel_rfl) rfl fun m n l cap d e _ q => x_ChainJobsS m n l cap d e q
end Go.Proofs.YtmgkecegfjpagaaDoor
