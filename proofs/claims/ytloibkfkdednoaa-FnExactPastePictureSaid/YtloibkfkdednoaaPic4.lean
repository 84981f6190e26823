/- Pictures: the cells of a picture, one by one. No conditions beyond the ranges of the kinds. -/
import Derived.Test.YtloibkfkdednoaaPic2
namespace Go.Proofs.Ytloibkfkdednoaa
open Go.Sx Go.RowKit

theorem isB_t {w h : Int} {k : Nat} : isB w h k = true ↔ ((k % 12 : Nat) : Int) < w ∧ ((k / 12 : Nat) : Int) < h := by simp [isB]
theorem isB_f {w h : Int} {k : Nat} : isB w h k = false ↔ ¬ (((k % 12 : Nat) : Int) < w ∧ ((k / 12 : Nat) : Int) < h) := by rw [Bool.eq_false_iff, ne_eq, isB_t]

def lmRow (w h : Int) : LAnn := { ι := Nat × Nat, inv := fun _ x => ((x.1 : Int) ≤ h ∨ x.1 = 0) ∧ x.2 ≤ 12 * x.1 ∧ ∀ k, x.2 ≤ k → k < 12 * x.1 → isB w h k = false, slots := fun _ x => [(13, .a (.c (.int .i64 x.1)))], blks := fun _ _ => [], μ := fun _ x => h.toNat - x.1, gi := fun _ x => some (some x.2) }
def lmCol (w h : Int) : LAnn := { ι := Nat × Nat, inv := fun st x => ((x.1 : Int) ≤ w ∨ x.1 = 0) ∧ x.2 ≤ 12 * (slotI st 13).toNat + x.1 ∧ ∀ k, x.2 ≤ k → k < 12 * (slotI st 13).toNat + x.1 → isB w h k = false, slots := fun _ x => [(17, .a (.c (.int .i64 x.1)))], blks := fun _ _ => [], μ := fun _ x => w.toNat - x.1, gi := fun _ x => some (some x.2) }

set_option maxRecDepth 100000 in
theorem x_cells (w h : Int) (l : List Int) (hw0 : 0 ≤ w) (hw : w ≤ 12) (hh0 : 0 ≤ h) (hh : h ≤ 12) : SFex true TT (inlN true TT (ctrOf E7) (lookI IL) 4) (ctrOf E7) (fun r => if r = 2 then .inv (lmRow w h) else .inv (lmCol w h)) Try.f78 [.a (.c (.ptr 0 0))] [.cells false 34 (picB w h l)] 144 (isB w h) (fun i => (i : Int)) := by
  refine Go.Sx.by_eq (q := True ∧ True ∧ True ∧ True ∧ True ∧ True ∧ ((-9223372036854775808 : Int) ≤ w ∧ w ≤ (9223372036854775807 : Int)) ∧ True ∧ True ∧ ((-9223372036854775808 : Int) ≤ h ∧ h ≤ (9223372036854775807 : Int)) ∧ True ∧ True ∧ True ∧ True ∧ True ∧ True ∧ True ∧ True ∧ True ∧ (∃ (x : Nat × Nat), (((↑x.fst : Int) ≤ h ∨ x.fst = (0 : Nat)) ∧ x.snd ≤ (12 : Nat) * x.fst ∧ ∀ (k : Nat), x.snd ≤ k → k < (12 : Nat) * x.fst → Go.Proofs.Ytloibkfkdednoaa.isB w h k = Bool.false) ∧ (Go.Sx.Cel.yld (1 : Nat) = Go.Sx.Cel.yld (1 : Nat) ∧ Go.Sx.Cel.ptr (0 : Nat) (0 : Nat) = Go.Sx.Cel.ptr (0 : Nat) (0 : Nat) ∧ Go.Sx.Cel.val Go.undef = Go.Sx.Cel.val Go.undef ∧ (Go.IntKind.i64 = Go.IntKind.i64 ∧ w = w) ∧ (Go.IntKind.i64 = Go.IntKind.i64 ∧ h = h) ∧ True ∧ True ∧ ((Go.IntKind.i64 = Go.IntKind.i64 ∧ w = w) ∧ (Go.IntKind.i64 = Go.IntKind.i64 ∧ h = h) ∧ True) ∧ ((Go.IntKind.i8 = Go.IntKind.i8 ∧ w = w) ∧ (Go.IntKind.i8 = Go.IntKind.i8 ∧ h = h) ∧ ([Go.IntKind.u8] = [Go.IntKind.u8] ∧ (144 : Nat) = (144 : Nat) ∧ l = l) ∧ True) ∧ ((Go.IntKind.i64 = Go.IntKind.i64 ∧ w = w) ∧ (Go.IntKind.i64 = Go.IntKind.i64 ∧ h = h) ∧ True) ∧ (Go.IntKind.i64 = Go.IntKind.i64 ∧ w = w) ∧ (Go.IntKind.i64 = Go.IntKind.i64 ∧ h = h) ∧ (Go.IntKind.i64 = Go.IntKind.i64 ∧ h = h) ∧ (Go.IntKind.i64 = Go.IntKind.i64 ∧ (0 : Int) = (↑x.fst : Int)) ∧ True ∧ True ∧ True ∧ True ∧ True ∧ True ∧ True ∧ True ∧ True ∧ True ∧ True ∧ True ∧ True ∧ True ∧ True) ∧ True ∧ ((144 : Nat) = (144 : Nat) ∧ Go.Proofs.Ytloibkfkdednoaa.isB w h = Go.Proofs.Ytloibkfkdednoaa.isB w h ∧ ((fun (i : Nat) => (↑i : Int)) = fun (i : Nat) => (↑i : Int)) ∧ Option.some (0 : Nat) = Option.some x.snd) ∧ True ∧ True) ∧ ∀ (x : Nat × Nat), (((↑x.fst : Int) ≤ h ∨ x.fst = (0 : Nat)) ∧ x.snd ≤ (12 : Nat) * x.fst ∧ ∀ (k : Nat), x.snd ≤ k → k < (12 : Nat) * x.fst → Go.Proofs.Ytloibkfkdednoaa.isB w h k = Bool.false) → True ∧ (Decidable.decide ((↑x.fst : Int) < h) = Bool.true → True ∧ True ∧ True ∧ True ∧ (∃ (x_1 : Nat × Nat), (((↑x_1.fst : Int) ≤ w ∨ x_1.fst = (0 : Nat)) ∧ x_1.snd ≤ (12 : Nat) * Int.toNat (Int.ofNat x.fst) + x_1.fst ∧ ∀ (k : Nat), x_1.snd ≤ k → k < (12 : Nat) * Int.toNat (Int.ofNat x.fst) + x_1.fst → Go.Proofs.Ytloibkfkdednoaa.isB w h k = Bool.false) ∧ (Go.Sx.Cel.yld (1 : Nat) = Go.Sx.Cel.yld (1 : Nat) ∧ Go.Sx.Cel.ptr (0 : Nat) (0 : Nat) = Go.Sx.Cel.ptr (0 : Nat) (0 : Nat) ∧ Go.Sx.Cel.val Go.undef = Go.Sx.Cel.val Go.undef ∧ (Go.IntKind.i64 = Go.IntKind.i64 ∧ w = w) ∧ (Go.IntKind.i64 = Go.IntKind.i64 ∧ h = h) ∧ (Go.IntKind.i64 = Go.IntKind.i64 ∧ (↑x.fst : Int) = (↑x.fst : Int)) ∧ True ∧ ((Go.IntKind.i64 = Go.IntKind.i64 ∧ w = w) ∧ (Go.IntKind.i64 = Go.IntKind.i64 ∧ h = h) ∧ True) ∧ ((Go.IntKind.i8 = Go.IntKind.i8 ∧ w = w) ∧ (Go.IntKind.i8 = Go.IntKind.i8 ∧ h = h) ∧ ([Go.IntKind.u8] = [Go.IntKind.u8] ∧ (144 : Nat) = (144 : Nat) ∧ l = l) ∧ True) ∧ ((Go.IntKind.i64 = Go.IntKind.i64 ∧ w = w) ∧ (Go.IntKind.i64 = Go.IntKind.i64 ∧ h = h) ∧ True) ∧ (Go.IntKind.i64 = Go.IntKind.i64 ∧ w = w) ∧ (Go.IntKind.i64 = Go.IntKind.i64 ∧ h = h) ∧ (Go.IntKind.i64 = Go.IntKind.i64 ∧ h = h) ∧ (Go.IntKind.i64 = Go.IntKind.i64 ∧ (↑x.fst : Int) = (↑x.fst : Int)) ∧ Decidable.decide ((↑x.fst : Int) < h) = Decidable.decide ((↑x.fst : Int) < h) ∧ (Go.IntKind.i64 = Go.IntKind.i64 ∧ (↑x.fst : Int) = (↑x.fst : Int)) ∧ (Go.IntKind.i64 = Go.IntKind.i64 ∧ w = w) ∧ (Go.IntKind.i64 = Go.IntKind.i64 ∧ (0 : Int) = (↑x_1.fst : Int)) ∧ True ∧ True ∧ True ∧ True ∧ True ∧ True ∧ True ∧ True ∧ True ∧ True ∧ True) ∧ True ∧ ((144 : Nat) = (144 : Nat) ∧ Go.Proofs.Ytloibkfkdednoaa.isB w h = Go.Proofs.Ytloibkfkdednoaa.isB w h ∧ ((fun (i : Nat) => (↑i : Int)) = fun (i : Nat) => (↑i : Int)) ∧ Option.some x.snd = Option.some x_1.snd) ∧ True ∧ True) ∧ ∀ (x_1 : Nat × Nat), (((↑x_1.fst : Int) ≤ w ∨ x_1.fst = (0 : Nat)) ∧ x_1.snd ≤ (12 : Nat) * Int.toNat (Int.ofNat x.fst) + x_1.fst ∧ ∀ (k : Nat), x_1.snd ≤ k → k < (12 : Nat) * Int.toNat (Int.ofNat x.fst) + x_1.fst → Go.Proofs.Ytloibkfkdednoaa.isB w h k = Bool.false) → True ∧ (Decidable.decide ((↑x_1.fst : Int) < w) = Bool.true → True ∧ True ∧ True ∧ True ∧ True ∧ True ∧ True ∧ True ∧ ((-9223372036854775808 : Int) ≤ (12 : Int) * (↑x.fst : Int) ∧ (12 : Int) * (↑x.fst : Int) ≤ (9223372036854775807 : Int)) ∧ ((-9223372036854775808 : Int) ≤ (↑x_1.fst : Int) + (12 : Int) * (↑x.fst : Int) ∧ (↑x_1.fst : Int) + (12 : Int) * (↑x.fst : Int) ≤ (9223372036854775807 : Int)) ∧ True ∧ ∃ (j : Nat), x_1.snd ≤ j ∧ j < (144 : Nat) ∧ (∀ (k : Nat), x_1.snd ≤ k → k < j → Go.Proofs.Ytloibkfkdednoaa.isB w h k = Bool.false) ∧ Go.Proofs.Ytloibkfkdednoaa.isB w h j = Bool.true ∧ (↑x_1.fst : Int) + (12 : Int) * (↑x.fst : Int) = (fun (i : Nat) => (↑i : Int)) j ∧ (True ∧ ((-9223372036854775808 : Int) ≤ (↑x_1.fst : Int) + (1 : Int) ∧ (↑x_1.fst : Int) + (1 : Int) ≤ (9223372036854775807 : Int)) ∧ True ∧ ∃ (y : Nat × Nat), (((↑y.fst : Int) ≤ w ∨ y.fst = (0 : Nat)) ∧ y.snd ≤ (12 : Nat) * Int.toNat (Int.ofNat x.fst) + y.fst ∧ ∀ (k : Nat), y.snd ≤ k → k < (12 : Nat) * Int.toNat (Int.ofNat x.fst) + y.fst → Go.Proofs.Ytloibkfkdednoaa.isB w h k = Bool.false) ∧ Int.toNat w - y.fst < Int.toNat w - x_1.fst ∧ (Go.Sx.Cel.yld (1 : Nat) = Go.Sx.Cel.yld (1 : Nat) ∧ Go.Sx.Cel.ptr (0 : Nat) (0 : Nat) = Go.Sx.Cel.ptr (0 : Nat) (0 : Nat) ∧ Go.Sx.Cel.val Go.undef = Go.Sx.Cel.val Go.undef ∧ (Go.IntKind.i64 = Go.IntKind.i64 ∧ w = w) ∧ (Go.IntKind.i64 = Go.IntKind.i64 ∧ h = h) ∧ (Go.IntKind.i64 = Go.IntKind.i64 ∧ (↑x.fst : Int) = (↑x.fst : Int)) ∧ True ∧ ((Go.IntKind.i64 = Go.IntKind.i64 ∧ w = w) ∧ (Go.IntKind.i64 = Go.IntKind.i64 ∧ h = h) ∧ True) ∧ ((Go.IntKind.i8 = Go.IntKind.i8 ∧ w = w) ∧ (Go.IntKind.i8 = Go.IntKind.i8 ∧ h = h) ∧ ([Go.IntKind.u8] = [Go.IntKind.u8] ∧ (144 : Nat) = (144 : Nat) ∧ l = l) ∧ True) ∧ ((Go.IntKind.i64 = Go.IntKind.i64 ∧ w = w) ∧ (Go.IntKind.i64 = Go.IntKind.i64 ∧ h = h) ∧ True) ∧ (Go.IntKind.i64 = Go.IntKind.i64 ∧ w = w) ∧ (Go.IntKind.i64 = Go.IntKind.i64 ∧ h = h) ∧ (Go.IntKind.i64 = Go.IntKind.i64 ∧ h = h) ∧ (Go.IntKind.i64 = Go.IntKind.i64 ∧ (↑x.fst : Int) = (↑x.fst : Int)) ∧ Decidable.decide ((↑x.fst : Int) < h) = Decidable.decide ((↑x.fst : Int) < h) ∧ (Go.IntKind.i64 = Go.IntKind.i64 ∧ (↑x.fst : Int) = (↑x.fst : Int)) ∧ (Go.IntKind.i64 = Go.IntKind.i64 ∧ w = w) ∧ (Go.IntKind.i64 = Go.IntKind.i64 ∧ (↑x_1.fst : Int) + (1 : Int) = (↑y.fst : Int)) ∧ True ∧ True ∧ True ∧ True ∧ True ∧ True ∧ True ∧ True ∧ True ∧ True ∧ True) ∧ True ∧ ((144 : Nat) = (144 : Nat) ∧ Go.Proofs.Ytloibkfkdednoaa.isB w h = Go.Proofs.Ytloibkfkdednoaa.isB w h ∧ ((fun (i : Nat) => (↑i : Int)) = fun (i : Nat) => (↑i : Int)) ∧ Option.some (j + (1 : Nat)) = Option.some y.snd) ∧ True ∧ True) ∧ True ∧ True) ∧ (Decidable.decide ((↑x_1.fst : Int) < w) = Bool.false → ((-9223372036854775808 : Int) ≤ (↑x.fst : Int) + (1 : Int) ∧ (↑x.fst : Int) + (1 : Int) ≤ (9223372036854775807 : Int)) ∧ True ∧ ∃ (y : Nat × Nat), (((↑y.fst : Int) ≤ h ∨ y.fst = (0 : Nat)) ∧ y.snd ≤ (12 : Nat) * y.fst ∧ ∀ (k : Nat), y.snd ≤ k → k < (12 : Nat) * y.fst → Go.Proofs.Ytloibkfkdednoaa.isB w h k = Bool.false) ∧ Int.toNat h - y.fst < Int.toNat h - x.fst ∧ (Go.Sx.Cel.yld (1 : Nat) = Go.Sx.Cel.yld (1 : Nat) ∧ Go.Sx.Cel.ptr (0 : Nat) (0 : Nat) = Go.Sx.Cel.ptr (0 : Nat) (0 : Nat) ∧ Go.Sx.Cel.val Go.undef = Go.Sx.Cel.val Go.undef ∧ (Go.IntKind.i64 = Go.IntKind.i64 ∧ w = w) ∧ (Go.IntKind.i64 = Go.IntKind.i64 ∧ h = h) ∧ True ∧ True ∧ ((Go.IntKind.i64 = Go.IntKind.i64 ∧ w = w) ∧ (Go.IntKind.i64 = Go.IntKind.i64 ∧ h = h) ∧ True) ∧ ((Go.IntKind.i8 = Go.IntKind.i8 ∧ w = w) ∧ (Go.IntKind.i8 = Go.IntKind.i8 ∧ h = h) ∧ ([Go.IntKind.u8] = [Go.IntKind.u8] ∧ (144 : Nat) = (144 : Nat) ∧ l = l) ∧ True) ∧ ((Go.IntKind.i64 = Go.IntKind.i64 ∧ w = w) ∧ (Go.IntKind.i64 = Go.IntKind.i64 ∧ h = h) ∧ True) ∧ (Go.IntKind.i64 = Go.IntKind.i64 ∧ w = w) ∧ (Go.IntKind.i64 = Go.IntKind.i64 ∧ h = h) ∧ (Go.IntKind.i64 = Go.IntKind.i64 ∧ h = h) ∧ (Go.IntKind.i64 = Go.IntKind.i64 ∧ (↑x.fst : Int) + (1 : Int) = (↑y.fst : Int)) ∧ True ∧ True ∧ True ∧ True ∧ True ∧ True ∧ True ∧ True ∧ True ∧ True ∧ True ∧ True ∧ True ∧ True ∧ True) ∧ True ∧ ((144 : Nat) = (144 : Nat) ∧ Go.Proofs.Ytloibkfkdednoaa.isB w h = Go.Proofs.Ytloibkfkdednoaa.isB w h ∧ ((fun (i : Nat) => (↑i : Int)) = fun (i : Nat) => (↑i : Int)) ∧ Option.some x_1.snd = Option.some y.snd) ∧ True ∧ True)) ∧ (Decidable.decide ((↑x.fst : Int) < h) = Bool.false → x.snd ≤ (144 : Nat) ∧ ∀ (k : Nat), x.snd ≤ k → k < (144 : Nat) → Go.Proofs.Ytloibkfkdednoaa.isB w h k = Bool.false)) (by kernel_rfl) ?_
  simp only [true_and, and_true, and_self, decide_eq_true_eq, decide_eq_false_iff_not, Option.some.injEq, Int.ofNat_eq_natCast, Int.toNat_natCast]
  refine ⟨by omega, by omega, ⟨(0, 0), ⟨.inr rfl, by simp, fun k h1 h2 => by simp at h2⟩, rfl, rfl⟩, ?_⟩
  rintro ⟨y, i⟩ ⟨h1, h2, h3⟩
  simp only at h1 h2 h3 ⊢
  refine ⟨fun hy => ⟨⟨(0, i), ⟨.inr rfl, h2, h3⟩, rfl, rfl⟩, ?_⟩, fun hy => ⟨by omega, fun k k1 k2 => ?_⟩⟩
  · rintro ⟨x, i'⟩ ⟨g1, g2, g3⟩
    simp only at g1 g2 g3 ⊢
    refine ⟨fun hx => ⟨by omega, by omega, 12 * y + x, g2, by omega, g3, isB_t.2 (by omega), by omega, by omega, (x + 1, 12 * y + x + 1), ⟨.inl (by simp only; omega), by simp only; omega, fun k k1 k2 => by simp only at k1 k2; omega⟩, by simp only; omega, by simp, rfl⟩, fun hx => ⟨by omega, (y + 1, i'), ⟨.inl (by simp only; omega), by simp only; omega, fun k k1 k2 => ?_⟩, by simp only; omega, by simp, rfl⟩⟩
    simp only at k1 k2
    by_cases hk : k < 12 * y + x
    · exact g3 k k1 hk
    · exact isB_f.2 (by omega)
  · by_cases hk : k < 12 * y
    · exact h3 k k1 hk
    · exact isB_f.2 (by omega)

def gCells : SEntry := fun args H => match args with
  | [.a (.c (.ptr id 0))] => match getB H id with
    | .cells _ 34 [.int .i8 w, .int .i8 h, .run [.u8] 144 _] => some (0 ≤ w ∧ w ≤ 12 ∧ 0 ≤ h ∧ h ≤ 12, 144, isB w h, fun i => (i : Int))
    | _ => none
  | _ => none

set_option maxRecDepth 100000 in
theorem s_cells : SEntryOk Try.prog 78 gCells := by
  refine ⟨fnOk Try.func78 (by kernel_rfl) rfl, ?_⟩
  intro args H p N gd el he hp n0 w0 β W vals hH hA l J hl hlβ hst hro hsk h0
  unfold gCells at he
  split at he
  · rename_i id
    split at he
    · rename_i own w h lc hb
      simp only [Option.some.injEq, Prod.mk.injEq] at he
      obtain ⟨rfl, rfl, rfl, rfl⟩ := he
      obtain ⟨p1, p2, p3, p4⟩ := hp
      obtain ⟨b, hbβ, hH1⟩ := hH.one hb rfl
      obtain ⟨v0, rest, e, ⟨b', hb', hv0⟩, hrest⟩ := hA
      rw [hbβ] at hb'; simp only [Option.some.injEq] at hb'; subst hb'
      exact seq_by tt_ok (inlN_ok tt_ok (ctrOf_ok E7_ok) mixed IL_ok.ok 4) (ctrOf_ok E7_ok) mixed Try.func78 (x_cells w h lc p1 p2 p3 p4) hH1
        ⟨v0, rest, e, ⟨b, rfl, hv0⟩, hrest⟩ l J hl (by simp; intro e; subst e; exact hlβ (List.mem_of_getElem? hbβ)) hst hro hsk h0
    · simp at he
  · simp at he

def S1 : List (FuncId × SEntry) := [(78, gCells)]
theorem S1_ok : SEntriesOk Try.prog S1 := ⟨s_cells, trivial⟩

noncomputable abbrev C7 : Ctr := ctrOfS E7 S1
theorem C7_ok : CtrOk Try.prog C7 := ctrOfS_ok E7_ok S1_ok

end Go.Proofs.Ytloibkfkdednoaa
