/- A roster in which one more job has been given: a contract. No conditions beyond the ranges of the kinds. -/
import Derived.Test.YtagdkibmlfjggaaDoorPl3
set_option linter.unusedSimpArgs false
set_option linter.unusedVariables false
namespace Go.Proofs.YtagdkibmlfjggaaDoor
open Go.Sx Go.RowKit

/-- The day from which a hand is free; the day on which a job could begin; the hand that can begin it earliest. -/
def frW (l p : List Int) (g x : Nat) : Int := adS l p (bsF (gvB g p x) 12) 12
def stW (l p : List Int) (g j x : Nat) : Int := max (adS l p (af l j) 12) (frW l p g x)
def bhW (l p : List Int) (g j : Nat) : Nat → Int × Int
  | 0 => (0, 32767)
  | c + 1 => if stW l p g j c < (bhW l p g j c).2 then ((c : Int), stW l p g j c) else bhW l p g j c
/-- The slots then. -/
def wtP (l p : List Int) (g j h : Nat) : List Int := (p.set (j * 2) (bhW l p g j h).1).set (j * 2 + 1) (bhW l p g j h).2
theorem stW_nn {l p : List Int} {g j x : Nat} : 0 ≤ stW l p g j x := by
  have := adS_nn (l := l) (p := p) (s := af l j) 12
  unfold stW; omega
theorem bhW_b {l p : List Int} {g j : Nat} : ∀ c, c ≤ 12 → 0 ≤ (bhW l p g j c).1 ∧ (bhW l p g j c).1 ≤ 12 ∧ 0 ≤ (bhW l p g j c).2 ∧ (bhW l p g j c).2 ≤ 32767
  | 0, _ => by simp [bhW]
  | c + 1, hc => by
    have ih := bhW_b (l := l) (p := p) (g := g) (j := j) c (by omega)
    have hs := stW_nn (l := l) (p := p) (g := g) (j := j) (x := c)
    unfold bhW
    split
    · exact ⟨by simp only; omega, by simp only; omega, hs, by simp only; omega⟩
    · exact ih
theorem wtP_sw {l p : List Int} {g j h : Nat} (sw : SW 12 p) (hl : p.length = 24) (hj : j < 12) (hh : h ≤ 12) : SW 12 (wtP l p g j h) := by
  have b := bhW_b (l := l) (p := p) (g := g) (j := j) h hh
  have gs : ∀ i, (wtP l p g j h).getD i 0 = if i = j * 2 + 1 then (bhW l p g j h).2 else if i = j * 2 then (bhW l p g j h).1 else p.getD i 0 := fun i => by
    rw [wtP, List.getD_eq_getElem?_getD, List.getElem?_set]
    by_cases e1 : j * 2 + 1 = i
    · rw [if_pos e1, if_pos e1.symm, if_pos (by rw [List.length_set]; omega)]; rfl
    · rw [if_neg e1, if_neg (fun e => e1 e.symm), List.getElem?_set]
      by_cases e2 : j * 2 = i
      · rw [if_pos e2, if_pos e2.symm, if_pos (by omega)]; rfl
      · rw [if_neg e2, if_neg (fun e => e2 e.symm), List.getD_eq_getElem?_getD]
  constructor
  · intro k hk
    unfold hd
    rw [gs, if_neg (by omega)]
    split
    · omega
    · exact sw.h k hk
  · intro k hk
    unfold sg
    rw [gs]
    split
    · omega
    · rw [if_neg (by omega)]; exact sw.s k hk
theorem set2_splice {p : List Int} {i : Nat} {a b : Int} (h : i + 2 ≤ p.length) : p.take i ++ [a, b] ++ p.drop (i + 2) = (p.set i a).set (i + 1) b := by
  apply List.ext_getElem?
  intro k
  rw [List.getElem?_set, List.getElem?_set, List.append_assoc]
  by_cases c1 : k < i
  · rw [List.getElem?_append_left (by rw [List.length_take]; omega), List.getElem?_take_of_lt c1, if_neg (by omega), if_neg (by omega)]
  · rw [List.getElem?_append_right (by rw [List.length_take]; omega), List.length_take, show k - min i p.length = k - i by omega]
    by_cases c2 : k = i
    · subst c2
      rw [if_neg (by omega), if_pos rfl, if_pos (by omega), Nat.sub_self]; rfl
    · by_cases c3 : k = i + 1
      · subst c3
        rw [if_pos rfl, if_pos (by rw [List.length_set]; omega), show i + 1 - i = 1 by omega]; rfl
      · rw [if_neg (fun e => c3 e.symm), if_neg (fun e => c2 e.symm), List.getElem?_append_right (by simp; omega), List.getElem?_drop]
        congr 1
        simp; omega
def lmWt (l p : List Int) (g j : Nat) (h : Nat) : LAnn := { ι := Nat, inv := fun _ c => c ≤ h, slots := fun _ c => [(22, .a (.c (.int .i64 c)))], blks := fun _ c => [(3, [.run [.i8, .i16] 2 [(bhW l p g j c).1, (bhW l p g j c).2]])], μ := fun _ c => h - c }
theorem x_with (m n : Nat) (l : List Int) (cap : Int) (h g j : Nat) (p : List Int) (q : Jl n m l) (v : VJ n l) (sw : SW 12 p) (hl : p.length = 24) (hj : j < n) (hh : h ≤ 12) (hg : ∀ k, g.testBit k = true → k < n) : Fex true TT (inlN true TT Cr3 (lookI ILz) 6) Cr3 (fun _ => .inv (lmWt l p g j h)) Tryd.f93 [rosV n cap h g p, .a (.c (.int .i64 j))] [Tks m l] (fun lv _ => leL lv (rosV n cap h (g ||| 2 ^ j) (wtP l p g j h))) := by
  refine Go.Sx.by_eq (q := True ∧ True ∧ True ∧ True ∧ True ∧ True ∧ True ∧ ((0 : Int) ≤ (↑j : Int) ∧ (↑j : Int) < (↑n : Int)) ∧ True ∧ ((0 : Int) ≤ (0 : Int) + (↑j : Int) ∧ Int.toNat ((0 : Int) + (↑j : Int)) * (2 : Nat) + (1 : Nat) < m) ∧ (Rq (0 : Nat) (0 : Int) (2 : Nat) [Go.Sx.EK.i8, Go.Sx.EK.i16] (24 : Nat) (80 : Nat) [Go.Sx.EK.i64, Go.Sx.EK.u16] (↑n : Int) m l p (↑g : Int) ∧ (0 : Int) ≤ List.getD l (Int.toNat ((0 : Int) + (↑j : Int)) * (2 : Nat) + (1 : Nat)) (0 : Int) ∧ ∀ (k : Nat), Nat.testBit (Int.toNat (List.getD l (Int.toNat ((0 : Int) + (↑j : Int)) * (2 : Nat) + (1 : Nat)) (0 : Int))) k = Bool.true → k < Int.toNat (↑n : Int)) ∧ True ∧ True ∧ True ∧ True ∧ True ∧ True ∧ True ∧ True ∧ (∃ (x : Nat), x ≤ h ∧ ((Go.Sx.Cel.slc (0 : Nat) (0 : Nat) (0 : Int) (2 : Nat) (↑n : Int) cap = Go.Sx.Cel.slc (0 : Nat) (0 : Nat) (0 : Int) (2 : Nat) (↑n : Int) cap ∧ (Go.IntKind.i64 = Go.IntKind.i64 ∧ (↑h : Int) = (↑h : Int)) ∧ (Go.IntKind.u16 = Go.IntKind.u16 ∧ (↑g : Int) = (↑g : Int)) ∧ ([Go.Sx.EK.i8, Go.Sx.EK.i16] = [Go.Sx.EK.i8, Go.Sx.EK.i16] ∧ (24 : Nat) = (24 : Nat) ∧ p = p) ∧ True) ∧ (Go.IntKind.i64 = Go.IntKind.i64 ∧ (↑j : Int) = (↑j : Int)) ∧ Go.Sx.Cel.ptr (1 : Nat) (0 : Nat) = Go.Sx.Cel.ptr (1 : Nat) (0 : Nat) ∧ Go.Sx.Cel.val Go.undef = Go.Sx.Cel.val Go.undef ∧ Go.Sx.Cel.ptr (2 : Nat) (0 : Nat) = Go.Sx.Cel.ptr (2 : Nat) (0 : Nat) ∧ (Go.IntKind.i64 = Go.IntKind.i64 ∧ adS l p (Int.toNat (List.getD l (Int.toNat ((0 : Int) + (↑j : Int)) * (2 : Nat) + (1 : Nat)) (0 : Int))) (12 : Nat) = adS l p (Int.toNat (List.getD l (Int.toNat ((0 : Int) + (↑j : Int)) * (2 : Nat) + (1 : Nat)) (0 : Int))) (12 : Nat)) ∧ Go.Sx.Cel.ptr (3 : Nat) (0 : Nat) = Go.Sx.Cel.ptr (3 : Nat) (0 : Nat) ∧ True ∧ True ∧ (Go.Sx.Cel.slc (0 : Nat) (0 : Nat) (0 : Int) (2 : Nat) (↑n : Int) cap = Go.Sx.Cel.slc (0 : Nat) (0 : Nat) (0 : Int) (2 : Nat) (↑n : Int) cap ∧ (Go.IntKind.i64 = Go.IntKind.i64 ∧ (↑h : Int) = (↑h : Int)) ∧ (Go.IntKind.u16 = Go.IntKind.u16 ∧ (↑g : Int) = (↑g : Int)) ∧ ([Go.Sx.EK.i8, Go.Sx.EK.i16] = [Go.Sx.EK.i8, Go.Sx.EK.i16] ∧ (24 : Nat) = (24 : Nat) ∧ p = p) ∧ True) ∧ Go.Sx.Cel.ptr (1 : Nat) (0 : Nat) = Go.Sx.Cel.ptr (1 : Nat) (0 : Nat) ∧ Go.Sx.Cel.ptr (1 : Nat) (0 : Nat) = Go.Sx.Cel.ptr (1 : Nat) (0 : Nat) ∧ Go.Sx.Cel.slc (0 : Nat) (0 : Nat) (0 : Int) (2 : Nat) (↑n : Int) cap = Go.Sx.Cel.slc (0 : Nat) (0 : Nat) (0 : Int) (2 : Nat) (↑n : Int) cap ∧ (Go.IntKind.i64 = Go.IntKind.i64 ∧ (↑j : Int) = (↑j : Int)) ∧ Go.Sx.Cel.pti (0 : Nat) (0 : Nat) ((0 : Int) + (↑j : Int)) (2 : Nat) (0 : Nat) = Go.Sx.Cel.pti (0 : Nat) (0 : Nat) ((0 : Int) + (↑j : Int)) (2 : Nat) (0 : Nat) ∧ Go.Sx.Cel.pti (0 : Nat) (0 : Nat) ((0 : Int) + (↑j : Int)) (2 : Nat) (1 : Nat) = Go.Sx.Cel.pti (0 : Nat) (0 : Nat) ((0 : Int) + (↑j : Int)) (2 : Nat) (1 : Nat) ∧ (Go.IntKind.u16 = Go.IntKind.u16 ∧ List.getD l (Int.toNat ((0 : Int) + (↑j : Int)) * (2 : Nat) + (1 : Nat)) (0 : Int) = List.getD l (Int.toNat ((0 : Int) + (↑j : Int)) * (2 : Nat) + (1 : Nat)) (0 : Int)) ∧ (Go.IntKind.i64 = Go.IntKind.i64 ∧ adS l p (Int.toNat (List.getD l (Int.toNat ((0 : Int) + (↑j : Int)) * (2 : Nat) + (1 : Nat)) (0 : Int))) (12 : Nat) = adS l p (Int.toNat (List.getD l (Int.toNat ((0 : Int) + (↑j : Int)) * (2 : Nat) + (1 : Nat)) (0 : Int))) (12 : Nat)) ∧ ((Go.IntKind.i8 = Go.IntKind.i8 ∧ (0 : Int) = (0 : Int)) ∧ (Go.IntKind.i16 = Go.IntKind.i16 ∧ (32767 : Int) = (32767 : Int)) ∧ True) ∧ Go.Sx.Cel.ptr (1 : Nat) (0 : Nat) = Go.Sx.Cel.ptr (1 : Nat) (0 : Nat) ∧ Go.Sx.Cel.ptr (1 : Nat) (1 : Nat) = Go.Sx.Cel.ptr (1 : Nat) (1 : Nat) ∧ (Go.IntKind.i64 = Go.IntKind.i64 ∧ (↑h : Int) = (↑h : Int)) ∧ (Go.IntKind.i64 = Go.IntKind.i64 ∧ (0 : Int) = (↑x : Int)) ∧ True ∧ True ∧ True ∧ True ∧ True ∧ True ∧ True ∧ True ∧ True ∧ True ∧ True ∧ True ∧ True ∧ True ∧ True ∧ True ∧ True ∧ True ∧ True ∧ True ∧ Go.Sx.Cel.val Go.undef = Go.Sx.Cel.val Go.undef ∧ Go.Sx.Cel.val Go.undef = Go.Sx.Cel.val Go.undef ∧ Go.Sx.Cel.val Go.undef = Go.Sx.Cel.val Go.undef ∧ Go.Sx.Cel.val Go.undef = Go.Sx.Cel.val Go.undef ∧ Go.Sx.Cel.val Go.undef = Go.Sx.Cel.val Go.undef ∧ Go.Sx.Cel.val Go.undef = Go.Sx.Cel.val Go.undef ∧ Go.Sx.Cel.val Go.undef = Go.Sx.Cel.val Go.undef ∧ Go.Sx.Cel.val Go.undef = Go.Sx.Cel.val Go.undef ∧ Go.Sx.Cel.val Go.undef = Go.Sx.Cel.val Go.undef ∧ Go.Sx.Cel.val Go.undef = Go.Sx.Cel.val Go.undef ∧ Go.Sx.Cel.val Go.undef = Go.Sx.Cel.val Go.undef ∧ True) ∧ (Bool.false = Bool.false ∧ (80 : Nat) = (80 : Nat) ∧ ([Go.Sx.EK.i64, Go.Sx.EK.u16] = [Go.Sx.EK.i64, Go.Sx.EK.u16] ∧ m = m ∧ l = l) ∧ True) ∧ (Bool.true = Bool.true ∧ (92 : Nat) = (92 : Nat) ∧ Go.Sx.Cel.slc (0 : Nat) (0 : Nat) (0 : Int) (2 : Nat) (↑n : Int) cap = Go.Sx.Cel.slc (0 : Nat) (0 : Nat) (0 : Int) (2 : Nat) (↑n : Int) cap ∧ (Go.IntKind.i64 = Go.IntKind.i64 ∧ (↑h : Int) = (↑h : Int)) ∧ (Go.IntKind.u16 = Go.IntKind.u16 ∧ (↑g : Int) = (↑g : Int)) ∧ ([Go.Sx.EK.i8, Go.Sx.EK.i16] = [Go.Sx.EK.i8, Go.Sx.EK.i16] ∧ (24 : Nat) = (24 : Nat) ∧ p = p) ∧ True) ∧ (Bool.true = Bool.true ∧ (92 : Nat) = (92 : Nat) ∧ Go.Sx.Cel.val (Go.Value.slice Option.none (0 : Nat) (0 : Nat)) = Go.Sx.Cel.val (Go.Value.slice Option.none (0 : Nat) (0 : Nat)) ∧ (Go.IntKind.i64 = Go.IntKind.i64 ∧ (0 : Int) = (0 : Int)) ∧ (Go.IntKind.u16 = Go.IntKind.u16 ∧ (0 : Int) = (0 : Int)) ∧ ([Go.Sx.EK.i8, Go.Sx.EK.i16] = [Go.Sx.EK.i8, Go.Sx.EK.i16] ∧ (24 : Nat) = (24 : Nat) ∧ List.replicate (24 : Nat) (0 : Int) = List.replicate (24 : Nat) (0 : Int)) ∧ True) ∧ (Bool.true = Bool.true ∧ (89 : Nat) = (89 : Nat) ∧ ([Go.Sx.EK.i8, Go.Sx.EK.i16] = [Go.Sx.EK.i8, Go.Sx.EK.i16] ∧ (2 : Nat) = (2 : Nat) ∧ [(0 : Int), (32767 : Int)] = [(bhW l p g j x).fst, (bhW l p g j x).snd]) ∧ True) ∧ True) ∧ ∀ (x : Nat), x ≤ h → True ∧ (Decidable.decide ((↑x : Int) < (↑h : Int)) = Bool.true → True ∧ True ∧ True ∧ True ∧ True ∧ True ∧ (((0 : Nat) = (0 : Nat) ∧ (0 : Int) = (0 : Int) ∧ (2 : Nat) = (2 : Nat) ∧ [Go.Sx.EK.i8, Go.Sx.EK.i16] = [Go.Sx.EK.i8, Go.Sx.EK.i16] ∧ (24 : Nat) = (24 : Nat)) ∧ SW (12 : Nat) p ∧ (0 : Int) ≤ (↑g : Int) ∧ (↑g : Int) ≤ (65535 : Int)) ∧ (Rq (0 : Nat) (0 : Int) (2 : Nat) [Go.Sx.EK.i8, Go.Sx.EK.i16] (24 : Nat) (80 : Nat) [Go.Sx.EK.i64, Go.Sx.EK.u16] (↑n : Int) m l p (↑g : Int) ∧ (0 : Int) ≤ (↑(bsF (gvB (Int.toNat (↑g : Int)) p (↑x : Int)) (12 : Nat)) : Int) ∧ ∀ (k : Nat), Nat.testBit (Int.toNat (↑(bsF (gvB (Int.toNat (↑g : Int)) p (↑x : Int)) (12 : Nat)) : Int)) k = Bool.true → k < Int.toNat (↑n : Int)) ∧ True ∧ True ∧ True ∧ True ∧ True ∧ ((-9223372036854775808 : Int) ≤ List.getD [(bhW l p g j x).fst, (bhW l p g j x).snd] (1 : Nat) (0 : Int) ∧ List.getD [(bhW l p g j x).fst, (bhW l p g j x).snd] (1 : Nat) (0 : Int) ≤ (9223372036854775807 : Int)) ∧ True ∧ (Decidable.decide (Max.max (adS l p (Int.toNat (List.getD l (Int.toNat ((0 : Int) + (↑j : Int)) * (2 : Nat) + (1 : Nat)) (0 : Int))) (12 : Nat)) (adS l p (Int.toNat (↑(bsF (gvB (Int.toNat (↑g : Int)) p (↑x : Int)) (12 : Nat)) : Int)) (12 : Nat)) < List.getD [(bhW l p g j x).fst, (bhW l p g j x).snd] (1 : Nat) (0 : Int)) = Bool.true → True ∧ True ∧ True ∧ True ∧ True ∧ True ∧ ((-9223372036854775808 : Int) ≤ (↑x : Int) + (1 : Int) ∧ (↑x : Int) + (1 : Int) ≤ (9223372036854775807 : Int)) ∧ True ∧ ∃ (y : Nat), y ≤ h ∧ h - y < h - x ∧ ((Go.Sx.Cel.slc (0 : Nat) (0 : Nat) (0 : Int) (2 : Nat) (↑n : Int) cap = Go.Sx.Cel.slc (0 : Nat) (0 : Nat) (0 : Int) (2 : Nat) (↑n : Int) cap ∧ (Go.IntKind.i64 = Go.IntKind.i64 ∧ (↑h : Int) = (↑h : Int)) ∧ (Go.IntKind.u16 = Go.IntKind.u16 ∧ (↑g : Int) = (↑g : Int)) ∧ ([Go.Sx.EK.i8, Go.Sx.EK.i16] = [Go.Sx.EK.i8, Go.Sx.EK.i16] ∧ (24 : Nat) = (24 : Nat) ∧ p = p) ∧ True) ∧ (Go.IntKind.i64 = Go.IntKind.i64 ∧ (↑j : Int) = (↑j : Int)) ∧ Go.Sx.Cel.ptr (1 : Nat) (0 : Nat) = Go.Sx.Cel.ptr (1 : Nat) (0 : Nat) ∧ Go.Sx.Cel.val Go.undef = Go.Sx.Cel.val Go.undef ∧ Go.Sx.Cel.ptr (2 : Nat) (0 : Nat) = Go.Sx.Cel.ptr (2 : Nat) (0 : Nat) ∧ (Go.IntKind.i64 = Go.IntKind.i64 ∧ adS l p (Int.toNat (List.getD l (Int.toNat ((0 : Int) + (↑j : Int)) * (2 : Nat) + (1 : Nat)) (0 : Int))) (12 : Nat) = adS l p (Int.toNat (List.getD l (Int.toNat ((0 : Int) + (↑j : Int)) * (2 : Nat) + (1 : Nat)) (0 : Int))) (12 : Nat)) ∧ Go.Sx.Cel.ptr (3 : Nat) (0 : Nat) = Go.Sx.Cel.ptr (3 : Nat) (0 : Nat) ∧ True ∧ True ∧ (Go.Sx.Cel.slc (0 : Nat) (0 : Nat) (0 : Int) (2 : Nat) (↑n : Int) cap = Go.Sx.Cel.slc (0 : Nat) (0 : Nat) (0 : Int) (2 : Nat) (↑n : Int) cap ∧ (Go.IntKind.i64 = Go.IntKind.i64 ∧ (↑h : Int) = (↑h : Int)) ∧ (Go.IntKind.u16 = Go.IntKind.u16 ∧ (↑g : Int) = (↑g : Int)) ∧ ([Go.Sx.EK.i8, Go.Sx.EK.i16] = [Go.Sx.EK.i8, Go.Sx.EK.i16] ∧ (24 : Nat) = (24 : Nat) ∧ p = p) ∧ True) ∧ Go.Sx.Cel.ptr (1 : Nat) (0 : Nat) = Go.Sx.Cel.ptr (1 : Nat) (0 : Nat) ∧ Go.Sx.Cel.ptr (1 : Nat) (0 : Nat) = Go.Sx.Cel.ptr (1 : Nat) (0 : Nat) ∧ Go.Sx.Cel.slc (0 : Nat) (0 : Nat) (0 : Int) (2 : Nat) (↑n : Int) cap = Go.Sx.Cel.slc (0 : Nat) (0 : Nat) (0 : Int) (2 : Nat) (↑n : Int) cap ∧ (Go.IntKind.i64 = Go.IntKind.i64 ∧ (↑j : Int) = (↑j : Int)) ∧ Go.Sx.Cel.pti (0 : Nat) (0 : Nat) ((0 : Int) + (↑j : Int)) (2 : Nat) (0 : Nat) = Go.Sx.Cel.pti (0 : Nat) (0 : Nat) ((0 : Int) + (↑j : Int)) (2 : Nat) (0 : Nat) ∧ Go.Sx.Cel.pti (0 : Nat) (0 : Nat) ((0 : Int) + (↑j : Int)) (2 : Nat) (1 : Nat) = Go.Sx.Cel.pti (0 : Nat) (0 : Nat) ((0 : Int) + (↑j : Int)) (2 : Nat) (1 : Nat) ∧ (Go.IntKind.u16 = Go.IntKind.u16 ∧ List.getD l (Int.toNat ((0 : Int) + (↑j : Int)) * (2 : Nat) + (1 : Nat)) (0 : Int) = List.getD l (Int.toNat ((0 : Int) + (↑j : Int)) * (2 : Nat) + (1 : Nat)) (0 : Int)) ∧ (Go.IntKind.i64 = Go.IntKind.i64 ∧ adS l p (Int.toNat (List.getD l (Int.toNat ((0 : Int) + (↑j : Int)) * (2 : Nat) + (1 : Nat)) (0 : Int))) (12 : Nat) = adS l p (Int.toNat (List.getD l (Int.toNat ((0 : Int) + (↑j : Int)) * (2 : Nat) + (1 : Nat)) (0 : Int))) (12 : Nat)) ∧ ((Go.IntKind.i8 = Go.IntKind.i8 ∧ (0 : Int) = (0 : Int)) ∧ (Go.IntKind.i16 = Go.IntKind.i16 ∧ (32767 : Int) = (32767 : Int)) ∧ True) ∧ Go.Sx.Cel.ptr (1 : Nat) (0 : Nat) = Go.Sx.Cel.ptr (1 : Nat) (0 : Nat) ∧ Go.Sx.Cel.ptr (1 : Nat) (1 : Nat) = Go.Sx.Cel.ptr (1 : Nat) (1 : Nat) ∧ (Go.IntKind.i64 = Go.IntKind.i64 ∧ (↑h : Int) = (↑h : Int)) ∧ (Go.IntKind.i64 = Go.IntKind.i64 ∧ (↑x : Int) + (1 : Int) = (↑y : Int)) ∧ True ∧ True ∧ True ∧ True ∧ True ∧ True ∧ True ∧ True ∧ True ∧ True ∧ True ∧ True ∧ True ∧ True ∧ True ∧ True ∧ True ∧ True ∧ True ∧ True ∧ Go.Sx.Cel.val Go.undef = Go.Sx.Cel.val Go.undef ∧ Go.Sx.Cel.val Go.undef = Go.Sx.Cel.val Go.undef ∧ Go.Sx.Cel.val Go.undef = Go.Sx.Cel.val Go.undef ∧ Go.Sx.Cel.val Go.undef = Go.Sx.Cel.val Go.undef ∧ Go.Sx.Cel.val Go.undef = Go.Sx.Cel.val Go.undef ∧ Go.Sx.Cel.val Go.undef = Go.Sx.Cel.val Go.undef ∧ Go.Sx.Cel.val Go.undef = Go.Sx.Cel.val Go.undef ∧ Go.Sx.Cel.val Go.undef = Go.Sx.Cel.val Go.undef ∧ Go.Sx.Cel.val Go.undef = Go.Sx.Cel.val Go.undef ∧ Go.Sx.Cel.val Go.undef = Go.Sx.Cel.val Go.undef ∧ Go.Sx.Cel.val Go.undef = Go.Sx.Cel.val Go.undef ∧ True) ∧ (Bool.false = Bool.false ∧ (80 : Nat) = (80 : Nat) ∧ ([Go.Sx.EK.i64, Go.Sx.EK.u16] = [Go.Sx.EK.i64, Go.Sx.EK.u16] ∧ m = m ∧ l = l) ∧ True) ∧ (Bool.true = Bool.true ∧ (92 : Nat) = (92 : Nat) ∧ Go.Sx.Cel.slc (0 : Nat) (0 : Nat) (0 : Int) (2 : Nat) (↑n : Int) cap = Go.Sx.Cel.slc (0 : Nat) (0 : Nat) (0 : Int) (2 : Nat) (↑n : Int) cap ∧ (Go.IntKind.i64 = Go.IntKind.i64 ∧ (↑h : Int) = (↑h : Int)) ∧ (Go.IntKind.u16 = Go.IntKind.u16 ∧ (↑g : Int) = (↑g : Int)) ∧ ([Go.Sx.EK.i8, Go.Sx.EK.i16] = [Go.Sx.EK.i8, Go.Sx.EK.i16] ∧ (24 : Nat) = (24 : Nat) ∧ p = p) ∧ True) ∧ (Bool.true = Bool.true ∧ (92 : Nat) = (92 : Nat) ∧ Go.Sx.Cel.val (Go.Value.slice Option.none (0 : Nat) (0 : Nat)) = Go.Sx.Cel.val (Go.Value.slice Option.none (0 : Nat) (0 : Nat)) ∧ (Go.IntKind.i64 = Go.IntKind.i64 ∧ (0 : Int) = (0 : Int)) ∧ (Go.IntKind.u16 = Go.IntKind.u16 ∧ (0 : Int) = (0 : Int)) ∧ ([Go.Sx.EK.i8, Go.Sx.EK.i16] = [Go.Sx.EK.i8, Go.Sx.EK.i16] ∧ (24 : Nat) = (24 : Nat) ∧ List.replicate (24 : Nat) (0 : Int) = List.replicate (24 : Nat) (0 : Int)) ∧ True) ∧ (Bool.true = Bool.true ∧ (89 : Nat) = (89 : Nat) ∧ ([Go.Sx.EK.i8, Go.Sx.EK.i16] = [Go.Sx.EK.i8, Go.Sx.EK.i16] ∧ (2 : Nat) = (2 : Nat) ∧ [Go.IntKind.wrap Go.IntKind.i8 (↑x : Int), Go.IntKind.wrap Go.IntKind.i16 (Max.max (adS l p (Int.toNat (List.getD l (Int.toNat ((0 : Int) + (↑j : Int)) * (2 : Nat) + (1 : Nat)) (0 : Int))) (12 : Nat)) (adS l p (Int.toNat (↑(bsF (gvB (Int.toNat (↑g : Int)) p (↑x : Int)) (12 : Nat)) : Int)) (12 : Nat)))] = [(bhW l p g j y).fst, (bhW l p g j y).snd]) ∧ True) ∧ True) ∧ (Decidable.decide (Max.max (adS l p (Int.toNat (List.getD l (Int.toNat ((0 : Int) + (↑j : Int)) * (2 : Nat) + (1 : Nat)) (0 : Int))) (12 : Nat)) (adS l p (Int.toNat (↑(bsF (gvB (Int.toNat (↑g : Int)) p (↑x : Int)) (12 : Nat)) : Int)) (12 : Nat)) < List.getD [(bhW l p g j x).fst, (bhW l p g j x).snd] (1 : Nat) (0 : Int)) = Bool.false → ((-9223372036854775808 : Int) ≤ (↑x : Int) + (1 : Int) ∧ (↑x : Int) + (1 : Int) ≤ (9223372036854775807 : Int)) ∧ True ∧ ∃ (y : Nat), y ≤ h ∧ h - y < h - x ∧ ((Go.Sx.Cel.slc (0 : Nat) (0 : Nat) (0 : Int) (2 : Nat) (↑n : Int) cap = Go.Sx.Cel.slc (0 : Nat) (0 : Nat) (0 : Int) (2 : Nat) (↑n : Int) cap ∧ (Go.IntKind.i64 = Go.IntKind.i64 ∧ (↑h : Int) = (↑h : Int)) ∧ (Go.IntKind.u16 = Go.IntKind.u16 ∧ (↑g : Int) = (↑g : Int)) ∧ ([Go.Sx.EK.i8, Go.Sx.EK.i16] = [Go.Sx.EK.i8, Go.Sx.EK.i16] ∧ (24 : Nat) = (24 : Nat) ∧ p = p) ∧ True) ∧ (Go.IntKind.i64 = Go.IntKind.i64 ∧ (↑j : Int) = (↑j : Int)) ∧ Go.Sx.Cel.ptr (1 : Nat) (0 : Nat) = Go.Sx.Cel.ptr (1 : Nat) (0 : Nat) ∧ Go.Sx.Cel.val Go.undef = Go.Sx.Cel.val Go.undef ∧ Go.Sx.Cel.ptr (2 : Nat) (0 : Nat) = Go.Sx.Cel.ptr (2 : Nat) (0 : Nat) ∧ (Go.IntKind.i64 = Go.IntKind.i64 ∧ adS l p (Int.toNat (List.getD l (Int.toNat ((0 : Int) + (↑j : Int)) * (2 : Nat) + (1 : Nat)) (0 : Int))) (12 : Nat) = adS l p (Int.toNat (List.getD l (Int.toNat ((0 : Int) + (↑j : Int)) * (2 : Nat) + (1 : Nat)) (0 : Int))) (12 : Nat)) ∧ Go.Sx.Cel.ptr (3 : Nat) (0 : Nat) = Go.Sx.Cel.ptr (3 : Nat) (0 : Nat) ∧ True ∧ True ∧ (Go.Sx.Cel.slc (0 : Nat) (0 : Nat) (0 : Int) (2 : Nat) (↑n : Int) cap = Go.Sx.Cel.slc (0 : Nat) (0 : Nat) (0 : Int) (2 : Nat) (↑n : Int) cap ∧ (Go.IntKind.i64 = Go.IntKind.i64 ∧ (↑h : Int) = (↑h : Int)) ∧ (Go.IntKind.u16 = Go.IntKind.u16 ∧ (↑g : Int) = (↑g : Int)) ∧ ([Go.Sx.EK.i8, Go.Sx.EK.i16] = [Go.Sx.EK.i8, Go.Sx.EK.i16] ∧ (24 : Nat) = (24 : Nat) ∧ p = p) ∧ True) ∧ Go.Sx.Cel.ptr (1 : Nat) (0 : Nat) = Go.Sx.Cel.ptr (1 : Nat) (0 : Nat) ∧ Go.Sx.Cel.ptr (1 : Nat) (0 : Nat) = Go.Sx.Cel.ptr (1 : Nat) (0 : Nat) ∧ Go.Sx.Cel.slc (0 : Nat) (0 : Nat) (0 : Int) (2 : Nat) (↑n : Int) cap = Go.Sx.Cel.slc (0 : Nat) (0 : Nat) (0 : Int) (2 : Nat) (↑n : Int) cap ∧ (Go.IntKind.i64 = Go.IntKind.i64 ∧ (↑j : Int) = (↑j : Int)) ∧ Go.Sx.Cel.pti (0 : Nat) (0 : Nat) ((0 : Int) + (↑j : Int)) (2 : Nat) (0 : Nat) = Go.Sx.Cel.pti (0 : Nat) (0 : Nat) ((0 : Int) + (↑j : Int)) (2 : Nat) (0 : Nat) ∧ Go.Sx.Cel.pti (0 : Nat) (0 : Nat) ((0 : Int) + (↑j : Int)) (2 : Nat) (1 : Nat) = Go.Sx.Cel.pti (0 : Nat) (0 : Nat) ((0 : Int) + (↑j : Int)) (2 : Nat) (1 : Nat) ∧ (Go.IntKind.u16 = Go.IntKind.u16 ∧ List.getD l (Int.toNat ((0 : Int) + (↑j : Int)) * (2 : Nat) + (1 : Nat)) (0 : Int) = List.getD l (Int.toNat ((0 : Int) + (↑j : Int)) * (2 : Nat) + (1 : Nat)) (0 : Int)) ∧ (Go.IntKind.i64 = Go.IntKind.i64 ∧ adS l p (Int.toNat (List.getD l (Int.toNat ((0 : Int) + (↑j : Int)) * (2 : Nat) + (1 : Nat)) (0 : Int))) (12 : Nat) = adS l p (Int.toNat (List.getD l (Int.toNat ((0 : Int) + (↑j : Int)) * (2 : Nat) + (1 : Nat)) (0 : Int))) (12 : Nat)) ∧ ((Go.IntKind.i8 = Go.IntKind.i8 ∧ (0 : Int) = (0 : Int)) ∧ (Go.IntKind.i16 = Go.IntKind.i16 ∧ (32767 : Int) = (32767 : Int)) ∧ True) ∧ Go.Sx.Cel.ptr (1 : Nat) (0 : Nat) = Go.Sx.Cel.ptr (1 : Nat) (0 : Nat) ∧ Go.Sx.Cel.ptr (1 : Nat) (1 : Nat) = Go.Sx.Cel.ptr (1 : Nat) (1 : Nat) ∧ (Go.IntKind.i64 = Go.IntKind.i64 ∧ (↑h : Int) = (↑h : Int)) ∧ (Go.IntKind.i64 = Go.IntKind.i64 ∧ (↑x : Int) + (1 : Int) = (↑y : Int)) ∧ True ∧ True ∧ True ∧ True ∧ True ∧ True ∧ True ∧ True ∧ True ∧ True ∧ True ∧ True ∧ True ∧ True ∧ True ∧ True ∧ True ∧ True ∧ True ∧ True ∧ Go.Sx.Cel.val Go.undef = Go.Sx.Cel.val Go.undef ∧ Go.Sx.Cel.val Go.undef = Go.Sx.Cel.val Go.undef ∧ Go.Sx.Cel.val Go.undef = Go.Sx.Cel.val Go.undef ∧ Go.Sx.Cel.val Go.undef = Go.Sx.Cel.val Go.undef ∧ Go.Sx.Cel.val Go.undef = Go.Sx.Cel.val Go.undef ∧ Go.Sx.Cel.val Go.undef = Go.Sx.Cel.val Go.undef ∧ Go.Sx.Cel.val Go.undef = Go.Sx.Cel.val Go.undef ∧ Go.Sx.Cel.val Go.undef = Go.Sx.Cel.val Go.undef ∧ Go.Sx.Cel.val Go.undef = Go.Sx.Cel.val Go.undef ∧ Go.Sx.Cel.val Go.undef = Go.Sx.Cel.val Go.undef ∧ Go.Sx.Cel.val Go.undef = Go.Sx.Cel.val Go.undef ∧ True) ∧ (Bool.false = Bool.false ∧ (80 : Nat) = (80 : Nat) ∧ ([Go.Sx.EK.i64, Go.Sx.EK.u16] = [Go.Sx.EK.i64, Go.Sx.EK.u16] ∧ m = m ∧ l = l) ∧ True) ∧ (Bool.true = Bool.true ∧ (92 : Nat) = (92 : Nat) ∧ Go.Sx.Cel.slc (0 : Nat) (0 : Nat) (0 : Int) (2 : Nat) (↑n : Int) cap = Go.Sx.Cel.slc (0 : Nat) (0 : Nat) (0 : Int) (2 : Nat) (↑n : Int) cap ∧ (Go.IntKind.i64 = Go.IntKind.i64 ∧ (↑h : Int) = (↑h : Int)) ∧ (Go.IntKind.u16 = Go.IntKind.u16 ∧ (↑g : Int) = (↑g : Int)) ∧ ([Go.Sx.EK.i8, Go.Sx.EK.i16] = [Go.Sx.EK.i8, Go.Sx.EK.i16] ∧ (24 : Nat) = (24 : Nat) ∧ p = p) ∧ True) ∧ (Bool.true = Bool.true ∧ (92 : Nat) = (92 : Nat) ∧ Go.Sx.Cel.val (Go.Value.slice Option.none (0 : Nat) (0 : Nat)) = Go.Sx.Cel.val (Go.Value.slice Option.none (0 : Nat) (0 : Nat)) ∧ (Go.IntKind.i64 = Go.IntKind.i64 ∧ (0 : Int) = (0 : Int)) ∧ (Go.IntKind.u16 = Go.IntKind.u16 ∧ (0 : Int) = (0 : Int)) ∧ ([Go.Sx.EK.i8, Go.Sx.EK.i16] = [Go.Sx.EK.i8, Go.Sx.EK.i16] ∧ (24 : Nat) = (24 : Nat) ∧ List.replicate (24 : Nat) (0 : Int) = List.replicate (24 : Nat) (0 : Int)) ∧ True) ∧ (Bool.true = Bool.true ∧ (89 : Nat) = (89 : Nat) ∧ ([Go.Sx.EK.i8, Go.Sx.EK.i16] = [Go.Sx.EK.i8, Go.Sx.EK.i16] ∧ (2 : Nat) = (2 : Nat) ∧ [(bhW l p g j x).fst, (bhW l p g j x).snd] = [(bhW l p g j y).fst, (bhW l p g j y).snd]) ∧ True) ∧ True)) ∧ (Decidable.decide ((↑x : Int) < (↑h : Int)) = Bool.false → True ∧ True ∧ True ∧ ((0 : Int) ≤ (↑j : Int) ∧ (↑j : Int) < (↑(12 : Nat) : Int)) ∧ ((0 : Int) ≤ (↑j : Int) ∧ Int.toNat (↑j : Int) * (2 : Nat) + (0 : Nat) + (2 : Nat) ≤ (24 : Nat)) ∧ True ∧ True ∧ True ∧ ((0 : Int) ≤ (↑j : Int) ∧ (↑j : Int) < (16 : Int)) ∧ True ∧ True ∧ True ∧ True ∧ True ∧ Go.Sx.Cel.slc (0 : Nat) (0 : Nat) (0 : Int) (2 : Nat) (↑n : Int) cap = Go.Sx.Cel.slc (0 : Nat) (0 : Nat) (0 : Int) (2 : Nat) (↑n : Int) cap ∧ (Go.IntKind.i64 = Go.IntKind.i64 ∧ (↑h : Int) = (↑h : Int)) ∧ (Go.IntKind.u16 = Go.IntKind.u16 ∧ Go.Sx.bOr Go.IntKind.u16 (↑g : Int) (↑((2 : Nat) ^ Int.toNat (↑j : Int)) : Int) = (↑(g ||| (2 : Nat) ^ j) : Int)) ∧ ([Go.Sx.EK.i8, Go.Sx.EK.i16] = [Go.Sx.EK.i8, Go.Sx.EK.i16] ∧ (24 : Nat) = (24 : Nat) ∧ List.take (Int.toNat (↑j : Int) * (2 : Nat) + (0 : Nat)) p ++ ([(bhW l p g j x).fst, (bhW l p g j x).snd] ++ []) ++ List.drop (Int.toNat (↑j : Int) * (2 : Nat) + (0 : Nat) + (2 : Nat)) p = wtP l p g j h) ∧ True)) (by kernel_rfl) ?_
  have hv := v.hi
  have hgl : g < 65536 := by
    have : g < 2 ^ n := by
      apply Nat.lt_pow_two_of_testBit
      intro i hi
      rw [Bool.eq_false_iff]
      intro hb
      have := hg i hb
      omega
    have := pow_lt16 (k := n) (by omega)
    omega
  have rq : Rq 0 0 2 [.i8, .i16] 24 80 [.i64, .u16] n m l p g := ⟨⟨rfl, rfl, rfl, rfl, rfl, rfl, rfl⟩, q, v, sw, by omega⟩
  simp only [true_and, and_true, and_self, decide_eq_true_eq, decide_eq_false_iff_not, Bool.not_eq_true', Bool.not_eq_false', Bool.not_true, Bool.not_false, beq_iff_eq, beq_eq_false_iff_ne, bne_iff_ne, bne_eq_false_iff_eq, ne_eq, not_true_eq_false, not_false_eq_true, false_implies, true_implies, implies_true, forall_const, exists_const, ↓reduceIte, Int.reduceEq, Int.toNat_natCast, Bool.false_eq_true, Bool.true_eq_false, reduceCtorEq, Int.zero_add, Nat.add_zero, Int.ofNat_eq_natCast, Int.toNat_natCast]
  obtain ⟨_, q1, q2, q3, jw⟩ := id q
  rw [Int.toNat_natCast] at q2 jw
  obtain ⟨e1, e2⟩ := jw.af (k := j) hj
  rw [e1, Int.toNat_natCast]
  have haf : ∀ k, (af l j).testBit k = true → k < n := fun k hk => by
    rw [← Nat.not_le]
    intro hc
    have := Nat.testBit_lt_two_pow (Nat.lt_of_lt_of_le (v.af hj) (Nat.pow_le_pow_right (by omega) hc))
    rw [this] at hk; cases hk
  have hgv : ∀ x : Nat, ∀ k, (bsF (gvB g p x) 12).testBit k = true → k < n := fun x k hk => by
    rw [bsF_bit, gvB] at hk
    simp only [Bool.and_eq_true, decide_eq_true_eq] at hk
    exact hg k hk.2.1
  refine ⟨by omega, by omega, ⟨rq, by omega, haf⟩, ⟨0, by omega, rfl, rfl⟩, ?_⟩
  intro x hx
  have hb := bhW_b (l := l) (p := p) (g := g) (j := j) x (by omega)
  have hs := stW_nn (l := l) (p := p) (g := g) (j := j) (x := x)
  have es : max (adS l p (af l j) 12) (adS l p (bsF (gvB g p x) 12) 12) = stW l p g j x := rfl
  have eg : [(bhW l p g j x).1, (bhW l p g j x).2].getD 1 0 = (bhW l p g j x).2 := rfl
  rw [es, eg]
  refine ⟨fun hlt => ⟨⟨sw, by omega, by omega⟩, ⟨rq, by omega, hgv x⟩, by omega, fun hl => ?_, fun hl => ⟨by omega, x + 1, by omega, by omega, by omega, ?_⟩⟩, fun hge => ?_⟩
  · refine ⟨by omega, x + 1, by omega, by omega, by omega, ?_⟩
    rw [i8w (by omega) (by omega), i16w (by omega) (by omega), bhW, if_pos hl]
  · rw [bhW, if_neg hl]
  · have hxh : x = h := by omega
    rw [hxh]
    refine ⟨by omega, by omega, by omega, ?_, ?_⟩
    · exact bOr16 hgl (pow_lt16 (by omega))
    · exact set2_splice (by omega)
def gWith : Entry := fun args H => match args with
  | [.a (.agg [.slc id b z s len cap, .int .i64 h, .int .u16 g, .run ks m p]), .a (.c (.int .i64 j))] => match getB H id with
    | .cells _ t [.run kt mm l] => some (Rq b z s ks m t kt len mm l p g ∧ p.length = 24 ∧ (0 ≤ j ∧ j < len) ∧ (0 ≤ h ∧ h ≤ 12) ∧ ∀ k, g.toNat.testBit k = true → k < len.toNat,
        .a (.agg [.slc id 0 0 2 len cap, .int .i64 h, .int .u16 ((g.toNat ||| 2 ^ j.toNat : Nat) : Int), .run [.i8, .i16] 24 (wtP l p g.toNat j.toNat h.toNat)]))
    | _ => none
  | _ => none
theorem getB_lt6 : ∀ {H : List Blk} {i : Nat} {o : Bool} {t : TypeId} {cs : List Cel}, getB H i = .cells o t cs → i < H.length
  | [], _, _, _, _, h => by simp [getB] at h
  | x :: H, 0, _, _, _, _ => by simp
  | x :: H, i + 1, _, _, _, h => by
    have := getB_lt6 (H := H) (i := i) (by simpa [getB] using h)
    simp; omega
theorem e_with : EntryOk Tryd.prog TT 93 gWith := by
  refine ⟨fnOk Tryd.func93 (by kernel_rfl) rfl, ?_⟩
  intro args H pp r he hp n0 w0 β w vals hG hH hA
  unfold gWith at he
  split at he
  · split at he
    · rename_i id b z s len cap h g ks m p j _ o t kt mm l hg
      simp only [Option.some.injEq, Prod.mk.injEq] at he
      obtain ⟨rfl, rfl⟩ := he
      obtain ⟨⟨⟨rfl, rfl, rfl, rfl, rfl, rfl, rfl⟩, q, v, sw, h0⟩, hl, ⟨j0, j1⟩, ⟨hh0, hh1⟩, hgb⟩ := hp
      obtain ⟨n, rfl⟩ := Int.eq_ofNat_of_zero_le q.lo
      obtain ⟨g, rfl⟩ := Int.eq_ofNat_of_zero_le h0
      obtain ⟨j, rfl⟩ := Int.eq_ofNat_of_zero_le j0
      obtain ⟨h, rfl⟩ := Int.eq_ofNat_of_zero_le hh0
      have hlt : ∀ i ∈ [id], i < H.length := fun i hi => by
        obtain rfl := List.mem_singleton.1 hi
        exact getB_lt6 hg
      exact entry_viewB tt_ok (inlN_ok tt_ok Cr3_ok mixed ILz_ok.ok 6) Cr3_ok mixed Tryd.func93 [id] (x_with mm n l cap h g j p q v sw hl (by omega) (by omega) hgb) (fun _ _ hr => hr) rfl rfl ⟨.inr (by rw [hg]; rfl), trivial⟩ hlt hG hH hA
    · simp at he
  · simp at he
end Go.Proofs.YtagdkibmlfjggaaDoor
