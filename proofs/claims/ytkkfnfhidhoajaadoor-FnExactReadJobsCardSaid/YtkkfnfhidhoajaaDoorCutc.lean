/- strings.Cut as a contract, and numerals with a sign. No conditions beyond the ranges of the kinds. -/
import Derived.Test.YtkkfnfhidhoajaaDoorNuc
import Derived.Shelf.Strings.Cut
set_option linter.unusedSimpArgs false
set_option linter.unusedVariables false
namespace Go.Proofs.YtkkfnfhidhoajaaDoor
open Go.Sx Go.RowKit
variable {mx : Nat → Value}

def layCut_ren : Go.Shelf.Ren := ⟨fun | 145 => 23 | 220 => 34 | 219 => 48 | 217 => 64 | 225 => 65 | 224 => 66 | 267 => 67 | 266 => 82 | 314 => 83 | n => n, fun | 9 => 9 | 4 => 4 | 59 => 51 | 3 => 3 | 5 => 5 | 46 => 37 | 146 => 132 | 51 => 121 | n => n, fun | 1 => 0 | n => n⟩
theorem layCut : Go.Proofs.LaysM.n145 Tryd.prog layCut_ren := {
  mixed := by kernel_rfl
  f145 := Tryd.func23.trans (congrArg some (by kernel_rfl))
  f217 := Tryd.func64.trans (congrArg some (by kernel_rfl))
  f219 := Tryd.func48.trans (congrArg some (by kernel_rfl))
  f220 := Tryd.func34.trans (congrArg some (by kernel_rfl))
  f224 := Tryd.func66.trans (congrArg some (by kernel_rfl))
  f225 := Tryd.func65.trans (congrArg some (by kernel_rfl))
  f266 := Tryd.func82.trans (congrArg some (by kernel_rfl))
  f267 := Tryd.func67.trans (congrArg some (by kernel_rfl))
  f314 := Tryd.func83.trans (congrArg some (by kernel_rfl))
  t3 := Tryd.underlying3
  a3 := Tryd.isAgg3
  z3 := Tryd.sizeOf3
  v3 := Tryd.zeroValue3
  t4 := Tryd.underlying4
  a4 := Tryd.isAgg4
  z4 := Tryd.sizeOf4
  v4 := Tryd.zeroValue4
  t5 := Tryd.underlying5
  a5 := Tryd.isAgg5
  z5 := Tryd.sizeOf5
  v5 := Tryd.zeroValue5
  t9 := Tryd.underlying9
  a9 := Tryd.isAgg9
  z9 := Tryd.sizeOf9
  v9 := Tryd.zeroValue9
  t46 := Tryd.underlying37
  a46 := Tryd.isAgg37
  z46 := Tryd.sizeOf37
  v46 := Tryd.zeroValue37
  t51 := Tryd.underlying121
  a51 := Tryd.isAgg121
  z51 := Tryd.sizeOf121
  v51 := Tryd.zeroValue121
  t59 := Tryd.underlying51
  a59 := Tryd.isAgg51
  z59 := Tryd.sizeOf51
  v59 := Tryd.zeroValue51
  t146 := Tryd.underlying132
  a146 := Tryd.isAgg132
  z146 := Tryd.sizeOf132
  v146 := Tryd.zeroValue132
  g1 := by kernel_rfl
  i3 := by kernel_rfl
  i4 := by kernel_rfl
  i5 := by kernel_rfl
  i9 := by kernel_rfl
  i46 := by kernel_rfl
  i51 := by kernel_rfl
  i59 := by kernel_rfl
  i146 := by kernel_rfl
  m1 := by kernel_rfl
  s1_3 := fun w h => Go.Proofs.cell_of_shapedOpen_int (zero := #[.int .i64 0]) (t := 3) h (of_decide_eq_true (by kernel_rfl)) (by kernel_rfl) rfl (by kernel_rfl) (by kernel_rfl) Tryd.underlying3 }

def cutL (l : List UInt8) (sep : List UInt8) : List UInt8 × List UInt8 × Bool := Lib.cut l sep
def gCut : Entry := fun args _ => match args with
  | [.a (.c (.str s)), .a (.c (.str sep))] => some (s.size ≤ 1048576, .tup [.c (.str (bsl (cutL s.data.toList sep.data.toList).1)), .c (.str (bsl (cutL s.data.toList sep.data.toList).2.1)), .c (.bool (cutL s.data.toList sep.data.toList).2.2)])
  | _ => none
theorem e_Cut : EntryOk Tryd.prog (TT mx) 23 gCut := by
  refine ⟨fnOk Tryd.func23 (by kernel_rfl) rfl, ?_⟩
  intro args H p r he hp n0 w0 β w vals hG hH hA
  unfold gCut at he
  split at he
  · rename_i s sep
    simp only [Option.some.injEq, Prod.mk.injEq] at he
    obtain ⟨rfl, rfl⟩ := he
    obtain ⟨v1, r1, e1, hv1, v2, r2, rfl, hv2, hr⟩ := hA
    have hv1 : v1 = .string s := hv1
    have hv2 : v2 = .string sep := hv2
    have hr : r2 = [] := hr
    subst hv1 hv2 hr
    obtain rfl : vals = #[.string s, .string sep] := Array.toList_inj.1 e1
    obtain ⟨tm, fm, csm, g1, g2, _⟩ := hG 0 (.int .i64 (ivl (mx 0))) rfl w hH.ext
    have hm : w.cell? ⟨0, 0, none⟩ = some (.int .i64 (ivl (mx 0))) := by rw [cell_at g1]; exact g2
    refine (Any.strings_Cut { layCut with } s sep _ w (by omega) hm).mono ?_
    rintro e w' ⟨rfl, k, rfl⟩
    exact ⟨_, rfl, below_drewN (Below.refl _ _) k, _, rfl, _, _, rfl, rfl, _, _, rfl, rfl, _, _, rfl, rfl, rfl⟩
  · simp at he
theorem cut_at {a r : List UInt8} {c : UInt8} (h : c ∉ a) : cutL (a ++ c :: r) [c] = (a, r, true) := by
  rcases index_one (c := c) (l := a ++ c :: r) with ⟨_, hn⟩ | ⟨a', r', he, hn, hi⟩
  · exact absurd (List.mem_append_right _ List.mem_cons_self) hn
  · have e1 := wds_app (l := r) h
    rw [he, wds_app hn] at e1
    have ea : a' = a := (List.cons.inj e1).1
    subst ea
    rw [cutL, Lib.cut, hi, if_pos (by omega), Int.toNat_natCast, List.take_left, List.length_singleton]
    have : (a' ++ c :: r).drop (a'.length + 1) = r := by
      rw [show a' ++ c :: r = (a' ++ [c]) ++ r by simp, show a'.length + 1 = (a' ++ [c]).length by simp, List.drop_left]
    rw [this]

theorem cut_len (l sep : List UInt8) : (cutL l sep).1.length ≤ l.length ∧ (cutL l sep).2.1.length ≤ l.length := by
  unfold cutL Lib.cut
  split
  · exact ⟨by rw [List.length_take]; omega, by rw [List.length_drop]; omega⟩
  · exact ⟨Nat.le_refl _, Nat.zero_le _⟩


end Go.Proofs.YtkkfnfhidhoajaaDoor
