/- strings.Trim as the shelf's contract tells it. No conditions beyond the ranges of the kinds. -/
import Derived.Test.YtkgdkfilhlbcaaaDoorStr
import Derived.Shelf.Strings.SlTrimAscii
set_option linter.unusedSimpArgs false
set_option linter.unusedVariables false
namespace Go.Proofs.YtkgdkfilhlbcaaaDoor
open Go.Sx Go.RowKit

def layTrim_ren : Go.Shelf.Ren := ⟨fun | 160 => 22 | 232 => 24 | 231 => 23 | 227 => 25 | 234 => 27 | 233 => 26 | 236 => 29 | 235 => 28 | 228 => 30 | 271 => 33 | 151 => 32 | 197 => 31 | 120 => 36 | 152 => 35 | 260 => 34 | 137 => 37 | 119 => 38 | 224 => 39 | 225 => 40 | 217 => 41 | 266 => 42 | n => n, fun | 9 => 9 | 4 => 4 | 3 => 3 | 5 => 5 | 117 => 47 | 116 => 46 | 0 => 0 | 124 => 50 | 21 => 21 | 105 => 52 | 46 => 57 | 119 => 56 | 139 => 60 | 138 => 59 | n => n, fun | 3 => 0 | 4 => 1 | n => n⟩
theorem layTrim : Go.Proofs.Lays.n160 Tryd.prog layTrim_ren := {
  mixed := by kernel_rfl
  f119 := Tryd.func38.trans (congrArg some (by kernel_rfl))
  f120 := Tryd.func36.trans (congrArg some (by kernel_rfl))
  f137 := Tryd.func37.trans (congrArg some (by kernel_rfl))
  f151 := Tryd.func32.trans (congrArg some (by kernel_rfl))
  f152 := Tryd.func35.trans (congrArg some (by kernel_rfl))
  f160 := Tryd.func22.trans (congrArg some (by kernel_rfl))
  f197 := Tryd.func31.trans (congrArg some (by kernel_rfl))
  f217 := Tryd.func41.trans (congrArg some (by kernel_rfl))
  f224 := Tryd.func39.trans (congrArg some (by kernel_rfl))
  f225 := Tryd.func40.trans (congrArg some (by kernel_rfl))
  f227 := Tryd.func25.trans (congrArg some (by kernel_rfl))
  f228 := Tryd.func30.trans (congrArg some (by kernel_rfl))
  f231 := Tryd.func23.trans (congrArg some (by kernel_rfl))
  f232 := Tryd.func24.trans (congrArg some (by kernel_rfl))
  f233 := Tryd.func26.trans (congrArg some (by kernel_rfl))
  f234 := Tryd.func27.trans (congrArg some (by kernel_rfl))
  f235 := Tryd.func28.trans (congrArg some (by kernel_rfl))
  f236 := Tryd.func29.trans (congrArg some (by kernel_rfl))
  f260 := Tryd.func34.trans (congrArg some (by kernel_rfl))
  f266 := Tryd.func42.trans (congrArg some (by kernel_rfl))
  f271 := Tryd.func33.trans (congrArg some (by kernel_rfl))
  t0 := Tryd.underlying0
  a0 := Tryd.isAgg0
  z0 := Tryd.sizeOf0
  v0 := Tryd.zeroValue0
  t3 := Tryd.underlying3
  a3 := Tryd.isAgg3
  z3 := Tryd.sizeOf3
  v3 := Tryd.zeroValue3
  t4 := Tryd.underlying4
  a4 := Tryd.isAgg4
  z4 := Tryd.sizeOf4
  v4 := Tryd.zeroValue4
  t5 := Tryd.underlying5
  a5 := Tryd.isAgg5
  z5 := Tryd.sizeOf5
  v5 := Tryd.zeroValue5
  t9 := Tryd.underlying9
  a9 := Tryd.isAgg9
  z9 := Tryd.sizeOf9
  v9 := Tryd.zeroValue9
  t21 := Tryd.underlying21
  a21 := Tryd.isAgg21
  z21 := Tryd.sizeOf21
  v21 := Tryd.zeroValue21
  t46 := Tryd.underlying57
  a46 := Tryd.isAgg57
  z46 := Tryd.sizeOf57
  v46 := Tryd.zeroValue57
  t105 := Tryd.underlying52
  a105 := Tryd.isAgg52
  z105 := Tryd.sizeOf52
  v105 := Tryd.zeroValue52
  t116 := Tryd.underlying46
  a116 := Tryd.isAgg46
  z116 := Tryd.sizeOf46
  t117 := Tryd.underlying47
  a117 := Tryd.isAgg47
  z117 := Tryd.sizeOf47
  v117 := Tryd.zeroValue47
  t119 := Tryd.underlying56
  a119 := Tryd.isAgg56
  z119 := Tryd.sizeOf56
  t124 := Tryd.underlying50
  a124 := Tryd.isAgg50
  z124 := Tryd.sizeOf50
  v124 := Tryd.zeroValue50
  t138 := Tryd.underlying59
  a138 := Tryd.isAgg59
  z138 := Tryd.sizeOf59
  v138 := Tryd.zeroValue59
  t139 := Tryd.underlying60
  a139 := Tryd.isAgg60
  z139 := Tryd.sizeOf60
  v139 := Tryd.zeroValue60
  g3 := by kernel_rfl
  g4 := by kernel_rfl }

def trimT (s cs : ByteArray) : ByteArray := bsl (Lib.trimS s.data.toList cs.data.toList)
def gTrim : Entry := fun args _ => match args with
  | [.a (.c (.str s)), .a (.c (.str cs))] => some (s.size ≤ 9223372036854775807 ∧ cs.size ≤ 100 ∧ (cs.data.toList.all (fun b => decide (b.toNat < 128))) = true, .a (.c (.str (trimT s cs))))
  | _ => none
theorem e_Trim : EntryOk Tryd.prog TT 22 gTrim := by
  refine ⟨fnOk Tryd.func22 (by kernel_rfl) rfl, ?_⟩
  intro args H p r he hp n0 w0 β w vals hG hH hA
  unfold gTrim at he
  split at he
  · rename_i s cs
    simp only [Option.some.injEq, Prod.mk.injEq] at he
    obtain ⟨rfl, rfl⟩ := he
    obtain ⟨v, rest, ev, hv, v2, r2, rfl, hv2, hr⟩ := hA
    have hv : v = .string s := hv
    have hv2 : v2 = .string cs := hv2
    have hr : r2 = [] := hr
    subst hv hv2 hr
    obtain rfl : vals = #[.string s, .string cs] := Array.toList_inj.1 ev
    refine (Any.strings_Trim_laid layTrim (by kernel_rfl) s cs w hp.1 (by have := hp.2.1; omega) (ascii_of_all hp.2.2)).mono ?_
    rintro e w' ⟨rfl, hb⟩
    exact ⟨_, rfl, hb, rfl⟩
  · simp at he

/-- Nothing is left if and only if each byte is in the set. -/
theorem dropW_nil {p : UInt8 → Bool} : ∀ {l : List UInt8}, l.dropWhile p = [] ↔ ∀ b ∈ l, p b = true
  | [] => by simp
  | a :: l => by
    rw [List.dropWhile_cons]
    by_cases h : p a = true
    · rw [if_pos h, dropW_nil]; simp [h]
    · rw [if_neg h]; simp [h]
theorem trim_nil {l cs : List UInt8} : Lib.trimS l cs = [] ↔ ∀ b ∈ l, cs.contains b = true := by
  unfold Lib.trimS Lib.trimLeftS Lib.trimRightS
  rw [dropW_nil]
  constructor
  · intro h
    by_cases hd : (l.reverse.dropWhile (cs.contains ·)) = []
    · intro b hb
      exact dropW_nil.1 hd b (List.mem_reverse.2 hb)
    · exfalso
      obtain ⟨x, r, hx⟩ := List.exists_cons_of_ne_nil hd
      have h1 := h x (by rw [List.mem_reverse, hx]; exact List.mem_cons_self)
      have h2 : ∀ {m : List UInt8} {y : UInt8} {q : List UInt8}, m.dropWhile (cs.contains ·) = y :: q → cs.contains y = false := by
        intro m
        induction m with
        | nil => intro y q e; simp at e
        | cons a m ih =>
          intro y q e
          rw [List.dropWhile_cons] at e
          split at e
          · exact ih e
          · rename_i hn
            simp only [List.cons.injEq] at e
            rw [← e.1]
            simpa using hn
      rw [h2 hx] at h1; cases h1
  · intro h b hb
    rw [List.mem_reverse] at hb
    exact h b (List.mem_reverse.1 ((List.dropWhile_sublist _).mem hb))

end Go.Proofs.YtkgdkfilhlbcaaaDoor
