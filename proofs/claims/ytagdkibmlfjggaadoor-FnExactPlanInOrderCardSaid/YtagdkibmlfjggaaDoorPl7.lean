/- A roster in which jobs have been given in an order: a contract. No conditions beyond the ranges of the kinds. -/
import Derived.Test.YtagdkibmlfjggaaDoorPl6
set_option linter.unusedSimpArgs false
set_option linter.unusedVariables false
namespace Go.Proofs.YtagdkibmlfjggaaDoor
open Go.Sx Go.RowKit

noncomputable def Er6 : List (FuncId × Entry) := (93, gWith) :: Er3
theorem Er6_ok : EntriesOk Tryd.prog TT Er6 := ⟨e_with, Er3_ok⟩
noncomputable abbrev Cr6 : Ctr := ctrOfM Er6 Mj4
theorem Cr6_ok : CtrOk Tryd.prog TT Cr6 := ctrOfM_ok Er6_ok Mj4_ok

/-- The set of the first of an order; the slots when they have been given to hands. -/
def ioT (o : List Int) : Nat → Nat
  | 0 => 0
  | i + 1 => ioT o i ||| 2 ^ (o.getD i 0).toNat
def roP (l o : List Int) (h : Nat) : Nat → List Int
  | 0 => List.replicate 24 0
  | i + 1 => wtP l (roP l o h i) (ioT o i) (o.getD i 0).toNat h
theorem ioT_bit {o : List Int} {n k : Nat} : ∀ i, (∀ j, j < i → 0 ≤ o.getD j 0 ∧ o.getD j 0 < (n : Int)) → (ioT o i).testBit k = true → k < n
  | 0, _, hk => by simp [ioT] at hk
  | i + 1, h, hk => by
    rw [ioT, or_bit, Bool.or_eq_true, decide_eq_true_eq] at hk
    rcases hk with hk | rfl
    · exact ioT_bit i (fun j hj => h j (by omega)) hk
    · have := h i (by omega); omega
theorem ioT_lt {o : List Int} {n : Nat} {i : Nat} (hn : n ≤ 12) (h : ∀ j, j < i → 0 ≤ o.getD j 0 ∧ o.getD j 0 < (n : Int)) : ioT o i < 65536 := by
  have : ioT o i < 2 ^ n := by
    apply Nat.lt_pow_two_of_testBit
    intro k hk
    rw [Bool.eq_false_iff]
    intro hb
    have := ioT_bit i h hb
    omega
  have := pow_lt16 (k := n) (by omega)
  omega
theorem wtP_len {l p : List Int} {g j h : Nat} : (wtP l p g j h).length = p.length := by simp [wtP]
theorem roP_len {l o : List Int} {h : Nat} : ∀ i, (roP l o h i).length = 24
  | 0 => by simp [roP]
  | i + 1 => by rw [roP, wtP_len, roP_len i]
theorem roP_sw {l o : List Int} {h n : Nat} (hn : n ≤ 12) (hh : h ≤ 12) : ∀ i, (∀ j, j < i → 0 ≤ o.getD j 0 ∧ o.getD j 0 < (n : Int)) → SW 12 (roP l o h i)
  | 0, _ => by
    have z : ∀ k, (List.replicate 24 (0 : Int)).getD k 0 = 0 := fun k => by
      rw [List.getD_eq_getElem?_getD, List.getElem?_replicate]
      split <;> rfl
    constructor
    · intro k _; unfold hd roP; rw [z]; omega
    · intro k _; unfold sg roP; rw [z]; omega
  | i + 1, ho => by
    have := ho i (by omega)
    exact wtP_sw (roP_sw hn hh i fun j hj => ho j (by omega)) (roP_len i) (by omega) hh
def lmIo (n : Nat) (cap : Int) (l o : List Int) (h no : Nat) : LAnn := { ι := Nat, inv := fun _ i => i ≤ no, slots := fun _ i => [(12, .a (.c (.int .i64 i)))], blks := fun _ i => [(4, [.slc 0 0 0 2 n cap, .int .i64 h, .int .u16 (ioT o i), .run [.i8, .i16] 24 (roP l o h i)])], μ := fun _ i => no - i }
theorem x_inOrder (m n N no : Nat) (l o : List Int) (cap cap2 : Int) (h : Nat) (q : Jl n m l) (v : VJ n l) (hh : h ≤ 12) (hN : no ≤ N) (hl : o.length = N) (hm : no ≤ 1048576) (ho : ∀ j, j < no → 0 ≤ o.getD j 0 ∧ o.getD j 0 < (n : Int)) : Fex true TT (inlN true TT Cr6 (lookI ILz) 6) Cr6 (fun _ => .inv (lmIo n cap l o h no)) Tryd.f59 [.a (.agg [.slc 0 0 0 2 n cap, .int .i64 h]), .a (.c (.slc 1 0 0 1 no cap2))] [Tks m l, .cells false 2 [.run [.i64] N o]] (fun lv _ => leL lv (rosV n cap h (ioT o no) (roP l o h no))) := by
  refine Go.Sx.by_eq (q := True ∧ True ∧ True ∧ True ∧ True ∧ True ∧ True ∧ True ∧ True ∧ (∃ (x : Nat), x ≤ no ∧ ((Go.Sx.Cel.slc (0 : Nat) (0 : Nat) (0 : Int) (2 : Nat) (↑n : Int) cap = Go.Sx.Cel.slc (0 : Nat) (0 : Nat) (0 : Int) (2 : Nat) (↑n : Int) cap ∧ (Go.IntKind.i64 = Go.IntKind.i64 ∧ (↑h : Int) = (↑h : Int)) ∧ True) ∧ Go.Sx.Cel.slc (1 : Nat) (0 : Nat) (0 : Int) (1 : Nat) (↑no : Int) cap2 = Go.Sx.Cel.slc (1 : Nat) (0 : Nat) (0 : Int) (1 : Nat) (↑no : Int) cap2 ∧ Go.Sx.Cel.ptr (2 : Nat) (0 : Nat) = Go.Sx.Cel.ptr (2 : Nat) (0 : Nat) ∧ Go.Sx.Cel.val Go.undef = Go.Sx.Cel.val Go.undef ∧ Go.Sx.Cel.ptr (3 : Nat) (0 : Nat) = Go.Sx.Cel.ptr (3 : Nat) (0 : Nat) ∧ Go.Sx.Cel.ptr (4 : Nat) (0 : Nat) = Go.Sx.Cel.ptr (4 : Nat) (0 : Nat) ∧ Go.Sx.Cel.val Go.undef = Go.Sx.Cel.val Go.undef ∧ True ∧ (Go.Sx.Cel.slc (0 : Nat) (0 : Nat) (0 : Int) (2 : Nat) (↑n : Int) cap = Go.Sx.Cel.slc (0 : Nat) (0 : Nat) (0 : Int) (2 : Nat) (↑n : Int) cap ∧ (Go.IntKind.i64 = Go.IntKind.i64 ∧ (↑h : Int) = (↑h : Int)) ∧ True) ∧ (Go.Sx.Cel.slc (0 : Nat) (0 : Nat) (0 : Int) (2 : Nat) (↑n : Int) cap = Go.Sx.Cel.slc (0 : Nat) (0 : Nat) (0 : Int) (2 : Nat) (↑n : Int) cap ∧ (Go.IntKind.i64 = Go.IntKind.i64 ∧ (↑h : Int) = (↑h : Int)) ∧ (Go.IntKind.u16 = Go.IntKind.u16 ∧ (0 : Int) = (0 : Int)) ∧ ([Go.Sx.EK.i8, Go.Sx.EK.i16] = [Go.Sx.EK.i8, Go.Sx.EK.i16] ∧ (24 : Nat) = (24 : Nat) ∧ List.replicate (24 : Nat) (0 : Int) = List.replicate (24 : Nat) (0 : Int)) ∧ True) ∧ Go.Sx.Cel.slc (1 : Nat) (0 : Nat) (0 : Int) (1 : Nat) (↑no : Int) cap2 = Go.Sx.Cel.slc (1 : Nat) (0 : Nat) (0 : Int) (1 : Nat) (↑no : Int) cap2 ∧ (Go.IntKind.i64 = Go.IntKind.i64 ∧ (↑no : Int) = (↑no : Int)) ∧ (Go.IntKind.i64 = Go.IntKind.i64 ∧ (0 : Int) = (↑x : Int)) ∧ True ∧ True ∧ True ∧ True ∧ True ∧ True ∧ True ∧ Go.Sx.Cel.val Go.undef = Go.Sx.Cel.val Go.undef ∧ True) ∧ (Bool.false = Bool.false ∧ (80 : Nat) = (80 : Nat) ∧ ([Go.Sx.EK.i64, Go.Sx.EK.u16] = [Go.Sx.EK.i64, Go.Sx.EK.u16] ∧ m = m ∧ l = l) ∧ True) ∧ (Bool.false = Bool.false ∧ (2 : Nat) = (2 : Nat) ∧ ([Go.Sx.EK.i64] = [Go.Sx.EK.i64] ∧ N = N ∧ o = o) ∧ True) ∧ (Bool.true = Bool.true ∧ (86 : Nat) = (86 : Nat) ∧ Go.Sx.Cel.slc (0 : Nat) (0 : Nat) (0 : Int) (2 : Nat) (↑n : Int) cap = Go.Sx.Cel.slc (0 : Nat) (0 : Nat) (0 : Int) (2 : Nat) (↑n : Int) cap ∧ (Go.IntKind.i64 = Go.IntKind.i64 ∧ (↑h : Int) = (↑h : Int)) ∧ True) ∧ (Bool.true = Bool.true ∧ (92 : Nat) = (92 : Nat) ∧ Go.Sx.Cel.val (Go.Value.slice Option.none (0 : Nat) (0 : Nat)) = Go.Sx.Cel.val (Go.Value.slice Option.none (0 : Nat) (0 : Nat)) ∧ (Go.IntKind.i64 = Go.IntKind.i64 ∧ (0 : Int) = (0 : Int)) ∧ (Go.IntKind.u16 = Go.IntKind.u16 ∧ (0 : Int) = (0 : Int)) ∧ ([Go.Sx.EK.i8, Go.Sx.EK.i16] = [Go.Sx.EK.i8, Go.Sx.EK.i16] ∧ (24 : Nat) = (24 : Nat) ∧ List.replicate (24 : Nat) (0 : Int) = List.replicate (24 : Nat) (0 : Int)) ∧ True) ∧ (Bool.true = Bool.true ∧ (92 : Nat) = (92 : Nat) ∧ Go.Sx.Cel.slc (0 : Nat) (0 : Nat) (0 : Int) (2 : Nat) (↑n : Int) cap = Go.Sx.Cel.slc (0 : Nat) (0 : Nat) (0 : Int) (2 : Nat) (↑n : Int) cap ∧ (Go.IntKind.i64 = Go.IntKind.i64 ∧ (↑h : Int) = (↑h : Int)) ∧ (Go.IntKind.u16 = Go.IntKind.u16 ∧ (0 : Int) = (↑(ioT o x) : Int)) ∧ ([Go.Sx.EK.i8, Go.Sx.EK.i16] = [Go.Sx.EK.i8, Go.Sx.EK.i16] ∧ (24 : Nat) = (24 : Nat) ∧ List.replicate (24 : Nat) (0 : Int) = roP l o h x) ∧ True) ∧ True) ∧ ∀ (x : Nat), x ≤ no → True ∧ (Decidable.decide ((↑x : Int) < (↑no : Int)) = Bool.true → ((0 : Int) ≤ (↑x : Int) ∧ (↑x : Int) < (↑no : Int)) ∧ ((0 : Int) ≤ (0 : Int) + (↑x : Int) ∧ Int.toNat ((0 : Int) + (↑x : Int)) < N) ∧ True ∧ True ∧ True ∧ (Rq (0 : Nat) (0 : Int) (2 : Nat) [Go.Sx.EK.i8, Go.Sx.EK.i16] (24 : Nat) (80 : Nat) [Go.Sx.EK.i64, Go.Sx.EK.u16] (↑n : Int) m l (roP l o h x) (↑(ioT o x) : Int) ∧ List.length (roP l o h x) = (24 : Nat) ∧ ((0 : Int) ≤ List.getD o (Int.toNat ((0 : Int) + (↑x : Int))) (0 : Int) ∧ List.getD o (Int.toNat ((0 : Int) + (↑x : Int))) (0 : Int) < (↑n : Int)) ∧ ((0 : Int) ≤ (↑h : Int) ∧ (↑h : Int) ≤ (12 : Int)) ∧ ∀ (k : Nat), Nat.testBit (Int.toNat (↑(ioT o x) : Int)) k = Bool.true → k < Int.toNat (↑n : Int)) ∧ True ∧ ((-9223372036854775808 : Int) ≤ (↑x : Int) + (1 : Int) ∧ (↑x : Int) + (1 : Int) ≤ (9223372036854775807 : Int)) ∧ True ∧ ∃ (y : Nat), y ≤ no ∧ no - y < no - x ∧ ((Go.Sx.Cel.slc (0 : Nat) (0 : Nat) (0 : Int) (2 : Nat) (↑n : Int) cap = Go.Sx.Cel.slc (0 : Nat) (0 : Nat) (0 : Int) (2 : Nat) (↑n : Int) cap ∧ (Go.IntKind.i64 = Go.IntKind.i64 ∧ (↑h : Int) = (↑h : Int)) ∧ True) ∧ Go.Sx.Cel.slc (1 : Nat) (0 : Nat) (0 : Int) (1 : Nat) (↑no : Int) cap2 = Go.Sx.Cel.slc (1 : Nat) (0 : Nat) (0 : Int) (1 : Nat) (↑no : Int) cap2 ∧ Go.Sx.Cel.ptr (2 : Nat) (0 : Nat) = Go.Sx.Cel.ptr (2 : Nat) (0 : Nat) ∧ Go.Sx.Cel.val Go.undef = Go.Sx.Cel.val Go.undef ∧ Go.Sx.Cel.ptr (3 : Nat) (0 : Nat) = Go.Sx.Cel.ptr (3 : Nat) (0 : Nat) ∧ Go.Sx.Cel.ptr (4 : Nat) (0 : Nat) = Go.Sx.Cel.ptr (4 : Nat) (0 : Nat) ∧ Go.Sx.Cel.val Go.undef = Go.Sx.Cel.val Go.undef ∧ True ∧ (Go.Sx.Cel.slc (0 : Nat) (0 : Nat) (0 : Int) (2 : Nat) (↑n : Int) cap = Go.Sx.Cel.slc (0 : Nat) (0 : Nat) (0 : Int) (2 : Nat) (↑n : Int) cap ∧ (Go.IntKind.i64 = Go.IntKind.i64 ∧ (↑h : Int) = (↑h : Int)) ∧ True) ∧ (Go.Sx.Cel.slc (0 : Nat) (0 : Nat) (0 : Int) (2 : Nat) (↑n : Int) cap = Go.Sx.Cel.slc (0 : Nat) (0 : Nat) (0 : Int) (2 : Nat) (↑n : Int) cap ∧ (Go.IntKind.i64 = Go.IntKind.i64 ∧ (↑h : Int) = (↑h : Int)) ∧ (Go.IntKind.u16 = Go.IntKind.u16 ∧ (0 : Int) = (0 : Int)) ∧ ([Go.Sx.EK.i8, Go.Sx.EK.i16] = [Go.Sx.EK.i8, Go.Sx.EK.i16] ∧ (24 : Nat) = (24 : Nat) ∧ List.replicate (24 : Nat) (0 : Int) = List.replicate (24 : Nat) (0 : Int)) ∧ True) ∧ Go.Sx.Cel.slc (1 : Nat) (0 : Nat) (0 : Int) (1 : Nat) (↑no : Int) cap2 = Go.Sx.Cel.slc (1 : Nat) (0 : Nat) (0 : Int) (1 : Nat) (↑no : Int) cap2 ∧ (Go.IntKind.i64 = Go.IntKind.i64 ∧ (↑no : Int) = (↑no : Int)) ∧ (Go.IntKind.i64 = Go.IntKind.i64 ∧ (↑x : Int) + (1 : Int) = (↑y : Int)) ∧ True ∧ True ∧ True ∧ True ∧ True ∧ True ∧ True ∧ Go.Sx.Cel.val Go.undef = Go.Sx.Cel.val Go.undef ∧ True) ∧ (Bool.false = Bool.false ∧ (80 : Nat) = (80 : Nat) ∧ ([Go.Sx.EK.i64, Go.Sx.EK.u16] = [Go.Sx.EK.i64, Go.Sx.EK.u16] ∧ m = m ∧ l = l) ∧ True) ∧ (Bool.false = Bool.false ∧ (2 : Nat) = (2 : Nat) ∧ ([Go.Sx.EK.i64] = [Go.Sx.EK.i64] ∧ N = N ∧ o = o) ∧ True) ∧ (Bool.true = Bool.true ∧ (86 : Nat) = (86 : Nat) ∧ Go.Sx.Cel.slc (0 : Nat) (0 : Nat) (0 : Int) (2 : Nat) (↑n : Int) cap = Go.Sx.Cel.slc (0 : Nat) (0 : Nat) (0 : Int) (2 : Nat) (↑n : Int) cap ∧ (Go.IntKind.i64 = Go.IntKind.i64 ∧ (↑h : Int) = (↑h : Int)) ∧ True) ∧ (Bool.true = Bool.true ∧ (92 : Nat) = (92 : Nat) ∧ Go.Sx.Cel.val (Go.Value.slice Option.none (0 : Nat) (0 : Nat)) = Go.Sx.Cel.val (Go.Value.slice Option.none (0 : Nat) (0 : Nat)) ∧ (Go.IntKind.i64 = Go.IntKind.i64 ∧ (0 : Int) = (0 : Int)) ∧ (Go.IntKind.u16 = Go.IntKind.u16 ∧ (0 : Int) = (0 : Int)) ∧ ([Go.Sx.EK.i8, Go.Sx.EK.i16] = [Go.Sx.EK.i8, Go.Sx.EK.i16] ∧ (24 : Nat) = (24 : Nat) ∧ List.replicate (24 : Nat) (0 : Int) = List.replicate (24 : Nat) (0 : Int)) ∧ True) ∧ (Bool.true = Bool.true ∧ (92 : Nat) = (92 : Nat) ∧ Go.Sx.Cel.slc (0 : Nat) (0 : Nat) (0 : Int) (2 : Nat) (↑n : Int) cap = Go.Sx.Cel.slc (0 : Nat) (0 : Nat) (0 : Int) (2 : Nat) (↑n : Int) cap ∧ (Go.IntKind.i64 = Go.IntKind.i64 ∧ (↑h : Int) = (↑h : Int)) ∧ (Go.IntKind.u16 = Go.IntKind.u16 ∧ (↑(Int.toNat (↑(ioT o x) : Int) ||| (2 : Nat) ^ Int.toNat (List.getD o (Int.toNat ((0 : Int) + (↑x : Int))) (0 : Int))) : Int) = (↑(ioT o y) : Int)) ∧ ([Go.Sx.EK.i8, Go.Sx.EK.i16] = [Go.Sx.EK.i8, Go.Sx.EK.i16] ∧ (24 : Nat) = (24 : Nat) ∧ wtP l (roP l o h x) (Int.toNat (↑(ioT o x) : Int)) (Int.toNat (List.getD o (Int.toNat ((0 : Int) + (↑x : Int))) (0 : Int))) (Int.toNat (↑h : Int)) = roP l o h y) ∧ True) ∧ True) ∧ (Decidable.decide ((↑x : Int) < (↑no : Int)) = Bool.false → True ∧ True ∧ Go.Sx.Cel.slc (0 : Nat) (0 : Nat) (0 : Int) (2 : Nat) (↑n : Int) cap = Go.Sx.Cel.slc (0 : Nat) (0 : Nat) (0 : Int) (2 : Nat) (↑n : Int) cap ∧ (Go.IntKind.i64 = Go.IntKind.i64 ∧ (↑h : Int) = (↑h : Int)) ∧ (Go.IntKind.u16 = Go.IntKind.u16 ∧ (↑(ioT o x) : Int) = (↑(ioT o no) : Int)) ∧ ([Go.Sx.EK.i8, Go.Sx.EK.i16] = [Go.Sx.EK.i8, Go.Sx.EK.i16] ∧ (24 : Nat) = (24 : Nat) ∧ roP l o h x = roP l o h no) ∧ True)) (by kernel_rfl) ?_
  have hv := v.hi
  simp only [true_and, and_true, and_self, decide_eq_true_eq, decide_eq_false_iff_not, Bool.not_eq_true', Bool.not_eq_false', Bool.not_true, Bool.not_false, beq_iff_eq, beq_eq_false_iff_ne, bne_iff_ne, bne_eq_false_iff_eq, ne_eq, not_true_eq_false, not_false_eq_true, false_implies, true_implies, implies_true, forall_const, exists_const, ↓reduceIte, Int.reduceEq, Int.toNat_natCast, Bool.false_eq_true, Bool.true_eq_false, reduceCtorEq, Int.zero_add, Nat.add_zero, Int.ofNat_eq_natCast, Int.toNat_natCast]
  refine ⟨⟨0, by omega, rfl, rfl, rfl⟩, ?_⟩
  intro i hi
  refine ⟨fun hlt => ?_, fun hge => ?_⟩
  · have hb := ho i (by omega)
    have hs : ∀ j, j < i → 0 ≤ o.getD j 0 ∧ o.getD j 0 < (n : Int) := fun j hj => ho j (by omega)
    have rq : Rq 0 0 2 [.i8, .i16] 24 80 [.i64, .u16] n m l (roP l o h i) (ioT o i) := ⟨⟨rfl, rfl, rfl, rfl, rfl, rfl, rfl⟩, q, v, roP_sw hv hh i hs, by omega⟩
    exact ⟨by omega, by omega, ⟨rq, roP_len i, hb, by omega, fun k hk => ioT_bit i hs hk⟩, by omega, i + 1, by omega, by omega, by omega, rfl, rfl⟩
  · have hin : i = no := by omega
    rw [hin]
    exact ⟨rfl, rfl⟩
def gIo : Entry := fun args H => match args with
  | [.a (.agg [.slc id b z s len cap, .int .i64 h]), .a (.c (.slc id2 b2 z2 s2 len2 _))] => match getB H id, getB H id2 with
    | .cells _ t [.run ks m l], .cells _ t2 [.run ks2 N o] => some (((t = 80 ∧ b = 0 ∧ z = 0 ∧ s = 2 ∧ ks = [.i64, .u16]) ∧ (t2 = 2 ∧ b2 = 0 ∧ z2 = 0 ∧ s2 = 1 ∧ ks2 = [.i64])) ∧ Jl len m l ∧ VJ len.toNat l ∧ (0 ≤ h ∧ h ≤ 12) ∧ (0 ≤ len2 ∧ len2 ≤ 1048576) ∧ len2.toNat ≤ N ∧ o.length = N ∧ ∀ j, j < len2.toNat → 0 ≤ o.getD j 0 ∧ o.getD j 0 < len,
        .a (.agg [.slc id 0 0 2 len cap, .int .i64 h, .int .u16 (ioT o len2.toNat : Nat), .run [.i8, .i16] 24 (roP l o h.toNat len2.toNat)]))
    | _, _ => none
  | _ => none
theorem e_inOrder : EntryOk Tryd.prog TT 59 gIo := by
  refine ⟨fnOk Tryd.func59 (by kernel_rfl) rfl, ?_⟩
  intro args H pp r he hp n0 w0 β w vals hG hH hA
  unfold gIo at he
  split at he
  · split at he
    · rename_i id b z s len cap h id2 b2 z2 s2 len2 cap2 _ _ oo t ks m l oo2 t2 ks2 N o hg hg2
      simp only [Option.some.injEq, Prod.mk.injEq] at he
      obtain ⟨rfl, rfl⟩ := he
      obtain ⟨⟨⟨rfl, rfl, rfl, rfl, rfl⟩, rfl, rfl, rfl, rfl, rfl⟩, q, v, ⟨h0, h1⟩, ⟨n0', n1⟩, hN, hl, ho⟩ := hp
      obtain ⟨n, rfl⟩ := Int.eq_ofNat_of_zero_le q.lo
      obtain ⟨h, rfl⟩ := Int.eq_ofNat_of_zero_le h0
      obtain ⟨no, rfl⟩ := Int.eq_ofNat_of_zero_le n0'
      have hlt : ∀ i ∈ [id, id2], i < H.length := fun i hi => by
        rcases List.mem_cons.1 hi with rfl | hi
        · exact getB_lt6 hg
        · obtain rfl := List.mem_singleton.1 hi
          exact getB_lt6 hg2
      exact entry_viewB tt_ok (inlN_ok tt_ok Cr6_ok mixed ILz_ok.ok 6) Cr6_ok mixed Tryd.func59 [id, id2] (x_inOrder m n N no l o cap cap2 h q v (by omega) (by simpa using hN) hl (by omega) (by simpa using ho)) (fun _ _ hr => hr) rfl rfl ⟨.inr (by rw [hg]; rfl), .inr (by rw [hg2]; rfl), trivial⟩ hlt hG hH hA
    · simp at he
  · simp at he
end Go.Proofs.YtagdkibmlfjggaaDoor
