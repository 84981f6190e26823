/- Is an order one, and the slots of a roster: contracts. No conditions beyond the ranges of the kinds. -/
import Derived.Test.YtagdkibmlfjggaaDoorIo1
import Derived.Test.YtagdkibmlfjggaaDoorCrw
import Derived.Test.YtagdkibmlfjggaaDoorGqs
set_option linter.unusedSimpArgs false
set_option linter.unusedVariables false
namespace Go.Proofs.YtagdkibmlfjggaaDoor
open Go.Sx Go.RowKit

/-! ### May any job be taken next? -/
def naB (l : List Int) (n : Nat) (T : Nat) (j : Int) : Bool := decide (0 ≤ j) && decide (j < n) && nxB l T j.toNat
theorem x_isNextA (m n : Nat) (l : List Int) (cap j : Int) (T : Nat) (q : Jl n m l) (hT : T < 65536) : Fex true TT (inlN true TT Cs1 (lookI ILz) 4) Cs1 U0 Tryd.f99 [.a (.c (.slc 0 0 0 2 n cap)), .a (.c (.int .i64 j)), .a (.c (.int .u16 T))] [.cells false 80 [.run [.i64, .u16] m l]] (fun lv _ => leL lv (.a (.c (.bool (naB l n T j))))) := by
  refine Go.Sx.by_eq (q := True ∧ True ∧ True ∧ True ∧ True ∧ ((Decidable.decide ((0 : Int) ≤ j) && Decidable.decide (j < (↑n : Int))) = Bool.true → True ∧ True ∧ (((0 : Int) ≤ (↑T : Int) ∧ (↑T : Int) ≤ (65535 : Int)) ∧ (0 : Int) ≤ j ∧ j < (16 : Int)) ∧ True ∧ True ∧ True ∧ ((!Nat.testBit (Int.toNat (↑T : Int)) (Int.toNat j)) = Bool.true → True ∧ True ∧ ((0 : Int) ≤ j ∧ j < (↑n : Int)) ∧ True ∧ ((0 : Int) ≤ (0 : Int) + j ∧ Int.toNat ((0 : Int) + j) * (2 : Nat) + (1 : Nat) < m) ∧ True ∧ True ∧ True ∧ True ∧ True ∧ (Go.Sx.bNot Go.IntKind.u16 (List.getD l (Int.toNat ((0 : Int) + j) * (2 : Nat) + (1 : Nat)) (0 : Int)) (↑T : Int) == (0 : Int)) = naB l n T j) ∧ ((!Nat.testBit (Int.toNat (↑T : Int)) (Int.toNat j)) = !Bool.true → True ∧ True ∧ naB l n T j = Bool.false)) ∧ ((Decidable.decide ((0 : Int) ≤ j) && Decidable.decide (j < (↑n : Int))) = !Bool.true → True ∧ True ∧ True ∧ True ∧ naB l n T j = Bool.false)) (by kernel_rfl) ?_
  obtain ⟨_, q1, q2, q3, jw⟩ := q
  simp only [true_and, and_true, and_self, decide_eq_true_eq, decide_eq_false_iff_not, Bool.not_eq_true', Bool.not_eq_false', Bool.not_true, Bool.not_false, beq_iff_eq, beq_eq_false_iff_ne, bne_iff_ne, bne_eq_false_iff_eq, ne_eq, not_true_eq_false, not_false_eq_true, false_implies, true_implies, implies_true, forall_const, exists_const, ↓reduceIte, Int.reduceEq, Int.toNat_natCast, Bool.false_eq_true, Bool.true_eq_false, reduceCtorEq, Int.zero_add, Nat.add_zero, Int.ofNat_eq_natCast, Int.toNat_natCast, Bool.and_eq_true]
  rw [Int.toNat_natCast] at jw q2
  refine ⟨fun hlt => ?_, fun hf => ?_⟩
  · obtain ⟨k, rfl⟩ := Int.eq_ofNat_of_zero_le hlt.1
    simp only [Int.ofNat_eq_natCast, Int.toNat_natCast] at *
    refine ⟨by omega, fun hT0 => ⟨by omega, by omega, ?_⟩, fun hT1 => ?_⟩
    · obtain ⟨e1, e2⟩ := jw.af (k := k) (by omega)
      rw [e1, naB, Int.toNat_natCast, decide_eq_true hlt.1, decide_eq_true hlt.2, Bool.true_and, Bool.true_and, nxB, hT0, Bool.eq_iff_iff, beq_iff_eq]
      simp only [Bool.not_false, Bool.true_and, decide_eq_true_eq]
      exact bNot16 e2 hT
    · simp [naB, nxB, hT1]
  · rw [naB, hf, Bool.false_and]
def gNa : Entry := fun args H => match args with
  | [.a (.c (.slc id b z s len _)), .a (.c (.int .i64 j)), .a (.c (.int .u16 T))] => match getB H id with
    | .cells _ t [.run ks m l] => some ((t = 80 ∧ b = 0 ∧ z = 0 ∧ s = 2 ∧ ks = [.i64, .u16]) ∧ Jl len m l ∧ (0 ≤ T ∧ T ≤ 65535), .a (.c (.bool (naB l len.toNat T.toNat j))))
    | _ => none
  | _ => none
theorem gNa_inv {args : List LV} {H : List Blk} {p : Prop} {r : LV} (he : gNa args H = some (p, r)) (hp : p) : ∃ (id m n : Nat) (o : Bool) (l : List Int) (cap j : Int) (T : Nat),
    args = [.a (.c (.slc id 0 0 2 n cap)), .a (.c (.int .i64 j)), .a (.c (.int .u16 T))] ∧ getB H id = .cells o 80 [.run [.i64, .u16] m l] ∧ r = .a (.c (.bool (naB l n T j))) ∧ Jl n m l ∧ T < 65536 := by
  unfold gNa at he
  split at he
  · split at he
    · rename_i id b z s len cap j T _ o t ks m l hg
      simp only [Option.some.injEq, Prod.mk.injEq] at he
      obtain ⟨rfl, rfl⟩ := he
      obtain ⟨⟨rfl, rfl, rfl, rfl, rfl⟩, h1, h2⟩ := hp
      obtain ⟨n, rfl⟩ := Int.eq_ofNat_of_zero_le h1.lo
      obtain ⟨T, rfl⟩ := Int.eq_ofNat_of_zero_le h2.1
      exact ⟨id, m, n, o, l, cap, j, T, rfl, hg, rfl, h1, by have := h2.2; omega⟩
    · simp at he
  · simp at he
theorem e_isNextA : EntryOk Tryd.prog TT 99 gNa := by
  refine ⟨fnOk Tryd.func99 (by kernel_rfl) rfl, ?_⟩
  intro args H p r he hp n0 w0 β w vals hG hH hA
  obtain ⟨id, m, n, o, l, cap, j, T, rfl, hg, rfl, h1, h2⟩ := gNa_inv he hp
  exact entry_view tt_ok (inlN_ok tt_ok Cs1_ok mixed (ILz_ok).ok 4) Cs1_ok mixed Tryd.func99 [id] (x_isNextA m n l cap j T h1 h2) rfl rfl ⟨.inr (by rw [hg]; rfl), trivial⟩ hG hH hA

noncomputable def Eo1 : List (FuncId × Entry) := (99, gNa) :: Es1
theorem Eo1_ok : EntriesOk Tryd.prog TT Eo1 := ⟨e_isNextA, Es1_ok⟩
noncomputable abbrev Co1 : Ctr := ctrOf Eo1
theorem Co1_ok : CtrOk Tryd.prog TT Co1 := ctrOf_ok Eo1_ok

/-! ### Is an order one? -/
theorem naB_t {l : List Int} {n T : Nat} {j : Int} : naB l n T j = true ↔ (0 ≤ j ∧ j < (n : Int)) ∧ nxB l T j.toNat = true := by
  simp only [naB, Bool.and_eq_true, decide_eq_true_eq]
def lmIs (l : List Int) (n : Nat) (o : List Int) (no : Nat) : LAnn := { ι := Nat, inv := fun _ i => i ≤ no ∧ oiB l n o i = true, slots := fun _ i => [(5, .a (.c (.int .u16 (ioT o i)))), (10, .a (.c (.int .i64 i)))], blks := fun _ _ => [], μ := fun _ i => no - i }
theorem x_isOrder (m n N no : Nat) (l o : List Int) (cap cap2 : Int) (q : Jl n m l) (hN : no ≤ N) (hl : o.length = N) (hm : no ≤ 1048576) : Fex true TT (inlN true TT Co1 (lookI ILz) 6) Co1 (fun _ => .inv (lmIs l n o no)) Tryd.f72 [.a (.c (.slc 0 0 0 2 n cap)), .a (.c (.slc 1 0 0 1 no cap2))] [.cells false 80 [.run [.i64, .u16] m l], .cells false 2 [.run [.i64] N o]] (fun lv _ => leL lv (.a (.c (.bool (ioB l n o no))))) := by
  refine Go.Sx.by_eq (q := True ∧ True ∧ True ∧ True ∧ True ∧ (∃ (x : Nat), (x ≤ no ∧ oiB l n o x = Bool.true) ∧ (Go.Sx.Cel.slc (0 : Nat) (0 : Nat) (0 : Int) (2 : Nat) (↑n : Int) cap = Go.Sx.Cel.slc (0 : Nat) (0 : Nat) (0 : Int) (2 : Nat) (↑n : Int) cap ∧ Go.Sx.Cel.slc (1 : Nat) (0 : Nat) (0 : Int) (1 : Nat) (↑no : Int) cap2 = Go.Sx.Cel.slc (1 : Nat) (0 : Nat) (0 : Int) (1 : Nat) (↑no : Int) cap2 ∧ Go.Sx.Cel.val Go.undef = Go.Sx.Cel.val Go.undef ∧ Go.Sx.Cel.val Go.undef = Go.Sx.Cel.val Go.undef ∧ True ∧ (Go.IntKind.u16 = Go.IntKind.u16 ∧ (0 : Int) = (↑(ioT o x) : Int)) ∧ Go.Sx.Cel.val Go.undef = Go.Sx.Cel.val Go.undef ∧ True ∧ Go.Sx.Cel.slc (1 : Nat) (0 : Nat) (0 : Int) (1 : Nat) (↑no : Int) cap2 = Go.Sx.Cel.slc (1 : Nat) (0 : Nat) (0 : Int) (1 : Nat) (↑no : Int) cap2 ∧ (Go.IntKind.i64 = Go.IntKind.i64 ∧ (↑no : Int) = (↑no : Int)) ∧ (Go.IntKind.i64 = Go.IntKind.i64 ∧ (0 : Int) = (↑x : Int)) ∧ True ∧ True ∧ True ∧ True ∧ True ∧ True ∧ True ∧ True ∧ True ∧ True ∧ True ∧ True ∧ True ∧ Go.Sx.Cel.val Go.undef = Go.Sx.Cel.val Go.undef ∧ Go.Sx.Cel.val Go.undef = Go.Sx.Cel.val Go.undef ∧ Go.Sx.Cel.val Go.undef = Go.Sx.Cel.val Go.undef ∧ Go.Sx.Cel.val Go.undef = Go.Sx.Cel.val Go.undef ∧ True) ∧ (Bool.false = Bool.false ∧ (80 : Nat) = (80 : Nat) ∧ ([Go.Sx.EK.i64, Go.Sx.EK.u16] = [Go.Sx.EK.i64, Go.Sx.EK.u16] ∧ m = m ∧ l = l) ∧ True) ∧ (Bool.false = Bool.false ∧ (2 : Nat) = (2 : Nat) ∧ ([Go.Sx.EK.i64] = [Go.Sx.EK.i64] ∧ N = N ∧ o = o) ∧ True) ∧ True) ∧ ∀ (x : Nat), x ≤ no ∧ oiB l n o x = Bool.true → True ∧ (Decidable.decide ((↑x : Int) < (↑no : Int)) = Bool.true → ((0 : Int) ≤ (↑x : Int) ∧ (↑x : Int) < (↑no : Int)) ∧ ((0 : Int) ≤ (0 : Int) + (↑x : Int) ∧ Int.toNat ((0 : Int) + (↑x : Int)) < N) ∧ True ∧ True ∧ True ∧ True ∧ (((80 : Nat) = (80 : Nat) ∧ (0 : Nat) = (0 : Nat) ∧ (0 : Int) = (0 : Int) ∧ (2 : Nat) = (2 : Nat) ∧ [Go.Sx.EK.i64, Go.Sx.EK.u16] = [Go.Sx.EK.i64, Go.Sx.EK.u16]) ∧ Jl (↑n : Int) m l ∧ (0 : Int) ≤ (↑(ioT o x) : Int) ∧ (↑(ioT o x) : Int) ≤ (65535 : Int)) ∧ True ∧ ((!naB l (Int.toNat (↑n : Int)) (Int.toNat (↑(ioT o x) : Int)) (List.getD o (Int.toNat ((0 : Int) + (↑x : Int))) (0 : Int))) = Bool.true → True ∧ ioB l n o no = Bool.false) ∧ ((!naB l (Int.toNat (↑n : Int)) (Int.toNat (↑(ioT o x) : Int)) (List.getD o (Int.toNat ((0 : Int) + (↑x : Int))) (0 : Int))) = Bool.false → True ∧ True ∧ ((0 : Int) ≤ List.getD o (Int.toNat ((0 : Int) + (↑x : Int))) (0 : Int) ∧ List.getD o (Int.toNat ((0 : Int) + (↑x : Int))) (0 : Int) < (16 : Int)) ∧ True ∧ True ∧ ((-9223372036854775808 : Int) ≤ (↑x : Int) + (1 : Int) ∧ (↑x : Int) + (1 : Int) ≤ (9223372036854775807 : Int)) ∧ True ∧ ∃ (y : Nat), (y ≤ no ∧ oiB l n o y = Bool.true) ∧ no - y < no - x ∧ (Go.Sx.Cel.slc (0 : Nat) (0 : Nat) (0 : Int) (2 : Nat) (↑n : Int) cap = Go.Sx.Cel.slc (0 : Nat) (0 : Nat) (0 : Int) (2 : Nat) (↑n : Int) cap ∧ Go.Sx.Cel.slc (1 : Nat) (0 : Nat) (0 : Int) (1 : Nat) (↑no : Int) cap2 = Go.Sx.Cel.slc (1 : Nat) (0 : Nat) (0 : Int) (1 : Nat) (↑no : Int) cap2 ∧ Go.Sx.Cel.val Go.undef = Go.Sx.Cel.val Go.undef ∧ Go.Sx.Cel.val Go.undef = Go.Sx.Cel.val Go.undef ∧ True ∧ (Go.IntKind.u16 = Go.IntKind.u16 ∧ Go.Sx.bOr Go.IntKind.u16 (↑(ioT o x) : Int) (↑((2 : Nat) ^ Int.toNat (List.getD o (Int.toNat ((0 : Int) + (↑x : Int))) (0 : Int))) : Int) = (↑(ioT o y) : Int)) ∧ Go.Sx.Cel.val Go.undef = Go.Sx.Cel.val Go.undef ∧ True ∧ Go.Sx.Cel.slc (1 : Nat) (0 : Nat) (0 : Int) (1 : Nat) (↑no : Int) cap2 = Go.Sx.Cel.slc (1 : Nat) (0 : Nat) (0 : Int) (1 : Nat) (↑no : Int) cap2 ∧ (Go.IntKind.i64 = Go.IntKind.i64 ∧ (↑no : Int) = (↑no : Int)) ∧ (Go.IntKind.i64 = Go.IntKind.i64 ∧ (↑x : Int) + (1 : Int) = (↑y : Int)) ∧ True ∧ True ∧ True ∧ True ∧ True ∧ True ∧ True ∧ True ∧ True ∧ True ∧ True ∧ True ∧ True ∧ Go.Sx.Cel.val Go.undef = Go.Sx.Cel.val Go.undef ∧ Go.Sx.Cel.val Go.undef = Go.Sx.Cel.val Go.undef ∧ Go.Sx.Cel.val Go.undef = Go.Sx.Cel.val Go.undef ∧ Go.Sx.Cel.val Go.undef = Go.Sx.Cel.val Go.undef ∧ True) ∧ (Bool.false = Bool.false ∧ (80 : Nat) = (80 : Nat) ∧ ([Go.Sx.EK.i64, Go.Sx.EK.u16] = [Go.Sx.EK.i64, Go.Sx.EK.u16] ∧ m = m ∧ l = l) ∧ True) ∧ (Bool.false = Bool.false ∧ (2 : Nat) = (2 : Nat) ∧ ([Go.Sx.EK.i64] = [Go.Sx.EK.i64] ∧ N = N ∧ o = o) ∧ True) ∧ True)) ∧ (Decidable.decide ((↑x : Int) < (↑no : Int)) = Bool.false → True ∧ True ∧ ((0 : Int) ≤ (↑n : Int) ∧ (↑n : Int) ≤ (12 : Int)) ∧ True ∧ True ∧ ((↑(ioT o x) : Int) == (↑((2 : Nat) ^ Int.toNat (↑n : Int) - (1 : Nat)) : Int)) = ioB l n o no)) (by kernel_rfl) ?_
  obtain ⟨_, q1, q2, q3, jw⟩ := id q
  simp only [true_and, and_true, and_self, decide_eq_true_eq, decide_eq_false_iff_not, Bool.not_eq_true', Bool.not_eq_false', Bool.not_true, Bool.not_false, beq_iff_eq, beq_eq_false_iff_ne, bne_iff_ne, bne_eq_false_iff_eq, ne_eq, not_true_eq_false, not_false_eq_true, false_implies, true_implies, implies_true, forall_const, exists_const, ↓reduceIte, Int.reduceEq, Int.toNat_natCast, Bool.false_eq_true, Bool.true_eq_false, reduceCtorEq, Int.zero_add, Nat.add_zero, Int.ofNat_eq_natCast, Int.toNat_natCast]
  refine ⟨⟨0, ⟨by omega, rfl⟩, rfl, rfl⟩, ?_⟩
  rintro i ⟨hi, ho⟩
  have hT := ioT_lt (o := o) (i := i) (n := n) (by omega) (oiB_lt ho)
  refine ⟨fun hlt => ⟨by omega, by omega, ⟨q, by omega, by omega⟩, fun hno => ?_, fun hyes => ?_⟩, fun hge => ?_⟩
  · exact ioB_no (i := i) (by omega) fun h => by rw [naB_t.2 h] at hno; cases hno
  · have h := naB_t.1 hyes
    refine ⟨⟨h.1.1, by omega⟩, by omega, i + 1, ⟨by omega, oiB_s.2 ⟨ho, h⟩⟩, by omega, ?_, by omega⟩
    rw [ioT, bOr16 hT (pow_lt16 (by omega))]
  · have hin : i = no := by omega
    subst hin
    refine ⟨by omega, ?_⟩
    rw [← ioB_end ho, Bool.eq_iff_iff, beq_iff_eq, decide_eq_true_eq]
    omega
def gIso : Entry := fun args H => match args with
  | [.a (.c (.slc id b z s len _)), .a (.c (.slc id2 b2 z2 s2 len2 _))] => match getB H id, getB H id2 with
    | .cells _ t [.run ks m l], .cells _ t2 [.run ks2 N o] => some (((t = 80 ∧ b = 0 ∧ z = 0 ∧ s = 2 ∧ ks = [.i64, .u16]) ∧ (t2 = 2 ∧ b2 = 0 ∧ z2 = 0 ∧ s2 = 1 ∧ ks2 = [.i64])) ∧ Jl len m l ∧ (0 ≤ len2 ∧ len2 ≤ 1048576) ∧ len2.toNat ≤ N ∧ o.length = N, .a (.c (.bool (ioB l len.toNat o len2.toNat))))
    | _, _ => none
  | _ => none
theorem e_isOrder : EntryOk Tryd.prog TT 72 gIso := by
  refine ⟨fnOk Tryd.func72 (by kernel_rfl) rfl, ?_⟩
  intro args H pp r he hp n0 w0 β w vals hG hH hA
  unfold gIso at he
  split at he
  · split at he
    · rename_i id b z s len cap id2 b2 z2 s2 len2 cap2 _ _ oo t ks m l oo2 t2 ks2 N o hg hg2
      simp only [Option.some.injEq, Prod.mk.injEq] at he
      obtain ⟨rfl, rfl⟩ := he
      obtain ⟨⟨⟨rfl, rfl, rfl, rfl, rfl⟩, rfl, rfl, rfl, rfl, rfl⟩, q, ⟨h0, h1⟩, hN, hl⟩ := hp
      obtain ⟨n, rfl⟩ := Int.eq_ofNat_of_zero_le q.lo
      obtain ⟨no, rfl⟩ := Int.eq_ofNat_of_zero_le h0
      exact entry_view tt_ok (inlN_ok tt_ok Co1_ok mixed ILz_ok.ok 6) Co1_ok mixed Tryd.func72 [id, id2] (x_isOrder m n N no l o cap cap2 q (by simpa using hN) hl (by omega)) rfl rfl ⟨.inr (by rw [hg]; rfl), .inr (by rw [hg2]; rfl), trivial⟩ hG hH hA
    · simp at he
  · simp at he

/-! ### The slots of a roster -/
noncomputable def ILpl  : List (FuncId × Func × (Nat → LM)) := [
  (100, Tryd.f100, U0)]
theorem ILpl_ok  : InlsOk Tryd.prog ILpl := ⟨⟨Tryd.func100, by kernel_rfl⟩, trivial⟩
theorem x_plan (n : Nat) (cap h : Int) (g : Nat) (p : List Int) (hl : p.length = 24) (hn : n ≤ 12) : Fex true TT (inlN true TT Cr3 (lookI ILpl) 6) Cr3 U0 Tryd.f73 [rosV n cap h g p] [.dead]
    (fun lv H' => ∃ x : Nat × List Int × Int, Gq 2 n (p.take (n * 2)) x.1 x.2.1 x.2.2 ∧ leSt ⟨[lv], H'⟩ ⟨[rnL ([0].length + ·) (.a (.c (.slc 0 0 0 2 n x.2.2)))], deadsN [0].length ++ [.cells true 89 [.run [.i8, .i16] x.1 x.2.1]]⟩ [0].length (resB lv)) := by
  refine Go.Sx.by_eq (q := True ∧ True ∧ True ∧ True ∧ True ∧ True ∧ True ∧ ((0 : Int) ≤ (0 : Int) ∧ (0 : Int) ≤ (↑n : Int) ∧ (↑n : Int) ≤ (↑(12 : Nat) : Int) ∧ (↑(12 : Nat) : Int) ≤ (↑(12 : Nat) : Int)) ∧ True ∧ True ∧ (0 : Int) < (↑(12 : Nat) : Int) - (0 : Int) ∧ True ∧ True ∧ ((Int.toNat (0 : Int) + Int.toNat (0 : Int)) * (2 : Nat) ≤ (0 : Nat) ∧ (Int.toNat (0 : Int) + Int.toNat ((↑n : Int) - (0 : Int))) * (2 : Nat) ≤ (24 : Nat) ∧ ((0 : Int) + ((↑n : Int) - (0 : Int))) * (↑(4 : Nat) : Int) ≤ (140737488355328 : Int) ∧ (0 : Int) + ((↑n : Int) - (0 : Int)) ≤ (9223372036854775807 : Int)) ∧ ((0 : Int) = (0 : Int) ∧ (0 : Nat) = (0 : Nat)) ∧ ∀ (n_1 : Nat) (L : List Int) (cap : Int), (0 : Int) + ((↑n : Int) - (0 : Int)) ≤ cap → n_1 = Int.toNat cap * (2 : Nat) → List.length L = n_1 → List.take (Int.toNat ((0 : Int) + ((↑n : Int) - (0 : Int))) * (2 : Nat)) L = List.take (Int.toNat (0 : Int) * (2 : Nat)) (List.drop (Int.toNat (0 : Int) * (2 : Nat)) []) ++ List.take (Int.toNat ((↑n : Int) - (0 : Int)) * (2 : Nat)) (List.drop (Int.toNat (0 : Int) * (2 : Nat)) p) → True ∧ True ∧ ∃ (x : Nat × List Int × Int), Gq (2 : Nat) n (List.take (n * (2 : Nat)) p) x.fst x.snd.fst x.snd.snd ∧ (Go.Sx.Cel.slc (3 : Nat) (0 : Nat) (0 : Int) (2 : Nat) ((0 : Int) + ((↑n : Int) - (0 : Int))) cap = Go.Sx.Cel.slc (3 : Nat) (0 : Nat) (0 : Int) (2 : Nat) (↑n : Int) x.snd.snd ∧ True) ∧ True ∧ (Bool.true = Bool.true ∧ (89 : Nat) = (89 : Nat) ∧ ([Go.Sx.EK.i8, Go.Sx.EK.i16] = [Go.Sx.EK.i8, Go.Sx.EK.i16] ∧ n_1 = x.fst ∧ L = x.snd.fst) ∧ True) ∧ True) (by kernel_rfl) ?_
  simp only [true_and, and_true, and_self, decide_eq_true_eq, decide_eq_false_iff_not, Bool.not_eq_true', Bool.not_eq_false', Bool.not_true, Bool.not_false, beq_iff_eq, beq_eq_false_iff_ne, bne_iff_ne, bne_eq_false_iff_eq, ne_eq, not_true_eq_false, not_false_eq_true, false_implies, true_implies, implies_true, forall_const, exists_const, ↓reduceIte, Int.reduceEq, Int.toNat_natCast, Bool.false_eq_true, Bool.true_eq_false, reduceCtorEq, Int.zero_add, Nat.add_zero, Int.ofNat_eq_natCast, Int.toNat_natCast, Int.sub_zero, Int.toNat_zero, Nat.zero_mul, Nat.zero_add, List.take_zero, List.drop_zero, List.nil_append, Cel.slc.injEq]
  refine ⟨by omega, by omega, by omega, fun N L cp h1 h2 h3 h4 => ⟨(N, L, cp), ⟨h1, h2, h3, h4⟩, rfl, rfl, rfl⟩⟩
noncomputable def gPln : EntryC := fun args H K => match args with
  | [.a (.agg [.slc id b z s len cap, .int .i64 h, .int .u16 g, .run ks m p])] => ((b = 0 ∧ z = 0 ∧ s = 2 ∧ ks = [.i8, .i16] ∧ m = 24) ∧ p.length = 24 ∧ (0 ≤ len ∧ len ≤ 12) ∧ 0 ≤ g) ∧
      withLenP H fun w => ∀ N L cp, Gq 2 len.toNat (p.take (len.toNat * 2)) N L cp → K (.a (.c (.slc w 0 0 2 len cp))) (H ++ [.cells true 89 [.run [.i8, .i16] N L]])
  | _ => Stuck "plan"
theorem e_plan : EntryCOk Tryd.prog TT 73 gPln := by
  refine ⟨fnOk Tryd.func73 (by kernel_rfl) rfl, ?_⟩
  intro args H K hh n0 w0 β w vals hG hH hA
  unfold gPln at hh
  split at hh
  · rename_i id b z s len cap h g ks m p
    obtain ⟨⟨⟨rfl, rfl, rfl, rfl, rfl⟩, hl, ⟨h0, h1⟩, hg⟩, hk⟩ := hh
    have hk := withLenP_sound hk
    obtain ⟨n, rfl⟩ := Int.eq_ofNat_of_zero_le h0
    obtain ⟨g, rfl⟩ := Int.eq_ofNat_of_zero_le hg
    refine (entry_fresh tt_ok (inlN_ok tt_ok Cr3_ok mixed ILpl_ok.ok 6) Cr3_ok mixed Tryd.func73 [id] (x_plan n cap h g p hl (by omega)) rfl (fun _ => rfl) (fun _ => rfl) ⟨.inl rfl, trivial⟩ hG hH hA).mono ?_
    rintro e w' ⟨v, γ, x, rfl, h4, h5, h6⟩
    exact ⟨v, γ, _, _, rfl, hk _ _ _ h4, h5, h6⟩
  · exact hh.elim
noncomputable def Eo2 : List (FuncId × Entry) := (72, gIso) :: (59, gIo) :: Ej4
theorem Eo2_ok : EntriesOk Tryd.prog TT Eo2 := ⟨e_isOrder, e_inOrder, Ej4_ok⟩
noncomputable def Mo2 : List (FuncId × EntryC) := (73, gPln) :: (68, gCrw) :: Mj4
theorem Mo2_ok : EntriesCOk Tryd.prog TT Mo2 := ⟨e_plan, e_crw, Mj4_ok⟩
noncomputable abbrev Co2 : Ctr := ctrOfM Eo2 Mo2
theorem Co2_ok : CtrOk Tryd.prog TT Co2 := ctrOfM_ok Eo2_ok Mo2_ok

/-! ### What is answered to jobs, hands and an order -/
noncomputable def poE (n : Nat) (l : List Int) (h : Int) (no : Nat) (o : List Int) : Int := open Classical in if vjB n l = true then (if 1 ≤ h ∧ h ≤ 4 then (if ioB l n o no = true then 0 else 4) else 2) else 1
noncomputable def poK (n : Nat) (l : List Int) (h : Int) (no : Nat) (o : List Int) : Nat := open Classical in if poE n l h no o = 0 then n else 0
noncomputable def poF (n : Nat) (l : List Int) (h : Int) (no : Nat) (o : List Int) : List Int := open Classical in if poE n l h no o = 0 then (roP l o h.toNat n).take (n * 2) else []
theorem po_no {n : Nat} {l : List Int} {h : Int} {no : Nat} {o : List Int} {c : Int} (hc : poE n l h no o = c) (h0 : c ≠ 0) : poK n l h no o = 0 ∧ poF n l h no o = [] ∧ poE n l h no o = c := by
  subst hc
  exact ⟨by rw [poK, if_neg h0], by rw [poF, if_neg h0], rfl⟩
theorem po_1 {n : Nat} {l : List Int} {h : Int} {no : Nat} {o : List Int} (hv : vjB n l = false) : poK n l h no o = 0 ∧ poF n l h no o = [] ∧ poE n l h no o = 1 :=
  po_no (by rw [poE, if_neg (by rw [hv]; simp)]) (by decide)
theorem po_2 {n : Nat} {l : List Int} {h : Int} {no : Nat} {o : List Int} (hv : vjB n l = true) (hh : ¬ (1 ≤ h ∧ h ≤ 4)) : poK n l h no o = 0 ∧ poF n l h no o = [] ∧ poE n l h no o = 2 :=
  po_no (by rw [poE, if_pos hv, if_neg hh]) (by decide)
theorem po_4 {n : Nat} {l : List Int} {h : Int} {no : Nat} {o : List Int} (hv : vjB n l = true) (hh : 1 ≤ h ∧ h ≤ 4) (ho : ioB l n o no = false) : poK n l h no o = 0 ∧ poF n l h no o = [] ∧ poE n l h no o = 4 :=
  po_no (by rw [poE, if_pos hv, if_pos hh, if_neg (by rw [ho]; simp)]) (by decide)
theorem po_0 {n : Nat} {l : List Int} {h : Int} {no : Nat} {o : List Int} (hv : vjB n l = true) (hh : 1 ≤ h ∧ h ≤ 4) (ho : ioB l n o no = true) : poK n l h no o = n ∧ poF n l h no o = (roP l o h.toNat n).take (n * 2) ∧ poE n l h no o = 0 := by
  have e : poE n l h no o = 0 := by rw [poE, if_pos hv, if_pos hh, if_pos ho]
  exact ⟨by rw [poK, if_pos e], by rw [poF, if_pos e], e⟩
theorem poK_le {n : Nat} {l : List Int} {h : Int} {no : Nat} {o : List Int} : poK n l h no o ≤ 12 := by
  cases hv : vjB n l
  · rw [(po_1 hv).1]; omega
  · have := (vjB_t.1 hv).hi
    rw [poK]
    split <;> omega
/-- What the execution of such a function is to show. -/
def PJo (K : Nat) (F : List Int) (E : Int) (lv : LV) (H' : List Blk) : Prop := ∃ x : Nat × List Int × Int, Gq 2 K F x.1 x.2.1 x.2.2 ∧ leSt ⟨[lv], H'⟩ ⟨[rnL ([0, 1].length + ·) (.tup [.c (.slc 0 0 0 2 K x.2.2), .c (.int .i64 E)])], deadsN [0, 1].length ++ [.cells true 89 [.run [.i8, .i16] x.1 x.2.1]]⟩ [0, 1].length (resB lv)
noncomputable def gJo : EntryC := fun args H k => match args with
  | [.a (.c (.slc id b z st len _)), .a (.c (.int .i64 h)), .a (.c (.slc id2 b2 z2 st2 len2 _))] => match getB H id, getB H id2 with
    | .cells _ t [.run ks m l], .cells _ t2 [.run ks2 N o] => (((t = 64 ∧ b = 0 ∧ z = 0 ∧ st = 2 ∧ ks = [.i8, .u16]) ∧ (t2 = 2 ∧ b2 = 0 ∧ z2 = 0 ∧ st2 = 1 ∧ ks2 = [.i64])) ∧ 0 ≤ len ∧ Jx len.toNat m l ∧ (0 ≤ len2 ∧ len2 ≤ 1048576) ∧ len2.toNat ≤ N ∧ o.length = N) ∧
      withLenP H fun w => ∀ N' L cp, Gq 2 (poK len.toNat l h len2.toNat o) (poF len.toNat l h len2.toNat o) N' L cp → k (.tup [.c (.slc w 0 0 2 (poK len.toNat l h len2.toNat o) cp), .c (.int .i64 (poE len.toNat l h len2.toNat o))]) (H ++ [.cells true 89 [.run [.i8, .i16] N' L]])
    | _, _ => Stuck "order"
  | _ => Stuck "order"
theorem gJo_ok {f : FuncId} {fn : Func} {C : Ctr} (hC : CtrOk Tryd.prog TT C) {inl : Nat → List Int → Int → Nat → List Int → FuncId → Option (Func × (Nat → LM))} (hI : ∀ n l h no o, InlOk Tryd.prog (inl n l h no o)) {Λ : Nat → List Int → Int → Nat → List Int → Nat → LM}
    (hf : Tryd.prog.funcs[f]? = some fn) (h2 : (fn.name == "runtime.NumGoroutine") = false) (h3 : fn.body.isNone = false)
    (x : ∀ (m n N no : Nat) (l o : List Int) (cap cap2 h : Int), Jx n m l → no ≤ N → o.length = N → no ≤ 1048576 → Fex true TT (inlN true TT C (inl n l h no o) 6) C (Λ n l h no o) fn [.a (.c (.slc 0 0 0 2 n cap)), .a (.c (.int .i64 h)), .a (.c (.slc 1 0 0 1 no cap2))] [.cells false 64 [.run [.i8, .u16] m l], .cells false 2 [.run [.i64] N o]] (PJo (poK n l h no o) (poF n l h no o) (poE n l h no o))) :
    EntryCOk Tryd.prog TT f gJo := by
  refine ⟨fnOk hf h2 h3, ?_⟩
  intro args H k hh n0 w0 β w vals hG hH hA
  unfold gJo at hh
  split at hh
  · split at hh
    · rename_i id b z st len cap h id2 b2 z2 st2 len2 cap2 _ _ oo t ks m l oo2 t2 ks2 N o hg hg2
      obtain ⟨⟨⟨⟨rfl, rfl, rfl, rfl, rfl⟩, rfl, rfl, rfl, rfl, rfl⟩, h0, q, ⟨h4, h5⟩, hN, hl⟩, hk⟩ := hh
      have hk := withLenP_sound hk
      obtain ⟨n, rfl⟩ := Int.eq_ofNat_of_zero_le h0
      obtain ⟨no, rfl⟩ := Int.eq_ofNat_of_zero_le h4
      rw [Int.toNat_natCast] at q hk hN
      rw [Int.toNat_natCast] at hk
      refine (entry_fresh tt_ok (inlN_ok tt_ok hC mixed (hI n l h no o) 6) hC mixed hf [id, id2] (x m n N no l o cap cap2 h q hN hl (by omega)) rfl (fun _ => rfl) (fun _ => rfl) ⟨.inr (by rw [hg]; rfl), .inr (by rw [hg2]; rfl), trivial⟩ hG hH hA).mono ?_
      rintro e w' ⟨v, γ, x, rfl, h4, h5, h6⟩
      exact ⟨v, γ, _, _, rfl, hk _ _ _ h4, h5, h6⟩
    · exact hh.elim
  · exact hh.elim
theorem pjo_k {K K' : Nat} {F F' : List Int} {E E' : Int} {N : Nat} {L : List Int} {cp : Int} (hK : K' = K) (hF : F' = F) (g : Gq 2 K' F' N L cp) (hE : E' = E) : ∃ x : Nat × List Int × Int, Gq 2 K F x.1 x.2.1 x.2.2 ∧ (((K' : Int) = (K : Int) ∧ cp = x.2.2) ∧ E' = E) ∧ N = x.1 ∧ L = x.2.1 := by
  subst hK hF; exact ⟨(N, L, cp), g, ⟨⟨rfl, rfl⟩, hE⟩, rfl, rfl⟩
theorem pjo_e {K : Nat} {F : List Int} {E E' : Int} (hK : K = 0) (hF : F = []) (hE : E' = E) : ∃ x : Nat × List Int × Int, Gq 2 K F x.1 x.2.1 x.2.2 ∧ ((0 = (K : Int) ∧ 0 = x.2.2) ∧ E' = E) ∧ 0 = x.1 ∧ [] = x.2.1 := by
  subst hK hF; exact ⟨(0, [], 0), Gq.nil, ⟨⟨rfl, rfl⟩, hE⟩, rfl, rfl⟩
theorem x_PlanInOrderI (m n N no : Nat) (l o : List Int) (cap cap2 h : Int) (q : Jx n m l) (hN : no ≤ N) (hl : o.length = N) (hm : no ≤ 1048576) : Fex true TT (inlN true TT Co2 (lookI ILz) 6) Co2 U0 Tryd.f37 [.a (.c (.slc 0 0 0 2 n cap)), .a (.c (.int .i64 h)), .a (.c (.slc 1 0 0 1 no cap2))] [.cells false 64 [.run [.i8, .u16] m l], .cells false 2 [.run [.i64] N o]] (PJo (poK n l h no o) (poF n l h no o) (poE n l h no o)) := by
  refine Go.Sx.by_eq (q := True ∧ True ∧ True ∧ True ∧ (((64 : Nat) = (64 : Nat) ∧ (0 : Nat) = (0 : Nat) ∧ (0 : Int) = (0 : Int) ∧ (2 : Nat) = (2 : Nat) ∧ [Go.Sx.EK.i8, Go.Sx.EK.u16] = [Go.Sx.EK.i8, Go.Sx.EK.u16]) ∧ (0 : Int) ≤ (↑n : Int) ∧ Jx (Int.toNat (↑n : Int)) m l) ∧ (vjB (Int.toNat (↑n : Int)) l = Bool.true → (1 : Int) ≤ h ∧ h ≤ (4 : Int) → True ∧ True ∧ True ∧ True ∧ True ∧ True ∧ True ∧ True ∧ True ∧ True ∧ True ∧ ((((80 : Nat) = (80 : Nat) ∧ (0 : Nat) = (0 : Nat) ∧ (0 : Int) = (0 : Int) ∧ (2 : Nat) = (2 : Nat) ∧ [Go.Sx.EK.i64, Go.Sx.EK.u16] = [Go.Sx.EK.i64, Go.Sx.EK.u16]) ∧ (2 : Nat) = (2 : Nat) ∧ (0 : Nat) = (0 : Nat) ∧ (0 : Int) = (0 : Int) ∧ (1 : Nat) = (1 : Nat) ∧ [Go.Sx.EK.i64] = [Go.Sx.EK.i64]) ∧ Jl (↑n : Int) (Int.toNat (↑n : Int) * (2 : Nat)) (List.take (Int.toNat (↑n : Int) * (2 : Nat)) l) ∧ ((0 : Int) ≤ (↑no : Int) ∧ (↑no : Int) ≤ (1048576 : Int)) ∧ Int.toNat (↑no : Int) ≤ N ∧ List.length o = N) ∧ True ∧ ((!ioB (List.take (Int.toNat (↑n : Int) * (2 : Nat)) l) (Int.toNat (↑n : Int)) o (Int.toNat (↑no : Int))) = Bool.true → True ∧ True ∧ ∃ (x : Nat × List Int × Int), Gq (2 : Nat) (poK n l h no o) (poF n l h no o) x.fst x.snd.fst x.snd.snd ∧ ((((0 : Int) = (0 : Int) ∧ (↑(poK n l h no o) : Int) = (0 : Int) ∧ x.snd.snd = (0 : Int)) ∧ (Go.IntKind.i64 = Go.IntKind.i64 ∧ (4 : Int) = poE n l h no o) ∧ True) ∧ True) ∧ True ∧ True ∧ (x.fst = (0 : Nat) ∧ x.snd.fst = []) ∧ True) ∧ ((!ioB (List.take (Int.toNat (↑n : Int) * (2 : Nat)) l) (Int.toNat (↑n : Int)) o (Int.toNat (↑no : Int))) = Bool.false → True ∧ True ∧ ((((80 : Nat) = (80 : Nat) ∧ (0 : Nat) = (0 : Nat) ∧ (0 : Int) = (0 : Int) ∧ (2 : Nat) = (2 : Nat) ∧ [Go.Sx.EK.i64, Go.Sx.EK.u16] = [Go.Sx.EK.i64, Go.Sx.EK.u16]) ∧ (2 : Nat) = (2 : Nat) ∧ (0 : Nat) = (0 : Nat) ∧ (0 : Int) = (0 : Int) ∧ (1 : Nat) = (1 : Nat) ∧ [Go.Sx.EK.i64] = [Go.Sx.EK.i64]) ∧ Jl (↑n : Int) (Int.toNat (↑n : Int) * (2 : Nat)) (List.take (Int.toNat (↑n : Int) * (2 : Nat)) l) ∧ VJ (Int.toNat (↑n : Int)) (List.take (Int.toNat (↑n : Int) * (2 : Nat)) l) ∧ ((0 : Int) ≤ h ∧ h ≤ (12 : Int)) ∧ ((0 : Int) ≤ (↑no : Int) ∧ (↑no : Int) ≤ (1048576 : Int)) ∧ Int.toNat (↑no : Int) ≤ N ∧ List.length o = N ∧ ∀ (j : Nat), j < Int.toNat (↑no : Int) → (0 : Int) ≤ List.getD o j (0 : Int) ∧ List.getD o j (0 : Int) < (↑n : Int)) ∧ (((0 : Nat) = (0 : Nat) ∧ (0 : Int) = (0 : Int) ∧ (2 : Nat) = (2 : Nat) ∧ [Go.Sx.EK.i8, Go.Sx.EK.i16] = [Go.Sx.EK.i8, Go.Sx.EK.i16] ∧ (24 : Nat) = (24 : Nat)) ∧ List.length (roP (List.take (Int.toNat (↑n : Int) * (2 : Nat)) l) o (Int.toNat h) (Int.toNat (↑no : Int))) = (24 : Nat) ∧ ((0 : Int) ≤ (↑n : Int) ∧ (↑n : Int) ≤ (12 : Int)) ∧ (0 : Int) ≤ (↑(ioT o (Int.toNat (↑no : Int))) : Int)) ∧ ∀ (N : Nat) (L : List Int) (cp : Int), Gq (2 : Nat) (Int.toNat (↑n : Int)) (List.take (Int.toNat (↑n : Int) * (2 : Nat)) (roP (List.take (Int.toNat (↑n : Int) * (2 : Nat)) l) o (Int.toNat h) (Int.toNat (↑no : Int)))) N L cp → True ∧ True ∧ ∃ (x : Nat × List Int × Int), Gq (2 : Nat) (poK n l h no o) (poF n l h no o) x.fst x.snd.fst x.snd.snd ∧ ((Go.Sx.Cel.slc (4 : Nat) (0 : Nat) (0 : Int) (2 : Nat) (↑n : Int) cp = Go.Sx.Cel.slc (4 : Nat) (0 : Nat) (0 : Int) (2 : Nat) (↑(poK n l h no o) : Int) x.snd.snd ∧ (Go.IntKind.i64 = Go.IntKind.i64 ∧ (0 : Int) = poE n l h no o) ∧ True) ∧ True) ∧ True ∧ True ∧ (Bool.true = Bool.true ∧ (89 : Nat) = (89 : Nat) ∧ ([Go.Sx.EK.i8, Go.Sx.EK.i16] = [Go.Sx.EK.i8, Go.Sx.EK.i16] ∧ N = x.fst ∧ L = x.snd.fst) ∧ True) ∧ True)) ∧ (vjB (Int.toNat (↑n : Int)) l = Bool.true → ¬((1 : Int) ≤ h ∧ h ≤ (4 : Int)) → True ∧ True ∧ True ∧ True ∧ True ∧ True ∧ True ∧ True ∧ True ∧ (126 : Nat) = (126 : Nat) ∧ True ∧ True ∧ ∃ (x : Nat × List Int × Int), Gq (2 : Nat) (poK n l h no o) (poF n l h no o) x.fst x.snd.fst x.snd.snd ∧ ((((0 : Int) = (0 : Int) ∧ (↑(poK n l h no o) : Int) = (0 : Int) ∧ x.snd.snd = (0 : Int)) ∧ (Go.IntKind.i64 = Go.IntKind.i64 ∧ (2 : Int) = poE n l h no o) ∧ True) ∧ True) ∧ True ∧ True ∧ (x.fst = (0 : Nat) ∧ x.snd.fst = []) ∧ True) ∧ (vjB (Int.toNat (↑n : Int)) l = Bool.false → True ∧ True ∧ True ∧ True ∧ True ∧ True ∧ True ∧ True ∧ True ∧ (126 : Nat) = (126 : Nat) ∧ True ∧ True ∧ ∃ (x : Nat × List Int × Int), Gq (2 : Nat) (poK n l h no o) (poF n l h no o) x.fst x.snd.fst x.snd.snd ∧ ((((0 : Int) = (0 : Int) ∧ (↑(poK n l h no o) : Int) = (0 : Int) ∧ x.snd.snd = (0 : Int)) ∧ (Go.IntKind.i64 = Go.IntKind.i64 ∧ (1 : Int) = poE n l h no o) ∧ True) ∧ True) ∧ True ∧ True ∧ (x.fst = (0 : Nat) ∧ x.snd.fst = []) ∧ True)) (by kernel_rfl) ?_
  simp only [true_and, and_true, and_self, decide_eq_true_eq, decide_eq_false_iff_not, Bool.not_eq_true', Bool.not_eq_false', Bool.not_true, Bool.not_false, beq_iff_eq, beq_eq_false_iff_ne, bne_iff_ne, bne_eq_false_iff_eq, ne_eq, not_true_eq_false, not_false_eq_true, false_implies, true_implies, implies_true, forall_const, exists_const, ↓reduceIte, Int.reduceEq, Int.toNat_natCast, Bool.false_eq_true, Bool.true_eq_false, reduceCtorEq, Int.zero_add, Nat.add_zero, Int.ofNat_eq_natCast, Int.toNat_natCast, Nat.mul_one, Cel.slc.injEq]
  have sm : Sm n (l.take (n * 2)) l := Sm.take
  refine ⟨⟨by omega, q⟩, fun hv hh => ?_, fun hv hh => ?_, fun hv => ?_⟩
  · have v := vjB_t.1 hv
    have v' := sm.vj v
    have hn12 := v.hi
    have jt := q.jt2 v
    refine ⟨⟨jt, by omega, hN, hl⟩, fun hno => ?_, fun hyes => ?_⟩
    · rw [sm.io] at hno
      obtain ⟨h1, h2, h3⟩ := po_4 hv hh hno
      exact gq_err' h1 h2 h3.symm
    · have hio := hyes
      rw [sm.io] at hio
      obtain ⟨h1, h2, h3⟩ := po_0 hv hh hio
      have hx := hyes
      simp only [ioB, Bool.and_eq_true, decide_eq_true_eq] at hx
      have hb := oiB_lt hx.2
      have haf : ∀ j, j < n → ∀ k, (af (l.take (n * 2)) j).testBit k = true → k < n := fun j hj k hk => by
        rw [← Nat.not_le]
        intro hc
        have := Nat.testBit_lt_two_pow (Nat.lt_of_lt_of_le (v'.af hj) (Nat.pow_le_pow_right (by omega) hc))
        rw [this] at hk; cases hk
      obtain ⟨c1, c2⟩ := sm.ro (h := h.toNat) (o' := o) haf no hb fun _ _ => rfl
      refine ⟨⟨jt, v', by omega, by omega, hN, hl, hb⟩, ⟨roP_len no, by omega, by omega⟩, fun N' L cp g => ?_⟩
      rw [c2, hx.1] at g
      exact pjo_k h1.symm h2.symm g h3.symm
  · obtain ⟨h1, h2, h3⟩ := po_2 (no := no) (o := o) hv hh
    exact gq_err' h1 h2 h3.symm
  · obtain ⟨h1, h2, h3⟩ := po_1 (h := h) (no := no) (o := o) hv
    exact gq_err' h1 h2 h3.symm
theorem e_PlanInOrderI : EntryCOk Tryd.prog TT 37 gJo := gJo_ok Co2_ok (inl := fun _ _ _ _ _ => lookI ILz) (Λ := fun _ _ _ _ _ => U0) (fun _ _ _ _ _ => ILz_ok.ok) Tryd.func37 (by kernel_rfl) rfl x_PlanInOrderI
end Go.Proofs.YtagdkibmlfjggaaDoor
