/- Rosters from plans: the program's side. No conditions beyond the ranges of the kinds. -/
import Derived.Test.YtagdkibmlfjggaaDoorPl3
set_option linter.unusedSimpArgs false
set_option linter.unusedVariables false
namespace Go.Proofs.YtagdkibmlfjggaaDoor
open Go.Sx Go.RowKit

def gWr : Entry := fun args H => match args with
  | [.a (.agg [.slc id b z s len _, .int .i64 h, .int .u16 g, .run ks m p]), .a (.c (.int .i64 j))] => match getB H id with
    | .cells _ t [.run kt mm l] => some (Rq b z s ks m t kt len mm l p g ∧ g = (bsF (okB h p) len.toNat : Nat) ∧ 0 ≤ j ∧ j < len, .a (.c (.bool (ftB l h len.toNat p j.toNat))))
    | _ => none
  | _ => none
theorem e_isWrong : EntryOk Tryd.prog TT 105 gWr := by
  refine ⟨fnOk Tryd.func105 (by kernel_rfl) rfl, ?_⟩
  intro args H pp r he hp n0 w0 β w vals hG hH hA
  unfold gWr at he
  split at he
  · split at he
    · rename_i id b z s len cap h g ks m p j _ o t kt mm l hg
      simp only [Option.some.injEq, Prod.mk.injEq] at he
      obtain ⟨rfl, rfl⟩ := he
      obtain ⟨⟨⟨rfl, rfl, rfl, rfl, rfl, rfl, rfl⟩, q, v, sw, h0⟩, hg2, h1, h2⟩ := hp
      obtain ⟨n, rfl⟩ := Int.eq_ofNat_of_zero_le q.lo
      obtain ⟨i, rfl⟩ := Int.eq_ofNat_of_zero_le h1
      rw [Int.toNat_natCast] at hg2 v
      subst hg2
      exact entry_view tt_ok (inlN_ok tt_ok Cr3_ok mixed (ILwr_ok (l := l) (h := h) (n := n) (p := p) (i := i)).ok 6) Cr3_ok mixed Tryd.func105 [id] (x_isWrong mm n l cap h i p q v sw (by omega)) rfl rfl ⟨.inr (by rw [hg]; rfl), trivial⟩ hG hH hA
    · simp at he
  · simp at he
noncomputable def Er4 : List (FuncId × Entry) := (105, gWr) :: Er3
theorem Er4_ok : EntriesOk Tryd.prog TT Er4 := ⟨e_isWrong, Er3_ok⟩
noncomputable abbrev Cr4 : Ctr := ctrOfM Er4 Mj4
theorem Cr4_ok : CtrOk Tryd.prog TT Cr4 := ctrOfM_ok Er4_ok Mj4_ok

/-- The slots of a plan as an array. -/
def psA (n : Nat) (p : List Int) : List Int := p.take (n * 2) ++ (List.replicate 24 0).drop (n * 2)
def okN (h : Int) (n : Nat) (p : List Int) (k : Nat) : Bool := decide (k < n) && okB h p k
/-- The first loop, with nine blocks, or the second one: for annotations. -/
def Hp.slN (st : St) (_ : Nat) : Int := match st.heap with
  | [_, _, _, _, _, _, _, _, _] => 1
  | _ => 2
/-- The third cell of a block, a number: for annotations. -/
def Hg.slN (st : St) (id : Nat) : Int := match getB st.heap id with
  | .cells _ _ [_, _, .int _ g, _] => g
  | .cells _ _ [_, _, .lit _ g, _] => g
  | _ => 0
def lmWs (l : List Int) (h : Int) (n : Nat) (p : List Int) (cap : Int) : LAnn := { ι := Nat, inv := fun st k => k ≤ 12 ∧ (Hp.slN st 0 = 2 → ∀ j, j < k → j < n → ftB l h n p j = false), slots := fun _ k => [(4, .a (.c (.int .i64 k)))], blks := fun st k => [(6, [.slc 0 0 0 2 n cap, .int .i64 h, .int .u16 (((Hg.slN st 6).toNat ||| bsF (okN h n p) k : Nat) : Int), .run [.i8, .i16] 24 (psA n p)])], μ := fun _ k => 12 - k }
noncomputable def ILws (l : List Int) (h : Int) (n : Nat) (p : List Int) (cap : Int) : List (FuncId × Func × (Nat → LM)) := [
  (57, Tryd.f57, U0),
  (90, Tryd.f90, fun _ => .inv (lmWs l h n p cap))]
theorem ILws_ok {l : List Int} {h : Int} {n : Nat} {p : List Int} {cap : Int} : InlsOk Tryd.prog (ILws l h n p cap) := ⟨⟨Tryd.func57, by kernel_rfl⟩, ⟨Tryd.func90, by kernel_rfl⟩, trivial⟩
/-- Plans that say the same of the first n jobs. -/
def Sp (n : Nat) (p p' : List Int) : Prop := ∀ i, i < n * 2 → p.getD i 0 = p'.getD i 0
theorem Sp.hd {n : Nat} {p p' : List Int} (s : Sp n p p') {k : Nat} (hk : k < n) : Go.Proofs.YtagdkibmlfjggaaDoor.hd p k = Go.Proofs.YtagdkibmlfjggaaDoor.hd p' k := s _ (by omega)
theorem Sp.sg {n : Nat} {p p' : List Int} (s : Sp n p p') {k : Nat} (hk : k < n) : Go.Proofs.YtagdkibmlfjggaaDoor.sg p k = Go.Proofs.YtagdkibmlfjggaaDoor.sg p' k := s _ (by omega)
theorem Sp.ok {n : Nat} {p p' : List Int} (s : Sp n p p') {k : Nat} (hk : k < n) {h : Int} : okB h p k = okB h p' k := by rw [okB, okB, s.hd hk, s.sg hk]
theorem Sp.bs {n : Nat} {p p' : List Int} (s : Sp n p p') {h : Int} : bsF (okB h p) n = bsF (okB h p') n := by
  apply Nat.eq_of_testBit_eq
  intro k
  rw [bsF_bit, bsF_bit]
  by_cases hk : k < n
  · rw [s.ok hk]
  · rw [decide_eq_false hk]; rfl
theorem Sp.fj {n : Nat} {p p' : List Int} (s : Sp n p p') {l : List Int} {h : Int} {i j : Nat} (hi : i < n) (hj : j < n) : fjB l h p i j = fjB l h p' i j := by
  rw [fjB, fjB, s.ok hj, dnP, dnP, dnP, dnP, s.hd hi, s.hd hj, s.sg hi, s.sg hj]
theorem Sp.ft {n : Nat} {p p' : List Int} (s : Sp n p p') {l : List Int} {h : Int} {i : Nat} (hi : i < n) : ftB l h n p i = ftB l h n p' i := by
  have e : ∀ xs : List Nat, (∀ x ∈ xs, x < n) → xs.any (fjB l h p i) = xs.any (fjB l h p' i) := by
    intro xs
    induction xs with
    | nil => intro _; rfl
    | cons x xs ih =>
      intro hx
      rw [List.any_cons, List.any_cons, ih fun y hy => hx y (by simp [hy]), s.fj hi (hx x (by simp))]
  rw [ftB, ftB, s.ok hi, e _ fun x hx => List.mem_range.1 hx]
theorem psA_len {n : Nat} {p : List Int} (hn : n ≤ 12) (hl : n * 2 ≤ p.length) : (psA n p).length = 24 := by simp [psA]; omega
theorem psA_sp {n : Nat} {p : List Int} (hl : n * 2 ≤ p.length) : Sp n (psA n p) p := fun i hi => by
  rw [psA, List.getD_eq_getElem?_getD, List.getElem?_append_left (by rw [List.length_take]; omega), List.getElem?_take_of_lt hi, ← List.getD_eq_getElem?_getD]
theorem psA_sw {n : Nat} {p : List Int} (hl : n * 2 ≤ p.length) (w : SW n p) : SW 12 (psA n p) := by
  have z : ∀ i, n * 2 ≤ i → (psA n p).getD i 0 = 0 := fun i hi => by
    rw [psA, List.getD_eq_getElem?_getD, List.getElem?_append_right (by rw [List.length_take]; omega), List.getElem?_drop, List.getElem?_replicate]
    split <;> rfl
  constructor
  · intro k _
    by_cases hk : k < n
    · rw [(psA_sp hl).hd hk]; exact w.h k hk
    · unfold hd; rw [z _ (by omega)]; omega
  · intro k _
    by_cases hk : k < n
    · rw [(psA_sp hl).sg hk]; exact w.s k hk
    · unfold sg; rw [z _ (by omega)]; omega
theorem okN_bs {h : Int} {n : Nat} {p : List Int} (hn : n ≤ 12) : bsF (okN h n p) 12 = bsF (okB h p) n := by
  apply Nat.eq_of_testBit_eq
  intro k
  rw [bsF_bit, bsF_bit, okN]
  by_cases hk : k < n
  · rw [decide_eq_true hk, decide_eq_true (by omega)]; rfl
  · rw [decide_eq_false hk]; simp
theorem okN_or {h : Int} {n : Nat} {p : List Int} {k : Nat} (hk : k ≤ 12) : bsF (okN h n p) 12 ||| bsF (okN h n p) k = bsF (okN h n p) 12 := by
  apply Nat.eq_of_testBit_eq
  intro i
  rw [Nat.testBit_or, bsF_bit, bsF_bit]
  by_cases hi : i < k
  · rw [decide_eq_true hi, decide_eq_true (by omega)]; simp
  · rw [decide_eq_false hi]; simp
theorem fwO_some {l : List Int} {h : Int} {n : Nat} {p : List Int} {i : Nat} (hf : fwO l h n p = some i) : i < n ∧ ftB l h n p i = true ∧ ∀ j, j < i → ftB l h n p j = false := by
  have h1 := List.find?_some hf
  have h2 := List.mem_range.1 (List.mem_of_find?_eq_some hf)
  refine ⟨h2, h1, fun j hj => ?_⟩
  rw [Bool.eq_false_iff]
  intro hc
  -- the least one below i with a fault would have been found
  have : ∃ k, k < i ∧ ftB l h n p k = true ∧ ∀ m, m < k → ftB l h n p m = false := by
    clear h1
    induction j using Nat.strongRecOn with
    | _ j ih =>
      by_cases hx : ∃ m, m < j ∧ ftB l h n p m = true
      · obtain ⟨m, m1, m2⟩ := hx
        exact ih m m1 (by omega) m2
      · exact ⟨j, hj, hc, fun m hm => by rw [Bool.eq_false_iff]; exact fun hm' => hx ⟨m, hm, hm'⟩⟩
  obtain ⟨k, k1, k2, k3⟩ := this
  have := fwO_is (by omega : k < n) k2 k3
  rw [hf] at this
  have := Option.some.inj this
  omega
/-- What withSlots answers. -/
def wsR (l : List Int) (h : Int) (n np : Nat) (p : List Int) (cap : Int) : LV :=
  if np = n then match fwO l h n p with
    | none => .tup [.agg [.slc 0 0 0 2 n cap, .int .i64 h, .int .u16 (bsF (okB h p) n), .run [.i8, .i16] 24 (psA n p)], .c (.val .nilIface)]
    | some i => .tup [.agg [.val (.slice none 0 0), .int .i64 0, .int .u16 0, .run [.i8, .i16] 24 (List.replicate 24 0)], .c (.ifr 117 [.i64] [(i : Int)])]
  else .tup [.agg [.val (.slice none 0 0), .int .i64 0, .int .u16 0, .run [.i8, .i16] 24 (List.replicate 24 0)], .c (.val (.iface 126 (.int .i64 1)))]
/-- Its three ways. -/
def WsP (l : List Int) (h : Int) (n np : Nat) (p : List Int) (cap : Int) (lv : LV) : Prop :=
  (np = n → fwO l h n p = none → leL lv (.tup [.agg [.slc 0 0 0 2 n cap, .int .i64 h, .int .u16 (bsF (okB h p) n), .run [.i8, .i16] 24 (psA n p)], .c (.val .nilIface)])) ∧
  (∀ i : Nat, np = n → fwO l h n p = some i → leL lv (.tup [.agg [.val (.slice none 0 0), .int .i64 0, .int .u16 0, .run [.i8, .i16] 24 (List.replicate 24 0)], .c (.ifr 117 [.i64] [(i : Int)])])) ∧
  (¬ np = n → leL lv (.tup [.agg [.val (.slice none 0 0), .int .i64 0, .int .u16 0, .run [.i8, .i16] 24 (List.replicate 24 0)], .c (.val (.iface 126 (.int .i64 1)))]))
theorem x_withSlots (m n m2 np : Nat) (l : List Int) (cap cap2 h : Int) (p : List Int) (q : Jl n m l) (v : VJ n l) (qp : Pq np m2 p) (hh : 1 ≤ h ∧ h ≤ 4) : Fex true TT (inlN true TT Cr4 (lookI (ILws l h n p cap)) 6) Cr4 U0 Tryd.f81 [.a (.agg [.slc 0 0 0 2 n cap, .int .i64 h]), .a (.c (.slc 1 0 0 2 np cap2))] [Tks m l, .cells false 89 [.run [.i8, .i16] m2 p]] (fun lv _ => WsP l h n np p cap lv) := by
  refine Go.Sx.by_eq (q := True ∧ True ∧ True ∧ True ∧ True ∧ True ∧ True ∧ True ∧ True ∧ True ∧ (((↑np : Int) != (↑n : Int)) = Bool.true → True ∧ True ∧ True ∧ True ∧ (np = n → fwO l h n p = Option.none → (((0 : Int) = (0 : Int) ∧ (↑n : Int) = (0 : Int) ∧ cap = (0 : Int)) ∧ (Go.IntKind.i64 = Go.IntKind.i64 ∧ (0 : Int) = h) ∧ (Go.IntKind.u16 = Go.IntKind.u16 ∧ (0 : Int) = (↑(bsF (okB h p) n) : Int)) ∧ ([Go.Sx.EK.i8, Go.Sx.EK.i16] = [Go.Sx.EK.i8, Go.Sx.EK.i16] ∧ (24 : Nat) = (24 : Nat) ∧ List.replicate (24 : Nat) (0 : Int) = psA n p) ∧ True) ∧ Go.Sx.Cel.val (Go.Value.iface (126 : Nat) (Go.Value.int Go.IntKind.i64 (1 : Int))) = Go.Sx.Cel.val Go.Value.nilIface ∧ True) ∧ (∀ (i : Nat), np = n → fwO l h n p = Option.some i → (Go.Sx.Cel.val (Go.Value.slice Option.none (0 : Nat) (0 : Nat)) = Go.Sx.Cel.val (Go.Value.slice Option.none (0 : Nat) (0 : Nat)) ∧ (Go.IntKind.i64 = Go.IntKind.i64 ∧ (0 : Int) = (0 : Int)) ∧ (Go.IntKind.u16 = Go.IntKind.u16 ∧ (0 : Int) = (0 : Int)) ∧ ([Go.Sx.EK.i8, Go.Sx.EK.i16] = [Go.Sx.EK.i8, Go.Sx.EK.i16] ∧ (24 : Nat) = (24 : Nat) ∧ List.replicate (24 : Nat) (0 : Int) = List.replicate (24 : Nat) (0 : Int)) ∧ True) ∧ Go.Sx.Cel.val (Go.Value.iface (126 : Nat) (Go.Value.int Go.IntKind.i64 (1 : Int))) = Go.Sx.Cel.ifr (117 : Nat) [Go.Sx.EK.i64] [(↑i : Int)] ∧ True) ∧ (¬np = n → (Go.Sx.Cel.val (Go.Value.slice Option.none (0 : Nat) (0 : Nat)) = Go.Sx.Cel.val (Go.Value.slice Option.none (0 : Nat) (0 : Nat)) ∧ (Go.IntKind.i64 = Go.IntKind.i64 ∧ (0 : Int) = (0 : Int)) ∧ (Go.IntKind.u16 = Go.IntKind.u16 ∧ (0 : Int) = (0 : Int)) ∧ ([Go.Sx.EK.i8, Go.Sx.EK.i16] = [Go.Sx.EK.i8, Go.Sx.EK.i16] ∧ (24 : Nat) = (24 : Nat) ∧ List.replicate (24 : Nat) (0 : Int) = List.replicate (24 : Nat) (0 : Int)) ∧ True) ∧ Go.Sx.Cel.val (Go.Value.iface (126 : Nat) (Go.Value.int Go.IntKind.i64 (1 : Int))) = Go.Sx.Cel.val (Go.Value.iface (126 : Go.TypeId) (Go.Value.int Go.IntKind.i64 (1 : Int))) ∧ True)) ∧ (((↑np : Int) != (↑n : Int)) = Bool.false → True ∧ True ∧ True ∧ True ∧ True ∧ ((0 : Int) ≤ (0 : Int) ∧ (0 : Int) ≤ (↑(12 : Nat) : Int) ∧ (↑(12 : Nat) : Int) ≤ (↑(12 : Nat) : Int) ∧ (↑(12 : Nat) : Int) ≤ (↑(12 : Nat) : Int)) ∧ True ∧ ((0 : Int) ≤ (0 : Int) ∧ (0 : Int) ≤ (0 : Int) ∧ (Int.toNat (0 : Int) + Int.toNat ((↑(12 : Nat) : Int) - (0 : Int))) * (2 : Nat) ≤ (24 : Nat) ∧ (Int.toNat (0 : Int) + Int.toNat (↑np : Int)) * (2 : Nat) ≤ m2) ∧ True ∧ True ∧ ((0 : Int) ≤ (↑n : Int) ∧ (↑n : Int) ≤ (12 : Int)) ∧ True ∧ True ∧ True ∧ True ∧ True ∧ (∃ (x : Nat), (x ≤ (12 : Nat) ∧ ((1 : Int) = (2 : Int) → ∀ (j : Nat), j < x → j < n → ftB l h n p j = Bool.false)) ∧ (Go.Sx.Cel.yld (8 : Nat) = Go.Sx.Cel.yld (8 : Nat) ∧ Go.Sx.Cel.ptr (7 : Nat) (0 : Nat) = Go.Sx.Cel.ptr (7 : Nat) (0 : Nat) ∧ Go.Sx.Cel.val Go.undef = Go.Sx.Cel.val Go.undef ∧ True ∧ (Go.IntKind.i64 = Go.IntKind.i64 ∧ (0 : Int) = (↑x : Int)) ∧ True ∧ True ∧ True ∧ True ∧ True ∧ True ∧ True ∧ True ∧ True ∧ True ∧ True ∧ True ∧ True) ∧ (Bool.false = Bool.false ∧ (80 : Nat) = (80 : Nat) ∧ ([Go.Sx.EK.i64, Go.Sx.EK.u16] = [Go.Sx.EK.i64, Go.Sx.EK.u16] ∧ m = m ∧ l = l) ∧ True) ∧ (Bool.false = Bool.false ∧ (89 : Nat) = (89 : Nat) ∧ ([Go.Sx.EK.i8, Go.Sx.EK.i16] = [Go.Sx.EK.i8, Go.Sx.EK.i16] ∧ m2 = m2 ∧ p = p) ∧ True) ∧ (Bool.true = Bool.true ∧ (86 : Nat) = (86 : Nat) ∧ Go.Sx.Cel.slc (0 : Nat) (0 : Nat) (0 : Int) (2 : Nat) (↑n : Int) cap = Go.Sx.Cel.slc (0 : Nat) (0 : Nat) (0 : Int) (2 : Nat) (↑n : Int) cap ∧ (Go.IntKind.i64 = Go.IntKind.i64 ∧ h = h) ∧ True) ∧ (Bool.true = Bool.true ∧ (45 : Nat) = (45 : Nat) ∧ Go.Sx.Cel.slc (1 : Nat) (0 : Nat) (0 : Int) (2 : Nat) (↑np : Int) cap2 = Go.Sx.Cel.slc (1 : Nat) (0 : Nat) (0 : Int) (2 : Nat) (↑np : Int) cap2 ∧ True) ∧ (Bool.true = Bool.true ∧ (92 : Nat) = (92 : Nat) ∧ Go.Sx.Cel.val (Go.Value.slice Option.none (0 : Nat) (0 : Nat)) = Go.Sx.Cel.val (Go.Value.slice Option.none (0 : Nat) (0 : Nat)) ∧ (Go.IntKind.i64 = Go.IntKind.i64 ∧ (0 : Int) = (0 : Int)) ∧ (Go.IntKind.u16 = Go.IntKind.u16 ∧ (0 : Int) = (0 : Int)) ∧ ([Go.Sx.EK.i8, Go.Sx.EK.i16] = [Go.Sx.EK.i8, Go.Sx.EK.i16] ∧ (24 : Nat) = (24 : Nat) ∧ List.replicate (24 : Nat) (0 : Int) = List.replicate (24 : Nat) (0 : Int)) ∧ True) ∧ (Bool.true = Bool.true ∧ (70 : Nat) = (70 : Nat) ∧ Go.Sx.Cel.val Go.Value.nilIface = Go.Sx.Cel.val Go.Value.nilIface ∧ True) ∧ (Bool.true = Bool.true ∧ (92 : Nat) = (92 : Nat) ∧ Go.Sx.Cel.slc (0 : Nat) (0 : Nat) (0 : Int) (2 : Nat) (↑n : Int) cap = Go.Sx.Cel.slc (0 : Nat) (0 : Nat) (0 : Int) (2 : Nat) (↑n : Int) cap ∧ (Go.IntKind.i64 = Go.IntKind.i64 ∧ h = h) ∧ (Go.IntKind.u16 = Go.IntKind.u16 ∧ (0 : Int) = (↑(Int.toNat (0 : Int) ||| bsF (okN h n p) x) : Int)) ∧ ([Go.Sx.EK.i8, Go.Sx.EK.i16] = [Go.Sx.EK.i8, Go.Sx.EK.i16] ∧ (24 : Nat) = (24 : Nat) ∧ List.take (Int.toNat (0 : Int) * (2 : Nat)) (List.replicate (24 : Nat) (0 : Int)) ++ List.take (Min.min (Int.toNat (↑np : Int)) (Int.toNat ((↑(12 : Nat) : Int) - (0 : Int))) * (2 : Nat)) (List.drop (Int.toNat (0 : Int) * (2 : Nat)) p) ++ List.drop ((Int.toNat (0 : Int) + Min.min (Int.toNat (↑np : Int)) (Int.toNat ((↑(12 : Nat) : Int) - (0 : Int)))) * (2 : Nat)) (List.replicate (24 : Nat) (0 : Int)) = psA n p) ∧ True) ∧ (Bool.true = Bool.true ∧ (78 : Nat) = (78 : Nat) ∧ (Go.IntKind.u16 = Go.IntKind.u16 ∧ (↑((2 : Nat) ^ Int.toNat (↑n : Int) - (1 : Nat)) : Int) = (↑((2 : Nat) ^ Int.toNat (↑n : Int) - (1 : Nat)) : Int)) ∧ True) ∧ (Go.LoopState.ready = Go.LoopState.ready ∧ (Option.none : Option Go.Code) = Option.none) ∧ True) ∧ ∀ (x : Nat), x ≤ (12 : Nat) ∧ ((1 : Int) = (2 : Int) → ∀ (j : Nat), j < x → j < n → ftB l h n p j = Bool.false) → True ∧ (Decidable.decide ((↑x : Int) < (12 : Int)) = Bool.true → True ∧ True ∧ True ∧ True ∧ (((0 : Int) ≤ (↑((2 : Nat) ^ Int.toNat (↑n : Int) - (1 : Nat)) : Int) ∧ (↑((2 : Nat) ^ Int.toNat (↑n : Int) - (1 : Nat)) : Int) ≤ (65535 : Int)) ∧ (0 : Int) ≤ (↑x : Int) ∧ (↑x : Int) < (16 : Int)) ∧ True ∧ (Nat.testBit (Int.toNat (↑((2 : Nat) ^ Int.toNat (↑n : Int) - (1 : Nat)) : Int)) (Int.toNat (↑x : Int)) = Bool.true → True ∧ True ∧ True ∧ True ∧ True ∧ True ∧ ((0 : Int) ≤ (↑x : Int) ∧ (↑x : Int) < (↑np : Int)) ∧ ((0 : Int) ≤ (0 : Int) + (↑x : Int) ∧ Int.toNat ((0 : Int) + (↑x : Int)) * (2 : Nat) + (0 : Nat) + (2 : Nat) ≤ m2) ∧ (((0 : Nat) = (0 : Nat) ∧ (0 : Int) = (0 : Int) ∧ (2 : Nat) = (2 : Nat)) ∧ ((1 : Int) ≤ h ∧ h ≤ (4 : Int)) ∧ SW (1 : Nat) (List.take (2 : Nat) (List.drop (Int.toNat ((0 : Int) + (↑x : Int)) * (2 : Nat) + (0 : Nat)) p))) ∧ (okB h (List.take (2 : Nat) (List.drop (Int.toNat ((0 : Int) + (↑x : Int)) * (2 : Nat) + (0 : Nat)) p)) (0 : Nat) = Bool.true → True ∧ True ∧ True ∧ ((0 : Int) ≤ (↑x : Int) ∧ (↑x : Int) < (16 : Int)) ∧ True ∧ True ∧ True ∧ True ∧ True ∧ ((-9223372036854775808 : Int) ≤ (↑x : Int) + (1 : Int) ∧ (↑x : Int) + (1 : Int) ≤ (9223372036854775807 : Int)) ∧ True ∧ ∃ (y : Nat), (y ≤ (12 : Nat) ∧ ((1 : Int) = (2 : Int) → ∀ (j : Nat), j < y → j < n → ftB l h n p j = Bool.false)) ∧ (12 : Nat) - y < (12 : Nat) - x ∧ (Go.Sx.Cel.yld (8 : Nat) = Go.Sx.Cel.yld (8 : Nat) ∧ Go.Sx.Cel.ptr (7 : Nat) (0 : Nat) = Go.Sx.Cel.ptr (7 : Nat) (0 : Nat) ∧ Go.Sx.Cel.val Go.undef = Go.Sx.Cel.val Go.undef ∧ True ∧ (Go.IntKind.i64 = Go.IntKind.i64 ∧ (↑x : Int) + (1 : Int) = (↑y : Int)) ∧ True ∧ True ∧ True ∧ True ∧ True ∧ True ∧ True ∧ True ∧ True ∧ True ∧ True ∧ True ∧ True) ∧ (Bool.false = Bool.false ∧ (80 : Nat) = (80 : Nat) ∧ ([Go.Sx.EK.i64, Go.Sx.EK.u16] = [Go.Sx.EK.i64, Go.Sx.EK.u16] ∧ m = m ∧ l = l) ∧ True) ∧ (Bool.false = Bool.false ∧ (89 : Nat) = (89 : Nat) ∧ ([Go.Sx.EK.i8, Go.Sx.EK.i16] = [Go.Sx.EK.i8, Go.Sx.EK.i16] ∧ m2 = m2 ∧ p = p) ∧ True) ∧ (Bool.true = Bool.true ∧ (86 : Nat) = (86 : Nat) ∧ Go.Sx.Cel.slc (0 : Nat) (0 : Nat) (0 : Int) (2 : Nat) (↑n : Int) cap = Go.Sx.Cel.slc (0 : Nat) (0 : Nat) (0 : Int) (2 : Nat) (↑n : Int) cap ∧ (Go.IntKind.i64 = Go.IntKind.i64 ∧ h = h) ∧ True) ∧ (Bool.true = Bool.true ∧ (45 : Nat) = (45 : Nat) ∧ Go.Sx.Cel.slc (1 : Nat) (0 : Nat) (0 : Int) (2 : Nat) (↑np : Int) cap2 = Go.Sx.Cel.slc (1 : Nat) (0 : Nat) (0 : Int) (2 : Nat) (↑np : Int) cap2 ∧ True) ∧ (Bool.true = Bool.true ∧ (92 : Nat) = (92 : Nat) ∧ Go.Sx.Cel.val (Go.Value.slice Option.none (0 : Nat) (0 : Nat)) = Go.Sx.Cel.val (Go.Value.slice Option.none (0 : Nat) (0 : Nat)) ∧ (Go.IntKind.i64 = Go.IntKind.i64 ∧ (0 : Int) = (0 : Int)) ∧ (Go.IntKind.u16 = Go.IntKind.u16 ∧ (0 : Int) = (0 : Int)) ∧ ([Go.Sx.EK.i8, Go.Sx.EK.i16] = [Go.Sx.EK.i8, Go.Sx.EK.i16] ∧ (24 : Nat) = (24 : Nat) ∧ List.replicate (24 : Nat) (0 : Int) = List.replicate (24 : Nat) (0 : Int)) ∧ True) ∧ (Bool.true = Bool.true ∧ (70 : Nat) = (70 : Nat) ∧ Go.Sx.Cel.val Go.Value.nilIface = Go.Sx.Cel.val Go.Value.nilIface ∧ True) ∧ (Bool.true = Bool.true ∧ (92 : Nat) = (92 : Nat) ∧ Go.Sx.Cel.slc (0 : Nat) (0 : Nat) (0 : Int) (2 : Nat) (↑n : Int) cap = Go.Sx.Cel.slc (0 : Nat) (0 : Nat) (0 : Int) (2 : Nat) (↑n : Int) cap ∧ (Go.IntKind.i64 = Go.IntKind.i64 ∧ h = h) ∧ (Go.IntKind.u16 = Go.IntKind.u16 ∧ Go.Sx.bOr Go.IntKind.u16 (↑(Int.toNat (0 : Int) ||| bsF (okN h n p) x) : Int) (↑((2 : Nat) ^ Int.toNat (↑x : Int)) : Int) = (↑(Int.toNat (0 : Int) ||| bsF (okN h n p) y) : Int)) ∧ ([Go.Sx.EK.i8, Go.Sx.EK.i16] = [Go.Sx.EK.i8, Go.Sx.EK.i16] ∧ (24 : Nat) = (24 : Nat) ∧ psA n p = psA n p) ∧ True) ∧ (Bool.true = Bool.true ∧ (78 : Nat) = (78 : Nat) ∧ (Go.IntKind.u16 = Go.IntKind.u16 ∧ (↑((2 : Nat) ^ Int.toNat (↑n : Int) - (1 : Nat)) : Int) = (↑((2 : Nat) ^ Int.toNat (↑n : Int) - (1 : Nat)) : Int)) ∧ True) ∧ (Go.LoopState.ready = Go.LoopState.ready ∧ (Option.none : Option Go.Code) = Option.none) ∧ True) ∧ (okB h (List.take (2 : Nat) (List.drop (Int.toNat ((0 : Int) + (↑x : Int)) * (2 : Nat) + (0 : Nat)) p)) (0 : Nat) = Bool.false → True ∧ True ∧ ((-9223372036854775808 : Int) ≤ (↑x : Int) + (1 : Int) ∧ (↑x : Int) + (1 : Int) ≤ (9223372036854775807 : Int)) ∧ True ∧ ∃ (y : Nat), (y ≤ (12 : Nat) ∧ ((1 : Int) = (2 : Int) → ∀ (j : Nat), j < y → j < n → ftB l h n p j = Bool.false)) ∧ (12 : Nat) - y < (12 : Nat) - x ∧ (Go.Sx.Cel.yld (8 : Nat) = Go.Sx.Cel.yld (8 : Nat) ∧ Go.Sx.Cel.ptr (7 : Nat) (0 : Nat) = Go.Sx.Cel.ptr (7 : Nat) (0 : Nat) ∧ Go.Sx.Cel.val Go.undef = Go.Sx.Cel.val Go.undef ∧ True ∧ (Go.IntKind.i64 = Go.IntKind.i64 ∧ (↑x : Int) + (1 : Int) = (↑y : Int)) ∧ True ∧ True ∧ True ∧ True ∧ True ∧ True ∧ True ∧ True ∧ True ∧ True ∧ True ∧ True ∧ True) ∧ (Bool.false = Bool.false ∧ (80 : Nat) = (80 : Nat) ∧ ([Go.Sx.EK.i64, Go.Sx.EK.u16] = [Go.Sx.EK.i64, Go.Sx.EK.u16] ∧ m = m ∧ l = l) ∧ True) ∧ (Bool.false = Bool.false ∧ (89 : Nat) = (89 : Nat) ∧ ([Go.Sx.EK.i8, Go.Sx.EK.i16] = [Go.Sx.EK.i8, Go.Sx.EK.i16] ∧ m2 = m2 ∧ p = p) ∧ True) ∧ (Bool.true = Bool.true ∧ (86 : Nat) = (86 : Nat) ∧ Go.Sx.Cel.slc (0 : Nat) (0 : Nat) (0 : Int) (2 : Nat) (↑n : Int) cap = Go.Sx.Cel.slc (0 : Nat) (0 : Nat) (0 : Int) (2 : Nat) (↑n : Int) cap ∧ (Go.IntKind.i64 = Go.IntKind.i64 ∧ h = h) ∧ True) ∧ (Bool.true = Bool.true ∧ (45 : Nat) = (45 : Nat) ∧ Go.Sx.Cel.slc (1 : Nat) (0 : Nat) (0 : Int) (2 : Nat) (↑np : Int) cap2 = Go.Sx.Cel.slc (1 : Nat) (0 : Nat) (0 : Int) (2 : Nat) (↑np : Int) cap2 ∧ True) ∧ (Bool.true = Bool.true ∧ (92 : Nat) = (92 : Nat) ∧ Go.Sx.Cel.val (Go.Value.slice Option.none (0 : Nat) (0 : Nat)) = Go.Sx.Cel.val (Go.Value.slice Option.none (0 : Nat) (0 : Nat)) ∧ (Go.IntKind.i64 = Go.IntKind.i64 ∧ (0 : Int) = (0 : Int)) ∧ (Go.IntKind.u16 = Go.IntKind.u16 ∧ (0 : Int) = (0 : Int)) ∧ ([Go.Sx.EK.i8, Go.Sx.EK.i16] = [Go.Sx.EK.i8, Go.Sx.EK.i16] ∧ (24 : Nat) = (24 : Nat) ∧ List.replicate (24 : Nat) (0 : Int) = List.replicate (24 : Nat) (0 : Int)) ∧ True) ∧ (Bool.true = Bool.true ∧ (70 : Nat) = (70 : Nat) ∧ Go.Sx.Cel.val Go.Value.nilIface = Go.Sx.Cel.val Go.Value.nilIface ∧ True) ∧ (Bool.true = Bool.true ∧ (92 : Nat) = (92 : Nat) ∧ Go.Sx.Cel.slc (0 : Nat) (0 : Nat) (0 : Int) (2 : Nat) (↑n : Int) cap = Go.Sx.Cel.slc (0 : Nat) (0 : Nat) (0 : Int) (2 : Nat) (↑n : Int) cap ∧ (Go.IntKind.i64 = Go.IntKind.i64 ∧ h = h) ∧ (Go.IntKind.u16 = Go.IntKind.u16 ∧ (↑(Int.toNat (0 : Int) ||| bsF (okN h n p) x) : Int) = (↑(Int.toNat (0 : Int) ||| bsF (okN h n p) y) : Int)) ∧ ([Go.Sx.EK.i8, Go.Sx.EK.i16] = [Go.Sx.EK.i8, Go.Sx.EK.i16] ∧ (24 : Nat) = (24 : Nat) ∧ psA n p = psA n p) ∧ True) ∧ (Bool.true = Bool.true ∧ (78 : Nat) = (78 : Nat) ∧ (Go.IntKind.u16 = Go.IntKind.u16 ∧ (↑((2 : Nat) ^ Int.toNat (↑n : Int) - (1 : Nat)) : Int) = (↑((2 : Nat) ^ Int.toNat (↑n : Int) - (1 : Nat)) : Int)) ∧ True) ∧ (Go.LoopState.ready = Go.LoopState.ready ∧ (Option.none : Option Go.Code) = Option.none) ∧ True)) ∧ (Nat.testBit (Int.toNat (↑((2 : Nat) ^ Int.toNat (↑n : Int) - (1 : Nat)) : Int)) (Int.toNat (↑x : Int)) = !Bool.true → True ∧ ((-9223372036854775808 : Int) ≤ (↑x : Int) + (1 : Int) ∧ (↑x : Int) + (1 : Int) ≤ (9223372036854775807 : Int)) ∧ True ∧ ∃ (y : Nat), (y ≤ (12 : Nat) ∧ ((1 : Int) = (2 : Int) → ∀ (j : Nat), j < y → j < n → ftB l h n p j = Bool.false)) ∧ (12 : Nat) - y < (12 : Nat) - x ∧ (Go.Sx.Cel.yld (8 : Nat) = Go.Sx.Cel.yld (8 : Nat) ∧ Go.Sx.Cel.ptr (7 : Nat) (0 : Nat) = Go.Sx.Cel.ptr (7 : Nat) (0 : Nat) ∧ Go.Sx.Cel.val Go.undef = Go.Sx.Cel.val Go.undef ∧ True ∧ (Go.IntKind.i64 = Go.IntKind.i64 ∧ (↑x : Int) + (1 : Int) = (↑y : Int)) ∧ True ∧ True ∧ True ∧ True ∧ True ∧ True ∧ True ∧ True ∧ True ∧ True ∧ True ∧ True ∧ True) ∧ (Bool.false = Bool.false ∧ (80 : Nat) = (80 : Nat) ∧ ([Go.Sx.EK.i64, Go.Sx.EK.u16] = [Go.Sx.EK.i64, Go.Sx.EK.u16] ∧ m = m ∧ l = l) ∧ True) ∧ (Bool.false = Bool.false ∧ (89 : Nat) = (89 : Nat) ∧ ([Go.Sx.EK.i8, Go.Sx.EK.i16] = [Go.Sx.EK.i8, Go.Sx.EK.i16] ∧ m2 = m2 ∧ p = p) ∧ True) ∧ (Bool.true = Bool.true ∧ (86 : Nat) = (86 : Nat) ∧ Go.Sx.Cel.slc (0 : Nat) (0 : Nat) (0 : Int) (2 : Nat) (↑n : Int) cap = Go.Sx.Cel.slc (0 : Nat) (0 : Nat) (0 : Int) (2 : Nat) (↑n : Int) cap ∧ (Go.IntKind.i64 = Go.IntKind.i64 ∧ h = h) ∧ True) ∧ (Bool.true = Bool.true ∧ (45 : Nat) = (45 : Nat) ∧ Go.Sx.Cel.slc (1 : Nat) (0 : Nat) (0 : Int) (2 : Nat) (↑np : Int) cap2 = Go.Sx.Cel.slc (1 : Nat) (0 : Nat) (0 : Int) (2 : Nat) (↑np : Int) cap2 ∧ True) ∧ (Bool.true = Bool.true ∧ (92 : Nat) = (92 : Nat) ∧ Go.Sx.Cel.val (Go.Value.slice Option.none (0 : Nat) (0 : Nat)) = Go.Sx.Cel.val (Go.Value.slice Option.none (0 : Nat) (0 : Nat)) ∧ (Go.IntKind.i64 = Go.IntKind.i64 ∧ (0 : Int) = (0 : Int)) ∧ (Go.IntKind.u16 = Go.IntKind.u16 ∧ (0 : Int) = (0 : Int)) ∧ ([Go.Sx.EK.i8, Go.Sx.EK.i16] = [Go.Sx.EK.i8, Go.Sx.EK.i16] ∧ (24 : Nat) = (24 : Nat) ∧ List.replicate (24 : Nat) (0 : Int) = List.replicate (24 : Nat) (0 : Int)) ∧ True) ∧ (Bool.true = Bool.true ∧ (70 : Nat) = (70 : Nat) ∧ Go.Sx.Cel.val Go.Value.nilIface = Go.Sx.Cel.val Go.Value.nilIface ∧ True) ∧ (Bool.true = Bool.true ∧ (92 : Nat) = (92 : Nat) ∧ Go.Sx.Cel.slc (0 : Nat) (0 : Nat) (0 : Int) (2 : Nat) (↑n : Int) cap = Go.Sx.Cel.slc (0 : Nat) (0 : Nat) (0 : Int) (2 : Nat) (↑n : Int) cap ∧ (Go.IntKind.i64 = Go.IntKind.i64 ∧ h = h) ∧ (Go.IntKind.u16 = Go.IntKind.u16 ∧ (↑(Int.toNat (0 : Int) ||| bsF (okN h n p) x) : Int) = (↑(Int.toNat (0 : Int) ||| bsF (okN h n p) y) : Int)) ∧ ([Go.Sx.EK.i8, Go.Sx.EK.i16] = [Go.Sx.EK.i8, Go.Sx.EK.i16] ∧ (24 : Nat) = (24 : Nat) ∧ psA n p = psA n p) ∧ True) ∧ (Bool.true = Bool.true ∧ (78 : Nat) = (78 : Nat) ∧ (Go.IntKind.u16 = Go.IntKind.u16 ∧ (↑((2 : Nat) ^ Int.toNat (↑n : Int) - (1 : Nat)) : Int) = (↑((2 : Nat) ^ Int.toNat (↑n : Int) - (1 : Nat)) : Int)) ∧ True) ∧ (Go.LoopState.ready = Go.LoopState.ready ∧ (Option.none : Option Go.Code) = Option.none) ∧ True)) ∧ (Decidable.decide ((↑x : Int) < (12 : Int)) = Bool.false → True ∧ True ∧ ((0 : Int) ≤ (↑n : Int) ∧ (↑n : Int) ≤ (12 : Int)) ∧ True ∧ True ∧ True ∧ True ∧ True ∧ (∃ (x_1 : Nat), (x_1 ≤ (12 : Nat) ∧ ((2 : Int) = (2 : Int) → ∀ (j : Nat), j < x_1 → j < n → ftB l h n p j = Bool.false)) ∧ (Go.Sx.Cel.yld (10 : Nat) = Go.Sx.Cel.yld (10 : Nat) ∧ Go.Sx.Cel.ptr (9 : Nat) (0 : Nat) = Go.Sx.Cel.ptr (9 : Nat) (0 : Nat) ∧ Go.Sx.Cel.val Go.undef = Go.Sx.Cel.val Go.undef ∧ True ∧ (Go.IntKind.i64 = Go.IntKind.i64 ∧ (0 : Int) = (↑x_1 : Int)) ∧ True ∧ True ∧ True ∧ True ∧ True ∧ True ∧ True ∧ True ∧ True ∧ True ∧ True ∧ True ∧ True) ∧ (Bool.false = Bool.false ∧ (80 : Nat) = (80 : Nat) ∧ ([Go.Sx.EK.i64, Go.Sx.EK.u16] = [Go.Sx.EK.i64, Go.Sx.EK.u16] ∧ m = m ∧ l = l) ∧ True) ∧ (Bool.false = Bool.false ∧ (89 : Nat) = (89 : Nat) ∧ ([Go.Sx.EK.i8, Go.Sx.EK.i16] = [Go.Sx.EK.i8, Go.Sx.EK.i16] ∧ m2 = m2 ∧ p = p) ∧ True) ∧ (Bool.true = Bool.true ∧ (86 : Nat) = (86 : Nat) ∧ Go.Sx.Cel.slc (0 : Nat) (0 : Nat) (0 : Int) (2 : Nat) (↑n : Int) cap = Go.Sx.Cel.slc (0 : Nat) (0 : Nat) (0 : Int) (2 : Nat) (↑n : Int) cap ∧ (Go.IntKind.i64 = Go.IntKind.i64 ∧ h = h) ∧ True) ∧ (Bool.true = Bool.true ∧ (45 : Nat) = (45 : Nat) ∧ Go.Sx.Cel.slc (1 : Nat) (0 : Nat) (0 : Int) (2 : Nat) (↑np : Int) cap2 = Go.Sx.Cel.slc (1 : Nat) (0 : Nat) (0 : Int) (2 : Nat) (↑np : Int) cap2 ∧ True) ∧ (Bool.true = Bool.true ∧ (92 : Nat) = (92 : Nat) ∧ Go.Sx.Cel.val (Go.Value.slice Option.none (0 : Nat) (0 : Nat)) = Go.Sx.Cel.val (Go.Value.slice Option.none (0 : Nat) (0 : Nat)) ∧ (Go.IntKind.i64 = Go.IntKind.i64 ∧ (0 : Int) = (0 : Int)) ∧ (Go.IntKind.u16 = Go.IntKind.u16 ∧ (0 : Int) = (0 : Int)) ∧ ([Go.Sx.EK.i8, Go.Sx.EK.i16] = [Go.Sx.EK.i8, Go.Sx.EK.i16] ∧ (24 : Nat) = (24 : Nat) ∧ List.replicate (24 : Nat) (0 : Int) = List.replicate (24 : Nat) (0 : Int)) ∧ True) ∧ (Bool.true = Bool.true ∧ (70 : Nat) = (70 : Nat) ∧ Go.Sx.Cel.val Go.Value.nilIface = Go.Sx.Cel.val Go.Value.nilIface ∧ True) ∧ (Bool.true = Bool.true ∧ (92 : Nat) = (92 : Nat) ∧ Go.Sx.Cel.slc (0 : Nat) (0 : Nat) (0 : Int) (2 : Nat) (↑n : Int) cap = Go.Sx.Cel.slc (0 : Nat) (0 : Nat) (0 : Int) (2 : Nat) (↑n : Int) cap ∧ (Go.IntKind.i64 = Go.IntKind.i64 ∧ h = h) ∧ (Go.IntKind.u16 = Go.IntKind.u16 ∧ (↑(Int.toNat (0 : Int) ||| bsF (okN h n p) x) : Int) = (↑(Int.toNat (↑(Int.toNat (0 : Int) ||| bsF (okN h n p) x) : Int) ||| bsF (okN h n p) x_1) : Int)) ∧ ([Go.Sx.EK.i8, Go.Sx.EK.i16] = [Go.Sx.EK.i8, Go.Sx.EK.i16] ∧ (24 : Nat) = (24 : Nat) ∧ psA n p = psA n p) ∧ True) ∧ (Bool.true = Bool.true ∧ (78 : Nat) = (78 : Nat) ∧ (Go.IntKind.u16 = Go.IntKind.u16 ∧ (↑((2 : Nat) ^ Int.toNat (↑n : Int) - (1 : Nat)) : Int) = (↑((2 : Nat) ^ Int.toNat (↑n : Int) - (1 : Nat)) : Int)) ∧ True) ∧ True ∧ (Bool.true = Bool.true ∧ (78 : Nat) = (78 : Nat) ∧ (Go.IntKind.u16 = Go.IntKind.u16 ∧ (↑((2 : Nat) ^ Int.toNat (↑n : Int) - (1 : Nat)) : Int) = (↑((2 : Nat) ^ Int.toNat (↑n : Int) - (1 : Nat)) : Int)) ∧ True) ∧ (Go.LoopState.ready = Go.LoopState.ready ∧ (Option.none : Option Go.Code) = Option.none) ∧ True) ∧ ∀ (x_1 : Nat), x_1 ≤ (12 : Nat) ∧ ((2 : Int) = (2 : Int) → ∀ (j : Nat), j < x_1 → j < n → ftB l h n p j = Bool.false) → True ∧ (Decidable.decide ((↑x_1 : Int) < (12 : Int)) = Bool.true → True ∧ True ∧ True ∧ True ∧ (((0 : Int) ≤ (↑((2 : Nat) ^ Int.toNat (↑n : Int) - (1 : Nat)) : Int) ∧ (↑((2 : Nat) ^ Int.toNat (↑n : Int) - (1 : Nat)) : Int) ≤ (65535 : Int)) ∧ (0 : Int) ≤ (↑x_1 : Int) ∧ (↑x_1 : Int) < (16 : Int)) ∧ True ∧ (Nat.testBit (Int.toNat (↑((2 : Nat) ^ Int.toNat (↑n : Int) - (1 : Nat)) : Int)) (Int.toNat (↑x_1 : Int)) = Bool.true → True ∧ True ∧ True ∧ True ∧ True ∧ (Rq (0 : Nat) (0 : Int) (2 : Nat) [Go.Sx.EK.i8, Go.Sx.EK.i16] (24 : Nat) (80 : Nat) [Go.Sx.EK.i64, Go.Sx.EK.u16] (↑n : Int) m l (psA n p) (↑(Int.toNat (↑(Int.toNat (0 : Int) ||| bsF (okN h n p) x) : Int) ||| bsF (okN h n p) x_1) : Int) ∧ (↑(Int.toNat (↑(Int.toNat (0 : Int) ||| bsF (okN h n p) x) : Int) ||| bsF (okN h n p) x_1) : Int) = (↑(bsF (okB h (psA n p)) (Int.toNat (↑n : Int))) : Int) ∧ (0 : Int) ≤ (↑x_1 : Int) ∧ (↑x_1 : Int) < (↑n : Int)) ∧ (ftB l h (Int.toNat (↑n : Int)) (psA n p) (Int.toNat (↑x_1 : Int)) = Bool.true → True ∧ True ∧ True ∧ True ∧ True ∧ True ∧ True ∧ True ∧ (np = n → fwO l h n p = Option.none → (((0 : Int) = (0 : Int) ∧ (↑n : Int) = (0 : Int) ∧ cap = (0 : Int)) ∧ (Go.IntKind.i64 = Go.IntKind.i64 ∧ (0 : Int) = h) ∧ (Go.IntKind.u16 = Go.IntKind.u16 ∧ (0 : Int) = (↑(bsF (okB h p) n) : Int)) ∧ ([Go.Sx.EK.i8, Go.Sx.EK.i16] = [Go.Sx.EK.i8, Go.Sx.EK.i16] ∧ (24 : Nat) = (24 : Nat) ∧ List.replicate (24 : Nat) (0 : Int) = psA n p) ∧ True) ∧ Go.Sx.Cel.ifr (117 : Nat) [Go.Sx.EK.i64] [(↑x_1 : Int)] = Go.Sx.Cel.val Go.Value.nilIface ∧ True) ∧ (∀ (i : Nat), np = n → fwO l h n p = Option.some i → (Go.Sx.Cel.val (Go.Value.slice Option.none (0 : Nat) (0 : Nat)) = Go.Sx.Cel.val (Go.Value.slice Option.none (0 : Nat) (0 : Nat)) ∧ (Go.IntKind.i64 = Go.IntKind.i64 ∧ (0 : Int) = (0 : Int)) ∧ (Go.IntKind.u16 = Go.IntKind.u16 ∧ (0 : Int) = (0 : Int)) ∧ ([Go.Sx.EK.i8, Go.Sx.EK.i16] = [Go.Sx.EK.i8, Go.Sx.EK.i16] ∧ (24 : Nat) = (24 : Nat) ∧ List.replicate (24 : Nat) (0 : Int) = List.replicate (24 : Nat) (0 : Int)) ∧ True) ∧ Go.Sx.Cel.ifr (117 : Nat) [Go.Sx.EK.i64] [(↑x_1 : Int)] = Go.Sx.Cel.ifr (117 : Nat) [Go.Sx.EK.i64] [(↑i : Int)] ∧ True) ∧ (¬np = n → (Go.Sx.Cel.val (Go.Value.slice Option.none (0 : Nat) (0 : Nat)) = Go.Sx.Cel.val (Go.Value.slice Option.none (0 : Nat) (0 : Nat)) ∧ (Go.IntKind.i64 = Go.IntKind.i64 ∧ (0 : Int) = (0 : Int)) ∧ (Go.IntKind.u16 = Go.IntKind.u16 ∧ (0 : Int) = (0 : Int)) ∧ ([Go.Sx.EK.i8, Go.Sx.EK.i16] = [Go.Sx.EK.i8, Go.Sx.EK.i16] ∧ (24 : Nat) = (24 : Nat) ∧ List.replicate (24 : Nat) (0 : Int) = List.replicate (24 : Nat) (0 : Int)) ∧ True) ∧ Go.Sx.Cel.ifr (117 : Nat) [Go.Sx.EK.i64] [(↑x_1 : Int)] = Go.Sx.Cel.val (Go.Value.iface (126 : Go.TypeId) (Go.Value.int Go.IntKind.i64 (1 : Int))) ∧ True)) ∧ (ftB l h (Int.toNat (↑n : Int)) (psA n p) (Int.toNat (↑x_1 : Int)) = Bool.false → True ∧ True ∧ ((-9223372036854775808 : Int) ≤ (↑x_1 : Int) + (1 : Int) ∧ (↑x_1 : Int) + (1 : Int) ≤ (9223372036854775807 : Int)) ∧ True ∧ ∃ (y : Nat), (y ≤ (12 : Nat) ∧ ((2 : Int) = (2 : Int) → ∀ (j : Nat), j < y → j < n → ftB l h n p j = Bool.false)) ∧ (12 : Nat) - y < (12 : Nat) - x_1 ∧ (Go.Sx.Cel.yld (10 : Nat) = Go.Sx.Cel.yld (10 : Nat) ∧ Go.Sx.Cel.ptr (9 : Nat) (0 : Nat) = Go.Sx.Cel.ptr (9 : Nat) (0 : Nat) ∧ Go.Sx.Cel.val Go.undef = Go.Sx.Cel.val Go.undef ∧ True ∧ (Go.IntKind.i64 = Go.IntKind.i64 ∧ (↑x_1 : Int) + (1 : Int) = (↑y : Int)) ∧ True ∧ True ∧ True ∧ True ∧ True ∧ True ∧ True ∧ True ∧ True ∧ True ∧ True ∧ True ∧ True) ∧ (Bool.false = Bool.false ∧ (80 : Nat) = (80 : Nat) ∧ ([Go.Sx.EK.i64, Go.Sx.EK.u16] = [Go.Sx.EK.i64, Go.Sx.EK.u16] ∧ m = m ∧ l = l) ∧ True) ∧ (Bool.false = Bool.false ∧ (89 : Nat) = (89 : Nat) ∧ ([Go.Sx.EK.i8, Go.Sx.EK.i16] = [Go.Sx.EK.i8, Go.Sx.EK.i16] ∧ m2 = m2 ∧ p = p) ∧ True) ∧ (Bool.true = Bool.true ∧ (86 : Nat) = (86 : Nat) ∧ Go.Sx.Cel.slc (0 : Nat) (0 : Nat) (0 : Int) (2 : Nat) (↑n : Int) cap = Go.Sx.Cel.slc (0 : Nat) (0 : Nat) (0 : Int) (2 : Nat) (↑n : Int) cap ∧ (Go.IntKind.i64 = Go.IntKind.i64 ∧ h = h) ∧ True) ∧ (Bool.true = Bool.true ∧ (45 : Nat) = (45 : Nat) ∧ Go.Sx.Cel.slc (1 : Nat) (0 : Nat) (0 : Int) (2 : Nat) (↑np : Int) cap2 = Go.Sx.Cel.slc (1 : Nat) (0 : Nat) (0 : Int) (2 : Nat) (↑np : Int) cap2 ∧ True) ∧ (Bool.true = Bool.true ∧ (92 : Nat) = (92 : Nat) ∧ Go.Sx.Cel.val (Go.Value.slice Option.none (0 : Nat) (0 : Nat)) = Go.Sx.Cel.val (Go.Value.slice Option.none (0 : Nat) (0 : Nat)) ∧ (Go.IntKind.i64 = Go.IntKind.i64 ∧ (0 : Int) = (0 : Int)) ∧ (Go.IntKind.u16 = Go.IntKind.u16 ∧ (0 : Int) = (0 : Int)) ∧ ([Go.Sx.EK.i8, Go.Sx.EK.i16] = [Go.Sx.EK.i8, Go.Sx.EK.i16] ∧ (24 : Nat) = (24 : Nat) ∧ List.replicate (24 : Nat) (0 : Int) = List.replicate (24 : Nat) (0 : Int)) ∧ True) ∧ (Bool.true = Bool.true ∧ (70 : Nat) = (70 : Nat) ∧ Go.Sx.Cel.val Go.Value.nilIface = Go.Sx.Cel.val Go.Value.nilIface ∧ True) ∧ (Bool.true = Bool.true ∧ (92 : Nat) = (92 : Nat) ∧ Go.Sx.Cel.slc (0 : Nat) (0 : Nat) (0 : Int) (2 : Nat) (↑n : Int) cap = Go.Sx.Cel.slc (0 : Nat) (0 : Nat) (0 : Int) (2 : Nat) (↑n : Int) cap ∧ (Go.IntKind.i64 = Go.IntKind.i64 ∧ h = h) ∧ (Go.IntKind.u16 = Go.IntKind.u16 ∧ (↑(Int.toNat (↑(Int.toNat (0 : Int) ||| bsF (okN h n p) x) : Int) ||| bsF (okN h n p) x_1) : Int) = (↑(Int.toNat (↑(Int.toNat (0 : Int) ||| bsF (okN h n p) x) : Int) ||| bsF (okN h n p) y) : Int)) ∧ ([Go.Sx.EK.i8, Go.Sx.EK.i16] = [Go.Sx.EK.i8, Go.Sx.EK.i16] ∧ (24 : Nat) = (24 : Nat) ∧ psA n p = psA n p) ∧ True) ∧ (Bool.true = Bool.true ∧ (78 : Nat) = (78 : Nat) ∧ (Go.IntKind.u16 = Go.IntKind.u16 ∧ (↑((2 : Nat) ^ Int.toNat (↑n : Int) - (1 : Nat)) : Int) = (↑((2 : Nat) ^ Int.toNat (↑n : Int) - (1 : Nat)) : Int)) ∧ True) ∧ True ∧ (Bool.true = Bool.true ∧ (78 : Nat) = (78 : Nat) ∧ (Go.IntKind.u16 = Go.IntKind.u16 ∧ (↑((2 : Nat) ^ Int.toNat (↑n : Int) - (1 : Nat)) : Int) = (↑((2 : Nat) ^ Int.toNat (↑n : Int) - (1 : Nat)) : Int)) ∧ True) ∧ (Go.LoopState.ready = Go.LoopState.ready ∧ (Option.none : Option Go.Code) = Option.none) ∧ True)) ∧ (Nat.testBit (Int.toNat (↑((2 : Nat) ^ Int.toNat (↑n : Int) - (1 : Nat)) : Int)) (Int.toNat (↑x_1 : Int)) = !Bool.true → True ∧ ((-9223372036854775808 : Int) ≤ (↑x_1 : Int) + (1 : Int) ∧ (↑x_1 : Int) + (1 : Int) ≤ (9223372036854775807 : Int)) ∧ True ∧ ∃ (y : Nat), (y ≤ (12 : Nat) ∧ ((2 : Int) = (2 : Int) → ∀ (j : Nat), j < y → j < n → ftB l h n p j = Bool.false)) ∧ (12 : Nat) - y < (12 : Nat) - x_1 ∧ (Go.Sx.Cel.yld (10 : Nat) = Go.Sx.Cel.yld (10 : Nat) ∧ Go.Sx.Cel.ptr (9 : Nat) (0 : Nat) = Go.Sx.Cel.ptr (9 : Nat) (0 : Nat) ∧ Go.Sx.Cel.val Go.undef = Go.Sx.Cel.val Go.undef ∧ True ∧ (Go.IntKind.i64 = Go.IntKind.i64 ∧ (↑x_1 : Int) + (1 : Int) = (↑y : Int)) ∧ True ∧ True ∧ True ∧ True ∧ True ∧ True ∧ True ∧ True ∧ True ∧ True ∧ True ∧ True ∧ True) ∧ (Bool.false = Bool.false ∧ (80 : Nat) = (80 : Nat) ∧ ([Go.Sx.EK.i64, Go.Sx.EK.u16] = [Go.Sx.EK.i64, Go.Sx.EK.u16] ∧ m = m ∧ l = l) ∧ True) ∧ (Bool.false = Bool.false ∧ (89 : Nat) = (89 : Nat) ∧ ([Go.Sx.EK.i8, Go.Sx.EK.i16] = [Go.Sx.EK.i8, Go.Sx.EK.i16] ∧ m2 = m2 ∧ p = p) ∧ True) ∧ (Bool.true = Bool.true ∧ (86 : Nat) = (86 : Nat) ∧ Go.Sx.Cel.slc (0 : Nat) (0 : Nat) (0 : Int) (2 : Nat) (↑n : Int) cap = Go.Sx.Cel.slc (0 : Nat) (0 : Nat) (0 : Int) (2 : Nat) (↑n : Int) cap ∧ (Go.IntKind.i64 = Go.IntKind.i64 ∧ h = h) ∧ True) ∧ (Bool.true = Bool.true ∧ (45 : Nat) = (45 : Nat) ∧ Go.Sx.Cel.slc (1 : Nat) (0 : Nat) (0 : Int) (2 : Nat) (↑np : Int) cap2 = Go.Sx.Cel.slc (1 : Nat) (0 : Nat) (0 : Int) (2 : Nat) (↑np : Int) cap2 ∧ True) ∧ (Bool.true = Bool.true ∧ (92 : Nat) = (92 : Nat) ∧ Go.Sx.Cel.val (Go.Value.slice Option.none (0 : Nat) (0 : Nat)) = Go.Sx.Cel.val (Go.Value.slice Option.none (0 : Nat) (0 : Nat)) ∧ (Go.IntKind.i64 = Go.IntKind.i64 ∧ (0 : Int) = (0 : Int)) ∧ (Go.IntKind.u16 = Go.IntKind.u16 ∧ (0 : Int) = (0 : Int)) ∧ ([Go.Sx.EK.i8, Go.Sx.EK.i16] = [Go.Sx.EK.i8, Go.Sx.EK.i16] ∧ (24 : Nat) = (24 : Nat) ∧ List.replicate (24 : Nat) (0 : Int) = List.replicate (24 : Nat) (0 : Int)) ∧ True) ∧ (Bool.true = Bool.true ∧ (70 : Nat) = (70 : Nat) ∧ Go.Sx.Cel.val Go.Value.nilIface = Go.Sx.Cel.val Go.Value.nilIface ∧ True) ∧ (Bool.true = Bool.true ∧ (92 : Nat) = (92 : Nat) ∧ Go.Sx.Cel.slc (0 : Nat) (0 : Nat) (0 : Int) (2 : Nat) (↑n : Int) cap = Go.Sx.Cel.slc (0 : Nat) (0 : Nat) (0 : Int) (2 : Nat) (↑n : Int) cap ∧ (Go.IntKind.i64 = Go.IntKind.i64 ∧ h = h) ∧ (Go.IntKind.u16 = Go.IntKind.u16 ∧ (↑(Int.toNat (↑(Int.toNat (0 : Int) ||| bsF (okN h n p) x) : Int) ||| bsF (okN h n p) x_1) : Int) = (↑(Int.toNat (↑(Int.toNat (0 : Int) ||| bsF (okN h n p) x) : Int) ||| bsF (okN h n p) y) : Int)) ∧ ([Go.Sx.EK.i8, Go.Sx.EK.i16] = [Go.Sx.EK.i8, Go.Sx.EK.i16] ∧ (24 : Nat) = (24 : Nat) ∧ psA n p = psA n p) ∧ True) ∧ (Bool.true = Bool.true ∧ (78 : Nat) = (78 : Nat) ∧ (Go.IntKind.u16 = Go.IntKind.u16 ∧ (↑((2 : Nat) ^ Int.toNat (↑n : Int) - (1 : Nat)) : Int) = (↑((2 : Nat) ^ Int.toNat (↑n : Int) - (1 : Nat)) : Int)) ∧ True) ∧ True ∧ (Bool.true = Bool.true ∧ (78 : Nat) = (78 : Nat) ∧ (Go.IntKind.u16 = Go.IntKind.u16 ∧ (↑((2 : Nat) ^ Int.toNat (↑n : Int) - (1 : Nat)) : Int) = (↑((2 : Nat) ^ Int.toNat (↑n : Int) - (1 : Nat)) : Int)) ∧ True) ∧ (Go.LoopState.ready = Go.LoopState.ready ∧ (Option.none : Option Go.Code) = Option.none) ∧ True)) ∧ (Decidable.decide ((↑x_1 : Int) < (12 : Int)) = Bool.false → True ∧ True ∧ True ∧ (np = n → fwO l h n p = Option.none → (Go.Sx.Cel.slc (0 : Nat) (0 : Nat) (0 : Int) (2 : Nat) (↑n : Int) cap = Go.Sx.Cel.slc (0 : Nat) (0 : Nat) (0 : Int) (2 : Nat) (↑n : Int) cap ∧ (Go.IntKind.i64 = Go.IntKind.i64 ∧ h = h) ∧ (Go.IntKind.u16 = Go.IntKind.u16 ∧ (↑(Int.toNat (↑(Int.toNat (0 : Int) ||| bsF (okN h n p) x) : Int) ||| bsF (okN h n p) x_1) : Int) = (↑(bsF (okB h p) n) : Int)) ∧ ([Go.Sx.EK.i8, Go.Sx.EK.i16] = [Go.Sx.EK.i8, Go.Sx.EK.i16] ∧ (24 : Nat) = (24 : Nat) ∧ psA n p = psA n p) ∧ True) ∧ Go.Sx.Cel.val Go.Value.nilIface = Go.Sx.Cel.val Go.Value.nilIface ∧ True) ∧ (∀ (i : Nat), np = n → fwO l h n p = Option.some i → (Go.Sx.Cel.slc (0 : Nat) (0 : Nat) (0 : Int) (2 : Nat) (↑n : Int) cap = Go.Sx.Cel.val (Go.Value.slice Option.none (0 : Nat) (0 : Nat)) ∧ (Go.IntKind.i64 = Go.IntKind.i64 ∧ h = (0 : Int)) ∧ (Go.IntKind.u16 = Go.IntKind.u16 ∧ (↑(Int.toNat (↑(Int.toNat (0 : Int) ||| bsF (okN h n p) x) : Int) ||| bsF (okN h n p) x_1) : Int) = (0 : Int)) ∧ ([Go.Sx.EK.i8, Go.Sx.EK.i16] = [Go.Sx.EK.i8, Go.Sx.EK.i16] ∧ (24 : Nat) = (24 : Nat) ∧ psA n p = List.replicate (24 : Nat) (0 : Int)) ∧ True) ∧ Go.Sx.Cel.val Go.Value.nilIface = Go.Sx.Cel.ifr (117 : Nat) [Go.Sx.EK.i64] [(↑i : Int)] ∧ True) ∧ (¬np = n → (Go.Sx.Cel.slc (0 : Nat) (0 : Nat) (0 : Int) (2 : Nat) (↑n : Int) cap = Go.Sx.Cel.val (Go.Value.slice Option.none (0 : Nat) (0 : Nat)) ∧ (Go.IntKind.i64 = Go.IntKind.i64 ∧ h = (0 : Int)) ∧ (Go.IntKind.u16 = Go.IntKind.u16 ∧ (↑(Int.toNat (↑(Int.toNat (0 : Int) ||| bsF (okN h n p) x) : Int) ||| bsF (okN h n p) x_1) : Int) = (0 : Int)) ∧ ([Go.Sx.EK.i8, Go.Sx.EK.i16] = [Go.Sx.EK.i8, Go.Sx.EK.i16] ∧ (24 : Nat) = (24 : Nat) ∧ psA n p = List.replicate (24 : Nat) (0 : Int)) ∧ True) ∧ Go.Sx.Cel.val Go.Value.nilIface = Go.Sx.Cel.val (Go.Value.iface (126 : Go.TypeId) (Go.Value.int Go.IntKind.i64 (1 : Int))) ∧ True))))) (by kernel_rfl) ?_
  simp only [true_and, and_true, and_self, decide_eq_true_eq, decide_eq_false_iff_not, Bool.not_eq_true', Bool.not_eq_false', Bool.not_true, Bool.not_false, beq_iff_eq, beq_eq_false_iff_ne, bne_iff_ne, bne_eq_false_iff_eq, ne_eq, not_true_eq_false, not_false_eq_true, false_implies, true_implies, implies_true, forall_const, exists_const, ↓reduceIte, Int.reduceEq, Int.toNat_natCast, Bool.false_eq_true, Bool.true_eq_false, reduceCtorEq, Int.zero_add, Nat.add_zero, Int.ofNat_eq_natCast, Int.toNat_natCast, Nat.testBit_two_pow_sub_one, Nat.zero_or, Int.toNat_zero, Nat.zero_mul, Nat.zero_add, List.take_zero, List.drop_zero, List.nil_append]
  have hn12 := v.hi
  obtain ⟨p1, p2, sw⟩ := id qp
  obtain ⟨_, q1, q2, q3, jw⟩ := id q
  rw [Int.toNat_natCast] at q2 jw
  have hw := pow_lt16 (k := n) (by omega)
  refine ⟨fun hne => ⟨fun h => absurd (by omega) hne, fun i h => absurd (by omega) hne⟩, fun heq => ?_⟩
  have hnn : np = n := by omega
  clear heq
  subst hnn
  have sp : Sp np (psA np p) p := psA_sp (by omega)
  have sw' := psA_sw (n := np) (p := p) (by omega) sw
  have hG : bsF (okN h np p) 12 = bsF (okB h p) np := okN_bs hn12
  have hL := bsF_lt (f := okB h p) (c := np) (by omega)
  have e12 : (((12 : Nat) : Int) - 0).toNat = 12 := rfl
  rw [e12, show min np 12 = np by omega]
  refine ⟨by omega, by omega, by omega, ⟨0, by omega, rfl, rfl, rfl⟩, ?_⟩
  intro k hk
  refine ⟨fun hlt => ⟨by omega, fun hkn => ?_, fun hkn => ⟨by omega, k + 1, by omega, by omega, by omega, ?_⟩⟩, fun hge => ?_⟩
  · rw [ok_rcd (k := k) (p := p) (by omega)]
    have h1 := bsF_lt (f := okN h np p) (c := k) (by omega)
    have h2 := pow_lt16 (k := k) (by omega)
    refine ⟨by omega, by omega, ⟨hh, sw_rcd sw hkn (by omega)⟩, fun ho => ⟨by omega, by omega, k + 1, by omega, by omega, by omega, ?_⟩, fun ho => ⟨by omega, k + 1, by omega, by omega, by omega, ?_⟩⟩
    · rw [bOr16 h1 h2, bsF, if_pos (by rw [okN, decide_eq_true hkn, ho]; rfl)]
    · rw [bsF, if_neg (by rw [okN, decide_eq_true hkn, ho]; simp)]
  · rw [bsF, if_neg (by rw [okN, decide_eq_false hkn]; simp)]
  · have hk12 : k = 12 := by omega
    rw [hk12]
    have rq : Rq 0 0 2 [.i8, .i16] 24 80 [.i64, .u16] np m l (psA np p) (bsF (okB h p) np : Nat) := ⟨⟨rfl, rfl, rfl, rfl, rfl, rfl, rfl⟩, q, v, sw', by omega⟩
    refine ⟨by omega, ⟨0, ⟨by omega, fun j hj => by omega⟩, rfl, by simp [bsF]⟩, ?_⟩
    rintro i ⟨hi, hp⟩
    rw [okN_or hi, hG]
    have hor : ∀ y, y ≤ 12 → ((bsF (okB h p) np : Nat) : Int) = ((bsF (okB h p) np ||| bsF (okN h np p) y : Nat) : Int) := fun y hy => by rw [← hG, okN_or hy]
    have up : (i < np → ftB l h np p i = false) → ∀ j, j < i + 1 → j < np → ftB l h np p j = false := fun hf j hj hjn => by
      rcases (show j < i ∨ j = i by omega) with h' | rfl
      · exact hp j h' hjn
      · exact hf hjn
    refine ⟨fun hlt => ⟨by omega, fun hin => ⟨⟨rq, by rw [sp.bs], by omega, by omega⟩, fun hf => ?_, fun hf => ?_⟩, fun hin => ⟨by omega, i + 1, ⟨by omega, up fun h => absurd h hin⟩, by omega, by omega, hor _ (by omega)⟩⟩, fun hge => ?_⟩
    · rw [sp.ft hin] at hf
      have hs := fwO_is hin hf fun j hj => hp j hj (by omega)
      rw [hs]
      exact ⟨fun _ z => (by cases z), fun i' _ z => (by cases z; rfl), fun z => z rfl⟩
    · rw [sp.ft hin] at hf
      exact ⟨by omega, i + 1, ⟨by omega, up fun _ => hf⟩, by omega, by omega, hor _ (by omega)⟩
    · have hno : fwO l h np p = none := fwO_no fun j hj => hp j (by omega) hj
      rw [hno]
      exact ⟨fun _ _ => rfl, fun i' _ z => (by cases z), fun z => absurd rfl z⟩
abbrev rosZ : Av := .agg [.val (.slice none 0 0), .int .i64 0, .int .u16 0, .run [.i8, .i16] 24 (List.replicate 24 0)]
noncomputable def gWs : EntryC := fun args H K => match args with
  | [.a (.agg [.slc id b z s len cap, .int .i64 h]), .a (.c (.slc id2 b2 z2 s2 len2 _))] => match getB H id, getB H id2 with
    | .cells _ t [.run ks m l], .cells _ t2 [.run ks2 m2 p] => (((t = 80 ∧ b = 0 ∧ z = 0 ∧ s = 2 ∧ ks = [.i64, .u16]) ∧ (t2 = 89 ∧ b2 = 0 ∧ z2 = 0 ∧ s2 = 2 ∧ ks2 = [.i8, .i16])) ∧ Jl len m l ∧ VJ len.toNat l ∧ 0 ≤ len2 ∧ Pq len2.toNat m2 p ∧ 1 ≤ h ∧ h ≤ 4) ∧
        (len2 = len → fwO l h len.toNat p = none → K (.tup [.agg [.slc id 0 0 2 len cap, .int .i64 h, .int .u16 (bsF (okB h p) len.toNat), .run [.i8, .i16] 24 (psA len.toNat p)], .c (.val .nilIface)]) H) ∧
        (∀ i : Nat, len2 = len → fwO l h len.toNat p = some i → K (.tup [rosZ, .c (.ifr 117 [.i64] [(i : Int)])]) H) ∧
        (¬ len2 = len → K (.tup [rosZ, .c (.val (.iface 126 (.int .i64 1)))]) H)
    | _, _ => Stuck "slots"
  | _ => Stuck "slots"
theorem getB_lt : ∀ {H : List Blk} {i : Nat} {o : Bool} {t : TypeId} {cs : List Cel}, getB H i = .cells o t cs → i < H.length
  | [], _, _, _, _, h => by simp [getB] at h
  | x :: H, 0, _, _, _, _ => by simp
  | x :: H, i + 1, _, _, _, h => by
    have := getB_lt (H := H) (i := i) (by simpa [getB] using h)
    simp; omega
theorem e_withSlots : EntryCOk Tryd.prog TT 81 gWs := by
  refine ⟨fnOk Tryd.func81 (by kernel_rfl) rfl, ?_⟩
  intro args H K hK n0 w0 β w vals hG hH hA
  unfold gWs at hK
  split at hK
  · split at hK
    · rename_i id b z s len cap h id2 b2 z2 s2 len2 cap2 _ _ o t ks m l o2 t2 ks2 m2 p hg hg2
      obtain ⟨⟨⟨⟨rfl, rfl, rfl, rfl, rfl⟩, rfl, rfl, rfl, rfl, rfl⟩, q, v, h0, qp, hh⟩, k0, k1, k2⟩ := hK
      obtain ⟨n, rfl⟩ := Int.eq_ofNat_of_zero_le q.lo
      obtain ⟨np, rfl⟩ := Int.eq_ofNat_of_zero_le h0
      rw [Int.toNat_natCast] at *
      have hx := x_withSlots m n m2 np l cap cap2 h p q v qp hh
      have hlt : ∀ i ∈ [id, id2], i < H.length := fun i hi => by
        rcases List.mem_cons.1 hi with rfl | hi
        · exact getB_lt hg
        · obtain rfl := List.mem_singleton.1 hi
          exact getB_lt hg2
      have go : ∀ (res lv : LV), (∀ lv, WsP l h n np p cap lv → leL lv res) → inL 2 res = true → rnL (fun j => [id, id2].getD j 0) res = lv → K lv H → Calls Tryd.prog 81 vals w fun e w' => ∃ v γ lv H', e = .returned v ∧ K lv H' ∧ HR n0 w0 (β ++ γ) H' w' ∧ LVR (β ++ γ) lv v := by
        intro res lv h1 h2 h3 h4
        refine (entry_viewB tt_ok (inlN_ok tt_ok Cr4_ok mixed (ILws_ok (l := l) (h := h) (n := n) (p := p) (cap := cap)).ok 6) Cr4_ok mixed Tryd.func81 [id, id2] hx (fun lv _ => h1 lv) h2 rfl ⟨.inr (by rw [hg]; rfl), .inr (by rw [hg2]; rfl), trivial⟩ hlt hG hH hA).mono ?_
        rintro e w' ⟨v, rfl, hb, hlv⟩
        exact ⟨v, [], lv, H, rfl, h4, by simpa using hH.after hb, by rw [← h3]; simpa using hlv⟩
      by_cases hn : np = n
      · cases hf : fwO l h n p with
        | none => exact go _ _ (fun lv hw => hw.1 hn hf) rfl rfl (k0 (by rw [hn]) hf)
        | some i => exact go _ _ (fun lv hw => hw.2.1 i hn hf) rfl rfl (k1 i (by rw [hn]) hf)
      · exact go _ _ (fun lv hw => hw.2.2 hn) rfl rfl (k2 (by omega))
    · exact hK.elim
  · exact hK.elim
end Go.Proofs.YtagdkibmlfjggaaDoor
