/- Slices of 64-bit numbers: the functions of the laws that copy, compare and mark them. No conditions beyond the ranges of the kinds. -/
import Derived.Test.YtghphlgfgblbeaaDoorTt
set_option linter.unusedSimpArgs false
set_option linter.unusedVariables false
namespace Go.Proofs.YtghphlgfgblbeaaDoor
open Go.Sx Go.RowKit

/-- What a slot's slice holds, and how long it is: for annotations. -/
def slL (st : St) (t : Nat) : List Int := match getL st.tmps t with
  | .a (.c (.slc id _ _ _ _ _)) => match getB st.heap id with
    | .cells _ _ [.run _ _ l] => l
    | .wnd _ _ _ l => l
    | _ => []
  | _ => []
def slM (st : St) (t : Nat) : Nat := match getL st.tmps t with
  | .a (.c (.slc id _ _ _ _ _)) => match getB st.heap id with
    | .cells _ _ [.run _ n _] => n
    | .wnd _ _ n _ => n
    | _ => 0
  | _ => 0
def slN (st : St) (t : Nat) : Int := match getL st.tmps t with
  | .a (.c (.slc _ _ _ _ len _)) => len
  | _ => 0
def slB (st : St) (t : Nat) (cs : List Cel) : List (Nat × List Cel) := match getL st.tmps t with
  | .a (.c (.slc id _ _ _ _ _)) => [(id, cs)]
  | _ => []

def lmEqI : LAnn := { ι := Nat, inv := fun st k => (k : Int) ≤ slN st 0 ∨ k = 0, slots := fun _ k => [(5, .a (.c (.int .i64 k)))], blks := fun _ _ => [], μ := fun st k => (slN st 0).toNat - k }

/-- A list of which the first numbers are a count. -/
def mrk (l : List Int) (from_ : Int) (k : Nat) : List Int := (List.range l.length).map fun i => if i < k then from_ + i else l.getD i 0
theorem mrk_len (l : List Int) (f : Int) (k : Nat) : (mrk l f k).length = l.length := by simp [mrk]
theorem mrk_get {l : List Int} {f : Int} {k i : Nat} (h : i < l.length) : (mrk l f k).getD i 0 = if i < k then f + i else l.getD i 0 := by
  simp [mrk, List.getD, h]
theorem mrk_zero (l : List Int) (f : Int) : mrk l f 0 = l := by
  refine list_ext (mrk_len _ _ _) fun i hi => ?_
  rw [mrk_get hi, if_neg (by omega)]
theorem mrk_set {l : List Int} {f : Int} {k : Nat} (h : k < l.length) : (mrk l f k).set k (f + k) = mrk l f (k + 1) := by
  refine list_ext (by simp [mrk_len]) fun i hi => ?_
  have hi : i < l.length := by rw [mrk_len] at hi; exact hi
  rw [mrk_get hi, List.getD_eq_getElem?_getD, List.getElem?_set]
  by_cases e : k = i
  · subst e; simp [mrk_len, h]
  · rw [if_neg e, ← List.getD_eq_getElem?_getD, mrk_get hi]
    by_cases c : i < k
    · rw [if_pos c, if_pos (by omega)]
    · rw [if_neg c, if_neg (by omega)]

def lmMark : LAnn := { ι := Nat, inv := fun st k => (k : Int) ≤ slN st 0 ∨ k = 0, slots := fun st k => [(1, .a (.c (.int .i64 (slotI st 1 + k)))), (5, .a (.c (.int .i64 k)))], blks := fun st k => slB st 0 [.run [.i64] (slM st 0) (mrk (slL st 0) (slotI st 1) k)], μ := fun st k => (slN st 0).toNat - k }
def lmHeld : LAnn := { ι := Nat, inv := fun st k => (k : Int) ≤ slN st 0 ∨ k = 0, slots := fun st k => [(1, .a (.c (.int .i64 (slotI st 1 + k)))), (5, .a (.c (.int .i64 k)))], blks := fun _ _ => [], μ := fun st k => (slN st 0).toNat - k }

noncomputable def IL64  : List (FuncId × Func × (Nat → LM)) := [
  (17, Tryd.f17, fun _ => .inv lmEqI)]
theorem IL64_ok  : InlsOk Tryd.prog IL64 := ⟨⟨Tryd.func17, by kernel_rfl⟩, trivial⟩

/-! ### What the laws ask of a slice that comes back -/
theorem eq_tail {d n n' : Nat} {L L' : List Int} {R : Prop} (h1 : d ≤ n') (h2 : d ≤ n) (hd : d ≤ 1000000000000) (he : ∀ i, i < d → L'.getD i 0 = L.getD i 0) (hR : R) :
    (∃ x : Nat, ((x : Int) ≤ (d : Int) ∨ x = 0) ∧ 0 = (x : Int)) ∧ ∀ x : Nat, ((x : Int) ≤ (d : Int) ∨ x = 0) →
      ((x : Int) < (d : Int) → (0 ≤ (x : Int) ∧ (x : Int) < (d : Int)) ∧ (0 ≤ (x : Int) ∧ x < n') ∧ (0 ≤ (x : Int) ∧ (x : Int) < (d : Int)) ∧ (0 ≤ (x : Int) ∧ x < n) ∧ (¬ L'.getD x 0 = L.getD x 0 → False) ∧
        (L'.getD x 0 = L.getD x 0 → (-9223372036854775808 ≤ (x : Int) + 1 ∧ (x : Int) + 1 ≤ 9223372036854775807) ∧ ∃ y : Nat, ((y : Int) ≤ (d : Int) ∨ y = 0) ∧ d - y < d - x ∧ (x : Int) + 1 = (y : Int))) ∧ (¬ (x : Int) < (d : Int) → R) :=
  ⟨⟨0, .inr rfl, rfl⟩, fun x _ => ⟨fun hlt => ⟨by omega, by omega, by omega, by omega, fun h => h (he x (by omega)), fun _ => ⟨by omega, x + 1, .inl (by omega), by omega, by omega⟩⟩, fun _ => hR⟩⟩

theorem mark_tail {d n' : Nat} {L : List Int} {R : Nat → Prop} (h1 : d ≤ n') (hl : L.length = n') (hd : d ≤ 1000000000000) (hR : R d) :
    (∃ x : Nat, ((x : Int) ≤ (d : Int) ∨ x = 0) ∧ (1 = ((1 : Nat) : Int) + (x : Int) ∧ 0 = (x : Int)) ∧ L = mrk L ((1 : Nat) : Int) x) ∧ ∀ x : Nat, ((x : Int) ≤ (d : Int) ∨ x = 0) →
      ((x : Int) < (d : Int) → (0 ≤ (x : Int) ∧ (x : Int) < (d : Int)) ∧ (0 ≤ (x : Int) ∧ x < n') ∧ (-9223372036854775808 ≤ ((1 : Nat) : Int) + (x : Int) + 1 ∧ ((1 : Nat) : Int) + (x : Int) + 1 ≤ 9223372036854775807) ∧ (-9223372036854775808 ≤ (x : Int) + 1 ∧ (x : Int) + 1 ≤ 9223372036854775807) ∧
        ∃ y : Nat, ((y : Int) ≤ (d : Int) ∨ y = 0) ∧ d - y < d - x ∧ (((1 : Nat) : Int) + (x : Int) + 1 = ((1 : Nat) : Int) + (y : Int) ∧ (x : Int) + 1 = (y : Int)) ∧ (mrk L ((1 : Nat) : Int) x).set x (((1 : Nat) : Int) + (x : Int)) = mrk L ((1 : Nat) : Int) y) ∧ (¬ (x : Int) < (d : Int) → R x) :=
  ⟨⟨0, .inr rfl, ⟨rfl, rfl⟩, (mrk_zero _ _).symm⟩, fun x hx => ⟨fun hlt => ⟨by omega, by omega, by omega, by omega, x + 1, .inl (by omega), by omega, ⟨by omega, by omega⟩, mrk_set (by omega)⟩, fun hge => by
    obtain rfl : x = d := by omega
    exact hR⟩⟩

theorem held_tail {d n' : Nat} {L : List Int} {R : Nat → Prop} (h1 : d ≤ n') (hl : L.length = n') (hd : d ≤ 1000000000000) (hR : R d) :
    (∃ x : Nat, ((x : Int) ≤ (d : Int) ∨ x = 0) ∧ 1 = ((1 : Nat) : Int) + (x : Int) ∧ 0 = (x : Int)) ∧ ∀ x : Nat, ((x : Int) ≤ (d : Int) ∨ x = 0) →
      ((x : Int) < (d : Int) → (0 ≤ (x : Int) ∧ (x : Int) < (d : Int)) ∧ (0 ≤ (x : Int) ∧ x < n') ∧ (¬ (mrk L ((1 : Nat) : Int) d).getD x 0 = ((1 : Nat) : Int) + (x : Int) → False) ∧ ((mrk L ((1 : Nat) : Int) d).getD x 0 = ((1 : Nat) : Int) + (x : Int) → (-9223372036854775808 ≤ ((1 : Nat) : Int) + (x : Int) + 1 ∧ ((1 : Nat) : Int) + (x : Int) + 1 ≤ 9223372036854775807) ∧ (-9223372036854775808 ≤ (x : Int) + 1 ∧ (x : Int) + 1 ≤ 9223372036854775807) ∧
        ∃ y : Nat, ((y : Int) ≤ (d : Int) ∨ y = 0) ∧ d - y < d - x ∧ ((1 : Nat) : Int) + (x : Int) + 1 = ((1 : Nat) : Int) + (y : Int) ∧ (x : Int) + 1 = (y : Int))) ∧ (¬ (x : Int) < (d : Int) → R x) :=
  ⟨⟨0, .inr rfl, rfl, rfl⟩, fun x hx => ⟨fun hlt => ⟨by omega, by omega, fun h => h (by rw [mrk_get (by omega), if_pos (by omega)]), fun _ => ⟨by omega, by omega, x + 1, .inl (by omega), by omega, by omega, by omega⟩⟩, fun hge => by
    obtain rfl : x = d := by omega
    exact hR⟩⟩

/-! ### A copy -/
def lmTo64 (len : Int) (l : List Int) : LAnn := { ι := Nat, inv := fun _ k => k ≤ len.toNat, slots := fun _ k => [(4, .a (.c (.int .i64 k)))], blks := fun _ k => [(1, [.run [.i64] len.toNat (mkN len.toNat (fun i => if i < k then l.getD i 0 else 0))])], μ := fun _ k => len.toNat - k }

theorem x_toInt64S (b n : Nat) (l : List Int) (len cap : Int) (h1 : 0 ≤ len) (h2 : len ≤ 1048576) (h3 : len.toNat ≤ n) (h4 : l.length = n) : Fex true TT (inlN true TT C0 (lookI []) 1) C0 (fun _ => .inv (lmTo64 len l)) Tryd.f12 [.a (.c (.slc 0 b 0 1 len cap))] [.wnd b [.i64] n l] (fun lv H' => ∃ _ : Unit, True ∧ leSt ⟨[lv], H'⟩ ⟨[rnL ([0].length + ·) (.a (.c (.slc 0 0 0 1 len len)))], deadsN [0].length ++ [.cells true 2 [.run [.i64] len.toNat (l.take len.toNat)]]⟩ [0].length [1]) := by
  refine Go.Sx.by_eq (q := True ∧ True ∧ True ∧ ((0 : Int) ≤ len ∧ len ≤ len ∧ len ≤ (9223372036854775807 : Int) ∧ (↑(8 : Nat) : Int) * len ≤ (281474976710656 : Int)) ∧ True ∧ True ∧ (∃ (x : Nat), x ≤ Int.toNat len ∧ (Cel.slc (0 : Nat) b (0 : Int) (1 : Nat) len cap = Cel.slc (0 : Nat) b (0 : Int) (1 : Nat) len cap ∧ Cel.val Go.undef = Cel.val Go.undef ∧ Cel.val (Go.Value.slice Option.none (0 : Nat) (0 : Nat)) = Cel.val (Go.Value.slice Option.none (0 : Nat) (0 : Nat)) ∧ Cel.slc (1 : Nat) (0 : Nat) (0 : Int) (1 : Nat) len len = Cel.slc (1 : Nat) (0 : Nat) (0 : Int) (1 : Nat) len len ∧ (IntKind.i64 = IntKind.i64 ∧ (0 : Int) = (↑x : Int)) ∧ Cel.slc (0 : Nat) b (0 : Int) (1 : Nat) len cap = Cel.slc (0 : Nat) b (0 : Int) (1 : Nat) len cap ∧ (IntKind.i64 = IntKind.i64 ∧ len = len) ∧ Cel.slc (1 : Nat) (0 : Nat) (0 : Int) (1 : Nat) len len = Cel.slc (1 : Nat) (0 : Nat) (0 : Int) (1 : Nat) len len ∧ True ∧ True ∧ True ∧ True ∧ True ∧ True ∧ True ∧ True ∧ True ∧ True ∧ True ∧ True ∧ True ∧ Cel.val Go.undef = Cel.val Go.undef ∧ True) ∧ (b = b ∧ [EK.i64] = [EK.i64] ∧ n = n ∧ l = l) ∧ (Bool.true = Bool.true ∧ (2 : Nat) = (2 : Nat) ∧ ([EK.i64] = [EK.i64] ∧ Int.toNat len * (1 : Nat) = Int.toNat len ∧ List.replicate (Int.toNat len * (1 : Nat)) (0 : Int) = mkN (Int.toNat len) fun (i : Nat) => if i < x then List.getD l i (0 : Int) else (0 : Int)) ∧ True) ∧ True) ∧ ∀ (x : Nat), x ≤ Int.toNat len → True ∧ True ∧ True ∧ True ∧ (Decidable.decide ((↑x : Int) < len) = Bool.true → True ∧ True ∧ True ∧ True ∧ ((0 : Int) ≤ (↑x : Int) ∧ (↑x : Int) < len) ∧ (b = b ∧ (0 : Int) ≤ (0 : Int) + (↑x : Int) ∧ Int.toNat ((0 : Int) + (↑x : Int)) < n) ∧ ((0 : Int) ≤ (↑x : Int) ∧ (↑x : Int) < len) ∧ ((0 : Int) ≤ (0 : Int) + (↑x : Int) ∧ Int.toNat ((0 : Int) + (↑x : Int)) < Int.toNat len) ∧ True ∧ ((-9223372036854775808 : Int) ≤ (↑x : Int) + (1 : Int) ∧ (↑x : Int) + (1 : Int) ≤ (9223372036854775807 : Int)) ∧ True ∧ ∃ (y : Nat), y ≤ Int.toNat len ∧ Int.toNat len - y < Int.toNat len - x ∧ (Cel.slc (0 : Nat) b (0 : Int) (1 : Nat) len cap = Cel.slc (0 : Nat) b (0 : Int) (1 : Nat) len cap ∧ Cel.val Go.undef = Cel.val Go.undef ∧ Cel.val (Go.Value.slice Option.none (0 : Nat) (0 : Nat)) = Cel.val (Go.Value.slice Option.none (0 : Nat) (0 : Nat)) ∧ Cel.slc (1 : Nat) (0 : Nat) (0 : Int) (1 : Nat) len len = Cel.slc (1 : Nat) (0 : Nat) (0 : Int) (1 : Nat) len len ∧ (IntKind.i64 = IntKind.i64 ∧ (↑x : Int) + (1 : Int) = (↑y : Int)) ∧ Cel.slc (0 : Nat) b (0 : Int) (1 : Nat) len cap = Cel.slc (0 : Nat) b (0 : Int) (1 : Nat) len cap ∧ (IntKind.i64 = IntKind.i64 ∧ len = len) ∧ Cel.slc (1 : Nat) (0 : Nat) (0 : Int) (1 : Nat) len len = Cel.slc (1 : Nat) (0 : Nat) (0 : Int) (1 : Nat) len len ∧ True ∧ True ∧ True ∧ True ∧ True ∧ True ∧ True ∧ True ∧ True ∧ True ∧ True ∧ True ∧ True ∧ Cel.val Go.undef = Cel.val Go.undef ∧ True) ∧ (b = b ∧ [EK.i64] = [EK.i64] ∧ n = n ∧ l = l) ∧ (Bool.true = Bool.true ∧ (2 : Nat) = (2 : Nat) ∧ ([EK.i64] = [EK.i64] ∧ Int.toNat len = Int.toNat len ∧ List.set (mkN (Int.toNat len) fun (i : Nat) => if i < x then List.getD l i (0 : Int) else (0 : Int)) (Int.toNat ((0 : Int) + (↑x : Int))) (List.getD l (Int.toNat ((0 : Int) + (↑x : Int))) (0 : Int)) = mkN (Int.toNat len) fun (i : Nat) => if i < y then List.getD l i (0 : Int) else (0 : Int)) ∧ True) ∧ True) ∧ (Decidable.decide ((↑x : Int) < len) = Bool.false → True ∧ True ∧ ∃ (x_1 : Unit), True ∧ (Cel.slc (1 : Nat) (0 : Nat) (0 : Int) (1 : Nat) len len = Cel.slc (1 : Nat) (0 : Nat) (0 : Int) (1 : Nat) len len ∧ True) ∧ True ∧ (Bool.true = Bool.true ∧ (2 : Nat) = (2 : Nat) ∧ ([EK.i64] = [EK.i64] ∧ Int.toNat len = Int.toNat len ∧ (mkN (Int.toNat len) fun (i : Nat) => if i < x then List.getD l i (0 : Int) else (0 : Int)) = List.take (Int.toNat len) l) ∧ True) ∧ True)) (by kernel_rfl) ?_
  simp only [true_and, and_true, and_self, decide_eq_true_eq, decide_eq_false_iff_not, Bool.not_eq_true', Bool.not_eq_false', Bool.not_true, Bool.not_false, beq_iff_eq, beq_eq_false_iff_ne, bne_iff_ne, bne_eq_false_iff_eq, ne_eq, not_true_eq_false, not_false_eq_true, false_implies, true_implies, implies_true, forall_const, exists_const, ↓reduceIte, Int.reduceEq, Int.toNat_natCast, Bool.false_eq_true, Bool.true_eq_false, reduceCtorEq, Int.zero_add, Nat.add_zero, Nat.mul_one]
  have hlen : (len.toNat : Int) = len := by omega
  refine ⟨⟨by omega, by omega, by omega, by omega⟩, ⟨0, by omega, rfl, ?_⟩, ?_⟩
  · exact mkN_zero fun i hi => by simp
  intro k hk
  refine ⟨fun hlt => ⟨by omega, by omega, by omega, by omega, by omega, k + 1, by omega, by omega, by omega, ?_⟩, fun hge => ?_⟩
  · refine mkN_set (fun _ => by rw [if_pos (by omega)]) fun i hi hne => ?_
    by_cases c : i < k
    · rw [if_pos c, if_pos (by omega)]
    · rw [if_neg c, if_neg (by omega)]
  · rw [take_mkN (by omega)]
    exact mkN_congr fun i hi => by rw [if_pos (by omega)]

def gTo64 : EntryC := fun args H K => match args with
  | [.a (.c (.slc id b i s len cap))] => match getB H id with
    | .wnd o ks n l => (b = o ∧ i = 0 ∧ s = 1 ∧ ks = [.i64] ∧ l.length = n ∧ 0 ≤ len ∧ len ≤ 1048576 ∧ len.toNat ≤ n) ∧ withLenP H fun m => K (.a (.c (.slc m 0 0 1 len len))) (H ++ [.cells true 2 [.run [.i64] len.toNat (l.take len.toNat)]])
    | _ => Stuck "to"
  | _ => Stuck "to"

theorem e_toInt64S : EntryCOk Tryd.prog TT 12 gTo64 := by
  refine ⟨fnOk Tryd.func12 (by kernel_rfl) rfl, ?_⟩
  intro args H K h n0 w0 β w vals hG hH hA
  unfold gTo64 at h
  split at h
  · split at h
    · rename_i id b i s len cap _ o ks n l hg
      obtain ⟨⟨rfl, rfl, rfl, rfl, hl, h1, h2, h3⟩, hk⟩ := h
      have hk := withLenP_sound hk
      refine (entry_fresh tt_ok (inlN_ok tt_ok C0_ok mixed (InlsOk.ok (L := []) trivial) 1) C0_ok mixed Tryd.func12 [id] (x_toInt64S b n l len cap h1 h2 h3 hl) rfl (fun _ => rfl) (fun _ => rfl) ⟨.inr (by rw [hg]; rfl), trivial⟩ hG hH hA).mono ?_
      rintro e w' ⟨v, γ, x, rfl, _, h5, h6⟩
      exact ⟨v, γ, _, _, rfl, hk, h5, h6⟩
    · exact h.elim
  · exact h.elim

end Go.Proofs.YtghphlgfgblbeaaDoor
