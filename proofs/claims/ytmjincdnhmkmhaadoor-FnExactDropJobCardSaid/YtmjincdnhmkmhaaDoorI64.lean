/- Slices of 64-bit numbers: the functions of the laws that copy, compare and mark them. No conditions beyond the ranges of the kinds. -/
import Derived.Test.YtmjincdnhmkmhaaDoorTt
set_option linter.unusedSimpArgs false
set_option linter.unusedVariables false
namespace Go.Proofs.YtmjincdnhmkmhaaDoor
open Go.Sx Go.RowKit

/-- What a slot's slice holds, and how long it is: for annotations. -/
def slL (st : St) (t : Nat) : List Int := match getL st.tmps t with
  | .a (.c (.slc id _ _ _ _ _)) => match getB st.heap id with
    | .cells _ _ [.run _ _ l] => l
    | .wnd _ _ _ l => l
    | _ => []
  | _ => []
def slM (st : St) (t : Nat) : Nat := match getL st.tmps t with
  | .a (.c (.slc id _ _ _ _ _)) => match getB st.heap id with
    | .cells _ _ [.run _ n _] => n
    | .wnd _ _ n _ => n
    | _ => 0
  | _ => 0
def slN (st : St) (t : Nat) : Int := match getL st.tmps t with
  | .a (.c (.slc _ _ _ _ len _)) => len
  | _ => 0
def slB (st : St) (t : Nat) (cs : List Cel) : List (Nat × List Cel) := match getL st.tmps t with
  | .a (.c (.slc id _ _ _ _ _)) => [(id, cs)]
  | _ => []

def lmEqI : LAnn := { ι := Nat, inv := fun st k => (k : Int) ≤ slN st 0 ∨ k = 0, slots := fun _ k => [(5, .a (.c (.int .i64 k)))], blks := fun _ _ => [], μ := fun st k => (slN st 0).toNat - k }

/-- A list of which the first numbers are a count. -/
def mrk (l : List Int) (from_ : Int) (k : Nat) : List Int := (List.range l.length).map fun i => if i < k then from_ + i else l.getD i 0
theorem mrk_len (l : List Int) (f : Int) (k : Nat) : (mrk l f k).length = l.length := by simp [mrk]
theorem mrk_get {l : List Int} {f : Int} {k i : Nat} (h : i < l.length) : (mrk l f k).getD i 0 = if i < k then f + i else l.getD i 0 := by
  simp [mrk, List.getD, h]
theorem mrk_zero (l : List Int) (f : Int) : mrk l f 0 = l := by
  refine list_ext (mrk_len _ _ _) fun i hi => ?_
  rw [mrk_get hi, if_neg (by omega)]
theorem mrk_set {l : List Int} {f : Int} {k : Nat} (h : k < l.length) : (mrk l f k).set k (f + k) = mrk l f (k + 1) := by
  refine list_ext (by simp [mrk_len]) fun i hi => ?_
  have hi : i < l.length := by rw [mrk_len] at hi; exact hi
  rw [mrk_get hi, List.getD_eq_getElem?_getD, List.getElem?_set]
  by_cases e : k = i
  · subst e; simp [mrk_len, h]
  · rw [if_neg e, ← List.getD_eq_getElem?_getD, mrk_get hi]
    by_cases c : i < k
    · rw [if_pos c, if_pos (by omega)]
    · rw [if_neg c, if_neg (by omega)]

def lmMark : LAnn := { ι := Nat, inv := fun st k => (k : Int) ≤ slN st 0 ∨ k = 0, slots := fun st k => [(1, .a (.c (.int .i64 (slotI st 1 + k)))), (5, .a (.c (.int .i64 k)))], blks := fun st k => slB st 0 [.run [.i64] (slM st 0) (mrk (slL st 0) (slotI st 1) k)], μ := fun st k => (slN st 0).toNat - k }
def lmHeld : LAnn := { ι := Nat, inv := fun st k => (k : Int) ≤ slN st 0 ∨ k = 0, slots := fun st k => [(1, .a (.c (.int .i64 (slotI st 1 + k)))), (5, .a (.c (.int .i64 k)))], blks := fun _ _ => [], μ := fun st k => (slN st 0).toNat - k }

noncomputable def IL64  : List (FuncId × Func × (Nat → LM)) := [
  ]
theorem IL64_ok  : InlsOk Tryd.prog IL64 := trivial

/-! ### What the laws ask of a slice that comes back -/
theorem eq_tail {d n n' : Nat} {L L' : List Int} {R : Prop} (h1 : d ≤ n') (h2 : d ≤ n) (hd : d ≤ 1000000000000) (he : ∀ i, i < d → L'.getD i 0 = L.getD i 0) (hR : R) :
    (∃ x : Nat, ((x : Int) ≤ (d : Int) ∨ x = 0) ∧ 0 = (x : Int)) ∧ ∀ x : Nat, ((x : Int) ≤ (d : Int) ∨ x = 0) →
      ((x : Int) < (d : Int) → (0 ≤ (x : Int) ∧ (x : Int) < (d : Int)) ∧ (0 ≤ (x : Int) ∧ x < n') ∧ (0 ≤ (x : Int) ∧ (x : Int) < (d : Int)) ∧ (0 ≤ (x : Int) ∧ x < n) ∧ (¬ L'.getD x 0 = L.getD x 0 → False) ∧
        (L'.getD x 0 = L.getD x 0 → (-9223372036854775808 ≤ (x : Int) + 1 ∧ (x : Int) + 1 ≤ 9223372036854775807) ∧ ∃ y : Nat, ((y : Int) ≤ (d : Int) ∨ y = 0) ∧ d - y < d - x ∧ (x : Int) + 1 = (y : Int))) ∧ (¬ (x : Int) < (d : Int) → R) :=
  ⟨⟨0, .inr rfl, rfl⟩, fun x _ => ⟨fun hlt => ⟨by omega, by omega, by omega, by omega, fun h => h (he x (by omega)), fun _ => ⟨by omega, x + 1, .inl (by omega), by omega, by omega⟩⟩, fun _ => hR⟩⟩

theorem mark_tail {d n' : Nat} {L : List Int} {R : Nat → Prop} (h1 : d ≤ n') (hl : L.length = n') (hd : d ≤ 1000000000000) (hR : R d) :
    (∃ x : Nat, ((x : Int) ≤ (d : Int) ∨ x = 0) ∧ (1 = ((1 : Nat) : Int) + (x : Int) ∧ 0 = (x : Int)) ∧ L = mrk L ((1 : Nat) : Int) x) ∧ ∀ x : Nat, ((x : Int) ≤ (d : Int) ∨ x = 0) →
      ((x : Int) < (d : Int) → (0 ≤ (x : Int) ∧ (x : Int) < (d : Int)) ∧ (0 ≤ (x : Int) ∧ x < n') ∧ (-9223372036854775808 ≤ ((1 : Nat) : Int) + (x : Int) + 1 ∧ ((1 : Nat) : Int) + (x : Int) + 1 ≤ 9223372036854775807) ∧ (-9223372036854775808 ≤ (x : Int) + 1 ∧ (x : Int) + 1 ≤ 9223372036854775807) ∧
        ∃ y : Nat, ((y : Int) ≤ (d : Int) ∨ y = 0) ∧ d - y < d - x ∧ (((1 : Nat) : Int) + (x : Int) + 1 = ((1 : Nat) : Int) + (y : Int) ∧ (x : Int) + 1 = (y : Int)) ∧ (mrk L ((1 : Nat) : Int) x).set x (((1 : Nat) : Int) + (x : Int)) = mrk L ((1 : Nat) : Int) y) ∧ (¬ (x : Int) < (d : Int) → R x) :=
  ⟨⟨0, .inr rfl, ⟨rfl, rfl⟩, (mrk_zero _ _).symm⟩, fun x hx => ⟨fun hlt => ⟨by omega, by omega, by omega, by omega, x + 1, .inl (by omega), by omega, ⟨by omega, by omega⟩, mrk_set (by omega)⟩, fun hge => by
    obtain rfl : x = d := by omega
    exact hR⟩⟩

theorem held_tail {d n' : Nat} {L : List Int} {R : Nat → Prop} (h1 : d ≤ n') (hl : L.length = n') (hd : d ≤ 1000000000000) (hR : R d) :
    (∃ x : Nat, ((x : Int) ≤ (d : Int) ∨ x = 0) ∧ 1 = ((1 : Nat) : Int) + (x : Int) ∧ 0 = (x : Int)) ∧ ∀ x : Nat, ((x : Int) ≤ (d : Int) ∨ x = 0) →
      ((x : Int) < (d : Int) → (0 ≤ (x : Int) ∧ (x : Int) < (d : Int)) ∧ (0 ≤ (x : Int) ∧ x < n') ∧ (¬ (mrk L ((1 : Nat) : Int) d).getD x 0 = ((1 : Nat) : Int) + (x : Int) → False) ∧ ((mrk L ((1 : Nat) : Int) d).getD x 0 = ((1 : Nat) : Int) + (x : Int) → (-9223372036854775808 ≤ ((1 : Nat) : Int) + (x : Int) + 1 ∧ ((1 : Nat) : Int) + (x : Int) + 1 ≤ 9223372036854775807) ∧ (-9223372036854775808 ≤ (x : Int) + 1 ∧ (x : Int) + 1 ≤ 9223372036854775807) ∧
        ∃ y : Nat, ((y : Int) ≤ (d : Int) ∨ y = 0) ∧ d - y < d - x ∧ ((1 : Nat) : Int) + (x : Int) + 1 = ((1 : Nat) : Int) + (y : Int) ∧ (x : Int) + 1 = (y : Int))) ∧ (¬ (x : Int) < (d : Int) → R x) :=
  ⟨⟨0, .inr rfl, rfl, rfl⟩, fun x hx => ⟨fun hlt => ⟨by omega, by omega, fun h => h (by rw [mrk_get (by omega), if_pos (by omega)]), fun _ => ⟨by omega, by omega, x + 1, .inl (by omega), by omega, by omega, by omega⟩⟩, fun hge => by
    obtain rfl : x = d := by omega
    exact hR⟩⟩

/-! ### A copy -/
def lmTo64 (len : Int) (l : List Int) : LAnn := { ι := Nat, inv := fun _ k => k ≤ len.toNat, slots := fun _ k => [(4, .a (.c (.int .i64 k)))], blks := fun _ k => [(1, [.run [.i64] len.toNat (mkN len.toNat (fun i => if i < k then l.getD i 0 else 0))])], μ := fun _ k => len.toNat - k }


end Go.Proofs.YtmjincdnhmkmhaaDoor
