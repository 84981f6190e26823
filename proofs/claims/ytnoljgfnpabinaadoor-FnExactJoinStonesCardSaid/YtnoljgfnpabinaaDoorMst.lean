/- Stones that come back: what is written over them and read again. No conditions beyond the ranges of the kinds. -/
import Derived.Test.YtnoljgfnpabinaaDoorStv1
set_option linter.unusedSimpArgs false
set_option linter.unusedVariables false
namespace Go.Proofs.YtnoljgfnpabinaaDoor
open Go.Sx Go.RowKit

variable {e : Nat → Value}

/-- What a slot's slice holds, and how long it is: for annotations. -/
def slL (st : St) (t : Nat) : List Int := match getL st.tmps t with
  | .a (.c (.slc id _ _ _ _ _)) => match getB st.heap id with
    | .cells _ _ [.run _ _ l] => l
    | .wnd _ _ _ l => l
    | _ => []
  | _ => []
def slM (st : St) (t : Nat) : Nat := match getL st.tmps t with
  | .a (.c (.slc id _ _ _ _ _)) => match getB st.heap id with
    | .cells _ _ [.run _ n _] => n
    | .wnd _ _ n _ => n
    | _ => 0
  | _ => 0
def slN (st : St) (t : Nat) : Int := match getL st.tmps t with
  | .a (.c (.slc _ _ _ _ len _)) => len
  | _ => 0
def slB (st : St) (t : Nat) (cs : List Cel) : List (Nat × List Cel) := match getL st.tmps t with
  | .a (.c (.slc id _ _ _ _ _)) => [(id, cs)]
  | _ => []

/-- A slice's memory that holds so many corners, and maybe more room. -/
structure Gs (k : Nat) (F : List Int) (n : Nat) (L : List Int) (cap : Int) : Prop where
  c : (k : Int) ≤ cap
  e : n = cap.toNat * 2
  l : L.length = n
  t : L.take (k * 2) = F
theorem Gs.nil : Gs 0 [] 0 [] 0 := ⟨by simp, rfl, rfl, rfl⟩
theorem Gs.room {k : Nat} {F : List Int} {n : Nat} {L : List Int} {cap : Int} (g : Gs k F n L cap) : k * 2 ≤ n := by have := g.c; have := g.e; omega
theorem Gs.eqs {k : Nat} {F L L' : List Int} {n n' : Nat} {cap cap' : Int} (g : Gs k F n L cap) (g' : Gs k F n' L' cap') : eqSl 2 (k : Int) (k : Int) L L' = true :=
  eqSl_self (by rw [Int.toNat_natCast, g.t, g'.t])
theorem Gs.push {k : Nat} {F xs : List Int} {n n' : Nat} {L L' : List Int} {cap cap' : Int} (g : Gs k F n L cap) (h1 : (k : Int) + 1 ≤ cap') (h2 : n' = cap'.toNat * 2) (h3 : L'.length = n') (h4 : L'.take ((k + 1) * 2) = L.take (k * 2) ++ xs) : Gs (k + 1) (F ++ xs) n' L' cap' :=
  ⟨by omega, h2, h3, by rw [h4, g.t]⟩
theorem Gs.full {k : Nat} {f : Nat → Int} : Gs k (mkN (k * 2) f) (k * 2) (mkN (k * 2) f) k :=
  ⟨by omega, by omega, mkN_len _ _, List.take_of_length_le (by rw [mkN_len]; omega)⟩

theorem fr_err {K : Nat} {F : List Int} {E E' : Int} (hK : K = 0) (hF : F = []) (hE : E' = E) : ∃ x : Nat × List Int × Int, Gs K F x.1 x.2.1 x.2.2 ∧ ((0 = (K : Int) ∧ 0 = x.2.2) ∧ E' = E) ∧ 0 = x.1 ∧ [] = x.2.1 := by
  subst hK hF; exact ⟨(0, [], 0), Gs.nil, ⟨⟨rfl, rfl⟩, hE⟩, rfl, rfl⟩
theorem fr_err' {K : Nat} {F : List Int} {E E' : Int} (hK : K = 0) (hF : F = []) (hE : E' = E) : ∃ x : Nat × List Int × Int, Gs K F x.1 x.2.1 x.2.2 ∧ (((K : Int) = 0 ∧ x.2.2 = 0) ∧ E' = E) ∧ x.1 = 0 ∧ x.2.1 = [] := by
  subst hK hF; exact ⟨(0, [], 0), Gs.nil, ⟨⟨rfl, rfl⟩, hE⟩, rfl, rfl⟩

theorem mkN_two {k : Nat} {f : Nat → Int} : mkN ((k + 1) * 2) f = mkN (k * 2) f ++ [f (k * 2), f (k * 2 + 1)] := by
  simp [mkN, show (k + 1) * 2 = k * 2 + 1 + 1 by omega, List.range_succ]

/-- A list of which the first numbers are a count, wrapped. -/
def mrkS (l : List Int) (f : Int) (k : Nat) : List Int := (List.range l.length).map fun i => if i < k * 2 then IntKind.i16.wrap (f + i) else l.getD i 0
theorem mrkS_len (l : List Int) (f : Int) (k : Nat) : (mrkS l f k).length = l.length := by simp [mrkS]
theorem mrkS_get {l : List Int} {f : Int} {k i : Nat} (h : i < l.length) : (mrkS l f k).getD i 0 = if i < k * 2 then IntKind.i16.wrap (f + i) else l.getD i 0 := by
  simp [mrkS, List.getD, h]
theorem mrkS_zero (l : List Int) (f : Int) : mrkS l f 0 = l := by
  refine list_ext (mrkS_len _ _ _) fun i hi => ?_
  rw [mrkS_get hi, if_neg (by omega)]
theorem mrkS_set {l : List Int} {f x y : Int} {k : Nat} (h : k * 2 + 1 < l.length) (hx : x = IntKind.i16.wrap (f + (k * 2 : Nat))) (hy : y = IntKind.i16.wrap (f + (k * 2 + 1 : Nat))) : ((mrkS l f k).set (k * 2) x).set (k * 2 + 1) y = mrkS l f (k + 1) := by
  subst hx hy
  refine list_ext (by simp [mrkS_len]) fun i hi => ?_
  have hi : i < l.length := by rw [mrkS_len] at hi; exact hi
  rw [mrkS_get hi, List.getD_eq_getElem?_getD, List.getElem?_set, List.getElem?_set]
  by_cases e1 : k * 2 + 1 = i
  · subst e1; simp [mrkS_len, h, show k * 2 + 1 < (k + 1) * 2 by omega]
  · rw [if_neg e1]
    by_cases e2 : k * 2 = i
    · subst e2; simp [mrkS_len, hi, show k * 2 < (k + 1) * 2 by omega]
    · rw [if_neg e2, ← List.getD_eq_getElem?_getD, mrkS_get hi]
      by_cases c : i < k * 2
      · rw [if_pos c, if_pos (by omega)]
      · rw [if_neg c, if_neg (by omega)]

/-! ### What the laws ask of a stone that comes back -/
theorem mark_st {d n' : Nat} {L : List Int} {R : Nat → Prop} (h1 : d * 2 ≤ n') (hl : L.length = n') (hd : d ≤ 1000000000000) (hR : R d) :
    (∃ x : Nat, ((x : Int) ≤ (d : Int) ∨ x = 0) ∧ (1 = 1 + ((x * 2 : Nat) : Int) ∧ 0 = (x : Int)) ∧ L = mrkS L 1 x) ∧ ∀ x : Nat, ((x : Int) ≤ (d : Int) ∨ x = 0) →
      ((x : Int) < (d : Int) → (0 ≤ (x : Int) ∧ (x : Int) < (d : Int)) ∧ (0 ≤ (x : Int) ∧ x * 2 < n') ∧ (-9223372036854775808 ≤ 1 + ((x * 2 : Nat) : Int) + 1 ∧ 1 + ((x * 2 : Nat) : Int) + 1 ≤ 9223372036854775807) ∧ (0 ≤ (x : Int) ∧ (x : Int) < (d : Int)) ∧ (0 ≤ (x : Int) ∧ x * 2 + 1 < n') ∧ (-9223372036854775808 ≤ 1 + ((x * 2 : Nat) : Int) + 1 + 1 ∧ 1 + ((x * 2 : Nat) : Int) + 1 + 1 ≤ 9223372036854775807) ∧ (-9223372036854775808 ≤ (x : Int) + 1 ∧ (x : Int) + 1 ≤ 9223372036854775807) ∧
        ∃ y : Nat, ((y : Int) ≤ (d : Int) ∨ y = 0) ∧ d - y < d - x ∧ (1 + ((x * 2 : Nat) : Int) + 1 + 1 = 1 + ((y * 2 : Nat) : Int) ∧ (x : Int) + 1 = (y : Int)) ∧ ((mrkS L 1 x).set (x * 2) (IntKind.i16.wrap (1 + ((x * 2 : Nat) : Int)))).set (x * 2 + 1) (IntKind.i16.wrap (1 + ((x * 2 : Nat) : Int) + 1)) = mrkS L 1 y) ∧ (¬ (x : Int) < (d : Int) → R x) :=
  ⟨⟨0, .inr rfl, ⟨rfl, rfl⟩, (mrkS_zero _ _).symm⟩, fun x hx => ⟨fun hlt => ⟨by omega, by omega, by omega, by omega, by omega, by omega, by omega, x + 1, .inl (by omega), by omega, ⟨by omega, by omega⟩, mrkS_set (by omega) rfl (by rw [show (1 : Int) + ((x * 2 : Nat) : Int) + 1 = 1 + ((x * 2 + 1 : Nat) : Int) by omega])⟩, fun hge => by
    obtain rfl : x = d := by omega
    exact hR⟩⟩

theorem held_st {d n' : Nat} {L : List Int} {R : Nat → Prop} (h1 : d * 2 ≤ n') (hl : L.length = n') (hd : d ≤ 1000000000000) (hR : R d) :
    (∃ x : Nat, ((x : Int) ≤ (d : Int) ∨ x = 0) ∧ 1 = 1 + ((x * 2 : Nat) : Int) ∧ 0 = (x : Int)) ∧ ∀ x : Nat, ((x : Int) ≤ (d : Int) ∨ x = 0) →
      ((x : Int) < (d : Int) → (0 ≤ (x : Int) ∧ (x : Int) < (d : Int)) ∧ (0 ≤ (x : Int) ∧ x * 2 < n') ∧ (¬ (mrkS L 1 d).getD (x * 2) 0 = IntKind.i16.wrap (1 + ((x * 2 : Nat) : Int)) → False) ∧ ((mrkS L 1 d).getD (x * 2) 0 = IntKind.i16.wrap (1 + ((x * 2 : Nat) : Int)) → (-9223372036854775808 ≤ 1 + ((x * 2 : Nat) : Int) + 1 ∧ 1 + ((x * 2 : Nat) : Int) + 1 ≤ 9223372036854775807) ∧ (0 ≤ (x : Int) ∧ (x : Int) < (d : Int)) ∧ (0 ≤ (x : Int) ∧ x * 2 + 1 < n') ∧ (¬ (mrkS L 1 d).getD (x * 2 + 1) 0 = IntKind.i16.wrap (1 + ((x * 2 : Nat) : Int) + 1) → False) ∧ ((mrkS L 1 d).getD (x * 2 + 1) 0 = IntKind.i16.wrap (1 + ((x * 2 : Nat) : Int) + 1) → (-9223372036854775808 ≤ 1 + ((x * 2 : Nat) : Int) + 1 + 1 ∧ 1 + ((x * 2 : Nat) : Int) + 1 + 1 ≤ 9223372036854775807) ∧ (-9223372036854775808 ≤ (x : Int) + 1 ∧ (x : Int) + 1 ≤ 9223372036854775807) ∧
        ∃ y : Nat, ((y : Int) ≤ (d : Int) ∨ y = 0) ∧ d - y < d - x ∧ 1 + ((x * 2 : Nat) : Int) + 1 + 1 = 1 + ((y * 2 : Nat) : Int) ∧ (x : Int) + 1 = (y : Int)))) ∧ (¬ (x : Int) < (d : Int) → R x) :=
  ⟨⟨0, .inr rfl, rfl, rfl⟩, fun x hx => ⟨fun hlt => ⟨by omega, by omega, fun h => h (by rw [mrkS_get (by omega), if_pos (by omega)]), fun _ => ⟨by omega, by omega, by omega, fun h => h (by rw [mrkS_get (by omega), if_pos (by omega), show (1 : Int) + ((x * 2 : Nat) : Int) + 1 = 1 + ((x * 2 + 1 : Nat) : Int) by omega]), fun _ => ⟨by omega, by omega, x + 1, .inl (by omega), by omega, by omega, by omega⟩⟩⟩, fun hge => by
    obtain rfl : x = d := by omega
    exact hR⟩⟩

def lmMkS : LAnn := { ι := Nat, inv := fun st k => (k : Int) ≤ slN st 0 ∨ k = 0, slots := fun st k => [(1, .a (.c (.int .i64 (slotI st 1 + (k * 2 : Nat))))), (5, .a (.c (.int .i64 k)))], blks := fun st k => slB st 0 [.run [.i16] (slM st 0) (mrkS (slL st 0) (slotI st 1) k)], μ := fun st k => (slN st 0).toNat - k }
def lmHeS : LAnn := { ι := Nat, inv := fun st k => (k : Int) ≤ slN st 0 ∨ k = 0, slots := fun st k => [(1, .a (.c (.int .i64 (slotI st 1 + (k * 2 : Nat))))), (5, .a (.c (.int .i64 k)))], blks := fun _ _ => [], μ := fun st k => (slN st 0).toNat - k }
noncomputable def ILmk  : List (FuncId × Func × (Nat → LM)) := [
  (9, Tryd.f9, fun _ => .inv lmMkS),
  (10, Tryd.f10, fun _ => .inv lmHeS)]
theorem ILmk_ok  : InlsOk Tryd.prog ILmk := ⟨⟨Tryd.func9, by kernel_rfl⟩, ⟨Tryd.func10, by kernel_rfl⟩, trivial⟩

/-- What a function makes of a stone: so many corners, these, and a code. -/
noncomputable def gFr (Kf : Nat → List Int → Nat) (Ff : Nat → List Int → List Int) (Ef : Nat → List Int → Int) : EntryC := fun args H K => match args with
  | [.a (.c (.slc id b z s len cap))] => match getB H id with
    | .cells _ t [.run ks n l] => ((t = 35 ∧ b = 0 ∧ z = 0 ∧ s = 2 ∧ ks = [.i16]) ∧ 0 ≤ len ∧ len ≤ cap ∧ len ≤ 1048576 ∧ len.toNat * 2 ≤ n ∧ l.length = n ∧ wfl (len.toNat * 2) l) ∧
      withLenP H fun m => ∀ N L cp, Gs (Kf len.toNat l) (Ff len.toNat l) N L cp → K (.tup [.c (.slc m 0 0 2 (Kf len.toNat l) cp), .c (.int .i64 (Ef len.toNat l))]) (H ++ [.cells true 35 [.run [.i16] N L]])
    | _ => Stuck "fresh"
  | _ => Stuck "fresh"
def resB (lv : LV) : List Nat := match lv with
  | .tup (.c (.slc id _ _ _ _ _) :: .c (.slc id' _ _ _ _ _) :: _) => [id, id']
  | .tup (.c (.slc id _ _ _ _ _) :: _) => [id]
  | .a (.c (.slc id _ _ _ _ _)) => [id]
  | _ => [9999]

end Go.Proofs.YtnoljgfnpabinaaDoor
