/- Lists of records of numbers: lemmas that no function is named in. No conditions. -/
import Derived.Test.YtghphlgfgblbeaaDoorI64
set_option linter.unusedSimpArgs false
set_option linter.unusedVariables false
namespace Go.Proofs.YtghphlgfgblbeaaDoor
open Go.Sx Go.RowKit

/-- Two records of s numbers are equal. -/
def eqE (s : Nat) (a b : List Int) : Bool := decide (∀ j, j < s → a.getD j 0 = b.getD j 0)
theorem eqE_y {s : Nat} {a b : List Int} (h : ∀ j, j < s → a.getD j 0 = b.getD j 0) : eqE s a b = true := by simp only [eqE, decide_eq_true_eq]; exact h
theorem eqE_n {s : Nat} {a b : List Int} {j : Nat} (hj : j < s) (h : a.getD j 0 ≠ b.getD j 0) : eqE s a b = false := by
  simp only [eqE, decide_eq_false_iff_not]
  exact fun h' => h (h' j hj)
theorem eqE2 {a b : List Int} : eqE 2 a b = (a.getD 0 0 == b.getD 0 0 && a.getD 1 0 == b.getD 1 0) := by
  rw [Bool.eq_iff_iff]
  simp only [eqE, decide_eq_true_eq, Bool.and_eq_true, beq_iff_eq]
  exact ⟨fun h => ⟨h 0 (by omega), h 1 (by omega)⟩, fun ⟨h0, h1⟩ j hj => by rcases (show j = 0 ∨ j = 1 by omega) with rfl | rfl <;> assumption⟩
theorem eqE3 {a b : List Int} : eqE 3 a b = (a.getD 0 0 == b.getD 0 0 && (a.getD 1 0 == b.getD 1 0 && a.getD 2 0 == b.getD 2 0)) := by
  rw [Bool.eq_iff_iff]
  simp only [eqE, decide_eq_true_eq, Bool.and_eq_true, beq_iff_eq]
  exact ⟨fun h => ⟨h 0 (by omega), h 1 (by omega), h 2 (by omega)⟩, fun ⟨h0, h1, h2⟩ j hj => by rcases (show j = 0 ∨ j = 1 ∨ j = 2 by omega) with rfl | rfl | rfl <;> assumption⟩
theorem eqE4 {a b : List Int} : eqE 4 a b = (a.getD 0 0 == b.getD 0 0 && (a.getD 1 0 == b.getD 1 0 && (a.getD 2 0 == b.getD 2 0 && a.getD 3 0 == b.getD 3 0))) := by
  rw [Bool.eq_iff_iff]
  simp only [eqE, decide_eq_true_eq, Bool.and_eq_true, beq_iff_eq]
  exact ⟨fun h => ⟨h 0 (by omega), h 1 (by omega), h 2 (by omega), h 3 (by omega)⟩, fun ⟨h0, h1, h2, h3⟩ j hj => by rcases (show j = 0 ∨ j = 1 ∨ j = 2 ∨ j = 3 by omega) with rfl | rfl | rfl | rfl <;> assumption⟩
/-- Two records of lists, compared as lists. -/
theorem eqE_rcd {s k j : Nat} {l m : List Int} (h1 : (k + 1) * s ≤ l.length) (h2 : (j + 1) * s ≤ m.length) : (List.take s (List.drop (k * s) l) == List.take s (List.drop (j * s) m)) = eqE s (List.take s (List.drop (k * s) l)) (List.take s (List.drop (j * s) m)) := by
  rw [Nat.succ_mul] at h1 h2
  rw [eqE]
  exact beq_lists (by simp; omega) (by simp; omega)
/-- A record of a list. -/
def rcd (s : Nat) (l : List Int) (k : Nat) : List Int := List.take s (List.drop (k * s) l)
theorem rcd_get {s k j : Nat} {l : List Int} (h : j < s) : (rcd s l k).getD j 0 = l.getD (k * s + j) 0 := by rw [rcd, getD_take' h, getD_drop']
theorem rcd_len {s k : Nat} {l : List Int} (h : (k + 1) * s ≤ l.length) : (rcd s l k).length = s := by
  rw [Nat.succ_mul] at h
  simp [rcd]; omega
theorem tk_len {s c : Nat} {l : List Int} (h : c + s ≤ l.length) : (List.take s (List.drop c l)).length = s := by simp; omega
theorem rec_le {k n s : Nat} (h : k < n) : (k + 1) * s ≤ n * s := Nat.mul_le_mul_right s h
theorem eqE_t {s k : Nat} {l1 l2 : List Int} : eqE s (List.take s (List.drop (k * s) l1)) (List.take s (List.drop (k * s) l2)) = true ↔ ∀ j, j < s → l1.getD (k * s + j) 0 = l2.getD (k * s + j) 0 := by
  simp only [eqE, decide_eq_true_eq]
  exact ⟨fun h j hj => by have := h j hj; rwa [getD_take' hj, getD_take' hj, getD_drop', getD_drop'] at this, fun h j hj => by rw [getD_take' hj, getD_take' hj, getD_drop', getD_drop']; exact h j hj⟩
theorem eqE_step {s k : Nat} {l1 l2 : List Int} (hp : ∀ i, i < k * s → l1.getD i 0 = l2.getD i 0) (hc : eqE s (List.take s (List.drop (k * s) l1)) (List.take s (List.drop (k * s) l2)) = true) : ∀ i, i < (k + 1) * s → l1.getD i 0 = l2.getD i 0 := by
  intro i hi
  by_cases h : i < k * s
  · exact hp i h
  · have := eqE_t.1 hc (i - k * s) (by rw [Nat.succ_mul] at hi; omega)
    rwa [show k * s + (i - k * s) = i by omega] at this
theorem eqE_stop {s k : Nat} {n m : Int} {l1 l2 : List Int} (hk : k < n.toNat) (hc : eqE s (List.take s (List.drop (k * s) l1)) (List.take s (List.drop (k * s) l2)) = false) : eqSl s n m l1 l2 = false := by
  have h : ¬ ∀ j, j < s → l1.getD (k * s + j) 0 = l2.getD (k * s + j) 0 := fun h => by rw [eqE_t.2 h] at hc; cases hc
  obtain ⟨j, h⟩ := Classical.not_forall.1 h
  obtain ⟨hj, h⟩ := Classical.not_imp.1 h
  refine eqSl_no (i := k * s + j) ?_ h
  have := rec_le (s := s) hk
  rw [Nat.succ_mul] at this
  omega

theorem eqE_stop' {s k : Nat} {n m : Int} {l1 l2 : List Int} (hk : k < n.toNat) (h1 : n.toNat * s ≤ l1.length) (h2 : n.toNat * s ≤ l2.length) (hc : ¬ List.take s (List.drop (k * s) l1) = List.take s (List.drop (k * s) l2)) : eqSl s n m l1 l2 = false := by
  have := rec_le (s := s) hk
  exact eqE_stop hk (by rw [← eqE_rcd (by omega) (by omega)]; simpa using hc)
theorem eqE_step' {s k : Nat} {l1 l2 : List Int} (h1 : (k + 1) * s ≤ l1.length) (h2 : (k + 1) * s ≤ l2.length) (hp : ∀ i, i < k * s → l1.getD i 0 = l2.getD i 0) (hc : List.take s (List.drop (k * s) l1) = List.take s (List.drop (k * s) l2)) : ∀ i, i < (k + 1) * s → l1.getD i 0 = l2.getD i 0 :=
  eqE_step hp (by rw [← eqE_rcd h1 h2]; simpa using hc)

/-- A copy that is made record by record. -/
def toFr (k : Nat) (l : List Int) (i : Nat) : Int := if i < k then l.getD i 0 else 0
def lmToR (s : Nat) (ks : List EK) (slot blk : Nat) (len : Int) (l : List Int) : LAnn := { ι := Nat, inv := fun _ k => k ≤ len.toNat, slots := fun _ k => [(slot, .a (.c (.int .i64 k)))], blks := fun _ k => [(blk, [.run ks (len.toNat * s) (mkN (len.toNat * s) (toFr (k * s) l))])], μ := fun _ k => len.toNat - k }
theorem to_zero {s N : Nat} {l : List Int} : List.replicate (N * s) 0 = mkN (N * s) (toFr (0 * s) l) := mkN_zero fun i hi => by simp [toFr]
theorem to_step {s k N c : Nat} {l xs : List Int} (hx : xs.length = s) (hk : k < N) (h : ∀ j, j < s → xs.getD j 0 = l.getD (k * s + j) 0) (hc : c = k * s + s) :
    (mkN (N * s) (toFr (k * s) l)).take (k * s) ++ xs ++ (mkN (N * s) (toFr (k * s) l)).drop c = mkN (N * s) (toFr ((k + 1) * s) l) := by
  have hm := rec_le (s := s) hk
  rw [Nat.succ_mul] at hm
  refine mkN_put (by omega) (by omega) (fun i hi hne => ?_) fun j hj => ?_
  · simp only [toFr, Nat.succ_mul]
    by_cases h' : i < k * s
    · rw [if_pos h', if_pos (by omega)]
    · rw [if_neg h', if_neg (by omega)]
  · rw [toFr, if_pos (by rw [Nat.succ_mul]; omega)]
    exact h j (by omega)
theorem to_end {s N k : Nat} {l : List Int} (hl : N * s ≤ l.length) (hk : N ≤ k) : mkN (N * s) (toFr (k * s) l) = l.take (N * s) := by
  rw [take_mkN hl]
  exact mkN_congr fun i hi => by rw [toFr, if_pos (by have := Nat.mul_le_mul_right s hk; omega)]

/-! ### Contracts of lists of records -/
def gSzR : Entry := fun args _ => match args with
  | [.a (.c (.slc _ _ _ _ len _)), .a (.c (.int .i64 left))] => some (0 ≤ len ∧ len ≤ 9223372036854775807 ∧ 0 ≤ left ∧ left ≤ 1048576, .a (.c (.int .i64 (szF left len))))
  | _ => none

def gToR (t s : Nat) (kk : List EK) : EntryC := fun args H K => match args with
  | [.a (.c (.slc id b i st len cap))] => match getB H id with
    | .wnd o ks n l => (b = o ∧ i = 0 ∧ st = s ∧ ks = kk ∧ l.length = n ∧ 0 ≤ len ∧ len ≤ 1048576 ∧ len.toNat * s ≤ n) ∧ withLenP H fun m => K (.a (.c (.slc m 0 0 s len len))) (H ++ [.cells true t [.run kk (len.toNat * s) (l.take (len.toNat * s))]])
    | _ => Stuck "to"
  | _ => Stuck "to"

def gEqR (t s : Nat) (kk : List EK) : Entry := fun args H => match args with
  | [.a (.c (.slc i1 b1 z1 s1 len1 _)), .a (.c (.slc i2 b2 z2 s2 len2 _))] => match getB H i1, getB H i2 with
    | .cells _ t1 [.run k1 n1 l1], .cells _ t2 [.run k2 n2 l2] => some ((t1 = t ∧ t2 = t ∧ b1 = 0 ∧ b2 = 0 ∧ z1 = 0 ∧ z2 = 0 ∧ s1 = s ∧ s2 = s ∧ k1 = kk ∧ k2 = kk) ∧ 0 ≤ len1 ∧ len1 ≤ 1048576 ∧ 0 ≤ len2 ∧ len1.toNat * s ≤ n1 ∧ len2.toNat * s ≤ n2 ∧ l1.length = n1 ∧ l2.length = n2, .a (.c (.bool (eqSl s len1 len2 l1 l2))))
    | _, _ => none
  | _ => none

theorem gEqR_inv {t s : Nat} {kk : List EK} {args : List LV} {H : List Blk} {p : Prop} {r : LV} (he : gEqR t s kk args H = some (p, r)) (hp : p) : ∃ (i1 i2 : Nat) (o1 o2 : Bool) (n1 n2 : Nat) (l1 l2 : List Int) (c1 c2 len1 len2 : Int),
    args = [.a (.c (.slc i1 0 0 s len1 c1)), .a (.c (.slc i2 0 0 s len2 c2))] ∧ getB H i1 = .cells o1 t [.run kk n1 l1] ∧ getB H i2 = .cells o2 t [.run kk n2 l2] ∧ r = .a (.c (.bool (eqSl s len1 len2 l1 l2))) ∧
    0 ≤ len1 ∧ len1 ≤ 1048576 ∧ 0 ≤ len2 ∧ len1.toNat * s ≤ n1 ∧ len2.toNat * s ≤ n2 ∧ l1.length = n1 ∧ l2.length = n2 := by
  unfold gEqR at he
  split at he
  · split at he
    · rename_i hg1 hg2
      simp only [Option.some.injEq, Prod.mk.injEq] at he
      obtain ⟨rfl, rfl⟩ := he
      obtain ⟨⟨rfl, rfl, rfl, rfl, rfl, rfl, rfl, rfl, rfl, rfl⟩, hh⟩ := hp
      exact ⟨_, _, _, _, _, _, _, _, _, _, _, _, rfl, hg1, hg2, rfl, hh⟩
    · simp at he
  · simp at he

/-- Two records compared. -/
def gEq1R (s : Nat) (kk : List EK) : Entry := fun args _ => match args with
  | [.a (.agg [.run k1 n1 a]), .a (.agg [.run k2 n2 b])] => some (k1 = kk ∧ k2 = kk ∧ n1 = s ∧ n2 = s, .a (.c (.bool (eqE s a b))))
  | _ => none
/-- A record copied. -/
def gTo1R (s : Nat) (kk : List EK) : Entry := fun args _ => match args with
  | [.a (.agg [.run k1 n1 a])] => some (k1 = kk ∧ n1 = s, .a (.agg [.run k1 n1 a]))
  | _ => none

end Go.Proofs.YtghphlgfgblbeaaDoor
