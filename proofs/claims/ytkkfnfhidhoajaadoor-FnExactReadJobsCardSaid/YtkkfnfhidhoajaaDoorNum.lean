/- Numerals that are read: the mathematics. No function is named. No conditions. -/
import Derived.Test.YtkkfnfhidhoajaaDoorJn0
import Derived.Lib.ParseIntBCases
import Derived.Lib.ParseIntBTie
set_option linter.unusedSimpArgs false
set_option linter.unusedVariables false
namespace Go.Proofs.YtkkfnfhidhoajaaDoor
open Go.Sx Go.RowKit
variable {mx : Nat → Value}

/-- A digit. -/
def isD (c : UInt8) : Bool := decide (48 ≤ c.toNat ∧ c.toNat ≤ 57)
theorem isD_t {c : UInt8} : isD c = true ↔ 48 ≤ c.toNat ∧ c.toNat ≤ 57 := by simp [isD]
/-- What digits behind a number tell. -/
def dgV : Nat → List UInt8 → Nat
  | a, [] => a
  | a, c :: r => dgV (a * 10 + (c.toNat - 48)) r
theorem dgV_snoc (c : UInt8) : ∀ (l : List UInt8) (a : Nat), dgV a (l ++ [c]) = dgV a l * 10 + (c.toNat - 48)
  | [], _ => rfl
  | b :: l, a => dgV_snoc c l _
theorem dgV_ge : ∀ (l : List UInt8) (a : Nat), a ≤ dgV a l
  | [], _ => Nat.le_refl _
  | c :: l, a => Nat.le_trans (by omega) (dgV_ge l (a * 10 + (c.toNat - 48)))
theorem dgV_lt : ∀ (l : List UInt8) (a : Nat), (∀ c ∈ l, isD c = true) → dgV a l < (a + 1) * 10 ^ l.length
  | [], a, _ => by
    show a < (a + 1) * 1
    omega
  | c :: l, a, h => by
    show dgV (a * 10 + (c.toNat - 48)) l < _
    have hc := isD_t.1 (h c List.mem_cons_self)
    have ih := dgV_lt l (a * 10 + (c.toNat - 48)) fun x hx => h x (List.mem_cons_of_mem _ hx)
    have e : (a + 1) * 10 ^ (l.length + 1) = ((a + 1) * 10) * 10 ^ l.length := by rw [Nat.pow_succ, Nat.mul_assoc, Nat.mul_comm 10]
    rw [List.length_cons, e]
    exact Nat.lt_of_lt_of_le ih (Nat.mul_le_mul_right _ (by omega))
/-- Digits are read. -/
theorem pum_ok {M : Nat} (hM : M ≤ 9223372036854775807) : ∀ (l : List UInt8) (a : Nat), (∀ c ∈ l, isD c = true) → dgV a l ≤ M → Lib.parseUintM M a l = .ok (dgV a l)
  | [], _, _, _ => rfl
  | c :: l, a, h, hm => by
    have hc := isD_t.1 (h c List.mem_cons_self)
    have hm : dgV (a * 10 + (c.toNat - 48)) l ≤ M := hm
    have g := dgV_ge l (a * 10 + (c.toNat - 48))
    rw [Lib.parseUintM, if_pos hc, if_neg (by omega), if_neg (by omega)]
    exact pum_ok hM l _ (fun x hx => h x (List.mem_cons_of_mem _ hx)) hm

/-! ### The one numeral of a number -/
/-- A numeral as it is written: at most ten digits, no zero ahead of others. -/
structure NmP (l : List UInt8) : Prop where
  ne : l ≠ []
  le : l.length ≤ 10
  z : ¬ (l.getD 0 0 = 48 ∧ 1 < l.length)
  d : ∀ c ∈ l, isD c = true
open Classical in
noncomputable def nmB (l : List UInt8) : Bool := decide (NmP l)
theorem nmB_t {l : List UInt8} : nmB l = true ↔ NmP l := by simp [nmB]
theorem nmB_f {l : List UInt8} : nmB l = false ↔ ¬ NmP l := by simp [nmB]
noncomputable def nmV (l : List UInt8) : Nat := if nmB l then dgV 0 l else 0
theorem NmP.v {l : List UInt8} (h : NmP l) : nmV l = dgV 0 l := by rw [nmV, if_pos (nmB_t.2 h)]
theorem NmP.lt {l : List UInt8} (h : NmP l) : dgV 0 l < 10000000000 := by
  have h1 := dgV_lt l 0 h.d
  have h2 : 10 ^ l.length ≤ 10 ^ 10 := Nat.pow_le_pow_right (by omega) h.le
  have h3 : (10 : Nat) ^ 10 = 10000000000 := by decide
  omega
theorem nmV_lt (l : List UInt8) : nmV l < 10000000000 := by
  unfold nmV
  split
  · rename_i h; exact (nmB_t.1 h).lt
  · omega
theorem dec_digit : ∀ (u : Nat), ∀ c ∈ Lib.decDigits u, isD c = true := by
  intro u
  induction u using Nat.strongRecOn with
  | _ u ih =>
    intro c hc
    by_cases h : u < 10
    · rw [Lib.decDigits, dif_pos h, List.mem_singleton] at hc
      subst hc
      rw [isD_t, UInt8.toNat_ofNat']
      omega
    · rw [Lib.decDigits, dif_neg h, List.mem_append, List.mem_singleton] at hc
      rcases hc with hc | rfl
      · exact ih _ (by omega) c hc
      · rw [isD_t, UInt8.toNat_ofNat']
        omega
theorem dgV_one (c : UInt8) : dgV 0 [c] = c.toNat - 48 := by
  have : dgV 0 [c] = 0 * 10 + (c.toNat - 48) := rfl
  omega
theorem dec_val (u : Nat) : dgV 0 (Lib.decDigits u) = u := by
  induction u using Nat.strongRecOn with
  | _ u ih =>
    by_cases h : u < 10
    · rw [Lib.decDigits, dif_pos h, dgV_one, UInt8.toNat_ofNat']
      omega
    · rw [Lib.decDigits, dif_neg h, dgV_snoc, ih _ (by omega), UInt8.toNat_ofNat']
      omega
theorem dec_ne (u : Nat) : Lib.decDigits u ≠ [] := by
  rw [Lib.decDigits]; split <;> simp
theorem dec_head (u : Nat) (h1 : 1 ≤ u) : (Lib.decDigits u).getD 0 0 ≠ 48 := by
  induction u using Nat.strongRecOn with
  | _ u ih =>
    by_cases h : u < 10
    · rw [Lib.decDigits, dif_pos h, List.getD_cons_zero]
      intro e
      have := congrArg UInt8.toNat e
      rw [UInt8.toNat_ofNat'] at this
      have e48 : (48 : UInt8).toNat = 48 := rfl
      omega
    · have i := ih (u / 10) (by omega) (by omega)
      obtain ⟨c, r, e⟩ := List.exists_cons_of_ne_nil (dec_ne (u / 10))
      rw [Lib.decDigits, dif_neg h]
      rw [e] at i ⊢
      exact i
theorem dec_len {u : Nat} (h : u < 10000000000) : (Lib.decDigits u).length ≤ 10 := by
  rw [Lib.decDigits_length]
  exact nDig_le 9 u (by have : (10 : Nat) ^ (9 + 1) = 10000000000 := by decide
                        omega)
/-- The numeral of a number reads as the number. -/
theorem nm_dec {u : Nat} (h : u < 10000000000) : NmP (Lib.decDigits u) := by
  refine ⟨dec_ne u, dec_len h, fun ⟨e, hl⟩ => ?_, dec_digit u⟩
  by_cases h1 : 1 ≤ u
  · exact dec_head u h1 e
  · obtain rfl : u = 0 := by omega
    rw [Lib.decDigits, dif_pos (by omega)] at hl
    simp at hl
/-- A numeral is the numeral of its number. -/
theorem dec_nm : ∀ (n : Nat) (l : List UInt8), l.length = n → NmP l → Lib.decDigits (dgV 0 l) = l
  | 0, l, hn, h => absurd (List.length_eq_zero_iff.1 hn) h.ne
  | 1, l, hn, h => by
    match l, hn, h with
    | [c], _, h =>
      have hc := isD_t.1 (h.d c List.mem_cons_self)
      have e : dgV 0 [c] = c.toNat - 48 := dgV_one c
      rw [e, Lib.decDigits, dif_pos (by omega), show 48 + (c.toNat - 48) = c.toNat by omega, UInt8.ofNat_toNat]
  | n + 2, l, hn, h => by
    have hne : l ≠ [] := h.ne
    obtain ⟨a, c, rfl⟩ : ∃ a c, l = a ++ [c] := ⟨l.dropLast, l.getLast hne, (List.dropLast_concat_getLast hne).symm⟩
    have ha : a.length = n + 1 := by rw [List.length_append, List.length_singleton] at hn; omega
    obtain ⟨b, r, rfl⟩ : ∃ b r, a = b :: r := by
      match a, ha with
      | b :: r, _ => exact ⟨b, r, rfl⟩
    have hl := h.le
    rw [hn] at hl
    have hz : b ≠ 48 := fun e => h.z ⟨by rw [e]; rfl, by rw [hn]; omega⟩
    have na : NmP (b :: r) := ⟨by simp, by omega, fun ⟨e, _⟩ => hz e, fun x hx => h.d x (List.mem_append_left _ hx)⟩
    have ih := dec_nm (n + 1) (b :: r) ha na
    have hb := isD_t.1 (na.d b List.mem_cons_self)
    have hc := isD_t.1 (h.d c (List.mem_append_right _ (List.mem_singleton.2 rfl)))
    have hb48 : b.toNat ≠ 48 := fun e => hz (UInt8.toNat_inj.1 e)
    have hg : 1 ≤ dgV 0 (b :: r) := Nat.le_trans (by omega) (dgV_ge r (0 * 10 + (b.toNat - 48)))
    rw [dgV_snoc]
    generalize dgV 0 (b :: r) = v at *
    rw [Lib.decDigits, dif_neg (by omega), show (v * 10 + (c.toNat - 48)) / 10 = v by omega, show 48 + (v * 10 + (c.toNat - 48)) % 10 = c.toNat by omega, UInt8.ofNat_toNat, ih]
theorem NmP.dec {l : List UInt8} (h : NmP l) : Lib.decDigits (nmV l) = l := by rw [h.v]; exact dec_nm l.length l rfl h
theorem NmP.itoa {l : List UInt8} (h : NmP l) : Lib.itoa (nmV l : Int) = l := by rw [itoa_nat, h.dec]
theorem nm_itoa {u : Int} (h0 : 0 ≤ u) (h : u < 10000000000) : NmP (Lib.itoa u) ∧ (nmV (Lib.itoa u) : Int) = u := by
  obtain ⟨k, rfl⟩ := Int.eq_ofNat_of_zero_le h0
  rw [itoa_nat]
  have q := nm_dec (u := k) (by omega)
  exact ⟨q, by rw [q.v, dec_val]⟩

/-! ### ParseInt -/
def piV (B : Nat) (l : List UInt8) : Int := match Lib.parseIntB B l with
  | .ok v => v
  | _ => 0
def piB (B : Nat) (l : List UInt8) : Bool := match Lib.parseIntB B l with
  | .ok _ => true
  | _ => false
theorem pi_bounds {B : Nat} {l : List UInt8} (h : piB B l = true) : -((2 ^ (B - 1) : Nat) : Int) ≤ piV B l ∧ piV B l < ((2 ^ (B - 1) : Nat) : Int) := by
  unfold piB at h
  unfold piV
  split at h
  · rename_i v e
    exact Lib.parseIntB_bounds e
  · cases h
theorem NmP.pi {B : Nat} {l : List UInt8} (h : NmP l) (hB : B = 8 ∨ B = 16) (hv : nmV l < 2 ^ (B - 1)) : piB B l = true ∧ piV B l = nmV l := by
  have hM : 2 ^ B - 1 ≤ 9223372036854775807 ∧ 2 ^ (B - 1) ≤ 2 ^ B - 1 + 1 := by rcases hB with rfl | rfl <;> decide
  rw [h.v] at *
  obtain ⟨c, r, rfl⟩ := List.exists_cons_of_ne_nil h.ne
  have hc := isD_t.1 (h.d c List.mem_cons_self)
  have e : Lib.parseIntB B (c :: r) = .ok (dgV 0 (c :: r) : Int) := by
    rw [Lib.parseIntB_plain B c r (by omega) (by omega), Lib.parseUintB, if_neg (by simp), pum_ok hM.1 _ _ h.d (by omega), Lib.signlessC, if_neg (by omega)]
  unfold piB piV
  rw [e]
  exact ⟨rfl, rfl⟩
/-- A numeral with a sign. -/
theorem NmP.piN {B : Nat} {l : List UInt8} (h : NmP l) (hB : B = 8 ∨ B = 16) (hv : nmV l ≤ 2 ^ (B - 1)) : piB B (45 :: l) = true ∧ piV B (45 :: l) = -(nmV l : Int) := by
  have hM : 2 ^ B - 1 ≤ 9223372036854775807 ∧ 2 ^ (B - 1) ≤ 2 ^ B - 1 := by rcases hB with rfl | rfl <;> decide
  rw [h.v] at *
  have e : Lib.parseIntB B (45 :: l) = .ok (-(dgV 0 l : Int)) := by
    rw [Lib.parseIntB_minus, Lib.parseUintB, if_neg h.ne, pum_ok hM.1 _ _ h.d (by omega), Lib.signedC, if_neg (by omega)]
  unfold piB piV
  rw [e]
  exact ⟨rfl, rfl⟩

/-! ### Numerals hold digits alone -/
theorem dec_no {u : Nat} {c : UInt8} (h : isD c = false) : c ∉ Lib.decDigits u := fun hm => by
  rw [dec_digit u c hm] at h; cases h
theorem itoa_no {u : Int} {c : UInt8} (h : isD c = false) (h2 : c ≠ 45) : c ∉ Lib.itoa u := by
  unfold Lib.itoa
  split
  · intro hm
    rcases List.mem_cons.1 hm with e | hm
    · exact h2 e
    · exact dec_no h hm
  · exact dec_no h

end Go.Proofs.YtkkfnfhidhoajaaDoor
