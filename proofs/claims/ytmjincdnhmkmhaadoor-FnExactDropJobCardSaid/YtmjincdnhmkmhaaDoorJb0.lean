/- Jobs: sets of bits, the first order, jobs that are valid. Mathematics, no function is named. No conditions. -/
import Derived.Test.YtmjincdnhmkmhaaDoorRec
set_option linter.unusedSimpArgs false
set_option linter.unusedVariables false
namespace Go.Proofs.YtmjincdnhmkmhaaDoor
open Go.Sx Go.RowKit

/-! ### Sets of jobs -/
theorem u16w {z : Int} (h1 : 0 ≤ z) (h2 : z ≤ 65535) : IntKind.u16.wrap z = z := by
  simp [IntKind.wrap, IntKind.signed, IntKind.bits]; omega
theorem u64w {z : Int} (h1 : 0 ≤ z) (h2 : z ≤ 18446744073709551615) : IntKind.u64.wrap z = z := by
  simp [IntKind.wrap, IntKind.signed, IntKind.bits]; omega
theorem ofI16 {a : Nat} (ha : a < 65536) : (BitVec.ofInt 16 (a : Int)).toNat = a := by
  rw [BitVec.ofInt_natCast, BitVec.toNat_ofNat]; omega
theorem and_lt {a b : Nat} (ha : a < 65536) : a &&& b < 65536 := Nat.lt_of_le_of_lt Nat.and_le_left ha
theorem or_lt {a b : Nat} (ha : a < 65536) (hb : b < 65536) : a ||| b < 65536 := Nat.or_lt_two_pow (n := 16) ha hb
theorem bAnd16 {a b : Nat} (ha : a < 65536) (hb : b < 65536) : bAnd .u16 (a : Int) (b : Int) = ((a &&& b : Nat) : Int) := by
  show IntKind.u16.wrap ((BitVec.ofInt 16 (a : Int) &&& BitVec.ofInt 16 (b : Int)).toNat : Nat) = _
  rw [BitVec.toNat_and, ofI16 ha, ofI16 hb]
  exact u16w (by omega) (by have := and_lt (b := b) ha; omega)
theorem bOr16 {a b : Nat} (ha : a < 65536) (hb : b < 65536) : bOr .u16 (a : Int) (b : Int) = ((a ||| b : Nat) : Int) := by
  show IntKind.u16.wrap ((BitVec.ofInt 16 (a : Int) ||| BitVec.ofInt 16 (b : Int)).toNat : Nat) = _
  rw [BitVec.toNat_or, ofI16 ha, ofI16 hb]
  exact u16w (by omega) (by have := or_lt ha hb; omega)
theorem bNot16 {a b : Nat} (ha : a < 65536) (hb : b < 65536) : bNot .u16 (a : Int) (b : Int) = 0 ↔ a &&& b = a := by
  have e : bNot .u16 (a : Int) (b : Int) = ((BitVec.ofInt 16 (a : Int) &&& ~~~(BitVec.ofInt 16 (b : Int))).toNat : Nat) := by
    show IntKind.u16.wrap ((BitVec.ofInt 16 (a : Int) &&& ~~~(BitVec.ofInt 16 (b : Int))).toNat : Nat) = _
    exact u16w (by omega) (by have := (BitVec.ofInt 16 (a : Int) &&& ~~~(BitVec.ofInt 16 (b : Int))).isLt; omega)
  rw [e]
  constructor
  · intro h
    have h : (BitVec.ofInt 16 (a : Int) &&& ~~~(BitVec.ofInt 16 (b : Int))) = 0#16 := BitVec.eq_of_toNat_eq (by simpa using h)
    apply Nat.eq_of_testBit_eq
    intro i
    rw [Nat.testBit_and]
    by_cases hi : i < 16
    · have := congrArg (fun z => z.getLsbD i) h
      simp only [BitVec.getLsbD_and, BitVec.getLsbD_not, hi, decide_true, Bool.true_and, BitVec.getLsbD_zero] at this
      have e1 : (BitVec.ofInt 16 (a : Int)).getLsbD i = a.testBit i := by rw [BitVec.getLsbD, ofI16 ha]
      have e2 : (BitVec.ofInt 16 (b : Int)).getLsbD i = b.testBit i := by rw [BitVec.getLsbD, ofI16 hb]
      rw [e1, e2] at this
      cases h1 : a.testBit i <;> cases h2 : b.testBit i <;> simp_all
    · have h16 : 2 ^ 16 ≤ 2 ^ i := Nat.pow_le_pow_right (by decide) (Nat.le_of_not_lt hi)
      have : a.testBit i = false := Nat.testBit_lt_two_pow (Nat.lt_of_lt_of_le ha h16)
      rw [this]; rfl
  · intro h
    have : (BitVec.ofInt 16 (a : Int) &&& ~~~(BitVec.ofInt 16 (b : Int))) = 0#16 := by
      apply BitVec.eq_of_getLsbD_eq
      intro i hi
      have e1 : (BitVec.ofInt 16 (a : Int)).getLsbD i = a.testBit i := by rw [BitVec.getLsbD, ofI16 ha]
      have e2 : (BitVec.ofInt 16 (b : Int)).getLsbD i = b.testBit i := by rw [BitVec.getLsbD, ofI16 hb]
      simp only [BitVec.getLsbD_and, BitVec.getLsbD_not, hi, decide_true, Bool.true_and, BitVec.getLsbD_zero]
      rw [e1, e2]
      have := congrArg (fun z => Nat.testBit z i) h
      simp only [Nat.testBit_and] at this
      cases h1 : a.testBit i <;> cases h2 : b.testBit i <;> simp_all
    rw [this]; rfl
theorem pow_lt16 {k : Nat} (h : k < 16) : 2 ^ k < 65536 := Nat.pow_lt_pow_right (by omega) h
theorem bShl1 {k : Nat} (h : k < 16) : bShl .u16 1 (k : Int) = ((2 ^ k : Nat) : Int) := by
  show IntKind.u16.wrap (1 * 2 ^ ((k : Int)).toNat) = _
  have := pow_lt16 h
  have e : (1 : Int) * 2 ^ ((k : Int)).toNat = ((2 ^ k : Nat) : Int) := by rw [Int.toNat_natCast, Int.one_mul, Int.natCast_pow]; rfl
  rw [e]
  exact u16w (Int.natCast_nonneg _) (by omega)
theorem bShr_bit {a k : Nat} : (bShr (a : Int) (k : Int)).tmod 2 = if a.testBit k then 1 else 0 := by
  show ((a : Int) / 2 ^ ((k : Int)).toNat).tmod 2 = _
  rw [Int.toNat_natCast, Nat.testBit_eq_decide_div_mod_eq]
  have e : ((a : Int) / 2 ^ k) = ((a / 2 ^ k : Nat) : Int) := by simp
  rw [e, Int.tmod_eq_emod_of_nonneg (Int.natCast_nonneg _)]
  generalize a / 2 ^ k = z
  by_cases h : z % 2 = 1
  · simp only [h, decide_true, if_true]; omega
  · simp only [h, decide_false, Bool.false_eq_true, if_false]; omega
theorem bShr_zero {a n : Nat} : bShr (a : Int) (n : Int) = 0 ↔ a < 2 ^ n := by
  show (a : Int) / 2 ^ ((n : Int)).toNat = 0 ↔ _
  rw [Int.toNat_natCast]
  have e : ((a : Int) / 2 ^ n) = ((a / 2 ^ n : Nat) : Int) := by simp
  rw [e]
  constructor
  · intro h
    have h : a / 2 ^ n = 0 := Int.natCast_eq_zero.1 h
    have hp : 0 < 2 ^ n := Nat.two_pow_pos n
    exact (Nat.div_eq_zero_iff_lt hp).1 h
  · intro h; rw [Nat.div_eq_of_lt h]; rfl
theorem or_bit {T j k : Nat} : (T ||| 2 ^ j).testBit k = (T.testBit k || decide (j = k)) := by rw [Nat.testBit_or, Nat.testBit_two_pow]

/-! ### Jobs -/
def dy (l : List Int) (k : Nat) : Int := l.getD (k * 2) 0
def af (l : List Int) (k : Nat) : Nat := (l.getD (k * 2 + 1) 0).toNat
/-- Numbers that fit the kinds of a job. -/
structure JW (n : Nat) (l : List Int) : Prop where
  d : ∀ k, k < n → -128 ≤ l.getD (k * 2) 0 ∧ l.getD (k * 2) 0 ≤ 127
  a : ∀ k, k < n → 0 ≤ l.getD (k * 2 + 1) 0 ∧ l.getD (k * 2 + 1) 0 ≤ 65535
theorem JW.af {n : Nat} {l : List Int} (w : JW n l) {k : Nat} (h : k < n) : l.getD (k * 2 + 1) 0 = (af l k : Int) ∧ af l k < 65536 := by
  have := w.a k h
  unfold Go.Proofs.YtmjincdnhmkmhaaDoor.af
  omega

/-- May a job be taken? -/
def nxB (l : List Int) (T k : Nat) : Bool := !T.testBit k && decide (af l k &&& T = af l k)
def nx (l : List Int) (n T : Nat) : Option Nat := (List.range n).find? (nxB l T)
/-- The first order: what has been taken, one after the other, and the set of it. -/
def od (l : List Int) (n : Nat) : Nat → List Nat × Nat
  | 0 => ([], 0)
  | r + 1 => match nx l n (od l n r).2 with
    | some k => ((od l n r).1 ++ [k], (od l n r).2 ||| 2 ^ k)
    | none => od l n r

theorem nx_some {l : List Int} {n T k : Nat} (h : nx l n T = some k) : k < n ∧ nxB l T k = true := by
  have h1 := List.find?_some h
  have h2 := List.mem_of_find?_eq_some h
  exact ⟨List.mem_range.1 h2, h1⟩
theorem range_find {p : Nat → Bool} : ∀ {n k : Nat}, k < n → p k = true → (∀ j, j < k → p j = false) → (List.range n).find? p = some k
  | 0, k, h, _, _ => by omega
  | n + 1, k, h, hp, hj => by
    rw [List.range_succ, List.find?_append]
    by_cases e : k < n
    · rw [range_find e hp hj]; rfl
    · obtain rfl : k = n := by omega
      have : (List.range k).find? p = none := by
        rw [List.find?_eq_none]
        intro x hx
        rw [hj x (List.mem_range.1 hx)]; simp
      rw [this]
      simp [hp]
theorem nx_is {l : List Int} {n T k : Nat} (h : k < n) (hp : nxB l T k = true) (hj : ∀ j, j < k → nxB l T j = false) : nx l n T = some k := range_find h hp hj
theorem nx_no {l : List Int} {n T : Nat} (hj : ∀ j, j < n → nxB l T j = false) : nx l n T = none := by
  rw [nx, List.find?_eq_none]
  intro x hx
  rw [hj x (List.mem_range.1 hx)]; simp

/-- What an order that has been begun is. -/
structure OdP (l : List Int) (n r : Nat) (L : List Nat) (T : Nat) : Prop where
  lt : ∀ k ∈ L, k < n
  nd : L.Nodup
  le : L.length ≤ r
  bit : ∀ k, T.testBit k = true ↔ k ∈ L
  af : ∀ k ∈ L, ∀ j, (af l k).testBit j = true → j ∈ L
theorem sub_bit {a T j : Nat} (h : a &&& T = a) (hj : a.testBit j = true) : T.testBit j = true := by
  have := congrArg (fun z => Nat.testBit z j) h
  simp only [Nat.testBit_and, hj, Bool.true_and] at this
  exact this
theorem nxB_t {l : List Int} {T k : Nat} (h : nxB l T k = true) : T.testBit k = false ∧ af l k &&& T = af l k := by
  simp only [nxB, Bool.and_eq_true, Bool.not_eq_true', decide_eq_true_eq] at h
  exact h
theorem od_p (l : List Int) (n : Nat) : ∀ r, OdP l n r (od l n r).1 (od l n r).2
  | 0 => ⟨by simp [od], by simp [od], by simp [od], by simp [od], by simp [od]⟩
  | r + 1 => by
    have p := od_p l n r
    unfold od
    split
    · rename_i k hk
      obtain ⟨h1, h2⟩ := nx_some hk
      obtain ⟨h3, h4⟩ := nxB_t h2
      have hn : k ∉ (od l n r).1 := fun hm => by rw [(p.bit k).2 hm] at h3; cases h3
      refine ⟨fun j hj => ?_, ?_, ?_, fun j => ?_, fun j hj i hi => ?_⟩
      · rcases List.mem_append.1 hj with hj | hj
        · exact p.lt j hj
        · rw [List.mem_singleton] at hj; omega
      · rw [List.nodup_append]
        refine ⟨p.nd, by simp, fun a ha b hb e => ?_⟩
        rw [List.mem_singleton] at hb
        subst hb; subst e; exact hn ha
      · rw [List.length_append, List.length_singleton]; have := p.le; omega
      · rw [or_bit, Bool.or_eq_true, p.bit, decide_eq_true_eq, List.mem_append, List.mem_singleton]
        exact ⟨fun h => by rcases h with h | h; exact .inl h; exact .inr h.symm, fun h => by rcases h with h | h; exact .inl h; exact .inr h.symm⟩
      · rw [List.mem_append] at hj ⊢
        rcases hj with hj | hj
        · exact .inl (p.af j hj i hi)
        · rw [List.mem_singleton] at hj; subst hj
          exact .inl ((p.bit i).1 (sub_bit h4 hi))
    · exact ⟨p.lt, p.nd, by have := p.le; omega, p.bit, p.af⟩
theorem od_lt2 {l : List Int} {n r : Nat} (hn : n ≤ 12) : (od l n r).2 < 2 ^ n := by
  apply Nat.lt_pow_two_of_testBit
  intro i hi
  rw [Bool.eq_false_iff]
  intro h
  have := (od_p l n r).lt i (((od_p l n r).bit i).1 h)
  omega
theorem od_lt {l : List Int} {n r : Nat} (hn : n ≤ 12) : (od l n r).2 < 65536 := Nat.lt_of_lt_of_le (od_lt2 hn) (Nat.le_trans (Nat.pow_le_pow_right (by omega) (by omega : n ≤ 16)) (by decide))
theorem od_stay {l : List Int} {n r : Nat} (h : nx l n (od l n r).2 = none) : ∀ s, od l n (r + s) = od l n r
  | 0 => rfl
  | s + 1 => by
    show od l n (r + s + 1) = _
    rw [od, od_stay h s, h]
theorem od_some {l : List Int} {n r k : Nat} (h : nx l n (od l n r).2 = some k) : od l n (r + 1) = ((od l n r).1 ++ [k], (od l n r).2 ||| 2 ^ k) := by rw [od, h]

/-- No list without doubles has more in it than one that has all of it. -/
theorem nodup_len : ∀ {L M : List Nat}, L.Nodup → (∀ x ∈ L, x ∈ M) → L.length ≤ M.length
  | [], _, _, _ => by simp
  | x :: L, M, hn, hs => by
    rw [List.nodup_cons] at hn
    have h1 : x ∈ M := hs x (by simp)
    have h2 := nodup_len (L := L) (M := M.erase x) hn.2 fun y hy => (List.mem_erase_of_ne (fun e => hn.1 (by rw [← e]; exact hy))).2 (hs y (by simp [hy]))
    have h3 := List.length_erase_of_mem h1
    have h4 := List.length_pos_of_mem h1
    rw [List.length_cons]; omega
theorem all_len {L : List Nat} {n : Nat} (h : ∀ k, k < n → k ∈ L) : n ≤ L.length := by
  have := nodup_len (List.nodup_range (n := n)) (M := L) fun x hx => h x (List.mem_range.1 hx)
  simpa using this
theorem len_all {L : List Nat} {n : Nat} (hn : L.Nodup) (hl : ∀ k ∈ L, k < n) (he : n ≤ L.length) : ∀ k, k < n → k ∈ L := by
  intro k hk
  apply Classical.byContradiction
  intro hc
  have := nodup_len (M := (List.range n).erase k) hn fun x hx => (List.mem_erase_of_ne (fun e => hc (by rw [← e]; exact hx))).2 (List.mem_range.2 (hl x hx))
  rw [List.length_erase_of_mem (List.mem_range.2 hk), List.length_range] at this
  omega

/-- Jobs that are valid. -/
structure VJ (n : Nat) (l : List Int) : Prop where
  hi : n ≤ 12
  dy : ∀ k, k < n → 1 ≤ dy l k ∧ dy l k ≤ 30
  od : ∀ k, k < n → k ∈ (od l n n).1
open Classical in
noncomputable def vjB (n : Nat) (l : List Int) : Bool := decide (VJ n l)
theorem vjB_t {n : Nat} {l : List Int} : vjB n l = true ↔ VJ n l := by simp [vjB]
theorem vjB_f {n : Nat} {l : List Int} : vjB n l = false ↔ ¬ VJ n l := by simp [vjB]
theorem VJ.len {n : Nat} {l : List Int} (v : VJ n l) : (Go.Proofs.YtmjincdnhmkmhaaDoor.od l n n).1.length = n := by
  have h1 := all_len v.od
  have h2 := (od_p l n n).le
  omega
theorem VJ.af {n : Nat} {l : List Int} (v : VJ n l) {k : Nat} (hk : k < n) : Go.Proofs.YtmjincdnhmkmhaaDoor.af l k < 2 ^ n := by
  apply Nat.lt_pow_two_of_testBit
  intro i hi
  rw [Bool.eq_false_iff]
  intro h
  have p := od_p l n n
  have := p.lt i (p.af k (v.od k hk) i h)
  omega
/-- An order that comes to an end ahead of time. -/
theorem od_short {n r : Nat} {l : List Int} (hr : r < n) (h : nx l n (od l n r).2 = none) : ¬ ∀ k, k < n → k ∈ (od l n n).1 := by
  intro ha
  have e := od_stay h (n - r)
  rw [show r + (n - r) = n by omega] at e
  rw [e] at ha
  have h1 := all_len ha
  have h2 := (od_p l n r).le
  omega
/-- An order all of whose steps have been made. -/
theorem od_full {n : Nat} {l : List Int} (h : (od l n n).1.length = n) : ∀ k, k < n → k ∈ (od l n n).1 :=
  len_all (od_p l n n).nd (od_p l n n).lt (by omega)
/-- An order as the numbers of a slice. -/
def odI (l : List Int) (n r : Nat) : List Int := (od l n r).1.map Int.ofNat
theorem odI_len {l : List Int} {n r : Nat} : (odI l n r).length = (od l n r).1.length := by simp [odI]
theorem odI_push {l : List Int} {n r k : Nat} (h : nx l n (od l n r).2 = some k) : odI l n (r + 1) = odI l n r ++ [(k : Int)] := by
  rw [odI, od_some h]; simp [odI]
theorem odI_stay {l : List Int} {n r : Nat} (h : nx l n (od l n r).2 = none) : odI l n (r + 1) = odI l n r := by
  rw [odI, od_stay h 1]; rfl

end Go.Proofs.YtmjincdnhmkmhaaDoor
