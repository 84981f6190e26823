/- Stones that are joined: the mathematics. No conditions. -/
import Derived.Test.YtnoljgfnpabinaaDoorPrt1
import Derived.Test.YtnoljgfnpabinaaDoorMv1
set_option linter.unusedSimpArgs false
set_option linter.unusedVariables false
namespace Go.Proofs.YtnoljgfnpabinaaDoor
open Go.Sx Go.RowKit

/-! ### Convex lists of any length -/
/-- The other corners lie on the one side of each edge, as the document says it. -/
def CsP (n : Nat) (l : List Int) : Prop := ∀ i, i < n → ∀ j, j < n → j ≠ i → j ≠ (i + 1) % n → 0 < sgn l i ((i + 1) % n) j
theorem cs_cx {n : Nat} {l : List Int} (h3 : 3 ≤ n) : CsP n l ↔ CxP n l := by
  constructor
  · intro h i hi j hj
    have e1 : (i + 1) % n = if i + 1 < n then i + 1 else i + 1 - n := md hi (by omega)
    have e2 : (i + (j + 2)) % n = if i + (j + 2) < n then i + (j + 2) else i + (j + 2) - n := md hi (by omega)
    refine h i hi _ (Nat.mod_lt _ (by omega)) ?_ ?_
    · rw [e2]; split <;> omega
    · rw [e1, e2]; split <;> split <;> omega
  · intro h i hi j hj n1 n2
    have e1 : (i + 1) % n = if i + 1 < n then i + 1 else i + 1 - n := md hi (by omega)
    rw [e1] at n2
    obtain ⟨d, hd⟩ : ∃ d, d = if i ≤ j then j - i else j + n - i := ⟨_, rfl⟩
    have d2 : 2 ≤ d ∧ d < n := by rw [hd]; split at n2 <;> split <;> omega
    have := h i hi (d - 2) (by omega)
    have e3 : (i + d) % n = if i + d < n then i + d else i + d - n := md hi (by omega)
    have e : (if i + d < n then i + d else i + d - n) = j := by rw [hd]; split <;> split <;> omega
    rw [show i + (d - 2 + 2) = i + d by omega, e3, e] at this
    exact this

/-! ### The corners of a stone differ -/
theorem sd_aba (a b : List Int) : sd a b a = 0 := by simp [sd]
theorem sd_aab (a b : List Int) : sd a a b = 0 := by simp [sd]
theorem ok_inj {n : Nat} {l : List Int} (ok : OkP n l) {i j : Nat} (hi : i < n) (hj : j < n) (h : cor l i = cor l j) : i = j := by
  have h3 := ok.lo
  rcases Nat.lt_or_ge i j with hl | hl
  · exfalso
    by_cases c : j = (i + 1) % n
    · have e1 : (i + 1) % n = if i + 1 < n then i + 1 else i + 1 - n := md hi (by omega)
      -- a third corner
      obtain ⟨x, x1, x2, x3⟩ : ∃ x, x < n ∧ x ≠ i ∧ x ≠ j := by
        by_cases c0 : i = 0
        · by_cases c1 : j = 1
          · exact ⟨2, by omega, by omega, by omega⟩
          · exact ⟨1, by omega, by omega, by omega⟩
        · exact ⟨0, by omega, by omega, by omega⟩
      have := ok.cx i hi x x1 x2 (by rw [← c]; exact x3)
      rw [sgn, ← c, ← h, sd_aab] at this
      omega
    · have := ok.cx i hi j hj (by omega) c
      rw [sgn, ← h, sd_aba] at this
      omega
  · rcases Nat.lt_or_ge j i with hl' | hl'
    · exfalso
      by_cases c : i = (j + 1) % n
      · obtain ⟨x, x1, x2, x3⟩ : ∃ x, x < n ∧ x ≠ i ∧ x ≠ j := by
          by_cases c0 : j = 0
          · by_cases c1 : i = 1
            · exact ⟨2, by omega, by omega, by omega⟩
            · exact ⟨1, by omega, by omega, by omega⟩
          · exact ⟨0, by omega, by omega, by omega⟩
        have := ok.cx j hj x x1 x3 (by rw [← c]; exact x2)
        rw [sgn, ← c, h, sd_aab] at this
        omega
      · have := ok.cx j hj i hi (by omega) c
        rw [sgn, h, sd_aba] at this
        omega
    · omega

/-! ### Corners in a line are left away -/
def dl (i : Nat) (L : List Int) : List Int := L.take (i * 2) ++ L.drop ((i + 1) * 2)
def zst (k : Nat) (L : List Int) (i : Nat) : Prop := sgn L ((i + k - 1) % k) i ((i + 1) % k) = 0
instance {k i : Nat} {L : List Int} : Decidable (zst k L i) := by unfold zst; infer_instance
/-- So many steps of leaving away; it stands still behind the end. -/
def stR : Nat → Nat → List Int → Nat → Nat × List Int
  | 0, k, L, _ => (k, L)
  | f + 1, k, L, i => if i < k then (if zst k L i then stR f (k - 1) (dl i L) i else stR f k L (i + 1)) else (k, L)
theorem stR_end {f k i : Nat} {L : List Int} (h : k ≤ i) : stR f k L i = (k, L) := by
  cases f with
  | zero => rfl
  | succ f => rw [stR, if_neg (by omega)]
theorem stR_y {f k i : Nat} {L : List Int} (hf : 2 * k - i ≤ f) (h : i < k) (z : zst k L i) : ∃ f', 2 * (k - 1) - i ≤ f' ∧ stR f k L i = stR f' (k - 1) (dl i L) i := by
  cases f with
  | zero => omega
  | succ f => exact ⟨f, by omega, by rw [stR, if_pos h, if_pos z]⟩
theorem stR_n {f k i : Nat} {L : List Int} (hf : 2 * k - i ≤ f) (h : i < k) (z : ¬ zst k L i) : ∃ f', 2 * k - (i + 1) ≤ f' ∧ stR f k L i = stR f' k L (i + 1) := by
  cases f with
  | zero => omega
  | succ f => exact ⟨f, by omega, by rw [stR, if_pos h, if_neg z]⟩
theorem dl_len {k i : Nat} {L : List Int} (hL : L.length = k * 2) (hi : i < k) : (dl i L).length = (k - 1) * 2 := by
  rw [dl, List.length_append, List.length_take, List.length_drop]; omega
theorem dl_get {k i t : Nat} {L : List Int} (hL : L.length = k * 2) (hi : i < k) : (dl i L).getD t 0 = L.getD (if t < i * 2 then t else t + 2) 0 := by
  simp only [dl, List.getD_eq_getElem?_getD]
  split
  · rw [List.getElem?_append_left (by rw [List.length_take]; omega), List.getElem?_take_of_lt (by omega)]
  · rw [List.getElem?_append_right (by rw [List.length_take]; omega), List.length_take, List.getElem?_drop]
    congr 2
    omega
theorem cor_ext {l l' : List Int} {i j : Nat} (h : i * 2 + 2 ≤ l.length) (h' : j * 2 + 2 ≤ l'.length) (e0 : l.getD (i * 2) 0 = l'.getD (j * 2) 0) (e1 : l.getD (i * 2 + 1) 0 = l'.getD (j * 2 + 1) 0) : cor l i = cor l' j := by
  rw [cor_two h, cor_two h', cor0, cor1, cor0, cor1, e0, e1]
theorem dl_cor {k i t : Nat} {L : List Int} (hL : L.length = k * 2) (hi : i < k) (ht : t < k - 1) : cor (dl i L) t = cor L (if t < i then t else t + 1) := by
  have hl := dl_len hL hi
  refine cor_ext (by omega) (by split <;> omega) ?_ ?_
  · rw [dl_get hL hi]; congr 1; split <;> split <;> omega
  · rw [dl_get hL hi]; congr 1; split <;> split <;> omega
/-- All corners are places. -/
def allC (k : Nat) (L : List Int) : Prop := ∀ t, t < k → PlC (cor L t)
theorem allC_dl {k i : Nat} {L : List Int} (hL : L.length = k * 2) (hi : i < k) (h : allC k L) : allC (k - 1) (dl i L) := fun t ht => by
  rw [dl_cor hL hi ht]
  refine h _ ?_
  split <;> omega

/-! ### Which corners they have in common -/
def jmP (n1 : Nat) (l1 : List Int) (n2 : Nat) (l2 : List Int) (i j : Nat) : Prop := cor l1 i = cor l2 ((j + 1) % n2) ∧ cor l1 ((i + 1) % n1) = cor l2 j
instance {n1 n2 i j : Nat} {l1 l2 : List Int} : Decidable (jmP n1 l1 n2 l2 i j) := by unfold jmP; infer_instance
def jm (n1 : Nat) (l1 : List Int) (n2 : Nat) (l2 : List Int) (t : Nat) : Prop := jmP n1 l1 n2 l2 (t / n2) (t % n2)
instance {n1 n2 t : Nat} {l1 l2 : List Int} : Decidable (jm n1 l1 n2 l2 t) := by unfold jm; infer_instance
/-- The first pair of edges that they have in common. -/
def jT (n1 : Nat) (l1 : List Int) (n2 : Nat) (l2 : List Int) : Nat → Nat
  | 0 => 0
  | k + 1 => if jT n1 l1 n2 l2 k < k then jT n1 l1 n2 l2 k else if jm n1 l1 n2 l2 k then k else k + 1
theorem jT_none {n1 n2 : Nat} {l1 l2 : List Int} : ∀ {k : Nat}, (∀ t, t < k → ¬ jm n1 l1 n2 l2 t) → jT n1 l1 n2 l2 k = k
  | 0, _ => rfl
  | k + 1, h => by
    have ih := jT_none (k := k) fun t ht => h t (by omega)
    rw [jT, if_neg (by omega), if_neg (h k (by omega))]
theorem jT_some {n1 n2 t : Nat} {l1 l2 : List Int} (hm : jm n1 l1 n2 l2 t) (hb : ∀ t', t' < t → ¬ jm n1 l1 n2 l2 t') : ∀ {k : Nat}, t < k → jT n1 l1 n2 l2 k = t
  | k + 1, h => by
    by_cases c : t < k
    · have ih := jT_some hm hb (k := k) c
      rw [jT, if_pos (by omega), ih]
    · obtain rfl : t = k := by omega
      have := jT_none (k := t) hb
      rw [jT, if_neg (by omega), if_pos hm]
theorem jm_at {n1 n2 i j : Nat} {l1 l2 : List Int} (hj : j < n2) : jm n1 l1 n2 l2 (i * n2 + j) ↔ jmP n1 l1 n2 l2 i j := by
  have e1 : (i * n2 + j) / n2 = i := by rw [Nat.mul_comm, Nat.mul_add_div (by omega), Nat.div_eq_of_lt hj]; omega
  have e2 : (i * n2 + j) % n2 = j := by rw [Nat.mul_comm, Nat.mul_add_mod, Nat.mod_eq_of_lt hj]
  rw [jm, e1, e2]
/-- The corners around both. -/
def arL (n1 : Nat) (l1 : List Int) (n2 : Nat) (l2 : List Int) (i j : Nat) : List Int := mkN (n1 * 2) (ptF n1 l1 ((i + 1) % n1) n1) ++ mkN ((n2 - 2) * 2) (ptF n2 l2 ((j + 2) % n2) (n2 - 2))
def jnF (n1 : Nat) (l1 : List Int) (n2 : Nat) (l2 : List Int) : Nat × List Int := stR (2 * (n1 + n2 - 2)) (n1 + n2 - 2) (arL n1 l1 n2 l2 (jT n1 l1 n2 l2 (n1 * n2) / n2) (jT n1 l1 n2 l2 (n1 * n2) % n2)) 0
noncomputable def jnE (n1 : Nat) (l1 : List Int) (n2 : Nat) (l2 : List Int) : Int := if okB n1 l1 = true ∧ okB n2 l2 = true then (if jT n1 l1 n2 l2 (n1 * n2) < n1 * n2 then (if 3 ≤ (jnF n1 l1 n2 l2).1 ∧ cxB (jnF n1 l1 n2 l2).1 (jnF n1 l1 n2 l2).2 = true then (if (jnF n1 l1 n2 l2).1 ≤ 8 then 0 else 3) else 4) else 6) else 1
noncomputable def jnK (n1 : Nat) (l1 : List Int) (n2 : Nat) (l2 : List Int) : Nat := if jnE n1 l1 n2 l2 = 0 then (jnF n1 l1 n2 l2).1 else 0
noncomputable def jnL (n1 : Nat) (l1 : List Int) (n2 : Nat) (l2 : List Int) : List Int := if jnE n1 l1 n2 l2 = 0 then (jnF n1 l1 n2 l2).2 else []
theorem jn_e {n1 n2 : Nat} {l1 l2 : List Int} {E : Int} (h : jnE n1 l1 n2 l2 = E) (h0 : E ≠ 0) : jnK n1 l1 n2 l2 = 0 ∧ jnL n1 l1 n2 l2 = [] ∧ jnE n1 l1 n2 l2 = E := by
  subst h
  exact ⟨by rw [jnK, if_neg h0], by rw [jnL, if_neg h0], rfl⟩
theorem jn_1 {n1 n2 : Nat} {l1 l2 : List Int} (h : ¬ (okB n1 l1 = true ∧ okB n2 l2 = true)) : jnE n1 l1 n2 l2 = 1 := by rw [jnE, if_neg h]
theorem jn_6 {n1 n2 : Nat} {l1 l2 : List Int} (h1 : okB n1 l1 = true) (h2 : okB n2 l2 = true) (h : ∀ t, t < n1 * n2 → ¬ jm n1 l1 n2 l2 t) : jnE n1 l1 n2 l2 = 6 := by
  rw [jnE, if_pos ⟨h1, h2⟩, if_neg (by rw [jT_none h]; omega)]
/-- A pair is found, and what comes of it. -/
theorem jn_f {n1 n2 i j k : Nat} {l1 l2 L : List Int} (h1 : okB n1 l1 = true) (h2 : okB n2 l2 = true) (hi : i < n1) (hj : j < n2) (hm : jmP n1 l1 n2 l2 i j) (hb : ∀ t, t < i * n2 + j → ¬ jm n1 l1 n2 l2 t)
    (hf : stR (2 * (n1 + n2 - 2)) (n1 + n2 - 2) (arL n1 l1 n2 l2 i j) 0 = (k, L)) :
    (¬ (3 ≤ k ∧ cxB k L = true) → jnE n1 l1 n2 l2 = 4) ∧ (3 ≤ k ∧ cxB k L = true → 8 < k → jnE n1 l1 n2 l2 = 3) ∧ (3 ≤ k ∧ cxB k L = true → k ≤ 8 → jnE n1 l1 n2 l2 = 0 ∧ jnK n1 l1 n2 l2 = k ∧ jnL n1 l1 n2 l2 = L) := by
  have lt : i * n2 + j < n1 * n2 := by
    have : (i + 1) * n2 ≤ n1 * n2 := Nat.mul_le_mul_right _ hi
    rw [Nat.add_mul, Nat.one_mul] at this; omega
  have eT : jT n1 l1 n2 l2 (n1 * n2) = i * n2 + j := jT_some ((jm_at hj).2 hm) hb lt
  have e1 : (i * n2 + j) / n2 = i := by rw [Nat.mul_comm, Nat.mul_add_div (by omega), Nat.div_eq_of_lt hj]; omega
  have e2 : (i * n2 + j) % n2 = j := by rw [Nat.mul_comm, Nat.mul_add_mod, Nat.mod_eq_of_lt hj]
  have eF : jnF n1 l1 n2 l2 = (k, L) := by rw [jnF, eT, e1, e2, hf]
  have eE : jnE n1 l1 n2 l2 = if 3 ≤ k ∧ cxB k L = true then (if k ≤ 8 then 0 else 3) else 4 := by
    rw [jnE, if_pos ⟨h1, h2⟩, eT, if_pos lt, eF]
  refine ⟨fun h => by rw [eE, if_neg h], fun h h8 => by rw [eE, if_pos h, if_neg (by omega)], fun h h8 => ?_⟩
  have e0 : jnE n1 l1 n2 l2 = 0 := by rw [eE, if_pos h, if_pos h8]
  exact ⟨e0, by rw [jnK, if_pos e0, eF], by rw [jnL, if_pos e0, eF]⟩
theorem jnK_le {n1 n2 : Nat} {l1 l2 : List Int} : jnK n1 l1 n2 l2 ≤ 8 := by
  rw [jnK]; split
  · rename_i h
    rw [jnE] at h
    split at h
    · split at h
      · split at h
        · split at h
          · assumption
          · cases h
        · cases h
      · cases h
    · cases h
  · omega
theorem arL_len {n1 n2 i j : Nat} {l1 l2 : List Int} (h2 : 2 ≤ n2) : (arL n1 l1 n2 l2 i j).length = (n1 + n2 - 2) * 2 := by
  rw [arL, List.length_append, mkN_len, mkN_len]; omega

theorem ptF_cor {n f c t : Nat} {l : List Int} (ht : t < c) : (mkN (c * 2) (ptF n l f c)).getD (t * 2) 0 = (cor l ((f + t) % n)).getD 0 0 ∧ (mkN (c * 2) (ptF n l f c)).getD (t * 2 + 1) 0 = (cor l ((f + t) % n)).getD 1 0 := by
  rw [mkN_getD (by omega), mkN_getD (by omega), ptF, ptF, if_pos (by omega), if_pos (by omega), show t * 2 / 2 = t by omega, show t * 2 % 2 = 0 by omega, show (t * 2 + 1) / 2 = t by omega, show (t * 2 + 1) % 2 = 1 by omega]
  exact ⟨rfl, rfl⟩
theorem allC_ar {n1 n2 i j : Nat} {l1 l2 : List Int} (o1 : OkP n1 l1) (o2 : OkP n2 l2) : allC (n1 + (n2 - 2)) (arL n1 l1 n2 l2 i j) := fun t ht => by
  have p1 := o1.lo; have p2 := o2.lo
  have gd : ∀ k, k < (n1 + (n2 - 2)) * 2 → (arL n1 l1 n2 l2 i j).getD k 0 = if k < n1 * 2 then (mkN (n1 * 2) (ptF n1 l1 ((i + 1) % n1) n1)).getD k 0 else (mkN ((n2 - 2) * 2) (ptF n2 l2 ((j + 2) % n2) (n2 - 2))).getD (k - n1 * 2) 0 := fun k hk => by
    simp only [arL, List.getD_eq_getElem?_getD]
    split
    · rw [List.getElem?_append_left (by rw [mkN_len]; omega)]
    · rw [List.getElem?_append_right (by rw [mkN_len]; omega), mkN_len]
  by_cases c : t < n1
  · obtain ⟨h1, h2⟩ := ptF_cor (n := n1) (f := (i + 1) % n1) (l := l1) c
    have := o1.pl (((i + 1) % n1 + t) % n1) (Nat.mod_lt _ (by omega))
    obtain ⟨q1, q2, q3, q4⟩ := this
    rw [← h1] at q1 q2
    rw [← h2] at q3 q4
    refine ⟨?_, ?_, ?_, ?_⟩
    · rw [cor0, gd _ (by omega), if_pos (by omega)]; exact q1
    · rw [cor0, gd _ (by omega), if_pos (by omega)]; exact q2
    · rw [cor1, gd _ (by omega), if_pos (by omega)]; exact q3
    · rw [cor1, gd _ (by omega), if_pos (by omega)]; exact q4
  · obtain ⟨h1, h2⟩ := ptF_cor (n := n2) (f := (j + 2) % n2) (l := l2) (c := n2 - 2) (t := t - n1) (by omega)
    have := o2.pl (((j + 2) % n2 + (t - n1)) % n2) (Nat.mod_lt _ (by omega))
    obtain ⟨q1, q2, q3, q4⟩ := this
    rw [← h1] at q1 q2
    rw [← h2] at q3 q4
    have x1 : t * 2 - n1 * 2 = (t - n1) * 2 := by omega
    have x2 : t * 2 + 1 - n1 * 2 = (t - n1) * 2 + 1 := by omega
    refine ⟨?_, ?_, ?_, ?_⟩
    · rw [cor0, gd _ (by omega), if_neg (by omega), x1]; exact q1
    · rw [cor0, gd _ (by omega), if_neg (by omega), x1]; exact q2
    · rw [cor1, gd _ (by omega), if_neg (by omega), x2]; exact q3
    · rw [cor1, gd _ (by omega), if_neg (by omega), x2]; exact q4
theorem cor_take {k t : Nat} {X : List Int} (ht : t < k) : cor (X.take (k * 2)) t = cor X t := by
  rw [cor, cor, List.drop_take, List.take_take, Nat.min_eq_left (by omega)]
theorem sgn_take {k a b c : Nat} {X : List Int} (ha : a < k) (hb : b < k) (hc : c < k) : sgn (X.take (k * 2)) a b c = sgn X a b c := by
  rw [sgn, sgn, cor_take ha, cor_take hb, cor_take hc]
theorem cxB_take {k : Nat} {X : List Int} (h3 : 0 < k) : cxB k (X.take (k * 2)) = cxB k X := by
  rw [Bool.eq_iff_iff, cxB_t, cxB_t]
  constructor
  · intro h i hi j hj
    have := h i hi j hj
    rwa [sgn_take hi (Nat.mod_lt _ h3) (Nat.mod_lt _ h3)] at this
  · intro h i hi j hj
    rw [sgn_take hi (Nat.mod_lt _ h3) (Nat.mod_lt _ h3)]
    exact h i hi j hj
theorem pr_mod {x k : Nat} (h : x < k) : ((x : Int) + k - 1).tmod k = (((x + k - 1) % k : Nat) : Int) := by
  rw [show (x : Int) + k - 1 = ((x + k - 1 : Nat) : Int) by omega, ← Int.ofNat_tmod]
/-- The side of a corner that lies in a line, told in either order. -/
theorem sd_swap (a b c : List Int) : sd a c b = 0 ↔ sd a b c = 0 := by
  have : sd a c b = -sd a b c := by
    simp only [sd]
    rw [Int.neg_sub]
    have h1 : (c.getD 0 0 - a.getD 0 0) * (b.getD 1 0 - a.getD 1 0) = (b.getD 1 0 - a.getD 1 0) * (c.getD 0 0 - a.getD 0 0) := Int.mul_comm _ _
    have h2 : (c.getD 1 0 - a.getD 1 0) * (b.getD 0 0 - a.getD 0 0) = (b.getD 0 0 - a.getD 0 0) * (c.getD 1 0 - a.getD 1 0) := Int.mul_comm _ _
    rw [h1, h2]
  omega

end Go.Proofs.YtnoljgfnpabinaaDoor
