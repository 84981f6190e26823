/- DropJob: both sides. No conditions beyond the ranges of the kinds. -/
import Derived.Test.YtmjincdnhmkmhaaDoorJb5
import Derived.Test.YtmjincdnhmkmhaaDoorDel0
set_option linter.unusedSimpArgs false
set_option linter.unusedVariables false
namespace Go.Proofs.YtmjincdnhmkmhaaDoor
open Go.Sx Go.RowKit

/-! ### Functions of jobs and a number that answer a list and a code -/
noncomputable def gJdc (t : TypeId) (s : Nat) (kk : List EK) (K : Nat → List Int → Int → Nat) (F : Nat → List Int → Int → List Int) (E : Nat → List Int → Int → Int) : EntryC := fun args H k => match args with
  | [.a (.c (.slc id b z st len cap)), .a (.c (.int .i64 d))] => match getB H id with
    | .cells _ t' [.run ks m l] => ((t' = 35 ∧ b = 0 ∧ z = 0 ∧ st = 2 ∧ ks = [.i8, .u16]) ∧ 0 ≤ len ∧ len ≤ cap ∧ Jx len.toNat m l) ∧
      withLenP H fun h => ∀ N L cp, Gq s (K len.toNat l d) (F len.toNat l d) N L cp → k (.tup [.c (.slc h 0 0 s (K len.toNat l d) cp), .c (.int .i64 (E len.toNat l d))]) (H ++ [.cells true t [.run kk N L]])
    | _ => Stuck "jobs"
  | _ => Stuck "jobs"
theorem gJdc_ok {f : FuncId} {fn : Func} {t : TypeId} {s : Nat} {kk : List EK} {K : Nat → List Int → Int → Nat} {F : Nat → List Int → Int → List Int} {E : Nat → List Int → Int → Int} {C : Ctr} (hC : CtrOk Tryd.prog TT C) {inl : Nat → List Int → FuncId → Option (Func × (Nat → LM))} (hI : ∀ n l, InlOk Tryd.prog (inl n l)) {Λ : Nat → List Int → Int → Nat → LM}
    (hf : Tryd.prog.funcs[f]? = some fn) (h2 : (fn.name == "runtime.NumGoroutine") = false) (h3 : fn.body.isNone = false)
    (x : ∀ (m n : Nat) (l : List Int) (cap d : Int), (n : Int) ≤ cap → Jx n m l → Fex true TT (inlN true TT C (inl n l) 6) C (Λ n l d) fn [.a (.c (.slc 0 0 0 2 n cap)), .a (.c (.int .i64 d))] [.cells false 35 [.run [.i8, .u16] m l]] (PJs t s kk (K n l d) (F n l d) (E n l d))) :
    EntryCOk Tryd.prog TT f (gJdc t s kk K F E) := by
  refine ⟨fnOk hf h2 h3, ?_⟩
  intro args H k hh n0 w0 β w vals hG hH hA
  unfold gJdc at hh
  split at hh
  · split at hh
    · rename_i id b z st len cap d _ o t' ks m l hg
      obtain ⟨⟨⟨rfl, rfl, rfl, rfl, rfl⟩, h0, h1, q⟩, hk⟩ := hh
      have hk := withLenP_sound hk
      obtain ⟨n, rfl⟩ := Int.eq_ofNat_of_zero_le h0
      rw [Int.toNat_natCast] at q hk
      refine (entry_fresh tt_ok (inlN_ok tt_ok hC mixed (hI n l) 6) hC mixed hf [id] (x m n l cap d h1 q) rfl (fun _ => rfl) (fun _ => rfl) ⟨.inr (by rw [hg]; rfl), trivial⟩ hG hH hA).mono ?_
      rintro e w' ⟨v, γ, x, rfl, h4, h5, h6⟩
      exact ⟨v, γ, _, _, rfl, hk _ _ _ h4, h5, h6⟩
    · exact hh.elim
  · exact hh.elim

/-- A set without a job; those behind it have moved up. -/
def drF (a j : Nat) : Nat := (a % 2 ^ j) ||| (a / 2 ^ (j + 1) * 2 ^ j)
theorem drH_le (a j : Nat) : a / 2 ^ (j + 1) * 2 ^ j ≤ a := by
  have h1 : a / 2 ^ (j + 1) * 2 ^ (j + 1) ≤ a := Nat.div_mul_le_self _ _
  have h2 : (2 : Nat) ^ j ≤ 2 ^ (j + 1) := Nat.pow_le_pow_right (by omega) (by omega)
  exact Nat.le_trans (Nat.mul_le_mul_left _ h2) h1
theorem drF_lt {a j : Nat} (ha : a < 65536) : drF a j < 65536 := or_lt (by have := Nat.mod_le a (2 ^ j); omega) (by have := drH_le a j; omega)
theorem bShrN {a k : Nat} : bShr (a : Int) (k : Int) = ((a / 2 ^ k : Nat) : Int) := by
  show (a : Int) / 2 ^ ((k : Int)).toNat = _
  rw [Int.toNat_natCast]; simp
theorem bShlN {a k : Nat} (h : a * 2 ^ k < 65536) : bShl .u16 (a : Int) (k : Int) = ((a * 2 ^ k : Nat) : Int) := by
  show IntKind.u16.wrap ((a : Int) * 2 ^ ((k : Int)).toNat) = _
  have e : (a : Int) * 2 ^ ((k : Int)).toNat = ((a * 2 ^ k : Nat) : Int) := by rw [Int.toNat_natCast, Int.natCast_mul, Int.natCast_pow]; rfl
  rw [e]
  exact u16w (Int.natCast_nonneg _) (by omega)
theorem bModN {a k : Nat} : ((a : Nat) : Int).tmod ((2 ^ k : Nat) : Int) = ((a % 2 ^ k : Nat) : Int) := rfl
/-- What a job waits for, when one job is left away. -/
def drA (l : List Int) (j k : Nat) : Nat := if (af l k).testBit j = true then af l k ||| af l j else af l k
def drI (j t : Nat) : Nat := if t < j then t else t + 1
def drE (l : List Int) (j t : Nat) : Int := if t % 2 = 0 then l.getD (drI j (t / 2) * 2) 0 else ((drF (drA l j (drI j (t / 2))) j : Nat) : Int)
noncomputable def dpE (n : Nat) (l : List Int) (j : Int) : Int := if vjB n l = true then (if 0 ≤ j ∧ j < n then 0 else 2) else 1
noncomputable def dpK (n : Nat) (l : List Int) (j : Int) : Nat := if dpE n l j = 0 then n - 1 else 0
noncomputable def dpF (n : Nat) (l : List Int) (j : Int) : List Int := if dpE n l j = 0 then mkN ((n - 1) * 2) (drE l j.toNat) else []
theorem dp_no {n : Nat} {l : List Int} {j c : Int} (hc : dpE n l j = c) (h0 : c ≠ 0) : dpK n l j = 0 ∧ dpF n l j = [] ∧ dpE n l j = c := by
  subst hc
  exact ⟨by rw [dpK, if_neg h0], by rw [dpF, if_neg h0], rfl⟩
theorem dp_1 {n : Nat} {l : List Int} {j : Int} (hv : vjB n l = false) : dpK n l j = 0 ∧ dpF n l j = [] ∧ dpE n l j = 1 := dp_no (by rw [dpE, if_neg (by rw [hv]; simp)]) (by decide)
theorem dp_2 {n : Nat} {l : List Int} {j : Int} (hv : vjB n l = true) (h : ¬ (0 ≤ j ∧ j < n)) : dpK n l j = 0 ∧ dpF n l j = [] ∧ dpE n l j = 2 := dp_no (by rw [dpE, if_pos hv, if_neg h]) (by decide)
theorem dp_0 {n : Nat} {l : List Int} {j : Int} (hv : vjB n l = true) (h : 0 ≤ j ∧ j < n) : dpK n l j = n - 1 ∧ dpF n l j = mkN ((n - 1) * 2) (drE l j.toNat) ∧ dpE n l j = 0 := by
  have e : dpE n l j = 0 := by rw [dpE, if_pos hv, if_pos h]
  exact ⟨by rw [dpK, if_pos e], by rw [dpF, if_pos e], e⟩
theorem dpK_le {n : Nat} {l : List Int} {j : Int} : dpK n l j ≤ 12 := by
  cases hv : vjB n l
  · rw [(dp_1 hv).1]; omega
  · have := (vjB_t.1 hv).hi
    rw [dpK]
    split <;> omega

theorem dr_spec {a j : Nat} (ha : a < 65536) : bOr .u16 (((a : Nat) : Int).tmod ((2 ^ j : Nat) : Int)) (bShl .u16 (bShr (a : Int) ((j + 1 : Nat) : Int)) (j : Int)) = ((drF a j : Nat) : Int) := by
  have h1 := drH_le a j
  rw [bModN, bShrN, bShlN (by omega), bOr16 (by have := Nat.mod_le a (2 ^ j); omega) (by omega)]; rfl
theorem dr_impl {a j : Nat} (ha : a < 65536) : bOr .u16 ((a &&& 2 ^ j - 1 : Nat) : Int) (bShl .u16 (bShr (a : Int) ((j + 1 : Nat) : Int)) (j : Int)) = ((drF a j : Nat) : Int) := by
  have h1 := drH_le a j
  rw [Nat.and_two_pow_sub_one_eq_mod, bShrN, bShlN (by omega), bOr16 (by have := Nat.mod_le a (2 ^ j); omega) (by omega)]; rfl
theorem drE_0 {l : List Int} {j K i : Nat} (h : drI j K = i) : drE l j (K * 2) = l.getD (i * 2) 0 := by rw [drE, if_pos (by omega), show K * 2 / 2 = K by omega, h]
theorem drE_1 {l : List Int} {j K i : Nat} (h : drI j K = i) : drE l j (K * 2 + 1) = ((drF (drA l j i) j : Nat) : Int) := by rw [drE, if_neg (by omega), show (K * 2 + 1) / 2 = K by omega, h]

theorem mkN_twoD {k : Nat} {f : Nat → Int} : mkN ((k + 1) * 2) f = mkN (k * 2) f ++ [f (k * 2), f (k * 2 + 1)] := by
  simp [mkN, show (k + 1) * 2 = k * 2 + 1 + 1 by omega, List.range_succ]
theorem take_setD {l : List Int} {n i : Nat} {a : Int} : (l.set i a).take n = (l.take n).set i a := by
  apply List.ext_getElem?
  intro k
  by_cases hk : k < n
  · rw [List.getElem?_take_of_lt hk, List.getElem?_set, List.getElem?_set, List.getElem?_take_of_lt hk, List.length_take]
    by_cases e : i = k
    · subst e
      rw [if_pos rfl, if_pos rfl]
      by_cases hl : i < l.length
      · rw [if_pos hl, if_pos (by omega)]
      · rw [if_neg hl, if_neg (by omega)]
    · rw [if_neg e, if_neg e]
  · rw [List.getElem?_eq_none (by rw [List.length_take]; omega), List.getElem?_eq_none (by rw [List.length_set, List.length_take]; omega)]

/-! ### The program's set without a job -/
theorem x_aheadD (s j : Int) (hs : 0 ≤ s ∧ s ≤ 65535) (h0 : 0 ≤ j) (h1 : j < 16) : Fex true TT (inlN true TT Cj4 (lookI ILz) 6) Cj4 U0 Tryd.f29 [.a (.c (.int .u16 s)), .a (.c (.int .i64 j))] [] (fun lv _ => leL lv (.a (.c (.int .u16 ((s.toNat &&& (2 ^ j.toNat - 1) : Nat) : Int))))) := by
  obtain ⟨s, rfl⟩ := Int.eq_ofNat_of_zero_le hs.1
  have hs2 := hs.2
  refine Go.Sx.by_eq (q := True ∧ True ∧ True ∧ ((0 : Int) ≤ j ∧ j < (16 : Int)) ∧ True ∧ True ∧ True ∧ IntKind.u16 = IntKind.u16 ∧ bAnd IntKind.u16 (↑s : Int) (IntKind.wrap IntKind.u16 ((↑((2 : Nat) ^ Int.toNat j) : Int) - (1 : Int))) = (↑(Int.toNat (↑s : Int) &&& (2 : Nat) ^ Int.toNat j - (1 : Nat)) : Int)) (by kernel_rfl) ?_
  obtain ⟨k, rfl⟩ := Int.eq_ofNat_of_zero_le h0
  have hw := pow_lt16 (k := k) (by omega)
  have hp := Nat.two_pow_pos k
  simp only [true_and, and_true, and_self, decide_eq_true_eq, decide_eq_false_iff_not, Bool.not_eq_true', Bool.not_eq_false', Bool.not_true, Bool.not_false, beq_iff_eq, beq_eq_false_iff_ne, bne_iff_ne, bne_eq_false_iff_eq, ne_eq, not_true_eq_false, not_false_eq_true, false_implies, true_implies, implies_true, forall_const, exists_const, ↓reduceIte, Int.reduceEq, Int.toNat_natCast, Bool.false_eq_true, Bool.true_eq_false, reduceCtorEq, Int.zero_add, Nat.add_zero, Int.ofNat_eq_natCast, Int.toNat_natCast]
  have e : ((2 ^ k : Nat) : Int) - 1 = ((2 ^ k - 1 : Nat) : Int) := by omega
  rw [e, u16w (by omega) (by omega), bAnd16 (by omega) (by omega)]
  exact ⟨by omega, rfl⟩
def gAhD : Entry := fun args _ => match args with
  | [.a (.c (.int .u16 s)), .a (.c (.int .i64 j))] => some ((0 ≤ s ∧ s ≤ 65535) ∧ 0 ≤ j ∧ j < 16, .a (.c (.int .u16 ((s.toNat &&& (2 ^ j.toNat - 1) : Nat) : Int))))
  | _ => none
theorem e_aheadD : EntryOk Tryd.prog TT 29 gAhD := by
  refine ⟨fnOk Tryd.func29 (by kernel_rfl) rfl, ?_⟩
  intro args H p r he hp n0 w0 β w vals hG hH hA
  unfold gAhD at he
  split at he
  · simp only [Option.some.injEq, Prod.mk.injEq] at he
    obtain ⟨rfl, rfl⟩ := he
    exact entry_bare tt_ok (inlN_ok tt_ok Cj4_ok mixed (ILz_ok).ok 6) Cj4_ok mixed Tryd.func29 (x_aheadD _ _ hp.1 hp.2.1 hp.2.2) rfl rfl hG hH hA
  · simp at he

noncomputable def Edr : List (FuncId × Entry) := (29, gAhD) :: Ej4
theorem Edr_ok : EntriesOk Tryd.prog TT Edr := ⟨e_aheadD, Ej4_ok⟩
noncomputable abbrev Cdr : Ctr := ctrOfM Edr Mj4
theorem Cdr_ok : CtrOk Tryd.prog TT Cdr := ctrOfM_ok Edr_ok Mj4_ok
theorem x_dropped (s : Nat) (j : Int) (hs : s < 65536) (h0 : 0 ≤ j) (h1 : j < 16) : Fex true TT (inlN true TT Cdr (lookI ILz) 6) Cdr U0 Tryd.f20 [.a (.c (.int .u16 s)), .a (.c (.int .i64 j))] [] (fun lv _ => leL lv (.a (.c (.int .u16 (drF s j.toNat : Nat))))) := by
  refine Go.Sx.by_eq (q := True ∧ True ∧ True ∧ (((0 : Int) ≤ (↑s : Int) ∧ (↑s : Int) ≤ (65535 : Int)) ∧ (0 : Int) ≤ j ∧ j < (16 : Int)) ∧ True ∧ True ∧ ((-9223372036854775808 : Int) ≤ j + (1 : Int) ∧ j + (1 : Int) ≤ (9223372036854775807 : Int)) ∧ ((0 : Int) ≤ j + (1 : Int) ∧ Int.toNat (j + (1 : Int)) ≤ IntKind.bits IntKind.u16) ∧ True ∧ ((0 : Int) ≤ j ∧ Int.toNat j ≤ IntKind.bits IntKind.u16) ∧ True ∧ True ∧ IntKind.u16 = IntKind.u16 ∧ bOr IntKind.u16 (↑(Int.toNat (↑s : Int) &&& (2 : Nat) ^ Int.toNat j - (1 : Nat)) : Int) (bShl IntKind.u16 (bShr (↑s : Int) (j + (1 : Int))) j) = (↑(drF s (Int.toNat j)) : Int)) (by kernel_rfl) ?_
  obtain ⟨k, rfl⟩ := Int.eq_ofNat_of_zero_le h0
  have hw := pow_lt16 (k := k) (by omega)
  have hp := Nat.two_pow_pos k
  simp only [true_and, and_true, and_self, decide_eq_true_eq, decide_eq_false_iff_not, Bool.not_eq_true', Bool.not_eq_false', Bool.not_true, Bool.not_false, beq_iff_eq, beq_eq_false_iff_ne, bne_iff_ne, bne_eq_false_iff_eq, ne_eq, not_true_eq_false, not_false_eq_true, false_implies, true_implies, implies_true, forall_const, exists_const, ↓reduceIte, Int.reduceEq, Int.toNat_natCast, Bool.false_eq_true, Bool.true_eq_false, reduceCtorEq, Int.zero_add, Nat.add_zero, Int.ofNat_eq_natCast, Int.toNat_natCast]
  have e1 : (k : Int) + 1 = ((k + 1 : Nat) : Int) := by omega
  rw [e1, dr_impl hs]
  exact ⟨by omega, by omega, ⟨by omega, by show _ ≤ 16; omega⟩, ⟨by omega, by show _ ≤ 16; omega⟩, rfl⟩
set_option maxHeartbeats 4000000 in
set_option maxRecDepth 1000000 in
theorem del_calls (L : List Int) (w : World) (b i j n cap : Nat) (hij : j = i + 1) (hg : w.heap[b]? = some (.cells (runV [.i8, .u16] L).toArray 35 (0, 0))) (hi : i < n) (hL : n * 2 ≤ L.length) (hc : n ≤ cap) :
    Calls Tryd.prog 17 #[.slice (some ⟨b, 0, none⟩) n cap, .int .i64 i, .int .i64 j] w fun e w' => e = .returned (.slice (some ⟨b, 0, none⟩) (n - 1 : Nat) cap) ∧ w' = w.drew.setRow b (runV [.i8, .u16] (delL i n L)).toArray := by
  have mixed := mixed
  have hjn : j ≤ n := by omega
  have t22 : Tryd.prog.underlying 24 = some (.slice 35) := by kernel_rfl
  have a22 := Go.Proofs.run_isAgg_plain t22 rfl
  obtain ⟨i0, hi0, hz1⟩ : ∃ i0, Tryd.prog.info? 35 = some i0 ∧ i0.size = 2 := by
    obtain ⟨⟨inf, g1, g2, _⟩, _⟩ := tt_ok.look (t := 35) (ti := _) rfl
    exact ⟨inf, g1, g2⟩
  have z23 : ∀ w, (Go.sizeOf 35).run Tryd.prog w = .ok 2 w := fun w => by simp [Go.sizeOf, typeInfo, hi0, hz1]
  have v23 : ∀ w, (zeroValue 35).run Tryd.prog w = .ok (.agg #[.int .i8 0, .int .u16 0]) w := fun w => by
    have h : (Tryd.prog.info? 35).bind (·.zero) = some (.agg #[.int .i8 0, .int .u16 0]) := by kernel_rfl
    obtain ⟨inf, h1, hz⟩ := Option.bind_eq_some_iff.1 h
    simp [zeroValue, typeInfo, h1, hz]
  have lX := delX_len hi hL
  have lA := delA_len hi hL
  have rl : ∀ y : List Int, (runV [.i8, .u16] y).length = y.length := fun y => by simp [runV]
  have one : ∀ y : List Int, ∀ v ∈ runV [.i8, .u16] y, v.oneCell' = true := fun y v hv => by
    simp only [runV, List.mem_map] at hv
    obtain ⟨j, _, rfl⟩ := hv
    exact EK.one _ _
  obtain ⟨news, hnews⟩ : ∃ news, news = runV [.i8, .u16] (delX i n L) := ⟨_, rfl⟩
  have hlen : news.length = (n - j) * 2 := by rw [hnews, rl, lX, hij]
  have hg' : w.drew.heap[b]? = some (.cells (runV [.i8, .u16] L).toArray 35 (0, 0)) := hg
  have hcell : ∀ k, w.drew.cell? ⟨b, k, none⟩ = (runV [.i8, .u16] L)[k]? := fun k => by rw [cell_at hg', List.getElem?_toArray]
  obtain ⟨A, hA, hsrc⟩ : ∃ A : Addr, (if cap = j then some (⟨b, 0, none⟩ : Addr) else some ⟨b, j * 2, none⟩) = some A ∧ Hid (∀ t u, news[t]? = some u → w.drew.cell? (A.add t) = some u) := by
    by_cases h : cap = j
    · refine ⟨⟨b, 0, none⟩, by simp [h], fun t u hu => ?_⟩
      have h0 : news.length = 0 := by rw [hlen]; omega
      rw [List.length_eq_zero_iff.1 h0] at hu
      simp at hu
    · refine ⟨⟨b, j * 2, none⟩, by simp [h], fun t u hu => ?_⟩
      have ht : t < (n - j) * 2 := by
        have := (List.getElem?_eq_some_iff.1 hu).1
        rwa [hlen] at this
      rw [addr_add, hcell, runV_get _ _ _ (by omega)]
      rw [hnews, runV_get _ _ _ (by rw [lX]; omega)] at hu
      rw [← hu]
      congr 2
      · congr 1
        show (j * 2 + t) % 2 = t % 2
        omega
      · rw [delX, List.getD_eq_getElem?_getD, List.getD_eq_getElem?_getD, List.getElem?_drop, List.getElem?_take_of_lt (by omega)]
        congr 2
        omega
  have s1 : Hid (news.length = (n - j) * 2) := hlen
  have s2 : Hid (∀ u ∈ news, u.oneCell' = true) := by rw [hnews]; exact one _
  have s3 : Hid (∀ t, t < news.length → (w.drew.cell? ⟨b, 0 + i * 2 + t, none⟩).isSome = true ∧ w.drew.frozen? ⟨b, 0 + i * 2 + t, none⟩ = false) := by
    intro t ht
    rw [hlen] at ht
    refine ⟨?_, by simp [World.frozen?, hg']⟩
    rw [hcell, runV_get _ _ _ (by omega)]; rfl
  obtain ⟨W1, hW1⟩ : ∃ W1, W1 = w.drew.setCells b (0 + i * 2) news := ⟨_, rfl⟩
  have hW1' : W1 = w.drew.setRow b (runV [.i8, .u16] (delA i n L)).toArray := by
    rw [hW1, setCells_row w.drew b (0 + i * 2) news _ _ hg' (by simp [hlen, rl]; omega) (by rw [hnews]; exact one _), delA, runV_app (by simp [lX]; omega), runV_app (by simp; omega), runV_take _ _ _ (by omega), runV_drop _ _ _ (by rw [hlen]; show _ % 2 = 0; omega), hnews, rl, Nat.zero_add]
  have hG1 : W1.heap[b]? = some (.cells (runV [.i8, .u16] (delA i n L)).toArray 35 (0, 0)) := by
    rw [hW1']; exact setRow_heap _ _ _ _ _ _ hg'
  have hcl : ∀ ty, (Builtin.clear_ #[24] ty #[.slice (some ⟨b, (i + (n - j)) * 2, none⟩) (n - (i + (n - j))) (cap - (i + (n - j)))]).run Tryd.prog W1 = .ok (.tuple #[]) (w.drew.setRow b (runV [.i8, .u16] (delL i n L)).toArray) := fun ty => by
    have := run_clear1 W1 24 35 ty _ (runV [.i8, .u16] [0, 0]) t22 v23 rfl rfl b ((i + (n - j)) * 2) (cap - (i + (n - j))) _ _ hG1 (by rw [rl [0, 0], List.size_toArray, rl, lA]; show _ + 2 ≤ _; omega) (one _)
    rw [show n - (i + (n - j)) = 1 by omega, this, hW1', setRow_setRow]
    congr 3
    rw [delL, runV_app (by simp [lA]; omega), runV_app (by simp [lA]; omega), runV_take _ _ _ (by rw [lA]; omega), runV_drop _ _ _ (by rw [rl]; show (_ + 2) % 2 = 0; omega), rl, show (i + (n - j)) * 2 = (n - 1) * 2 by omega]
    rfl
  have hW : Hid (W1 = w.drew.setCells b (0 + i * 2) news) := hW1
  have hic : i ≤ cap := by omega
  have hjc : j ≤ cap := by omega
  have heq : ¬ (i = j) := by omega
  have hlt : i < j := by omega
  have hle : j ≤ i + 1 := by omega
  clear hW1 hW1' hG1 hnews hlen hg hg' hcell hij
  go_enter Tryd.func17, Tryd.ntmps17
  go_wp2_with fail
  go_region_law_o (refine step_append_room rfl (.tmp 22) (.tmp 25) 24 rfl 35 i0 2 t22 hi0 hz1 b 0 i cap (by simp [Act.eval, Act.put]) A (n - j) (cap - j) news (by simp [Act.eval, Act.put]) s1.out hsrc.out s2.out (by omega) s3.out ?_; rw [← hW.out])
  go_wp2
  go_ret
  exact ⟨by rw [show n - 1 = i + (n - j) by omega]; rfl, rfl⟩
def gdel : EntryC := fun args H K => match args with
  | [.a (.c (.slc id 0 z 2 len cap)), .a (.c (.int .i64 i)), .a (.c (.int .i64 j))] => match getB H id with
    | .cells true 35 [.run [.i8, .u16] m L] => (z = 0 ∧ 0 ≤ i ∧ j = i + 1 ∧ i < len ∧ len ≤ cap ∧ len.toNat * 2 ≤ m) ∧ (L.length = m → K (.a (.c (.slc id 0 0 2 (len - 1) cap))) (H.set id (.cells true 35 [.run [.i8, .u16] m (delL i.toNat len.toNat L)])))
    | _ => Stuck "delete"
  | _ => Stuck "delete"
theorem e_del : EntryCOk Tryd.prog TT 17 gdel := by
  refine ⟨fnOk Tryd.func17 (by kernel_rfl) rfl, ?_⟩
  intro args H K h n0 w0 β w vals hG hH hA
  unfold gdel at h
  split at h
  · split at h
    · rename_i _ id z len cap i j _ m L hb
      obtain ⟨⟨rfl, h0, rfl, hi, hc, hn⟩, hk⟩ := h
      obtain ⟨i, rfl⟩ := Int.eq_ofNat_of_zero_le h0
      obtain ⟨len, rfl⟩ := Int.eq_ofNat_of_zero_le (show 0 ≤ len by omega)
      obtain ⟨cap, rfl⟩ := Int.eq_ofNat_of_zero_le (show 0 ≤ cap by omega)
      simp only [Int.toNat_natCast] at hn hk
      obtain ⟨v1, r1, e1, q1, v2, r2, e2, q2, v3, r3, e3, q3, q4⟩ := hA
      obtain ⟨_, _, _, qs⟩ : SlcR β id 0 0 2 len cap v1 := q1
      have q2 : v2 = .int .i64 i := q2
      have q3 : v3 = .int .i64 ((i : Int) + 1) := q3
      have q4 : r3 = [] := q4
      subst q2 q3 q4 e3 e2
      obtain ⟨b, arr, hbb, hh, hcc⟩ := hH.get hb
      obtain ⟨pre, rest, ec, ⟨hLn, hpre⟩, hrest⟩ := hcc
      have hrest : rest = [] := hrest
      subst hrest
      rw [List.append_nil, hpre] at ec
      have harr : arr = (runV [.i8, .u16] L).toArray := Array.toList_inj.1 (by rw [ec])
      subst harr
      have hsz : (runV [.i8, .u16] L).toArray.size = m := by simp [runV, hLn]
      obtain ⟨hbn, hheap⟩ := hh (by rw [hsz]; omega)
      rcases qs with ⟨b', hb', rfl⟩ | ⟨q4, _⟩
      case inr => omega
      rw [hbb] at hb'
      simp only [Option.some.injEq] at hb'
      subst hb'
      have hv : vals = #[.slice (some ⟨b, 0, none⟩) len cap, .int .i64 i, .int .i64 ((i + 1 : Nat) : Int)] := Array.toList_inj.1 (by rw [e1]; simp)
      subst hv
      refine (del_calls L w b i (i + 1) len cap rfl hheap (by omega) (by omega) (by omega)).mono ?_
      rintro e w' ⟨rfl, rfl⟩
      have hl' := delL_len (i := i) (n := len) (L := L) (by omega) (by omega)
      refine ⟨_, [], _, _, rfl, hk hLn, ?_, ?_⟩
      · rw [List.append_nil]
        exact HR.set (arr := (runV [.i8, .u16] L).toArray) (HR_ahead 1 hH) hb hbb ⟨_, [], (List.append_nil _).symm, ⟨hLn, rfl⟩, rfl⟩ (by rw [hsz]; omega) (fun _ => ⟨fun _ => hbn rfl, hheap⟩) ⟨_, [], (List.append_nil _).symm, ⟨by rw [hl', hLn], rfl⟩, rfl⟩
      · rw [List.append_nil]
        exact ⟨by omega, by omega, by omega, .inl ⟨b, hbb, by simp⟩⟩
    · exact h.elim
  · exact h.elim


def lmDpS (n : Nat) (l : List Int) (j : Nat) : LAnn := { ι := Nat × Nat × List Int × Int, inv := fun _ x => x.1 ≤ n ∧ Gq 2 (if x.1 ≤ j then x.1 else x.1 - 1) (mkN ((if x.1 ≤ j then x.1 else x.1 - 1) * 2) (drE l j)) x.2.1 x.2.2.1 x.2.2.2, slots := fun _ x => [(7, .a (.c (.slc 2 0 0 2 (if x.1 ≤ j then x.1 else x.1 - 1 : Nat) x.2.2.2))), (8, .a (.c (.int .i64 x.1)))], blks := fun _ _ => [], μ := fun _ x => n - x.1, kills := [1], frs := fun _ x => [.cells true 35 [.run [.i8, .u16] x.2.1 x.2.2.1]], mv := fun st => [slotB st 7] }
noncomputable def ILds  : List (FuncId × Func × (Nat → LM)) := [
  (11, Tryd.f11, U0)]
theorem ILds_ok  : InlsOk Tryd.prog ILds := ⟨⟨Tryd.func11, by kernel_rfl⟩, trivial⟩
set_option maxRecDepth 100000 in
theorem x_DropJobS (m n : Nat) (l : List Int) (cap j : Int) (q : Jx n m l) : Fex true TT (inlN true TT Cj4 (lookI ILds) 6) Cj4 (fun _ => .inv (lmDpS n l j.toNat)) Tryd.f5 [.a (.c (.slc 0 0 0 2 n cap)), .a (.c (.int .i64 j))] [.cells false 35 [.run [.i8, .u16] m l]] (PJs 35 2 [.i8, .u16] (dpK n l j) (dpF n l j) (dpE n l j)) := by
  refine Go.Sx.by_eq (q := True ∧ True ∧ True ∧ True ∧ True ∧ True ∧ (((35 : Nat) = (35 : Nat) ∧ (0 : Nat) = (0 : Nat) ∧ (0 : Int) = (0 : Int) ∧ (2 : Nat) = (2 : Nat) ∧ [EK.i8, EK.u16] = [EK.i8, EK.u16]) ∧ (0 : Int) ≤ (↑n : Int) ∧ Jx (Int.toNat (↑n : Int)) m l) ∧ True ∧ ((!vjB (Int.toNat (↑n : Int)) l) = Bool.true → True ∧ True ∧ True ∧ True ∧ True ∧ True ∧ True ∧ True ∧ ∃ (x : Nat × List Int × Int), Gq (2 : Nat) (dpK n l j) (dpF n l j) x.fst x.snd.fst x.snd.snd ∧ ((Cel.slc (1 : Nat) (0 : Nat) (0 : Int) (2 : Nat) (0 : Int) (0 : Int) = Cel.slc (1 : Nat) (0 : Nat) (0 : Int) (2 : Nat) (↑(dpK n l j) : Int) x.snd.snd ∧ (IntKind.i64 = IntKind.i64 ∧ (1 : Int) = dpE n l j) ∧ True) ∧ True) ∧ True ∧ (Bool.true = Bool.true ∧ (35 : Nat) = (35 : Nat) ∧ ([EK.i8, EK.u16] = [EK.i8, EK.u16] ∧ (0 : Nat) = x.fst ∧ [] = x.snd.fst) ∧ True) ∧ True) ∧ ((!vjB (Int.toNat (↑n : Int)) l) = Bool.false → True ∧ True ∧ True ∧ ((-9223372036854775808 : Int) ≤ (↑n : Int) - (1 : Int) ∧ (↑n : Int) - (1 : Int) ≤ (9223372036854775807 : Int)) ∧ True ∧ True ∧ ((!(Decidable.decide ((0 : Int) ≤ j) && Decidable.decide (j ≤ (↑n : Int) - (1 : Int)))) = Bool.true → True ∧ True ∧ True ∧ True ∧ True ∧ True ∧ True ∧ True ∧ ∃ (x : Nat × List Int × Int), Gq (2 : Nat) (dpK n l j) (dpF n l j) x.fst x.snd.fst x.snd.snd ∧ ((Cel.slc (1 : Nat) (0 : Nat) (0 : Int) (2 : Nat) (0 : Int) (0 : Int) = Cel.slc (1 : Nat) (0 : Nat) (0 : Int) (2 : Nat) (↑(dpK n l j) : Int) x.snd.snd ∧ (IntKind.i64 = IntKind.i64 ∧ (2 : Int) = dpE n l j) ∧ True) ∧ True) ∧ True ∧ (Bool.true = Bool.true ∧ (35 : Nat) = (35 : Nat) ∧ ([EK.i8, EK.u16] = [EK.i8, EK.u16] ∧ (0 : Nat) = x.fst ∧ [] = x.snd.fst) ∧ True) ∧ True) ∧ ((!(Decidable.decide ((0 : Int) ≤ j) && Decidable.decide (j ≤ (↑n : Int) - (1 : Int)))) = Bool.false → True ∧ True ∧ True ∧ True ∧ True ∧ True ∧ True ∧ (∃ (x : Nat × Nat × List Int × Int), (x.fst ≤ n ∧ Gq (2 : Nat) (if x.fst ≤ Int.toNat j then x.fst else x.fst - (1 : Nat)) (mkN ((if x.fst ≤ Int.toNat j then x.fst else x.fst - (1 : Nat)) * (2 : Nat)) (drE l (Int.toNat j))) x.snd.fst x.snd.snd.fst x.snd.snd.snd) ∧ (Cel.slc (0 : Nat) (0 : Nat) (0 : Int) (2 : Nat) (↑n : Int) cap = Cel.slc (0 : Nat) (0 : Nat) (0 : Int) (2 : Nat) (↑n : Int) cap ∧ (IntKind.i64 = IntKind.i64 ∧ j = j) ∧ Cel.val Go.undef = Cel.val Go.undef ∧ Cel.val Go.undef = Cel.val Go.undef ∧ Cel.val (Go.Value.slice Option.none (0 : Nat) (0 : Nat)) = Cel.val (Go.Value.slice Option.none (0 : Nat) (0 : Nat)) ∧ (IntKind.i64 = IntKind.i64 ∧ (0 : Int) = (0 : Int)) ∧ (IntKind.i64 = IntKind.i64 ∧ (0 : Int) = (0 : Int)) ∧ Cel.slc (1 : Nat) (0 : Nat) (0 : Int) (2 : Nat) (0 : Int) (0 : Int) = Cel.slc (1 : Nat) (0 : Nat) (0 : Int) (2 : Nat) (↑(if x.fst ≤ Int.toNat j then x.fst else x.fst - (1 : Nat)) : Int) x.snd.snd.snd ∧ (IntKind.i64 = IntKind.i64 ∧ (0 : Int) = (↑x.fst : Int)) ∧ True ∧ True ∧ True ∧ Cel.slc (0 : Nat) (0 : Nat) (0 : Int) (2 : Nat) (↑n : Int) cap = Cel.slc (0 : Nat) (0 : Nat) (0 : Int) (2 : Nat) (↑n : Int) cap ∧ (IntKind.i64 = IntKind.i64 ∧ j = j) ∧ (IntKind.i64 = IntKind.i64 ∧ (0 : Int) = (0 : Int)) ∧ (IntKind.i64 = IntKind.i64 ∧ (0 : Int) = (0 : Int)) ∧ True ∧ Cel.val Go.undef = Cel.val Go.undef ∧ Cel.val Go.undef = Cel.val Go.undef ∧ Cel.slc (1 : Nat) (0 : Nat) (0 : Int) (2 : Nat) (0 : Int) (0 : Int) = Cel.slc (1 : Nat) (0 : Nat) (0 : Int) (2 : Nat) (0 : Int) (0 : Int) ∧ True ∧ True ∧ True ∧ True ∧ True ∧ True ∧ True ∧ True ∧ True ∧ True ∧ True ∧ True ∧ True ∧ True ∧ True ∧ True ∧ True ∧ True ∧ True ∧ True ∧ True ∧ True ∧ True ∧ True ∧ True ∧ True ∧ True ∧ True ∧ True ∧ True ∧ True ∧ True ∧ True ∧ True ∧ True ∧ True ∧ True ∧ True ∧ True ∧ True ∧ True ∧ True ∧ True ∧ True ∧ True ∧ True ∧ True ∧ True ∧ True ∧ True ∧ Cel.val Go.undef = Cel.val Go.undef ∧ True) ∧ (Bool.false = Bool.false ∧ (35 : Nat) = (35 : Nat) ∧ ([EK.i8, EK.u16] = [EK.i8, EK.u16] ∧ m = m ∧ l = l) ∧ True) ∧ True ∧ (Bool.true = Bool.true ∧ (35 : Nat) = (35 : Nat) ∧ ([EK.i8, EK.u16] = [EK.i8, EK.u16] ∧ (0 : Nat) = x.snd.fst ∧ [] = x.snd.snd.fst) ∧ True) ∧ True) ∧ ∀ (x : Nat × Nat × List Int × Int), x.fst ≤ n ∧ Gq (2 : Nat) (if x.fst ≤ Int.toNat j then x.fst else x.fst - (1 : Nat)) (mkN ((if x.fst ≤ Int.toNat j then x.fst else x.fst - (1 : Nat)) * (2 : Nat)) (drE l (Int.toNat j))) x.snd.fst x.snd.snd.fst x.snd.snd.snd → True ∧ True ∧ True ∧ True ∧ (Decidable.decide ((↑x.fst : Int) < (↑n : Int)) = Bool.true → True ∧ True ∧ True ∧ (((↑x.fst : Int) == j) = Bool.true → True ∧ ((-9223372036854775808 : Int) ≤ (↑x.fst : Int) + (1 : Int) ∧ (↑x.fst : Int) + (1 : Int) ≤ (9223372036854775807 : Int)) ∧ True ∧ ∃ (y : Nat × Nat × List Int × Int), (y.fst ≤ n ∧ Gq (2 : Nat) (if y.fst ≤ Int.toNat j then y.fst else y.fst - (1 : Nat)) (mkN ((if y.fst ≤ Int.toNat j then y.fst else y.fst - (1 : Nat)) * (2 : Nat)) (drE l (Int.toNat j))) y.snd.fst y.snd.snd.fst y.snd.snd.snd) ∧ n - y.fst < n - x.fst ∧ (Cel.slc (0 : Nat) (0 : Nat) (0 : Int) (2 : Nat) (↑n : Int) cap = Cel.slc (0 : Nat) (0 : Nat) (0 : Int) (2 : Nat) (↑n : Int) cap ∧ (IntKind.i64 = IntKind.i64 ∧ j = j) ∧ Cel.val Go.undef = Cel.val Go.undef ∧ Cel.val Go.undef = Cel.val Go.undef ∧ Cel.val (Go.Value.slice Option.none (0 : Nat) (0 : Nat)) = Cel.val (Go.Value.slice Option.none (0 : Nat) (0 : Nat)) ∧ (IntKind.i64 = IntKind.i64 ∧ (0 : Int) = (0 : Int)) ∧ (IntKind.i64 = IntKind.i64 ∧ (0 : Int) = (0 : Int)) ∧ Cel.slc (2 : Nat) (0 : Nat) (0 : Int) (2 : Nat) (↑(if x.fst ≤ Int.toNat j then x.fst else x.fst - (1 : Nat)) : Int) x.snd.snd.snd = Cel.slc (2 : Nat) (0 : Nat) (0 : Int) (2 : Nat) (↑(if y.fst ≤ Int.toNat j then y.fst else y.fst - (1 : Nat)) : Int) y.snd.snd.snd ∧ (IntKind.i64 = IntKind.i64 ∧ (↑x.fst : Int) + (1 : Int) = (↑y.fst : Int)) ∧ True ∧ True ∧ True ∧ Cel.slc (0 : Nat) (0 : Nat) (0 : Int) (2 : Nat) (↑n : Int) cap = Cel.slc (0 : Nat) (0 : Nat) (0 : Int) (2 : Nat) (↑n : Int) cap ∧ (IntKind.i64 = IntKind.i64 ∧ j = j) ∧ (IntKind.i64 = IntKind.i64 ∧ (0 : Int) = (0 : Int)) ∧ (IntKind.i64 = IntKind.i64 ∧ (0 : Int) = (0 : Int)) ∧ True ∧ Cel.val Go.undef = Cel.val Go.undef ∧ Cel.val Go.undef = Cel.val Go.undef ∧ Cel.slc (1 : Nat) (0 : Nat) (0 : Int) (2 : Nat) (0 : Int) (0 : Int) = Cel.slc (1 : Nat) (0 : Nat) (0 : Int) (2 : Nat) (0 : Int) (0 : Int) ∧ True ∧ True ∧ True ∧ True ∧ True ∧ True ∧ True ∧ True ∧ True ∧ True ∧ True ∧ True ∧ True ∧ True ∧ True ∧ True ∧ True ∧ True ∧ True ∧ True ∧ True ∧ True ∧ True ∧ True ∧ True ∧ True ∧ True ∧ True ∧ True ∧ True ∧ True ∧ True ∧ True ∧ True ∧ True ∧ True ∧ True ∧ True ∧ True ∧ True ∧ True ∧ True ∧ True ∧ True ∧ True ∧ True ∧ True ∧ True ∧ True ∧ True ∧ Cel.val Go.undef = Cel.val Go.undef ∧ True) ∧ (Bool.false = Bool.false ∧ (35 : Nat) = (35 : Nat) ∧ ([EK.i8, EK.u16] = [EK.i8, EK.u16] ∧ m = m ∧ l = l) ∧ True) ∧ True ∧ (Bool.true = Bool.true ∧ (35 : Nat) = (35 : Nat) ∧ ([EK.i8, EK.u16] = [EK.i8, EK.u16] ∧ x.snd.fst = y.snd.fst ∧ x.snd.snd.fst = y.snd.snd.fst) ∧ True) ∧ True) ∧ (((↑x.fst : Int) == j) = Bool.false → True ∧ True ∧ ((0 : Int) ≤ (↑x.fst : Int) ∧ (↑x.fst : Int) < (↑n : Int)) ∧ True ∧ ((0 : Int) ≤ (0 : Int) + (↑x.fst : Int) ∧ Int.toNat ((0 : Int) + (↑x.fst : Int)) * (2 : Nat) + (1 : Nat) < m) ∧ True ∧ True ∧ True ∧ True ∧ (((35 : Nat) = (35 : Nat) ∧ (0 : Nat) = (0 : Nat) ∧ (0 : Int) = (0 : Int) ∧ (2 : Nat) = (2 : Nat) ∧ [EK.i8, EK.u16] = [EK.i8, EK.u16]) ∧ Jl (↑n : Int) m l ∧ ((0 : Int) ≤ (↑x.fst : Int) ∧ (↑x.fst : Int) < (↑n : Int)) ∧ (0 : Int) ≤ j ∧ j < (16 : Int)) ∧ (Nat.testBit (af l (Int.toNat (↑x.fst : Int))) (Int.toNat j) = Bool.true → True ∧ True ∧ True ∧ ((0 : Int) ≤ j ∧ j < (↑n : Int)) ∧ True ∧ ((0 : Int) ≤ (0 : Int) + j ∧ Int.toNat ((0 : Int) + j) * (2 : Nat) + (1 : Nat) < m) ∧ True ∧ True ∧ True ∧ True ∧ True ∧ ((0 : Int) ≤ IntKind.wrap IntKind.u64 j ∧ Int.toNat (IntKind.wrap IntKind.u64 j) ≤ IntKind.bits IntKind.u16) ∧ bShl IntKind.u16 (1 : Int) (IntKind.wrap IntKind.u64 j) ≠ (0 : Int) ∧ True ∧ True ∧ True ∧ ((-9223372036854775808 : Int) ≤ j + (1 : Int) ∧ j + (1 : Int) ≤ (9223372036854775807 : Int)) ∧ True ∧ ((0 : Int) ≤ IntKind.wrap IntKind.u64 (j + (1 : Int)) ∧ Int.toNat (IntKind.wrap IntKind.u64 (j + (1 : Int))) ≤ IntKind.bits IntKind.u16) ∧ True ∧ True ∧ ((0 : Int) ≤ IntKind.wrap IntKind.u64 j ∧ Int.toNat (IntKind.wrap IntKind.u64 j) ≤ IntKind.bits IntKind.u16) ∧ True ∧ True ∧ True ∧ True ∧ ((0 : Int) ≤ (↑x.fst : Int) ∧ (↑x.fst : Int) < (↑n : Int)) ∧ True ∧ ((0 : Int) ≤ (0 : Int) + (↑x.fst : Int) ∧ Int.toNat ((0 : Int) + (↑x.fst : Int)) * (2 : Nat) + (0 : Nat) < m) ∧ True ∧ True ∧ True ∧ True ∧ True ∧ ((Int.toNat (0 : Int) + Int.toNat (↑(if x.fst ≤ Int.toNat j then x.fst else x.fst - (1 : Nat)) : Int)) * (2 : Nat) ≤ x.snd.fst ∧ (Int.toNat (0 : Int) + Int.toNat (↑(1 : Nat) : Int)) * (2 : Nat) ≤ (2 : Nat) ∧ ((↑(if x.fst ≤ Int.toNat j then x.fst else x.fst - (1 : Nat)) : Int) + (↑(1 : Nat) : Int)) * (↑(4 : Nat) : Int) ≤ (140737488355328 : Int) ∧ (↑(if x.fst ≤ Int.toNat j then x.fst else x.fst - (1 : Nat)) : Int) + (↑(1 : Nat) : Int) ≤ (9223372036854775807 : Int)) ∧ ((0 : Int) = (0 : Int) ∧ x.snd.fst = Int.toNat x.snd.snd.snd * (2 : Nat)) ∧ ∀ (n_1 : Nat) (L : List Int) (cap_1 : Int), (↑(if x.fst ≤ Int.toNat j then x.fst else x.fst - (1 : Nat)) : Int) + (↑(1 : Nat) : Int) ≤ cap_1 → n_1 = Int.toNat cap_1 * (2 : Nat) → List.length L = n_1 → List.take (Int.toNat ((↑(if x.fst ≤ Int.toNat j then x.fst else x.fst - (1 : Nat)) : Int) + (↑(1 : Nat) : Int)) * (2 : Nat)) L = List.take (Int.toNat (↑(if x.fst ≤ Int.toNat j then x.fst else x.fst - (1 : Nat)) : Int) * (2 : Nat)) (List.drop (Int.toNat (0 : Int) * (2 : Nat)) x.snd.snd.fst) ++ List.take (Int.toNat (↑(1 : Nat) : Int) * (2 : Nat)) (List.drop (Int.toNat (0 : Int) * (2 : Nat)) [List.getD l (Int.toNat ((0 : Int) + (↑x.fst : Int)) * (2 : Nat) + (0 : Nat)) (0 : Int), bOr IntKind.u16 (Int.tmod (bOr IntKind.u16 (List.getD l (Int.toNat ((0 : Int) + (↑x.fst : Int)) * (2 : Nat) + (1 : Nat)) (0 : Int)) (List.getD l (Int.toNat ((0 : Int) + j) * (2 : Nat) + (1 : Nat)) (0 : Int))) (bShl IntKind.u16 (1 : Int) (IntKind.wrap IntKind.u64 j))) (bShl IntKind.u16 (bShr (bOr IntKind.u16 (List.getD l (Int.toNat ((0 : Int) + (↑x.fst : Int)) * (2 : Nat) + (1 : Nat)) (0 : Int)) (List.getD l (Int.toNat ((0 : Int) + j) * (2 : Nat) + (1 : Nat)) (0 : Int))) (IntKind.wrap IntKind.u64 (j + (1 : Int)))) (IntKind.wrap IntKind.u64 j))]) → True ∧ True ∧ ((-9223372036854775808 : Int) ≤ (↑x.fst : Int) + (1 : Int) ∧ (↑x.fst : Int) + (1 : Int) ≤ (9223372036854775807 : Int)) ∧ True ∧ ∃ (y : Nat × Nat × List Int × Int), (y.fst ≤ n ∧ Gq (2 : Nat) (if y.fst ≤ Int.toNat j then y.fst else y.fst - (1 : Nat)) (mkN ((if y.fst ≤ Int.toNat j then y.fst else y.fst - (1 : Nat)) * (2 : Nat)) (drE l (Int.toNat j))) y.snd.fst y.snd.snd.fst y.snd.snd.snd) ∧ n - y.fst < n - x.fst ∧ (Cel.slc (0 : Nat) (0 : Nat) (0 : Int) (2 : Nat) (↑n : Int) cap = Cel.slc (0 : Nat) (0 : Nat) (0 : Int) (2 : Nat) (↑n : Int) cap ∧ (IntKind.i64 = IntKind.i64 ∧ j = j) ∧ Cel.val Go.undef = Cel.val Go.undef ∧ Cel.val Go.undef = Cel.val Go.undef ∧ Cel.val (Go.Value.slice Option.none (0 : Nat) (0 : Nat)) = Cel.val (Go.Value.slice Option.none (0 : Nat) (0 : Nat)) ∧ (IntKind.i64 = IntKind.i64 ∧ (0 : Int) = (0 : Int)) ∧ (IntKind.i64 = IntKind.i64 ∧ (0 : Int) = (0 : Int)) ∧ Cel.slc (4 : Nat) (0 : Nat) (0 : Int) (2 : Nat) ((↑(if x.fst ≤ Int.toNat j then x.fst else x.fst - (1 : Nat)) : Int) + (↑(1 : Nat) : Int)) cap_1 = Cel.slc (4 : Nat) (0 : Nat) (0 : Int) (2 : Nat) (↑(if y.fst ≤ Int.toNat j then y.fst else y.fst - (1 : Nat)) : Int) y.snd.snd.snd ∧ (IntKind.i64 = IntKind.i64 ∧ (↑x.fst : Int) + (1 : Int) = (↑y.fst : Int)) ∧ True ∧ True ∧ True ∧ Cel.slc (0 : Nat) (0 : Nat) (0 : Int) (2 : Nat) (↑n : Int) cap = Cel.slc (0 : Nat) (0 : Nat) (0 : Int) (2 : Nat) (↑n : Int) cap ∧ (IntKind.i64 = IntKind.i64 ∧ j = j) ∧ (IntKind.i64 = IntKind.i64 ∧ (0 : Int) = (0 : Int)) ∧ (IntKind.i64 = IntKind.i64 ∧ (0 : Int) = (0 : Int)) ∧ True ∧ Cel.val Go.undef = Cel.val Go.undef ∧ Cel.val Go.undef = Cel.val Go.undef ∧ Cel.slc (1 : Nat) (0 : Nat) (0 : Int) (2 : Nat) (0 : Int) (0 : Int) = Cel.slc (1 : Nat) (0 : Nat) (0 : Int) (2 : Nat) (0 : Int) (0 : Int) ∧ True ∧ True ∧ True ∧ True ∧ True ∧ True ∧ True ∧ True ∧ True ∧ True ∧ True ∧ True ∧ True ∧ True ∧ True ∧ True ∧ True ∧ True ∧ True ∧ True ∧ True ∧ True ∧ True ∧ True ∧ True ∧ True ∧ True ∧ True ∧ True ∧ True ∧ True ∧ True ∧ True ∧ True ∧ True ∧ True ∧ True ∧ True ∧ True ∧ True ∧ True ∧ True ∧ True ∧ True ∧ True ∧ True ∧ True ∧ True ∧ True ∧ True ∧ Cel.val Go.undef = Cel.val Go.undef ∧ True) ∧ (Bool.false = Bool.false ∧ (35 : Nat) = (35 : Nat) ∧ ([EK.i8, EK.u16] = [EK.i8, EK.u16] ∧ m = m ∧ l = l) ∧ True) ∧ True ∧ (Bool.true = Bool.true ∧ (35 : Nat) = (35 : Nat) ∧ ([EK.i8, EK.u16] = [EK.i8, EK.u16] ∧ n_1 = y.snd.fst ∧ L = y.snd.snd.fst) ∧ True) ∧ True) ∧ (Nat.testBit (af l (Int.toNat (↑x.fst : Int))) (Int.toNat j) = Bool.false → True ∧ True ∧ True ∧ ((0 : Int) ≤ IntKind.wrap IntKind.u64 j ∧ Int.toNat (IntKind.wrap IntKind.u64 j) ≤ IntKind.bits IntKind.u16) ∧ bShl IntKind.u16 (1 : Int) (IntKind.wrap IntKind.u64 j) ≠ (0 : Int) ∧ True ∧ True ∧ True ∧ ((-9223372036854775808 : Int) ≤ j + (1 : Int) ∧ j + (1 : Int) ≤ (9223372036854775807 : Int)) ∧ True ∧ ((0 : Int) ≤ IntKind.wrap IntKind.u64 (j + (1 : Int)) ∧ Int.toNat (IntKind.wrap IntKind.u64 (j + (1 : Int))) ≤ IntKind.bits IntKind.u16) ∧ True ∧ True ∧ ((0 : Int) ≤ IntKind.wrap IntKind.u64 j ∧ Int.toNat (IntKind.wrap IntKind.u64 j) ≤ IntKind.bits IntKind.u16) ∧ True ∧ True ∧ True ∧ True ∧ ((0 : Int) ≤ (↑x.fst : Int) ∧ (↑x.fst : Int) < (↑n : Int)) ∧ True ∧ ((0 : Int) ≤ (0 : Int) + (↑x.fst : Int) ∧ Int.toNat ((0 : Int) + (↑x.fst : Int)) * (2 : Nat) + (0 : Nat) < m) ∧ True ∧ True ∧ True ∧ True ∧ True ∧ ((Int.toNat (0 : Int) + Int.toNat (↑(if x.fst ≤ Int.toNat j then x.fst else x.fst - (1 : Nat)) : Int)) * (2 : Nat) ≤ x.snd.fst ∧ (Int.toNat (0 : Int) + Int.toNat (↑(1 : Nat) : Int)) * (2 : Nat) ≤ (2 : Nat) ∧ ((↑(if x.fst ≤ Int.toNat j then x.fst else x.fst - (1 : Nat)) : Int) + (↑(1 : Nat) : Int)) * (↑(4 : Nat) : Int) ≤ (140737488355328 : Int) ∧ (↑(if x.fst ≤ Int.toNat j then x.fst else x.fst - (1 : Nat)) : Int) + (↑(1 : Nat) : Int) ≤ (9223372036854775807 : Int)) ∧ ((0 : Int) = (0 : Int) ∧ x.snd.fst = Int.toNat x.snd.snd.snd * (2 : Nat)) ∧ ∀ (n_1 : Nat) (L : List Int) (cap_1 : Int), (↑(if x.fst ≤ Int.toNat j then x.fst else x.fst - (1 : Nat)) : Int) + (↑(1 : Nat) : Int) ≤ cap_1 → n_1 = Int.toNat cap_1 * (2 : Nat) → List.length L = n_1 → List.take (Int.toNat ((↑(if x.fst ≤ Int.toNat j then x.fst else x.fst - (1 : Nat)) : Int) + (↑(1 : Nat) : Int)) * (2 : Nat)) L = List.take (Int.toNat (↑(if x.fst ≤ Int.toNat j then x.fst else x.fst - (1 : Nat)) : Int) * (2 : Nat)) (List.drop (Int.toNat (0 : Int) * (2 : Nat)) x.snd.snd.fst) ++ List.take (Int.toNat (↑(1 : Nat) : Int) * (2 : Nat)) (List.drop (Int.toNat (0 : Int) * (2 : Nat)) [List.getD l (Int.toNat ((0 : Int) + (↑x.fst : Int)) * (2 : Nat) + (0 : Nat)) (0 : Int), bOr IntKind.u16 (Int.tmod (List.getD l (Int.toNat ((0 : Int) + (↑x.fst : Int)) * (2 : Nat) + (1 : Nat)) (0 : Int)) (bShl IntKind.u16 (1 : Int) (IntKind.wrap IntKind.u64 j))) (bShl IntKind.u16 (bShr (List.getD l (Int.toNat ((0 : Int) + (↑x.fst : Int)) * (2 : Nat) + (1 : Nat)) (0 : Int)) (IntKind.wrap IntKind.u64 (j + (1 : Int)))) (IntKind.wrap IntKind.u64 j))]) → True ∧ True ∧ ((-9223372036854775808 : Int) ≤ (↑x.fst : Int) + (1 : Int) ∧ (↑x.fst : Int) + (1 : Int) ≤ (9223372036854775807 : Int)) ∧ True ∧ ∃ (y : Nat × Nat × List Int × Int), (y.fst ≤ n ∧ Gq (2 : Nat) (if y.fst ≤ Int.toNat j then y.fst else y.fst - (1 : Nat)) (mkN ((if y.fst ≤ Int.toNat j then y.fst else y.fst - (1 : Nat)) * (2 : Nat)) (drE l (Int.toNat j))) y.snd.fst y.snd.snd.fst y.snd.snd.snd) ∧ n - y.fst < n - x.fst ∧ (Cel.slc (0 : Nat) (0 : Nat) (0 : Int) (2 : Nat) (↑n : Int) cap = Cel.slc (0 : Nat) (0 : Nat) (0 : Int) (2 : Nat) (↑n : Int) cap ∧ (IntKind.i64 = IntKind.i64 ∧ j = j) ∧ Cel.val Go.undef = Cel.val Go.undef ∧ Cel.val Go.undef = Cel.val Go.undef ∧ Cel.val (Go.Value.slice Option.none (0 : Nat) (0 : Nat)) = Cel.val (Go.Value.slice Option.none (0 : Nat) (0 : Nat)) ∧ (IntKind.i64 = IntKind.i64 ∧ (0 : Int) = (0 : Int)) ∧ (IntKind.i64 = IntKind.i64 ∧ (0 : Int) = (0 : Int)) ∧ Cel.slc (4 : Nat) (0 : Nat) (0 : Int) (2 : Nat) ((↑(if x.fst ≤ Int.toNat j then x.fst else x.fst - (1 : Nat)) : Int) + (↑(1 : Nat) : Int)) cap_1 = Cel.slc (4 : Nat) (0 : Nat) (0 : Int) (2 : Nat) (↑(if y.fst ≤ Int.toNat j then y.fst else y.fst - (1 : Nat)) : Int) y.snd.snd.snd ∧ (IntKind.i64 = IntKind.i64 ∧ (↑x.fst : Int) + (1 : Int) = (↑y.fst : Int)) ∧ True ∧ True ∧ True ∧ Cel.slc (0 : Nat) (0 : Nat) (0 : Int) (2 : Nat) (↑n : Int) cap = Cel.slc (0 : Nat) (0 : Nat) (0 : Int) (2 : Nat) (↑n : Int) cap ∧ (IntKind.i64 = IntKind.i64 ∧ j = j) ∧ (IntKind.i64 = IntKind.i64 ∧ (0 : Int) = (0 : Int)) ∧ (IntKind.i64 = IntKind.i64 ∧ (0 : Int) = (0 : Int)) ∧ True ∧ Cel.val Go.undef = Cel.val Go.undef ∧ Cel.val Go.undef = Cel.val Go.undef ∧ Cel.slc (1 : Nat) (0 : Nat) (0 : Int) (2 : Nat) (0 : Int) (0 : Int) = Cel.slc (1 : Nat) (0 : Nat) (0 : Int) (2 : Nat) (0 : Int) (0 : Int) ∧ True ∧ True ∧ True ∧ True ∧ True ∧ True ∧ True ∧ True ∧ True ∧ True ∧ True ∧ True ∧ True ∧ True ∧ True ∧ True ∧ True ∧ True ∧ True ∧ True ∧ True ∧ True ∧ True ∧ True ∧ True ∧ True ∧ True ∧ True ∧ True ∧ True ∧ True ∧ True ∧ True ∧ True ∧ True ∧ True ∧ True ∧ True ∧ True ∧ True ∧ True ∧ True ∧ True ∧ True ∧ True ∧ True ∧ True ∧ True ∧ True ∧ True ∧ Cel.val Go.undef = Cel.val Go.undef ∧ True) ∧ (Bool.false = Bool.false ∧ (35 : Nat) = (35 : Nat) ∧ ([EK.i8, EK.u16] = [EK.i8, EK.u16] ∧ m = m ∧ l = l) ∧ True) ∧ True ∧ (Bool.true = Bool.true ∧ (35 : Nat) = (35 : Nat) ∧ ([EK.i8, EK.u16] = [EK.i8, EK.u16] ∧ n_1 = y.snd.fst ∧ L = y.snd.snd.fst) ∧ True) ∧ True))) ∧ (Decidable.decide ((↑x.fst : Int) < (↑n : Int)) = Bool.false → True ∧ True ∧ True ∧ ∃ (x_1 : Nat × List Int × Int), Gq (2 : Nat) (dpK n l j) (dpF n l j) x_1.fst x_1.snd.fst x_1.snd.snd ∧ ((Cel.slc (2 : Nat) (0 : Nat) (0 : Int) (2 : Nat) (↑(if x.fst ≤ Int.toNat j then x.fst else x.fst - (1 : Nat)) : Int) x.snd.snd.snd = Cel.slc (2 : Nat) (0 : Nat) (0 : Int) (2 : Nat) (↑(dpK n l j) : Int) x_1.snd.snd ∧ (IntKind.i64 = IntKind.i64 ∧ (0 : Int) = dpE n l j) ∧ True) ∧ True) ∧ True ∧ (Bool.true = Bool.true ∧ (35 : Nat) = (35 : Nat) ∧ ([EK.i8, EK.u16] = [EK.i8, EK.u16] ∧ x.snd.fst = x_1.fst ∧ x.snd.snd.fst = x_1.snd.fst) ∧ True) ∧ True)))) (by kernel_rfl) ?_
  simp only [true_and, and_true, and_self, decide_eq_true_eq, decide_eq_false_iff_not, Bool.not_eq_true', Bool.not_eq_false', Bool.not_true, Bool.not_false, beq_iff_eq, beq_eq_false_iff_ne, bne_iff_ne, bne_eq_false_iff_eq, ne_eq, not_true_eq_false, not_false_eq_true, false_implies, true_implies, implies_true, forall_const, exists_const, ↓reduceIte, Int.reduceEq, Int.toNat_natCast, Bool.false_eq_true, Bool.true_eq_false, reduceCtorEq, Int.zero_add, Nat.add_zero, Nat.zero_add, Nat.zero_mul, Nat.zero_le, List.take_zero, List.nil_append, List.drop_zero, Int.toNat_zero, Int.ofNat_eq_natCast, Int.toNat_natCast, Nat.mul_one, Cel.slc.injEq, Bool.and_eq_true, Bool.and_eq_false_iff]
  have hi := q.hi
  have hle := q.le
  have hln := q.ln
  refine ⟨⟨by omega, q⟩, fun hv => gq_err (dp_1 hv).1 (dp_1 hv).2.1 (dp_1 hv).2.2.symm, fun hv => ?_⟩
  have v := vjB_t.1 hv
  have hn := v.hi
  refine ⟨by omega, fun h1 => ?_, fun h1 => ?_⟩
  · have e := dp_2 (j := j) hv (by omega)
    exact gq_err e.1 e.2.1 e.2.2.symm
  obtain ⟨z1, z2, z3⟩ := dp_0 (j := j) hv (by omega)
  obtain ⟨j, rfl⟩ := Int.eq_ofNat_of_zero_le h1.1
  have hj16 : j < 16 := by omega
  simp only [Int.toNat_natCast] at z2 ⊢
  refine ⟨⟨(0, 0, [], 0), ⟨by simp only; omega, by simpa [mkN] using Gq.nil⟩, by simp, rfl, rfl⟩, ?_⟩
  rintro ⟨i, N, L, cp⟩ ⟨hi', g⟩
  simp only at hi' g ⊢
  have hr := g.room
  refine ⟨fun hlt => ⟨fun hij => ⟨by omega, (i + 1, N, L, cp), ⟨by simp only; omega, ?_⟩, by simp only; omega, ⟨⟨?_, rfl⟩, by simp⟩, rfl, rfl⟩, fun hij => ?_⟩, fun hge => ?_⟩
  · simp only
    rw [if_pos (show i ≤ j by omega)] at g
    rw [if_neg (show ¬ i + 1 ≤ j by omega), Nat.add_sub_cancel]; exact g
  · simp only
    rw [if_pos (show i ≤ j by omega), if_neg (show ¬ i + 1 ≤ j by omega), Nat.add_sub_cancel]
  · have hin : i < n := by omega
    have w1 : IntKind.u64.wrap (j : Int) = j := u64w (by omega) (by omega)
    have w2 : IntKind.u64.wrap ((j : Int) + 1) = ((j + 1 : Nat) : Int) := by rw [u64w (by omega) (by omega)]; omega
    have w3 : bShl .u16 1 (j : Int) = ((2 ^ j : Nat) : Int) := bShl1 hj16
    have w4 := Nat.two_pow_pos j
    obtain ⟨a1, a2⟩ := q.jw.af (k := i) hin
    obtain ⟨b1, b2⟩ := q.jw.af (k := j) (by omega)
    obtain ⟨K, hK⟩ : ∃ K, K = (if i ≤ j then i else i - 1) := ⟨_, rfl⟩
    have hK1 : (if i + 1 ≤ j then i + 1 else i + 1 - 1) = K + 1 := by rw [hK]; split <;> split <;> omega
    have hKI : drI j K = i := by rw [drI, hK]; split <;> split <;> omega
    have hKn : K ≤ n := by rw [hK]; split <;> omega
    rw [← hK] at g hr ⊢
    simp only [w1, w2, w3, a1, b1, bOr16 a2 b2]
    have fin : ∀ (a : Nat), drA l j i = a → a < 65536 → ∀ (n_1 : Nat) (L_1 : List Int) (cap : Int), (K : Int) + ((1 : Nat) : Int) ≤ cap → n_1 = cap.toNat * 2 → L_1.length = n_1 →
        List.take (((K : Int) + ((1 : Nat) : Int)).toNat * 2) L_1 = List.take (K * 2) L ++ List.take (1 * 2) [l.getD (i * 2) 0, bOr .u16 (((a : Nat) : Int).tmod ((2 ^ j : Nat) : Int)) (bShl .u16 (bShr (a : Int) ((j + 1 : Nat) : Int)) (j : Int))] →
        (-9223372036854775808 ≤ (i : Int) + 1 ∧ (i : Int) + 1 ≤ 9223372036854775807) ∧ ∃ y : Nat × Nat × List Int × Int, (y.1 ≤ n ∧ Gq 2 (if y.1 ≤ j then y.1 else y.1 - 1) (mkN ((if y.1 ≤ j then y.1 else y.1 - 1) * 2) (drE l j)) y.2.1 y.2.2.1 y.2.2.2) ∧ n - y.1 < n - i ∧ (((K : Int) + ((1 : Nat) : Int) = ((if y.1 ≤ j then y.1 else y.1 - 1 : Nat) : Int) ∧ cap = y.2.2.2) ∧ (i : Int) + 1 = (y.1 : Int)) ∧ n_1 = y.2.1 ∧ L_1 = y.2.2.1 := by
      intro a ha ha2 n' L' cap' c1 c2 c3 c4
      refine ⟨by omega, (i + 1, n', L', cap'), ⟨by simp only; omega, ?_⟩, by simp only; omega, ⟨⟨?_, rfl⟩, by simp⟩, rfl, rfl⟩
      · simp only
        rw [hK1, mkN_twoD]
        refine g.push (by omega) c2 c3 ?_
        rw [drE_0 hKI, drE_1 hKI, ha, ← dr_spec ha2]
        exact c4
      · simp only
        rw [hK1]; rfl
    refine ⟨by omega, by omega, ⟨q.jl v, by omega, by omega, by omega⟩, fun hb => ?_, fun hb => ?_⟩
    · exact ⟨by omega, by omega, ⟨by omega, by show _ ≤ 16; omega⟩, by omega, by omega, ⟨by omega, by show _ ≤ 16; omega⟩, ⟨by omega, by show _ ≤ 16; omega⟩, by omega, by omega, ⟨by omega, by omega, by omega, by omega⟩, by have := g.e; omega, fin _ (by rw [drA, if_pos hb]) (or_lt a2 b2)⟩
    · exact ⟨⟨by omega, by show _ ≤ 16; omega⟩, by omega, by omega, ⟨by omega, by show _ ≤ 16; omega⟩, ⟨by omega, by show _ ≤ 16; omega⟩, by omega, by omega, ⟨by omega, by omega, by omega, by omega⟩, by have := g.e; omega, fin _ (by rw [drA, if_neg (by rw [hb]; simp)]) a2⟩
  · obtain rfl : i = n := by omega
    rw [if_neg (show ¬ i ≤ j by omega)] at g ⊢
    exact ⟨(N, L, cp), by rw [z1, z2]; exact g, ⟨⟨by rw [z1], rfl⟩, z3.symm⟩, rfl, rfl⟩

/-! ### The program's -/
theorem x_droppedE (s j : Int) (hs : 0 ≤ s ∧ s ≤ 65535) (h0 : 0 ≤ j) (h1 : j < 16) : Fex true TT (inlN true TT Cdr (lookI ILz) 6) Cdr U0 Tryd.f20 [.a (.c (.int .u16 s)), .a (.c (.int .i64 j))] [] (fun lv _ => leL lv (.a (.c (.int .u16 (drF s.toNat j.toNat : Nat))))) := by
  obtain ⟨s, rfl⟩ := Int.eq_ofNat_of_zero_le hs.1
  exact x_dropped s j (by have := hs.2; omega) h0 h1
def gDrp : Entry := fun args _ => match args with
  | [.a (.c (.int .u16 s)), .a (.c (.int .i64 j))] => some ((0 ≤ s ∧ s ≤ 65535) ∧ 0 ≤ j ∧ j < 16, .a (.c (.int .u16 ((drF s.toNat j.toNat : Nat) : Int))))
  | _ => none
theorem e_dropped : EntryOk Tryd.prog TT 20 gDrp := by
  refine ⟨fnOk Tryd.func20 (by kernel_rfl) rfl, ?_⟩
  intro args H p r he hp n0 w0 β w vals hG hH hA
  unfold gDrp at he
  split at he
  · simp only [Option.some.injEq, Prod.mk.injEq] at he
    obtain ⟨rfl, rfl⟩ := he
    exact entry_bare tt_ok (inlN_ok tt_ok Cdr_ok mixed (ILz_ok).ok 6) Cdr_ok mixed Tryd.func20 (x_droppedE _ _ hp.1 hp.2.1 hp.2.2) rfl rfl hG hH hA
  · simp at he

noncomputable def Edq : List (FuncId × Entry) := (20, gDrp) :: Ej4
theorem Edq_ok : EntriesOk Tryd.prog TT Edq := ⟨e_dropped, Ej4_ok⟩
noncomputable def Mdq : List (FuncId × EntryC) := (17, gdel) :: Mj4
theorem Mdq_ok : EntriesCOk Tryd.prog TT Mdq := ⟨e_del, Mj4_ok⟩
noncomputable abbrev Cdq : Ctr := ctrOfM Edq Mdq
theorem Cdq_ok : CtrOk Tryd.prog TT Cdq := ctrOfM_ok Edq_ok Mdq_ok
noncomputable def ILdp  : List (FuncId × Func × (Nat → LM)) := [
  (18, Tryd.f18, U0)]
theorem ILdp_ok  : InlsOk Tryd.prog ILdp := ⟨⟨Tryd.func18, by kernel_rfl⟩, trivial⟩
def dqE (l : List Int) (j i t : Nat) : Int := if t / 2 < i then drE l j t else l.getD (drI j (t / 2) * 2 + t % 2) 0
def lmDpI (n : Nat) (l : List Int) (j : Nat) : LAnn := { ι := Nat × List Int, inv := fun st x => x.1 ≤ n - 1 ∧ x.2.length = slM st 8 ∧ x.2.take ((n - 1) * 2) = mkN ((n - 1) * 2) (dqE l j x.1), slots := fun _ x => [(33, .a (.c (.int .i64 x.1)))], blks := fun st x => slB st 8 [.run [.i8, .u16] (slM st 8) x.2], μ := fun _ x => n - 1 - x.1 }
set_option maxRecDepth 100000 in
theorem x_DropJobI (m n : Nat) (l : List Int) (cap j : Int) (hc : (n : Int) ≤ cap) (q : Jx n m l) : Fex true TT (inlN true TT Cdq (lookI ILdp) 6) Cdq (fun _ => .inv (lmDpI n l j.toNat)) Tryd.f7 [.a (.c (.slc 0 0 0 2 n cap)), .a (.c (.int .i64 j))] [.cells false 35 [.run [.i8, .u16] m l]] (PJs 35 2 [.i8, .u16] (dpK n l j) (dpF n l j) (dpE n l j)) := by
  refine Go.Sx.by_eq (q := True ∧ True ∧ True ∧ (((35 : Nat) = (35 : Nat) ∧ (0 : Nat) = (0 : Nat) ∧ (0 : Int) = (0 : Int) ∧ (2 : Nat) = (2 : Nat) ∧ [EK.i8, EK.u16] = [EK.i8, EK.u16]) ∧ (0 : Int) ≤ (↑n : Int) ∧ Jx (Int.toNat (↑n : Int)) m l) ∧ (vjB (Int.toNat (↑n : Int)) l = Bool.true → True ∧ True ∧ True ∧ True ∧ True ∧ True ∧ True ∧ True ∧ True ∧ True ∧ True ∧ ((!(Decidable.decide ((0 : Int) ≤ j) && Decidable.decide (j < (↑n : Int)))) = Bool.true → True ∧ True ∧ ∃ (x : Nat × List Int × Int), Gq (2 : Nat) (dpK n l j) (dpF n l j) x.fst x.snd.fst x.snd.snd ∧ ((((0 : Int) = (0 : Int) ∧ (↑(dpK n l j) : Int) = (0 : Int) ∧ x.snd.snd = (0 : Int)) ∧ (IntKind.i64 = IntKind.i64 ∧ (2 : Int) = dpE n l j) ∧ True) ∧ True) ∧ True ∧ (x.fst = (0 : Nat) ∧ x.snd.fst = []) ∧ True) ∧ ((!(Decidable.decide ((0 : Int) ≤ j) && Decidable.decide (j < (↑n : Int)))) = Bool.false → True ∧ True ∧ True ∧ (0 : Int) < cap ∧ True ∧ True ∧ ((Int.toNat (0 : Int) + Int.toNat (0 : Int)) * (2 : Nat) ≤ (0 : Nat) ∧ (Int.toNat (0 : Int) + Int.toNat (↑n : Int)) * (2 : Nat) ≤ m ∧ ((0 : Int) + (↑n : Int)) * (↑(4 : Nat) : Int) ≤ (140737488355328 : Int) ∧ (0 : Int) + (↑n : Int) ≤ (9223372036854775807 : Int)) ∧ ((0 : Int) = (0 : Int) ∧ (0 : Nat) = (0 : Nat)) ∧ ∀ (n_1 : Nat) (L : List Int) (cap_1 : Int), (0 : Int) + (↑n : Int) ≤ cap_1 → n_1 = Int.toNat cap_1 * (2 : Nat) → List.length L = n_1 → List.take (Int.toNat ((0 : Int) + (↑n : Int)) * (2 : Nat)) L = List.take (Int.toNat (0 : Int) * (2 : Nat)) (List.drop (Int.toNat (0 : Int) * (2 : Nat)) []) ++ List.take (Int.toNat (↑n : Int) * (2 : Nat)) (List.drop (Int.toNat (0 : Int) * (2 : Nat)) l) → True ∧ True ∧ True ∧ ((-9223372036854775808 : Int) ≤ j + (1 : Int) ∧ j + (1 : Int) ≤ (9223372036854775807 : Int)) ∧ ((0 : Int) = (0 : Int) ∧ (0 : Int) ≤ j ∧ j + (1 : Int) = j + (1 : Int) ∧ j < (0 : Int) + (↑n : Int) ∧ (0 : Int) + (↑n : Int) ≤ cap_1 ∧ Int.toNat ((0 : Int) + (↑n : Int)) * (2 : Nat) ≤ n_1) ∧ (List.length L = n_1 → True ∧ True ∧ True ∧ True ∧ (∃ (x : Nat × List Int), (x.fst ≤ n - (1 : Nat) ∧ List.length x.snd = n_1 ∧ List.take ((n - (1 : Nat)) * (2 : Nat)) x.snd = mkN ((n - (1 : Nat)) * (2 : Nat)) (dqE l (Int.toNat j) x.fst)) ∧ (Cel.slc (0 : Nat) (0 : Nat) (0 : Int) (2 : Nat) (↑n : Int) cap = Cel.slc (0 : Nat) (0 : Nat) (0 : Int) (2 : Nat) (↑n : Int) cap ∧ (IntKind.i64 = IntKind.i64 ∧ j = j) ∧ Cel.val Go.undef = Cel.val Go.undef ∧ Cel.val Go.undef = Cel.val Go.undef ∧ Cel.val (Go.Value.slice Option.none (0 : Nat) (0 : Nat)) = Cel.val (Go.Value.slice Option.none (0 : Nat) (0 : Nat)) ∧ (IntKind.i64 = IntKind.i64 ∧ (0 : Int) = (0 : Int)) ∧ Cel.slc (1 : Nat) (0 : Nat) (0 : Int) (2 : Nat) (↑n : Int) (↑n : Int) = Cel.slc (1 : Nat) (0 : Nat) (0 : Int) (2 : Nat) (↑n : Int) (↑n : Int) ∧ Cel.val Go.Value.nilIface = Cel.val Go.Value.nilIface ∧ Cel.slc (3 : Nat) (0 : Nat) (0 : Int) (2 : Nat) ((0 : Int) + (↑n : Int) - (1 : Int)) cap_1 = Cel.slc (3 : Nat) (0 : Nat) (0 : Int) (2 : Nat) ((0 : Int) + (↑n : Int) - (1 : Int)) cap_1 ∧ True ∧ True ∧ True ∧ (Cel.slc (1 : Nat) (0 : Nat) (0 : Int) (2 : Nat) (↑n : Int) (↑n : Int) = Cel.slc (1 : Nat) (0 : Nat) (0 : Int) (2 : Nat) (↑n : Int) (↑n : Int) ∧ Cel.val Go.Value.nilIface = Cel.val Go.Value.nilIface ∧ True) ∧ Cel.slc (0 : Nat) (0 : Nat) (0 : Int) (2 : Nat) (↑n : Int) cap = Cel.slc (0 : Nat) (0 : Nat) (0 : Int) (2 : Nat) (↑n : Int) cap ∧ (Cel.slc (1 : Nat) (0 : Nat) (0 : Int) (2 : Nat) (↑n : Int) (↑n : Int) = Cel.slc (1 : Nat) (0 : Nat) (0 : Int) (2 : Nat) (↑n : Int) (↑n : Int) ∧ Cel.val Go.Value.nilIface = Cel.val Go.Value.nilIface ∧ True) ∧ Cel.slc (1 : Nat) (0 : Nat) (0 : Int) (2 : Nat) (↑n : Int) (↑n : Int) = Cel.slc (1 : Nat) (0 : Nat) (0 : Int) (2 : Nat) (↑n : Int) (↑n : Int) ∧ Cel.val Go.Value.nilIface = Cel.val Go.Value.nilIface ∧ Cel.val Go.Value.nilIface = Cel.val Go.Value.nilIface ∧ True ∧ Cel.val Go.undef = Cel.val Go.undef ∧ Cel.val Go.undef = Cel.val Go.undef ∧ Cel.slc (1 : Nat) (0 : Nat) (0 : Int) (2 : Nat) (↑n : Int) (↑n : Int) = Cel.slc (1 : Nat) (0 : Nat) (0 : Int) (2 : Nat) (↑n : Int) (↑n : Int) ∧ (IntKind.i64 = IntKind.i64 ∧ j = j) ∧ (Decidable.decide ((0 : Int) ≤ j) && Decidable.decide (j < (↑n : Int))) = (Decidable.decide ((0 : Int) ≤ j) && Decidable.decide (j < (↑n : Int))) ∧ (!(Decidable.decide ((0 : Int) ≤ j) && Decidable.decide (j < (↑n : Int)))) = !(Decidable.decide ((0 : Int) ≤ j) && Decidable.decide (j < (↑n : Int))) ∧ Cel.slc (0 : Nat) (0 : Nat) (0 : Int) (2 : Nat) (↑n : Int) cap = Cel.slc (0 : Nat) (0 : Nat) (0 : Int) (2 : Nat) (↑n : Int) cap ∧ Cel.slc (3 : Nat) (0 : Nat) (0 : Int) (2 : Nat) ((0 : Int) + (↑n : Int)) cap_1 = Cel.slc (3 : Nat) (0 : Nat) (0 : Int) (2 : Nat) ((0 : Int) + (↑n : Int)) cap_1 ∧ (IntKind.i64 = IntKind.i64 ∧ j = j) ∧ (IntKind.i64 = IntKind.i64 ∧ j = j) ∧ (IntKind.i64 = IntKind.i64 ∧ j + (1 : Int) = j + (1 : Int)) ∧ Cel.slc (3 : Nat) (0 : Nat) (0 : Int) (2 : Nat) ((0 : Int) + (↑n : Int) - (1 : Int)) cap_1 = Cel.slc (3 : Nat) (0 : Nat) (0 : Int) (2 : Nat) ((0 : Int) + (↑n : Int) - (1 : Int)) cap_1 ∧ Cel.slc (3 : Nat) (0 : Nat) (0 : Int) (2 : Nat) ((0 : Int) + (↑n : Int) - (1 : Int)) cap_1 = Cel.slc (3 : Nat) (0 : Nat) (0 : Int) (2 : Nat) ((0 : Int) + (↑n : Int) - (1 : Int)) cap_1 ∧ (IntKind.i64 = IntKind.i64 ∧ (0 : Int) + (↑n : Int) - (1 : Int) = (0 : Int) + (↑n : Int) - (1 : Int)) ∧ (IntKind.i64 = IntKind.i64 ∧ (0 : Int) = (↑x.fst : Int)) ∧ True ∧ True ∧ True ∧ True ∧ True ∧ True ∧ True ∧ True ∧ True ∧ True ∧ True ∧ True ∧ True ∧ True ∧ True ∧ True ∧ True ∧ True ∧ True ∧ True ∧ True ∧ True ∧ True ∧ True ∧ Cel.val Go.undef = Cel.val Go.undef ∧ True) ∧ (Bool.false = Bool.false ∧ (35 : Nat) = (35 : Nat) ∧ ([EK.i8, EK.u16] = [EK.i8, EK.u16] ∧ m = m ∧ l = l) ∧ True) ∧ (Bool.true = Bool.true ∧ (53 : Nat) = (53 : Nat) ∧ ([EK.i64, EK.u16] = [EK.i64, EK.u16] ∧ Int.toNat (↑n : Int) * (2 : Nat) = Int.toNat (↑n : Int) * (2 : Nat) ∧ List.take (Int.toNat (↑n : Int) * (2 : Nat)) l = List.take (Int.toNat (↑n : Int) * (2 : Nat)) l) ∧ True) ∧ True ∧ (Bool.true = Bool.true ∧ (35 : Nat) = (35 : Nat) ∧ ([EK.i8, EK.u16] = [EK.i8, EK.u16] ∧ n_1 = n_1 ∧ delL (Int.toNat j) (Int.toNat ((0 : Int) + (↑n : Int))) L = x.snd) ∧ True) ∧ True) ∧ ∀ (x : Nat × List Int), x.fst ≤ n - (1 : Nat) ∧ List.length x.snd = n_1 ∧ List.take ((n - (1 : Nat)) * (2 : Nat)) x.snd = mkN ((n - (1 : Nat)) * (2 : Nat)) (dqE l (Int.toNat j) x.fst) → True ∧ (Decidable.decide ((↑x.fst : Int) < (0 : Int) + (↑n : Int) - (1 : Int)) = Bool.true → True ∧ ((0 : Int) ≤ (↑x.fst : Int) ∧ (↑x.fst : Int) < (0 : Int) + (↑n : Int) - (1 : Int)) ∧ ((0 : Int) ≤ (0 : Int) + (↑x.fst : Int) ∧ Int.toNat ((0 : Int) + (↑x.fst : Int)) * (2 : Nat) + (0 : Nat) + (2 : Nat) ≤ n_1) ∧ True ∧ True ∧ True ∧ True ∧ True ∧ True ∧ True ∧ True ∧ (((0 : Int) ≤ List.getD (List.take (2 : Nat) (List.drop (Int.toNat ((0 : Int) + (↑x.fst : Int)) * (2 : Nat) + (0 : Nat)) x.snd)) (1 : Nat) (0 : Int) ∧ List.getD (List.take (2 : Nat) (List.drop (Int.toNat ((0 : Int) + (↑x.fst : Int)) * (2 : Nat) + (0 : Nat)) x.snd)) (1 : Nat) (0 : Int) ≤ (65535 : Int)) ∧ (0 : Int) ≤ j ∧ j < (16 : Int)) ∧ (Nat.testBit (Int.toNat (List.getD (List.take (2 : Nat) (List.drop (Int.toNat ((0 : Int) + (↑x.fst : Int)) * (2 : Nat) + (0 : Nat)) x.snd)) (1 : Nat) (0 : Int))) (Int.toNat j) = Bool.true → True ∧ True ∧ True ∧ ((0 : Int) ≤ j ∧ j < (↑n : Int)) ∧ True ∧ ((0 : Int) ≤ (0 : Int) + j ∧ Int.toNat ((0 : Int) + j) * (2 : Nat) + (1 : Nat) < Int.toNat (↑n : Int) * (2 : Nat)) ∧ True ∧ True ∧ True ∧ True ∧ True ∧ True ∧ (((0 : Int) ≤ bOr IntKind.u16 (List.getD (List.take (2 : Nat) (List.drop (Int.toNat ((0 : Int) + (↑x.fst : Int)) * (2 : Nat) + (0 : Nat)) x.snd)) (1 : Nat) (0 : Int)) (List.getD (List.take (Int.toNat (↑n : Int) * (2 : Nat)) l) (Int.toNat ((0 : Int) + j) * (2 : Nat) + (1 : Nat)) (0 : Int)) ∧ bOr IntKind.u16 (List.getD (List.take (2 : Nat) (List.drop (Int.toNat ((0 : Int) + (↑x.fst : Int)) * (2 : Nat) + (0 : Nat)) x.snd)) (1 : Nat) (0 : Int)) (List.getD (List.take (Int.toNat (↑n : Int) * (2 : Nat)) l) (Int.toNat ((0 : Int) + j) * (2 : Nat) + (1 : Nat)) (0 : Int)) ≤ (65535 : Int)) ∧ (0 : Int) ≤ j ∧ j < (16 : Int)) ∧ ((0 : Int) ≤ (↑x.fst : Int) ∧ (↑x.fst : Int) < (0 : Int) + (↑n : Int) - (1 : Int)) ∧ True ∧ ((0 : Int) ≤ (0 : Int) + (↑x.fst : Int) ∧ Int.toNat ((0 : Int) + (↑x.fst : Int)) * (2 : Nat) + (1 : Nat) < n_1) ∧ ((-9223372036854775808 : Int) ≤ (↑x.fst : Int) + (1 : Int) ∧ (↑x.fst : Int) + (1 : Int) ≤ (9223372036854775807 : Int)) ∧ True ∧ ∃ (y : Nat × List Int), (y.fst ≤ n - (1 : Nat) ∧ List.length y.snd = n_1 ∧ List.take ((n - (1 : Nat)) * (2 : Nat)) y.snd = mkN ((n - (1 : Nat)) * (2 : Nat)) (dqE l (Int.toNat j) y.fst)) ∧ n - (1 : Nat) - y.fst < n - (1 : Nat) - x.fst ∧ (Cel.slc (0 : Nat) (0 : Nat) (0 : Int) (2 : Nat) (↑n : Int) cap = Cel.slc (0 : Nat) (0 : Nat) (0 : Int) (2 : Nat) (↑n : Int) cap ∧ (IntKind.i64 = IntKind.i64 ∧ j = j) ∧ Cel.val Go.undef = Cel.val Go.undef ∧ Cel.val Go.undef = Cel.val Go.undef ∧ Cel.val (Go.Value.slice Option.none (0 : Nat) (0 : Nat)) = Cel.val (Go.Value.slice Option.none (0 : Nat) (0 : Nat)) ∧ (IntKind.i64 = IntKind.i64 ∧ (0 : Int) = (0 : Int)) ∧ Cel.slc (1 : Nat) (0 : Nat) (0 : Int) (2 : Nat) (↑n : Int) (↑n : Int) = Cel.slc (1 : Nat) (0 : Nat) (0 : Int) (2 : Nat) (↑n : Int) (↑n : Int) ∧ Cel.val Go.Value.nilIface = Cel.val Go.Value.nilIface ∧ Cel.slc (3 : Nat) (0 : Nat) (0 : Int) (2 : Nat) ((0 : Int) + (↑n : Int) - (1 : Int)) cap_1 = Cel.slc (3 : Nat) (0 : Nat) (0 : Int) (2 : Nat) ((0 : Int) + (↑n : Int) - (1 : Int)) cap_1 ∧ True ∧ True ∧ True ∧ (Cel.slc (1 : Nat) (0 : Nat) (0 : Int) (2 : Nat) (↑n : Int) (↑n : Int) = Cel.slc (1 : Nat) (0 : Nat) (0 : Int) (2 : Nat) (↑n : Int) (↑n : Int) ∧ Cel.val Go.Value.nilIface = Cel.val Go.Value.nilIface ∧ True) ∧ Cel.slc (0 : Nat) (0 : Nat) (0 : Int) (2 : Nat) (↑n : Int) cap = Cel.slc (0 : Nat) (0 : Nat) (0 : Int) (2 : Nat) (↑n : Int) cap ∧ (Cel.slc (1 : Nat) (0 : Nat) (0 : Int) (2 : Nat) (↑n : Int) (↑n : Int) = Cel.slc (1 : Nat) (0 : Nat) (0 : Int) (2 : Nat) (↑n : Int) (↑n : Int) ∧ Cel.val Go.Value.nilIface = Cel.val Go.Value.nilIface ∧ True) ∧ Cel.slc (1 : Nat) (0 : Nat) (0 : Int) (2 : Nat) (↑n : Int) (↑n : Int) = Cel.slc (1 : Nat) (0 : Nat) (0 : Int) (2 : Nat) (↑n : Int) (↑n : Int) ∧ Cel.val Go.Value.nilIface = Cel.val Go.Value.nilIface ∧ Cel.val Go.Value.nilIface = Cel.val Go.Value.nilIface ∧ True ∧ Cel.val Go.undef = Cel.val Go.undef ∧ Cel.val Go.undef = Cel.val Go.undef ∧ Cel.slc (1 : Nat) (0 : Nat) (0 : Int) (2 : Nat) (↑n : Int) (↑n : Int) = Cel.slc (1 : Nat) (0 : Nat) (0 : Int) (2 : Nat) (↑n : Int) (↑n : Int) ∧ (IntKind.i64 = IntKind.i64 ∧ j = j) ∧ (Decidable.decide ((0 : Int) ≤ j) && Decidable.decide (j < (↑n : Int))) = (Decidable.decide ((0 : Int) ≤ j) && Decidable.decide (j < (↑n : Int))) ∧ (!(Decidable.decide ((0 : Int) ≤ j) && Decidable.decide (j < (↑n : Int)))) = !(Decidable.decide ((0 : Int) ≤ j) && Decidable.decide (j < (↑n : Int))) ∧ Cel.slc (0 : Nat) (0 : Nat) (0 : Int) (2 : Nat) (↑n : Int) cap = Cel.slc (0 : Nat) (0 : Nat) (0 : Int) (2 : Nat) (↑n : Int) cap ∧ Cel.slc (3 : Nat) (0 : Nat) (0 : Int) (2 : Nat) ((0 : Int) + (↑n : Int)) cap_1 = Cel.slc (3 : Nat) (0 : Nat) (0 : Int) (2 : Nat) ((0 : Int) + (↑n : Int)) cap_1 ∧ (IntKind.i64 = IntKind.i64 ∧ j = j) ∧ (IntKind.i64 = IntKind.i64 ∧ j = j) ∧ (IntKind.i64 = IntKind.i64 ∧ j + (1 : Int) = j + (1 : Int)) ∧ Cel.slc (3 : Nat) (0 : Nat) (0 : Int) (2 : Nat) ((0 : Int) + (↑n : Int) - (1 : Int)) cap_1 = Cel.slc (3 : Nat) (0 : Nat) (0 : Int) (2 : Nat) ((0 : Int) + (↑n : Int) - (1 : Int)) cap_1 ∧ Cel.slc (3 : Nat) (0 : Nat) (0 : Int) (2 : Nat) ((0 : Int) + (↑n : Int) - (1 : Int)) cap_1 = Cel.slc (3 : Nat) (0 : Nat) (0 : Int) (2 : Nat) ((0 : Int) + (↑n : Int) - (1 : Int)) cap_1 ∧ (IntKind.i64 = IntKind.i64 ∧ (0 : Int) + (↑n : Int) - (1 : Int) = (0 : Int) + (↑n : Int) - (1 : Int)) ∧ (IntKind.i64 = IntKind.i64 ∧ (↑x.fst : Int) + (1 : Int) = (↑y.fst : Int)) ∧ True ∧ True ∧ True ∧ True ∧ True ∧ True ∧ True ∧ True ∧ True ∧ True ∧ True ∧ True ∧ True ∧ True ∧ True ∧ True ∧ True ∧ True ∧ True ∧ True ∧ True ∧ True ∧ True ∧ True ∧ Cel.val Go.undef = Cel.val Go.undef ∧ True) ∧ (Bool.false = Bool.false ∧ (35 : Nat) = (35 : Nat) ∧ ([EK.i8, EK.u16] = [EK.i8, EK.u16] ∧ m = m ∧ l = l) ∧ True) ∧ (Bool.true = Bool.true ∧ (53 : Nat) = (53 : Nat) ∧ ([EK.i64, EK.u16] = [EK.i64, EK.u16] ∧ Int.toNat (↑n : Int) * (2 : Nat) = Int.toNat (↑n : Int) * (2 : Nat) ∧ List.take (Int.toNat (↑n : Int) * (2 : Nat)) l = List.take (Int.toNat (↑n : Int) * (2 : Nat)) l) ∧ True) ∧ True ∧ (Bool.true = Bool.true ∧ (35 : Nat) = (35 : Nat) ∧ ([EK.i8, EK.u16] = [EK.i8, EK.u16] ∧ n_1 = n_1 ∧ List.set x.snd (Int.toNat ((0 : Int) + (↑x.fst : Int)) * (2 : Nat) + (1 : Nat)) (↑(drF (Int.toNat (bOr IntKind.u16 (List.getD (List.take (2 : Nat) (List.drop (Int.toNat ((0 : Int) + (↑x.fst : Int)) * (2 : Nat) + (0 : Nat)) x.snd)) (1 : Nat) (0 : Int)) (List.getD (List.take (Int.toNat (↑n : Int) * (2 : Nat)) l) (Int.toNat ((0 : Int) + j) * (2 : Nat) + (1 : Nat)) (0 : Int)))) (Int.toNat j)) : Int) = y.snd) ∧ True) ∧ True) ∧ (Nat.testBit (Int.toNat (List.getD (List.take (2 : Nat) (List.drop (Int.toNat ((0 : Int) + (↑x.fst : Int)) * (2 : Nat) + (0 : Nat)) x.snd)) (1 : Nat) (0 : Int))) (Int.toNat j) = Bool.false → True ∧ True ∧ True ∧ True ∧ (((0 : Int) ≤ List.getD (List.take (2 : Nat) (List.drop (Int.toNat ((0 : Int) + (↑x.fst : Int)) * (2 : Nat) + (0 : Nat)) x.snd)) (1 : Nat) (0 : Int) ∧ List.getD (List.take (2 : Nat) (List.drop (Int.toNat ((0 : Int) + (↑x.fst : Int)) * (2 : Nat) + (0 : Nat)) x.snd)) (1 : Nat) (0 : Int) ≤ (65535 : Int)) ∧ (0 : Int) ≤ j ∧ j < (16 : Int)) ∧ ((0 : Int) ≤ (↑x.fst : Int) ∧ (↑x.fst : Int) < (0 : Int) + (↑n : Int) - (1 : Int)) ∧ True ∧ ((0 : Int) ≤ (0 : Int) + (↑x.fst : Int) ∧ Int.toNat ((0 : Int) + (↑x.fst : Int)) * (2 : Nat) + (1 : Nat) < n_1) ∧ ((-9223372036854775808 : Int) ≤ (↑x.fst : Int) + (1 : Int) ∧ (↑x.fst : Int) + (1 : Int) ≤ (9223372036854775807 : Int)) ∧ True ∧ ∃ (y : Nat × List Int), (y.fst ≤ n - (1 : Nat) ∧ List.length y.snd = n_1 ∧ List.take ((n - (1 : Nat)) * (2 : Nat)) y.snd = mkN ((n - (1 : Nat)) * (2 : Nat)) (dqE l (Int.toNat j) y.fst)) ∧ n - (1 : Nat) - y.fst < n - (1 : Nat) - x.fst ∧ (Cel.slc (0 : Nat) (0 : Nat) (0 : Int) (2 : Nat) (↑n : Int) cap = Cel.slc (0 : Nat) (0 : Nat) (0 : Int) (2 : Nat) (↑n : Int) cap ∧ (IntKind.i64 = IntKind.i64 ∧ j = j) ∧ Cel.val Go.undef = Cel.val Go.undef ∧ Cel.val Go.undef = Cel.val Go.undef ∧ Cel.val (Go.Value.slice Option.none (0 : Nat) (0 : Nat)) = Cel.val (Go.Value.slice Option.none (0 : Nat) (0 : Nat)) ∧ (IntKind.i64 = IntKind.i64 ∧ (0 : Int) = (0 : Int)) ∧ Cel.slc (1 : Nat) (0 : Nat) (0 : Int) (2 : Nat) (↑n : Int) (↑n : Int) = Cel.slc (1 : Nat) (0 : Nat) (0 : Int) (2 : Nat) (↑n : Int) (↑n : Int) ∧ Cel.val Go.Value.nilIface = Cel.val Go.Value.nilIface ∧ Cel.slc (3 : Nat) (0 : Nat) (0 : Int) (2 : Nat) ((0 : Int) + (↑n : Int) - (1 : Int)) cap_1 = Cel.slc (3 : Nat) (0 : Nat) (0 : Int) (2 : Nat) ((0 : Int) + (↑n : Int) - (1 : Int)) cap_1 ∧ True ∧ True ∧ True ∧ (Cel.slc (1 : Nat) (0 : Nat) (0 : Int) (2 : Nat) (↑n : Int) (↑n : Int) = Cel.slc (1 : Nat) (0 : Nat) (0 : Int) (2 : Nat) (↑n : Int) (↑n : Int) ∧ Cel.val Go.Value.nilIface = Cel.val Go.Value.nilIface ∧ True) ∧ Cel.slc (0 : Nat) (0 : Nat) (0 : Int) (2 : Nat) (↑n : Int) cap = Cel.slc (0 : Nat) (0 : Nat) (0 : Int) (2 : Nat) (↑n : Int) cap ∧ (Cel.slc (1 : Nat) (0 : Nat) (0 : Int) (2 : Nat) (↑n : Int) (↑n : Int) = Cel.slc (1 : Nat) (0 : Nat) (0 : Int) (2 : Nat) (↑n : Int) (↑n : Int) ∧ Cel.val Go.Value.nilIface = Cel.val Go.Value.nilIface ∧ True) ∧ Cel.slc (1 : Nat) (0 : Nat) (0 : Int) (2 : Nat) (↑n : Int) (↑n : Int) = Cel.slc (1 : Nat) (0 : Nat) (0 : Int) (2 : Nat) (↑n : Int) (↑n : Int) ∧ Cel.val Go.Value.nilIface = Cel.val Go.Value.nilIface ∧ Cel.val Go.Value.nilIface = Cel.val Go.Value.nilIface ∧ True ∧ Cel.val Go.undef = Cel.val Go.undef ∧ Cel.val Go.undef = Cel.val Go.undef ∧ Cel.slc (1 : Nat) (0 : Nat) (0 : Int) (2 : Nat) (↑n : Int) (↑n : Int) = Cel.slc (1 : Nat) (0 : Nat) (0 : Int) (2 : Nat) (↑n : Int) (↑n : Int) ∧ (IntKind.i64 = IntKind.i64 ∧ j = j) ∧ (Decidable.decide ((0 : Int) ≤ j) && Decidable.decide (j < (↑n : Int))) = (Decidable.decide ((0 : Int) ≤ j) && Decidable.decide (j < (↑n : Int))) ∧ (!(Decidable.decide ((0 : Int) ≤ j) && Decidable.decide (j < (↑n : Int)))) = !(Decidable.decide ((0 : Int) ≤ j) && Decidable.decide (j < (↑n : Int))) ∧ Cel.slc (0 : Nat) (0 : Nat) (0 : Int) (2 : Nat) (↑n : Int) cap = Cel.slc (0 : Nat) (0 : Nat) (0 : Int) (2 : Nat) (↑n : Int) cap ∧ Cel.slc (3 : Nat) (0 : Nat) (0 : Int) (2 : Nat) ((0 : Int) + (↑n : Int)) cap_1 = Cel.slc (3 : Nat) (0 : Nat) (0 : Int) (2 : Nat) ((0 : Int) + (↑n : Int)) cap_1 ∧ (IntKind.i64 = IntKind.i64 ∧ j = j) ∧ (IntKind.i64 = IntKind.i64 ∧ j = j) ∧ (IntKind.i64 = IntKind.i64 ∧ j + (1 : Int) = j + (1 : Int)) ∧ Cel.slc (3 : Nat) (0 : Nat) (0 : Int) (2 : Nat) ((0 : Int) + (↑n : Int) - (1 : Int)) cap_1 = Cel.slc (3 : Nat) (0 : Nat) (0 : Int) (2 : Nat) ((0 : Int) + (↑n : Int) - (1 : Int)) cap_1 ∧ Cel.slc (3 : Nat) (0 : Nat) (0 : Int) (2 : Nat) ((0 : Int) + (↑n : Int) - (1 : Int)) cap_1 = Cel.slc (3 : Nat) (0 : Nat) (0 : Int) (2 : Nat) ((0 : Int) + (↑n : Int) - (1 : Int)) cap_1 ∧ (IntKind.i64 = IntKind.i64 ∧ (0 : Int) + (↑n : Int) - (1 : Int) = (0 : Int) + (↑n : Int) - (1 : Int)) ∧ (IntKind.i64 = IntKind.i64 ∧ (↑x.fst : Int) + (1 : Int) = (↑y.fst : Int)) ∧ True ∧ True ∧ True ∧ True ∧ True ∧ True ∧ True ∧ True ∧ True ∧ True ∧ True ∧ True ∧ True ∧ True ∧ True ∧ True ∧ True ∧ True ∧ True ∧ True ∧ True ∧ True ∧ True ∧ True ∧ Cel.val Go.undef = Cel.val Go.undef ∧ True) ∧ (Bool.false = Bool.false ∧ (35 : Nat) = (35 : Nat) ∧ ([EK.i8, EK.u16] = [EK.i8, EK.u16] ∧ m = m ∧ l = l) ∧ True) ∧ (Bool.true = Bool.true ∧ (53 : Nat) = (53 : Nat) ∧ ([EK.i64, EK.u16] = [EK.i64, EK.u16] ∧ Int.toNat (↑n : Int) * (2 : Nat) = Int.toNat (↑n : Int) * (2 : Nat) ∧ List.take (Int.toNat (↑n : Int) * (2 : Nat)) l = List.take (Int.toNat (↑n : Int) * (2 : Nat)) l) ∧ True) ∧ True ∧ (Bool.true = Bool.true ∧ (35 : Nat) = (35 : Nat) ∧ ([EK.i8, EK.u16] = [EK.i8, EK.u16] ∧ n_1 = n_1 ∧ List.set x.snd (Int.toNat ((0 : Int) + (↑x.fst : Int)) * (2 : Nat) + (1 : Nat)) (↑(drF (Int.toNat (List.getD (List.take (2 : Nat) (List.drop (Int.toNat ((0 : Int) + (↑x.fst : Int)) * (2 : Nat) + (0 : Nat)) x.snd)) (1 : Nat) (0 : Int))) (Int.toNat j)) : Int) = y.snd) ∧ True) ∧ True)) ∧ (Decidable.decide ((↑x.fst : Int) < (0 : Int) + (↑n : Int) - (1 : Int)) = Bool.false → True ∧ True ∧ True ∧ ∃ (x_1 : Nat × List Int × Int), Gq (2 : Nat) (dpK n l j) (dpF n l j) x_1.fst x_1.snd.fst x_1.snd.snd ∧ ((Cel.slc (3 : Nat) (0 : Nat) (0 : Int) (2 : Nat) ((0 : Int) + (↑n : Int) - (1 : Int)) cap_1 = Cel.slc (3 : Nat) (0 : Nat) (0 : Int) (2 : Nat) (↑(dpK n l j) : Int) x_1.snd.snd ∧ (IntKind.i64 = IntKind.i64 ∧ (0 : Int) = dpE n l j) ∧ True) ∧ True) ∧ True ∧ (Bool.true = Bool.true ∧ (35 : Nat) = (35 : Nat) ∧ ([EK.i8, EK.u16] = [EK.i8, EK.u16] ∧ n_1 = x_1.fst ∧ x.snd = x_1.snd.fst) ∧ True) ∧ True)))) ∧ (vjB (Int.toNat (↑n : Int)) l = Bool.false → True ∧ True ∧ True ∧ True ∧ True ∧ True ∧ True ∧ True ∧ (62 : Nat) = (62 : Nat) ∧ True ∧ True ∧ ∃ (x : Nat × List Int × Int), Gq (2 : Nat) (dpK n l j) (dpF n l j) x.fst x.snd.fst x.snd.snd ∧ ((((0 : Int) = (0 : Int) ∧ (↑(dpK n l j) : Int) = (0 : Int) ∧ x.snd.snd = (0 : Int)) ∧ (IntKind.i64 = IntKind.i64 ∧ (1 : Int) = dpE n l j) ∧ True) ∧ True) ∧ True ∧ (x.fst = (0 : Nat) ∧ x.snd.fst = []) ∧ True)) (by kernel_rfl) ?_
  simp only [true_and, and_true, and_self, decide_eq_true_eq, decide_eq_false_iff_not, Bool.not_eq_true', Bool.not_eq_false', Bool.not_true, Bool.not_false, beq_iff_eq, beq_eq_false_iff_ne, bne_iff_ne, bne_eq_false_iff_eq, ne_eq, not_true_eq_false, not_false_eq_true, false_implies, true_implies, implies_true, forall_const, exists_const, ↓reduceIte, Int.reduceEq, Int.toNat_natCast, Bool.false_eq_true, Bool.true_eq_false, reduceCtorEq, Int.zero_add, Nat.add_zero, Nat.zero_add, Nat.zero_mul, Nat.zero_le, List.take_zero, List.nil_append, List.drop_zero, Int.toNat_zero, Int.ofNat_eq_natCast, Int.toNat_natCast, Nat.mul_one, Cel.slc.injEq, Bool.and_eq_true, Bool.and_eq_false_iff]
  have hi := q.hi
  have hle := q.le
  have hln := q.ln
  refine ⟨⟨by omega, q⟩, fun hv => ?_, fun hv => gq_err' (dp_1 hv).1 (dp_1 hv).2.1 (dp_1 hv).2.2.symm⟩
  have v := vjB_t.1 hv
  have hn := v.hi
  refine ⟨fun h1 => ?_, fun h1 => ⟨by omega, ⟨by omega, by omega, by omega⟩, ?_⟩⟩
  · have e := dp_2 (j := j) hv (by omega)
    exact gq_err' e.1 e.2.1 e.2.2.symm
  intro N L cp g1 g2 g3 g4
  obtain ⟨z1, z2, z3⟩ := dp_0 (j := j) hv (by omega)
  obtain ⟨j, rfl⟩ := Int.eq_ofNat_of_zero_le h1.1
  have hjn : j < n := by omega
  simp only [Int.toNat_natCast] at z2 ⊢
  have hLl : ∀ t, t < n * 2 → L.getD t 0 = l.getD t 0 := fun t ht => by rw [← getD_take' ht, g4, getD_take' ht]
  have hlt2 : ∀ t, t < n * 2 → (l.take (n * 2)).getD t 0 = l.getD t 0 := fun t ht => getD_take' ht
  refine ⟨by omega, ⟨by omega, by omega, g1, by omega⟩, fun _ => ⟨⟨(0, delL j n L), ⟨by simp only; omega, by rw [delL_len hjn (by omega)]; exact g3, ?_⟩, rfl, rfl⟩, ?_⟩⟩
  · simp only
    refine mkN_ext (by rw [List.length_take, delL_len hjn (by omega)]; omega) fun t ht => ?_
    rw [getD_take' ht, delL_get hjn (by omega) ht]
    have e : (if t < j * 2 then t else t + 2) = drI j (t / 2) * 2 + t % 2 := by
      rw [drI]; split <;> split <;> omega
    rw [e, dqE, if_neg (by omega)]
    refine hLl _ ?_
    rw [drI]; split <;> omega
  rintro ⟨i, X⟩ ⟨hi', hX, hT⟩
  simp only at hi' hX hT ⊢
  refine ⟨fun hlt => ?_, fun hge => ?_⟩
  · have hin : i < n - 1 := by omega
    have hkn : drI j i < n := by rw [drI]; split <;> omega
    obtain ⟨a1, a2⟩ := q.jw.af (k := drI j i) hkn
    obtain ⟨b1, b2⟩ := q.jw.af (k := j) hjn
    have ex : (List.take 2 (List.drop (i * 2) X)).getD 1 0 = ((af l (drI j i) : Nat) : Int) := by
      rw [getD_take' (by omega), List.getD_eq_getElem?_getD, List.getElem?_drop, ← List.getD_eq_getElem?_getD, ← getD_take' (n := (n - 1) * 2) (by omega), hT, mkN_getD (by omega), dqE, if_neg (by omega), show (i * 2 + 1) / 2 = i by omega, show (i * 2 + 1) % 2 = 1 by omega]
      exact a1
    have step : ∀ a : Nat, drA l j (drI j i) = a → ∃ y : Nat × List Int, (y.1 ≤ n - 1 ∧ y.2.length = N ∧ List.take ((n - 1) * 2) y.2 = mkN ((n - 1) * 2) (dqE l j y.1)) ∧ n - 1 - y.1 < n - 1 - i ∧ (i : Int) + 1 = (y.1 : Int) ∧ X.set (i * 2 + 1) ((drF a j : Nat) : Int) = y.2 := by
      intro a ha
      refine ⟨(i + 1, _), ⟨by simp only; omega, by simp only [List.length_set]; exact hX, ?_⟩, by simp only; omega, by simp, rfl⟩
      simp only
      rw [take_setD, hT]
      refine mkN_set (fun _ => ?_) fun t _ hne => ?_
      · rw [dqE, if_pos (by omega), drE_1 rfl, ha]
      · by_cases h1 : t / 2 < i
        · rw [dqE, dqE, if_pos h1, if_pos (by omega)]
        · by_cases h2 : t / 2 = i
          · have ht : t = i * 2 := by omega
            subst ht
            rw [dqE, dqE, if_neg h1, if_pos (by omega), drE_0 rfl, show i * 2 / 2 = i by omega, show i * 2 % 2 = 0 by omega, Nat.add_zero]
          · rw [dqE, dqE, if_neg h1, if_neg (by omega)]
    rw [ex, hlt2 _ (by omega), b1, bOr16 a2 b2]
    simp only [Int.toNat_natCast]
    have or := or_lt a2 b2
    refine ⟨by omega, by omega, by omega, fun hb => ⟨by omega, by omega, by omega, by omega, by omega, by omega, step _ (by rw [drA, if_pos hb])⟩, fun hb => ⟨by omega, by omega, by omega, by omega, step _ (by rw [drA, if_neg (by rw [hb]; simp)])⟩⟩
  · obtain rfl : i = n - 1 := by omega
    refine ⟨(N, X, cp), ⟨by rw [z1]; simp only; omega, g2, hX, ?_⟩, ⟨⟨by rw [z1]; omega, rfl⟩, z3.symm⟩, rfl, rfl⟩
    rw [z1, z2, hT]
    exact mkN_congr fun t ht => by rw [dqE, if_pos (by omega)]

noncomputable def gDpj : EntryC := gJdc 35 2 [.i8, .u16] dpK dpF dpE
theorem e_DropJobI : EntryCOk Tryd.prog TT 7 gDpj := gJdc_ok Cdq_ok (inl := fun _ _ => lookI ILdp) (Λ := fun n l d _ => .inv (lmDpI n l d.toNat)) (fun _ _ => ILdp_ok.ok) Tryd.func7 (by kernel_rfl) rfl fun m n l cap d hc q => x_DropJobI m n l cap d hc q
theorem e_DropJobS : EntryCOk Tryd.prog TT 5 gDpj := gJdc_ok Cj4_ok (inl := fun _ _ => lookI ILds) (Λ := fun n l d _ => .inv (lmDpS n l d.toNat)) (fun _ _ => ILds_ok.ok) Tryd.func5 (by kernel_rfl) rfl fun m n l cap d _ q => x_DropJobS m n l cap d q

end Go.Proofs.YtmjincdnhmkmhaaDoor
