/- ReadRow, both sides. No conditions beyond the ranges of the kinds. -/
import Derived.Test.YtbphlffjgbflcaaDoorNuc
import Derived.Test.YtbphlffjgbflcaaDoorRtx
set_option linter.unusedSimpArgs false
set_option linter.unusedVariables false
namespace Go.Proofs.YtbphlffjgbflcaaDoor
open Go.Sx Go.RowKit
variable {mx : Nat → Value}

/-! ### What comes of words -/
/-- A word of a row: a number from 1 to 200. -/
structure NwP (l : List UInt8) : Prop where
  n : nmB l = true
  lo : 1 ≤ nmV l
  hi : nmV l ≤ 200
structure AllN (V : List (List UInt8)) (k : Nat) : Prop where
  ok : ∀ i, i < k → NwP (V.getD i [])
structure AllI (V : List (List UInt8)) (k : Nat) : Prop where
  ok : ∀ i, i < k → piB 16 (V.getD i []) = true
noncomputable def rrL (V : List (List UInt8)) (k : Nat) : List Int := mkN k fun i => (nmV (V.getD i []) : Int)
def piL (V : List (List UInt8)) (k : Nat) : List Int := mkN k fun i => piV 16 (V.getD i [])
structure RrP (V : List (List UInt8)) : Prop where
  a : AllN V V.length
  le : V.length ≤ 60
open Classical in
noncomputable def rrB (V : List (List UInt8)) : Bool := decide (RrP V)
theorem rrB_t {V : List (List UInt8)} : rrB V = true ↔ RrP V := by simp [rrB]
theorem rrB_f {V : List (List UInt8)} : rrB V = false ↔ ¬ RrP V := by simp [rrB]
noncomputable def rrK (V : List (List UInt8)) : Nat := if rrB V then V.length else 0
noncomputable def rrF (V : List (List UInt8)) : List Int := if rrB V then rrL V V.length else []
noncomputable def rrE (V : List (List UInt8)) : Int := if rrB V then 0 else 5
theorem rr_no {V : List (List UInt8)} (h : rrB V = false) : rrK V = 0 ∧ rrF V = [] ∧ rrE V = 5 := by simp [rrK, rrF, rrE, h]
theorem rr_ok {V : List (List UInt8)} (h : rrB V = true) : rrK V = V.length ∧ rrF V = rrL V V.length ∧ rrE V = 0 := by simp [rrK, rrF, rrE, h]
theorem rr_err {V : List (List UInt8)} (h : rrB V = false) : ∃ x : Nat × List Int × Int, Gq 1 (rrK V) (rrF V) x.1 x.2.1 x.2.2 ∧ ((0 = (rrK V : Int) ∧ 0 = x.2.2) ∧ 5 = rrE V) ∧ 0 = x.1 ∧ [] = x.2.1 := by
  obtain ⟨e1, e2, e3⟩ := rr_no h
  exact gq_errP e1 e2 e3.symm
theorem rr_err' {V : List (List UInt8)} (h : rrB V = false) : ∃ x : Nat × List Int × Int, Gq 1 (rrK V) (rrF V) x.1 x.2.1 x.2.2 ∧ (((rrK V : Int) = 0 ∧ x.2.2 = 0) ∧ 5 = rrE V) ∧ x.1 = 0 ∧ x.2.1 = [] := by
  obtain ⟨e1, e2, e3⟩ := rr_no h
  exact gq_errP' e1 e2 e3.symm
theorem rr_bad {V : List (List UInt8)} {i : Nat} (hi : i < V.length) (h : ¬ NwP (V.getD i [])) : rrB V = false := rrB_f.2 fun p => h (p.a.ok i hi)
theorem spK_cases (c : UInt8) (n : Nat) (s : ByteArray) (hn : 1 ≤ n) : (spK c n s = wds c s.data.toList ∧ (wds c s.data.toList).length ≤ n) ∨ (n < (wds c s.data.toList).length ∧ ∃ w ∈ spK c n s, c ∈ w) := by
  have hsz := size_list s
  have hl := wds_len_le c s.data.toList
  rcases splitK_wds c (min n (s.size + 1) - 1) s.data.toList with ⟨h1, h2⟩ | ⟨h1, h2⟩
  · exact .inl ⟨h2, by omega⟩
  · exact .inr ⟨by omega, h2⟩
theorem NwP.pi {l : List UInt8} (h : NwP l) : piB 16 l = true ∧ piV 16 l = nmV l := by
  have e : 2 ^ (16 - 1) = 32768 := by decide
  exact (nmB_t.1 h.n).pi (.inr rfl) (by rw [e]; have := h.hi; omega)
/-- If the document reads a row, the pieces are its words. -/
theorem rr_sp {s : ByteArray} (h : RrP (wds 44 s.data.toList)) : spK 44 61 s = wds 44 s.data.toList := by
  rcases spK_cases 44 61 s (by omega) with ⟨e, _⟩ | ⟨hl, _⟩
  · exact e
  · have := h.le; omega
theorem rr_pbad {s : ByteArray} {i : Nat} (hi : i < (spK 44 61 s).length) (h : piB 16 ((spK 44 61 s).getD i []) = false) : rrB (wds 44 s.data.toList) = false := rrB_f.2 fun p => by
  rw [rr_sp p] at hi h
  rw [(p.a.ok i hi).pi.1] at h
  cases h
theorem rwB_congr {n : Nat} {l l' : List Int} (h : ∀ i, i < n → l.getD i 0 = l'.getD i 0) : rwB n l = rwB n l' := by
  rw [Bool.eq_iff_iff, rwB_t, rwB_t]
  exact ⟨fun ⟨a, b⟩ => ⟨a, ⟨fun i hi => by rw [← h i hi]; exact b.ok i hi⟩⟩, fun ⟨a, b⟩ => ⟨a, ⟨fun i hi => by rw [h i hi]; exact b.ok i hi⟩⟩⟩
theorem wds_pos (c : UInt8) (l : List UInt8) : 1 ≤ (wds c l).length := List.length_pos_iff.2 (wds_ne c l)
/-- What the document reads is a valid row. -/
theorem rr_rw {V : List (List UInt8)} {l : List Int} (h1 : 1 ≤ V.length) (a : AllN V V.length) (hl : ∀ i, i < V.length → l.getD i 0 = (nmV (V.getD i []) : Int)) : rwB V.length l = rrB V := by
  rw [Bool.eq_iff_iff, rwB_t, rrB_t]
  refine ⟨fun ⟨p, _⟩ => ⟨a, p.2⟩, fun p => ⟨⟨h1, p.le⟩, ⟨fun i hi => ?_⟩⟩⟩
  rw [hl i hi]
  have := a.ok i hi
  have := this.lo
  have := (a.ok i hi).hi
  omega
/-- A row of which the text is the text: the document reads the same. -/
theorem rr_back {s : ByteArray} {n : Nat} {l : List Int} (h : rwB n l = true) (ht : (rtxS n l).data.toList = s.data.toList) : RrP (wds 44 s.data.toList) ∧ (wds 44 s.data.toList).length = n ∧ ∀ i, i < n → (nmV ((wds 44 s.data.toList).getD i []) : Int) = l.getD i 0 := by
  obtain ⟨hn, hb⟩ := rwB_t.1 h
  have e : s.data.toList = jnL (rtW l) [44] n := by rw [← ht, ← rtx_ok h, rowS, bsl_list]
  have hw : wds 44 s.data.toList = (List.range n).map (rtW l) := by
    rw [e]
    exact wds_jnL n _ hn.1 fun i hi => itoa_no (by decide) (by decide)
  rw [hw]
  have g : ∀ i, i < n → ((List.range n).map (rtW l)).getD i [] = Lib.itoa (l.getD i 0) := fun i hi => by
    rw [List.getD_eq_getElem?_getD, List.getElem?_map, List.getElem?_range hi]; rfl
  have q : ∀ i, i < n → NmP (((List.range n).map (rtW l)).getD i []) ∧ (nmV (((List.range n).map (rtW l)).getD i []) : Int) = l.getD i 0 := fun i hi => by
    have := hb.ok i hi
    rw [g i hi]
    exact nm_itoa (by omega) (by omega)
  have hlen : ((List.range n).map (rtW l)).length = n := by simp
  refine ⟨⟨⟨fun i hi => ?_⟩, by rw [hlen]; exact hn.2⟩, hlen, fun i hi => (q i hi).2⟩
  rw [hlen] at hi
  have := hb.ok i hi
  obtain ⟨q1, q2⟩ := q i hi
  exact ⟨nmB_t.2 q1, by omega, by omega⟩
/-- The text of what the document reads is the text. -/
theorem rr_text {s : ByteArray} {l : List Int} (p : RrP (wds 44 s.data.toList)) (hl : ∀ i, i < (wds 44 s.data.toList).length → l.getD i 0 = (nmV ((wds 44 s.data.toList).getD i []) : Int)) : (rtxS (wds 44 s.data.toList).length l).data.toList = s.data.toList := by
  have hr : rwB (wds 44 s.data.toList).length l = true := by rw [rr_rw (wds_pos _ _) p.a hl, rrB_t.2 p]
  rw [← rtx_ok hr, rowS, bsl_list]
  refine Eq.trans (jnL_congr (n := (wds 44 s.data.toList).length) (V := fun i => (wds 44 s.data.toList).getD i []) (fun i hi => ?_) (Nat.le_refl _)) (jnL_wds 44 _)
  rw [rtW, hl i hi]
  exact (nmB_t.1 (p.a.ok i hi).n).itoa
/-- The test at the end: is it the row of the text. -/
theorem rr_end {s : ByteArray} {l : List Int} (a : AllI (spK 44 61 s) (spK 44 61 s).length) (hl : ∀ i, i < (spK 44 61 s).length → l.getD i 0 = piV 16 ((spK 44 61 s).getD i [])) :
    (rwB (spK 44 61 s).length l = true ∧ (rtxS (spK 44 61 s).length l).data.toList = s.data.toList) ↔ rrB (wds 44 s.data.toList) = true := by
  rw [rrB_t]
  constructor
  · intro ⟨h1, h2⟩
    exact (rr_back h1 h2).1
  · intro p
    have e := rr_sp p
    rw [e] at hl ⊢
    have hl' : ∀ i, i < (wds 44 s.data.toList).length → l.getD i 0 = (nmV ((wds 44 s.data.toList).getD i []) : Int) := fun i hi => by rw [hl i hi, (p.a.ok i hi).pi.2]
    exact ⟨by rw [rr_rw (wds_pos _ _) p.a hl', rrB_t.2 p], rr_text p hl'⟩
theorem rr_same {s : ByteArray} (h : rrB (wds 44 s.data.toList) = true) : rrK (wds 44 s.data.toList) = (spK 44 61 s).length ∧ rrF (wds 44 s.data.toList) = piL (spK 44 61 s) (spK 44 61 s).length ∧ rrE (wds 44 s.data.toList) = 0 := by
  obtain ⟨e1, e2, e3⟩ := rr_ok h
  have p := rrB_t.1 h
  rw [rr_sp p, e1, e2, e3]
  exact ⟨rfl, mkN_congr fun i hi => (p.a.ok i hi).pi.2.symm, rfl⟩
theorem an_step {V : List (List UInt8)} {k : Nat} (a : AllN V k) (h : NwP (V.getD k [])) : AllN V (k + 1) := ⟨fun i hi => by
  rcases (show i < k ∨ i = k by omega) with h' | rfl
  · exact a.ok i h'
  · exact h⟩
theorem ai_step {V : List (List UInt8)} {k : Nat} (a : AllI V k) (h : piB 16 (V.getD k []) = true) : AllI V (k + 1) := ⟨fun i hi => by
  rcases (show i < k ∨ i = k by omega) with h' | rfl
  · exact a.ok i h'
  · exact h⟩
/-- One more number. -/
theorem nu_push {f : Nat → Int} {v : Int} {k N n' : Nat} {L L' : List Int} {cp cp' : Int} (g : Gq 1 k (mkN k f) N L cp) (hv : v = f k) (h1 : (k : Int) + ((1 : Nat) : Int) ≤ cp') (h2 : n' = cp'.toNat) (h3 : L'.length = n') (h4 : L'.take ((k : Int) + ((1 : Nat) : Int)).toNat = L.take k ++ [v]) : Gq 1 (k + 1) (mkN (k + 1) f) n' L' cp' := by
  have e : ((k : Int) + ((1 : Nat) : Int)).toNat = k + 1 := by omega
  rw [e] at h4
  rw [mkN_one, ← hv]
  exact g.push (by omega) (by omega) h3 (by rw [Nat.mul_one, Nat.mul_one]; exact h4)
theorem words_few {s : ByteArray} (hs : s.size ≤ 1048576) (a : AllN (wds 44 s.data.toList) (wds 44 s.data.toList).length) : (wds 44 s.data.toList).length ≤ 1048576 := by
  have h := wds_few (c := 44) (l := s.data.toList) fun w hw => by
    obtain ⟨i, hi, he⟩ := List.getElem_of_mem hw
    have hk := (nmB_t.1 (a.ok i hi).n).ne
    have e : (wds 44 s.data.toList).getD i [] = w := by rw [List.getD_eq_getElem?_getD, List.getElem?_eq_getElem hi, Option.getD_some, he]
    rw [e] at hk
    exact List.length_pos_iff.2 hk
  have := size_list s
  omega

/-! ### Pieces are no longer than the text -/
theorem le_sum : ∀ {V : List (List UInt8)} {w : List UInt8}, w ∈ V → w.length ≤ (V.map List.length).sum
  | a :: V, w, h => by
    rw [List.map_cons, List.sum_cons]
    rcases List.mem_cons.1 h with rfl | h
    · omega
    · have := le_sum h; omega
theorem wds_le {c : UInt8} {l w : List UInt8} (h : w ∈ wds c l) : w.length ≤ l.length := by
  have h1 := le_sum h
  have h2 := wds_sum c l
  have h3 := wds_pos c l
  omega
theorem splitK_mem (c : UInt8) : ∀ k l w, w ∈ Lib.splitK [c] 0 k l → w.length ≤ l.length
  | 0, l, w, h => by
    have : w = l := by simpa [Lib.splitK] using h
    rw [this]; exact Nat.le_refl _
  | k + 1, l, w, h => by
    unfold Lib.splitK at h
    split at h
    · rw [List.mem_singleton.1 h]; exact Nat.le_refl _
    · rcases List.mem_cons.1 h with rfl | h
      · rw [List.length_take]; omega
      · have := splitK_mem c k _ w h
        rw [List.length_drop] at this
        omega
theorem getD_mem {V : List (List UInt8)} {i : Nat} (h : i < V.length) : V.getD i [] ∈ V := by
  rw [List.getD_eq_getElem?_getD, List.getElem?_eq_getElem h, Option.getD_some]; exact List.getElem_mem h
theorem wd_size {c : UInt8} {s : ByteArray} {i : Nat} (h : i < (wds c s.data.toList).length) : (bsl ((wds c s.data.toList).getD i [])).size ≤ s.size := by
  have := wds_le (getD_mem h)
  rw [bsl_size]; rwa [size_list] at this
theorem sp_size {c : UInt8} {n : Nat} {s : ByteArray} {i : Nat} (h : i < (spK c n s).length) : (bsl ((spK c n s).getD i [])).size ≤ s.size := by
  have := splitK_mem _ _ _ _ (getD_mem h)
  rw [bsl_size]; rwa [size_list] at this

noncomputable def Err : List (FuncId × Entry) := (10, gNm) :: Ert2
theorem Err_ok : EntriesOk Tryd.prog (TT mx) Err := ⟨e_l01Number, Ert2_ok⟩
def Mrr : List (FuncId × EntryC) := [(9, gSpl), (13, gSpN), (14, gPI)]
theorem Mrr_ok : EntriesCOk Tryd.prog (TT mx) Mrr := ⟨e_l01Split, e_SplitN, e_ParseInt, trivial⟩
noncomputable abbrev Crr : Ctr := ctrOfM Err Mrr
theorem Crr_ok : CtrOk Tryd.prog (TT mx) Crr := ctrOfM_ok Err_ok Mrr_ok
noncomputable def ILrr  : List (FuncId × Func × (Nat → LM)) := [
  (11, Tryd.f11, U0),
  (17, Tryd.f17, U0)]
theorem ILrr_ok  : InlsOk Tryd.prog ILrr := ⟨⟨Tryd.func11, by kernel_rfl⟩, ⟨Tryd.func17, by kernel_rfl⟩, trivial⟩

noncomputable def lmRrS (V : List (List UInt8)) : LAnn := { ι := Nat × Nat × List Int × Int, inv := fun _ x => x.1 ≤ V.length ∧ AllN V x.1 ∧ Gq 1 x.1 (rrL V x.1) x.2.1 x.2.2.1 x.2.2.2, slots := fun _ x => [(5, .a (.c (.slc 2 0 0 1 x.1 x.2.2.2))), (6, .a (.c (.int .i64 x.1)))], blks := fun _ _ => [], μ := fun _ x => V.length - x.1, kills := [1], frs := fun _ x => [.cells true 34 [.run [.i16] x.2.1 x.2.2.1]], mv := fun st => [slotB st 5] }
def lmRrI (V : List (List UInt8)) : LAnn := { ι := Nat × Nat × List Int × Int, inv := fun _ x => x.1 ≤ V.length ∧ AllI V x.1 ∧ Gq 1 x.1 (piL V x.1) x.2.1 x.2.2.1 x.2.2.2, slots := fun _ x => [(4, .a (.c (.slc 1 0 0 1 x.1 x.2.2.2))), (12, .a (.c (.int .i64 x.1)))], blks := fun _ _ => [], μ := fun _ x => V.length - x.1, kills := [], frs := fun _ x => [.cells true 34 [.run [.i16] x.2.1 x.2.2.1]], mv := fun st => [slotB st 4] }
theorem x_ReadRowS (s : ByteArray) (hs : s.size ≤ 1048576) : Fex true (TT mx) (inlN true (TT mx) Crr (lookI ILrr) 4) Crr (fun _ => .inv (lmRrS (wds 44 s.data.toList))) Tryd.f4 [.a (.c (.str s))] []
    (fun lv H' => ∃ x : Nat × List Int × Int, Gq 1 (rrK (wds 44 s.data.toList)) (rrF (wds 44 s.data.toList)) x.1 x.2.1 x.2.2 ∧ leSt ⟨[lv], H'⟩ ⟨[rnL (([] : List Nat).length + ·) (.tup [.c (.slc 0 0 0 1 (rrK (wds 44 s.data.toList)) x.2.2), .c (.int .i64 (rrE (wds 44 s.data.toList)))])], deadsN ([] : List Nat).length ++ [.cells true 34 [.run [.i16] x.1 x.2.1]]⟩ ([] : List Nat).length (resB lv)) := by
  refine Go.Sx.by_eq (q := True ∧ True ∧ True ∧ (ByteArray.size s ≤ (1048576 : Nat) ∧ (0 : Int) ≤ (44 : Int) ∧ (44 : Int) ≤ (255 : Int)) ∧ ∀ (N : Nat) (L : List Int) (cp : Int), Gq (1 : Nat) (List.length (wds (UInt8.ofNat (Int.toNat (44 : Int))) s.data.toList)) (encW (wds (UInt8.ofNat (Int.toNat (44 : Int))) s.data.toList)) N L cp → True ∧ True ∧ True ∧ True ∧ (∃ (x : Nat × Nat × List Int × Int), (x.fst ≤ List.length (wds (44 : UInt8) s.data.toList) ∧ AllN (wds (44 : UInt8) s.data.toList) x.fst ∧ Gq (1 : Nat) x.fst (rrL (wds (44 : UInt8) s.data.toList) x.fst) x.snd.fst x.snd.snd.fst x.snd.snd.snd) ∧ (s = s ∧ Go.Sx.Cel.val Go.undef = Go.Sx.Cel.val Go.undef ∧ True ∧ True ∧ Go.Sx.Cel.slc (0 : Nat) (0 : Nat) (0 : Int) (1 : Nat) (↑(List.length (wds (UInt8.ofNat (Int.toNat (44 : Int))) s.data.toList)) : Int) cp = Go.Sx.Cel.slc (0 : Nat) (0 : Nat) (0 : Int) (1 : Nat) (↑(List.length (wds (UInt8.ofNat (Int.toNat (44 : Int))) s.data.toList)) : Int) cp ∧ Go.Sx.Cel.slc (1 : Nat) (0 : Nat) (0 : Int) (1 : Nat) (0 : Int) (0 : Int) = Go.Sx.Cel.slc (1 : Nat) (0 : Nat) (0 : Int) (1 : Nat) (↑x.fst : Int) x.snd.snd.snd ∧ (Go.IntKind.i64 = Go.IntKind.i64 ∧ (0 : Int) = (↑x.fst : Int)) ∧ True ∧ True ∧ s = s ∧ Go.Sx.Cel.slc (0 : Nat) (0 : Nat) (0 : Int) (1 : Nat) (↑(List.length (wds (UInt8.ofNat (Int.toNat (44 : Int))) s.data.toList)) : Int) cp = Go.Sx.Cel.slc (0 : Nat) (0 : Nat) (0 : Int) (1 : Nat) (↑(List.length (wds (UInt8.ofNat (Int.toNat (44 : Int))) s.data.toList)) : Int) cp ∧ Go.Sx.Cel.slc (1 : Nat) (0 : Nat) (0 : Int) (1 : Nat) (0 : Int) (0 : Int) = Go.Sx.Cel.slc (1 : Nat) (0 : Nat) (0 : Int) (1 : Nat) (0 : Int) (0 : Int) ∧ True ∧ True ∧ True ∧ True ∧ True ∧ True ∧ True ∧ True ∧ True ∧ True ∧ True ∧ True ∧ True ∧ True ∧ True ∧ True ∧ True ∧ True ∧ True ∧ True ∧ True ∧ True ∧ True ∧ True ∧ True ∧ True ∧ True ∧ Go.Sx.Cel.val Go.undef = Go.Sx.Cel.val Go.undef ∧ Go.Sx.Cel.val Go.undef = Go.Sx.Cel.val Go.undef ∧ Go.Sx.Cel.val Go.undef = Go.Sx.Cel.val Go.undef ∧ Go.Sx.Cel.val Go.undef = Go.Sx.Cel.val Go.undef ∧ Go.Sx.Cel.val Go.undef = Go.Sx.Cel.val Go.undef ∧ True) ∧ (Bool.true = Bool.true ∧ (9 : Nat) = (9 : Nat) ∧ ([Go.Sx.EK.str] = [Go.Sx.EK.str] ∧ N = N ∧ L = L) ∧ True) ∧ True ∧ (Bool.true = Bool.true ∧ (34 : Nat) = (34 : Nat) ∧ ([Go.Sx.EK.i16] = [Go.Sx.EK.i16] ∧ (0 : Nat) = x.snd.fst ∧ [] = x.snd.snd.fst) ∧ True) ∧ True) ∧ ∀ (x : Nat × Nat × List Int × Int), x.fst ≤ List.length (wds (44 : UInt8) s.data.toList) ∧ AllN (wds (44 : UInt8) s.data.toList) x.fst ∧ Gq (1 : Nat) x.fst (rrL (wds (44 : UInt8) s.data.toList) x.fst) x.snd.fst x.snd.snd.fst x.snd.snd.snd → True ∧ True ∧ True ∧ True ∧ (Decidable.decide ((↑x.fst : Int) < (↑(List.length (wds (UInt8.ofNat (Int.toNat (44 : Int))) s.data.toList)) : Int)) = Bool.true → True ∧ True ∧ ((0 : Int) ≤ (↑x.fst : Int) ∧ (↑x.fst : Int) < (↑(List.length (wds (UInt8.ofNat (Int.toNat (44 : Int))) s.data.toList)) : Int)) ∧ ((0 : Int) ≤ (0 : Int) + (↑x.fst : Int) ∧ Int.toNat ((0 : Int) + (↑x.fst : Int)) < N) ∧ ByteArray.size (Go.Sx.decS (List.getD L (Int.toNat ((0 : Int) + (↑x.fst : Int))) (0 : Int))) ≤ (1048576 : Nat) ∧ True ∧ True ∧ True ∧ True ∧ True ∧ True ∧ True ∧ True ∧ ((!nmB (Go.Sx.decS (List.getD L (Int.toNat ((0 : Int) + (↑x.fst : Int))) (0 : Int))).data.toList) = Bool.false → True ∧ True ∧ True ∧ True ∧ True ∧ True ∧ True ∧ True ∧ (Decidable.decide ((1 : Int) ≤ (↑(nmV (Go.Sx.decS (List.getD L (Int.toNat ((0 : Int) + (↑x.fst : Int))) (0 : Int))).data.toList) : Int)) = Bool.true → True ∧ True ∧ True ∧ True ∧ True ∧ True ∧ True ∧ True ∧ ((!Decidable.decide ((↑(nmV (Go.Sx.decS (List.getD L (Int.toNat ((0 : Int) + (↑x.fst : Int))) (0 : Int))).data.toList) : Int) ≤ (200 : Int))) = Bool.true → True ∧ True ∧ True ∧ ∃ (x : Nat × List Int × Int), Gq (1 : Nat) (rrK (wds (44 : UInt8) s.data.toList)) (rrF (wds (44 : UInt8) s.data.toList)) x.fst x.snd.fst x.snd.snd ∧ ((Go.Sx.Cel.slc (3 : Nat) (0 : Nat) (0 : Int) (1 : Nat) (0 : Int) (0 : Int) = Go.Sx.Cel.slc (3 : Nat) (0 : Nat) (0 : Int) (1 : Nat) (↑(rrK (wds (44 : UInt8) s.data.toList)) : Int) x.snd.snd ∧ (Go.IntKind.i64 = Go.IntKind.i64 ∧ (5 : Int) = rrE (wds (44 : UInt8) s.data.toList)) ∧ True) ∧ True) ∧ (Bool.true = Bool.true ∧ (34 : Nat) = (34 : Nat) ∧ ([Go.Sx.EK.i16] = [Go.Sx.EK.i16] ∧ (0 : Nat) = x.fst ∧ [] = x.snd.fst) ∧ True) ∧ True) ∧ ((!Decidable.decide ((↑(nmV (Go.Sx.decS (List.getD L (Int.toNat ((0 : Int) + (↑x.fst : Int))) (0 : Int))).data.toList) : Int) ≤ (200 : Int))) = Bool.false → True ∧ True ∧ True ∧ True ∧ ((Int.toNat (0 : Int) + Int.toNat (↑x.fst : Int)) * (1 : Nat) ≤ x.snd.fst ∧ (Int.toNat (0 : Int) + Int.toNat (↑(1 : Nat) : Int)) * (1 : Nat) ≤ (1 : Nat) ∧ ((↑x.fst : Int) + (↑(1 : Nat) : Int)) * (↑(2 : Nat) : Int) ≤ (140737488355328 : Int) ∧ (↑x.fst : Int) + (↑(1 : Nat) : Int) ≤ (9223372036854775807 : Int)) ∧ ((0 : Int) = (0 : Int) ∧ x.snd.fst = Int.toNat x.snd.snd.snd * (1 : Nat)) ∧ ∀ (n : Nat) (L_1 : List Int) (cap : Int), (↑x.fst : Int) + (↑(1 : Nat) : Int) ≤ cap → n = Int.toNat cap * (1 : Nat) → List.length L_1 = n → List.take (Int.toNat ((↑x.fst : Int) + (↑(1 : Nat) : Int)) * (1 : Nat)) L_1 = List.take (Int.toNat (↑x.fst : Int) * (1 : Nat)) (List.drop (Int.toNat (0 : Int) * (1 : Nat)) x.snd.snd.fst) ++ List.take (Int.toNat (↑(1 : Nat) : Int) * (1 : Nat)) (List.drop (Int.toNat (0 : Int) * (1 : Nat)) [Go.IntKind.wrap Go.IntKind.i16 (↑(nmV (Go.Sx.decS (List.getD L (Int.toNat ((0 : Int) + (↑x.fst : Int))) (0 : Int))).data.toList) : Int)]) → True ∧ True ∧ ((-9223372036854775808 : Int) ≤ (↑x.fst : Int) + (1 : Int) ∧ (↑x.fst : Int) + (1 : Int) ≤ (9223372036854775807 : Int)) ∧ True ∧ ∃ (y : Nat × Nat × List Int × Int), (y.fst ≤ List.length (wds (44 : UInt8) s.data.toList) ∧ AllN (wds (44 : UInt8) s.data.toList) y.fst ∧ Gq (1 : Nat) y.fst (rrL (wds (44 : UInt8) s.data.toList) y.fst) y.snd.fst y.snd.snd.fst y.snd.snd.snd) ∧ List.length (wds (44 : UInt8) s.data.toList) - y.fst < List.length (wds (44 : UInt8) s.data.toList) - x.fst ∧ (s = s ∧ Go.Sx.Cel.val Go.undef = Go.Sx.Cel.val Go.undef ∧ True ∧ True ∧ Go.Sx.Cel.slc (0 : Nat) (0 : Nat) (0 : Int) (1 : Nat) (↑(List.length (wds (UInt8.ofNat (Int.toNat (44 : Int))) s.data.toList)) : Int) cp = Go.Sx.Cel.slc (0 : Nat) (0 : Nat) (0 : Int) (1 : Nat) (↑(List.length (wds (UInt8.ofNat (Int.toNat (44 : Int))) s.data.toList)) : Int) cp ∧ Go.Sx.Cel.slc (4 : Nat) (0 : Nat) (0 : Int) (1 : Nat) ((↑x.fst : Int) + (↑(1 : Nat) : Int)) cap = Go.Sx.Cel.slc (4 : Nat) (0 : Nat) (0 : Int) (1 : Nat) (↑y.fst : Int) y.snd.snd.snd ∧ (Go.IntKind.i64 = Go.IntKind.i64 ∧ (↑x.fst : Int) + (1 : Int) = (↑y.fst : Int)) ∧ True ∧ True ∧ s = s ∧ Go.Sx.Cel.slc (0 : Nat) (0 : Nat) (0 : Int) (1 : Nat) (↑(List.length (wds (UInt8.ofNat (Int.toNat (44 : Int))) s.data.toList)) : Int) cp = Go.Sx.Cel.slc (0 : Nat) (0 : Nat) (0 : Int) (1 : Nat) (↑(List.length (wds (UInt8.ofNat (Int.toNat (44 : Int))) s.data.toList)) : Int) cp ∧ Go.Sx.Cel.slc (1 : Nat) (0 : Nat) (0 : Int) (1 : Nat) (0 : Int) (0 : Int) = Go.Sx.Cel.slc (1 : Nat) (0 : Nat) (0 : Int) (1 : Nat) (0 : Int) (0 : Int) ∧ True ∧ True ∧ True ∧ True ∧ True ∧ True ∧ True ∧ True ∧ True ∧ True ∧ True ∧ True ∧ True ∧ True ∧ True ∧ True ∧ True ∧ True ∧ True ∧ True ∧ True ∧ True ∧ True ∧ True ∧ True ∧ True ∧ True ∧ Go.Sx.Cel.val Go.undef = Go.Sx.Cel.val Go.undef ∧ Go.Sx.Cel.val Go.undef = Go.Sx.Cel.val Go.undef ∧ Go.Sx.Cel.val Go.undef = Go.Sx.Cel.val Go.undef ∧ Go.Sx.Cel.val Go.undef = Go.Sx.Cel.val Go.undef ∧ Go.Sx.Cel.val Go.undef = Go.Sx.Cel.val Go.undef ∧ True) ∧ (Bool.true = Bool.true ∧ (9 : Nat) = (9 : Nat) ∧ ([Go.Sx.EK.str] = [Go.Sx.EK.str] ∧ N = N ∧ L = L) ∧ True) ∧ True ∧ (Bool.true = Bool.true ∧ (34 : Nat) = (34 : Nat) ∧ ([Go.Sx.EK.i16] = [Go.Sx.EK.i16] ∧ n = y.snd.fst ∧ L_1 = y.snd.snd.fst) ∧ True) ∧ True)) ∧ (Decidable.decide ((1 : Int) ≤ (↑(nmV (Go.Sx.decS (List.getD L (Int.toNat ((0 : Int) + (↑x.fst : Int))) (0 : Int))).data.toList) : Int)) = !Bool.true → True ∧ True ∧ True ∧ True ∧ True ∧ True ∧ True ∧ True ∧ ∃ (x : Nat × List Int × Int), Gq (1 : Nat) (rrK (wds (44 : UInt8) s.data.toList)) (rrF (wds (44 : UInt8) s.data.toList)) x.fst x.snd.fst x.snd.snd ∧ ((Go.Sx.Cel.slc (3 : Nat) (0 : Nat) (0 : Int) (1 : Nat) (0 : Int) (0 : Int) = Go.Sx.Cel.slc (3 : Nat) (0 : Nat) (0 : Int) (1 : Nat) (↑(rrK (wds (44 : UInt8) s.data.toList)) : Int) x.snd.snd ∧ (Go.IntKind.i64 = Go.IntKind.i64 ∧ (5 : Int) = rrE (wds (44 : UInt8) s.data.toList)) ∧ True) ∧ True) ∧ (Bool.true = Bool.true ∧ (34 : Nat) = (34 : Nat) ∧ ([Go.Sx.EK.i16] = [Go.Sx.EK.i16] ∧ (0 : Nat) = x.fst ∧ [] = x.snd.fst) ∧ True) ∧ True)) ∧ ((!nmB (Go.Sx.decS (List.getD L (Int.toNat ((0 : Int) + (↑x.fst : Int))) (0 : Int))).data.toList) = !Bool.false → True ∧ True ∧ True ∧ True ∧ ∃ (x : Nat × List Int × Int), Gq (1 : Nat) (rrK (wds (44 : UInt8) s.data.toList)) (rrF (wds (44 : UInt8) s.data.toList)) x.fst x.snd.fst x.snd.snd ∧ ((Go.Sx.Cel.slc (3 : Nat) (0 : Nat) (0 : Int) (1 : Nat) (0 : Int) (0 : Int) = Go.Sx.Cel.slc (3 : Nat) (0 : Nat) (0 : Int) (1 : Nat) (↑(rrK (wds (44 : UInt8) s.data.toList)) : Int) x.snd.snd ∧ (Go.IntKind.i64 = Go.IntKind.i64 ∧ (5 : Int) = rrE (wds (44 : UInt8) s.data.toList)) ∧ True) ∧ True) ∧ (Bool.true = Bool.true ∧ (34 : Nat) = (34 : Nat) ∧ ([Go.Sx.EK.i16] = [Go.Sx.EK.i16] ∧ (0 : Nat) = x.fst ∧ [] = x.snd.fst) ∧ True) ∧ True)) ∧ (Decidable.decide ((↑x.fst : Int) < (↑(List.length (wds (UInt8.ofNat (Int.toNat (44 : Int))) s.data.toList)) : Int)) = Bool.false → True ∧ (((34 : Nat) = (34 : Nat) ∧ (0 : Nat) = (0 : Nat) ∧ (0 : Int) = (0 : Int) ∧ (1 : Nat) = (1 : Nat) ∧ [Go.Sx.EK.i16] = [Go.Sx.EK.i16]) ∧ RwP (↑x.fst : Int) x.snd.fst x.snd.snd.fst) ∧ True ∧ ((!rwB (Int.toNat (↑x.fst : Int)) x.snd.snd.fst) = Bool.true → True ∧ True ∧ True ∧ ∃ (x : Nat × List Int × Int), Gq (1 : Nat) (rrK (wds (44 : UInt8) s.data.toList)) (rrF (wds (44 : UInt8) s.data.toList)) x.fst x.snd.fst x.snd.snd ∧ ((Go.Sx.Cel.slc (3 : Nat) (0 : Nat) (0 : Int) (1 : Nat) (0 : Int) (0 : Int) = Go.Sx.Cel.slc (3 : Nat) (0 : Nat) (0 : Int) (1 : Nat) (↑(rrK (wds (44 : UInt8) s.data.toList)) : Int) x.snd.snd ∧ (Go.IntKind.i64 = Go.IntKind.i64 ∧ (5 : Int) = rrE (wds (44 : UInt8) s.data.toList)) ∧ True) ∧ True) ∧ (Bool.true = Bool.true ∧ (34 : Nat) = (34 : Nat) ∧ ([Go.Sx.EK.i16] = [Go.Sx.EK.i16] ∧ (0 : Nat) = x.fst ∧ [] = x.snd.fst) ∧ True) ∧ True) ∧ ((!rwB (Int.toNat (↑x.fst : Int)) x.snd.snd.fst) = Bool.false → True ∧ True ∧ True ∧ ∃ (x_1 : Nat × List Int × Int), Gq (1 : Nat) (rrK (wds (44 : UInt8) s.data.toList)) (rrF (wds (44 : UInt8) s.data.toList)) x_1.fst x_1.snd.fst x_1.snd.snd ∧ ((Go.Sx.Cel.slc (2 : Nat) (0 : Nat) (0 : Int) (1 : Nat) (↑x.fst : Int) x.snd.snd.snd = Go.Sx.Cel.slc (2 : Nat) (0 : Nat) (0 : Int) (1 : Nat) (↑(rrK (wds (44 : UInt8) s.data.toList)) : Int) x_1.snd.snd ∧ (Go.IntKind.i64 = Go.IntKind.i64 ∧ (0 : Int) = rrE (wds (44 : UInt8) s.data.toList)) ∧ True) ∧ True) ∧ (Bool.true = Bool.true ∧ (34 : Nat) = (34 : Nat) ∧ ([Go.Sx.EK.i16] = [Go.Sx.EK.i16] ∧ x.snd.fst = x_1.fst ∧ x.snd.snd.fst = x_1.snd.fst) ∧ True) ∧ True))) (by kernel_rfl) ?_
  simp only [true_and, and_true, and_self, decide_eq_true_eq, decide_eq_false_iff_not, Bool.not_eq_true', Bool.not_eq_false', Bool.not_true, Bool.not_false, beq_iff_eq, beq_eq_false_iff_ne, bne_iff_ne, bne_eq_false_iff_eq, ne_eq, not_true_eq_false, not_false_eq_true, false_implies, true_implies, implies_true, forall_const, exists_const, ↓reduceIte, Int.reduceEq, Int.toNat_natCast, Bool.false_eq_true, Bool.true_eq_false, reduceCtorEq, Int.zero_add, Nat.add_zero, Nat.mul_one, Cel.slc.injEq, List.drop_zero, Int.toNat_zero, List.take_succ_cons, List.take_zero, Int.ofNat_eq_natCast, Nat.zero_add, Int.toNat_natCast]
  have e44 : UInt8.ofNat (Int.toNat 44) = 44 := rfl
  simp only [e44]
  have few := words_few hs
  have hpos := wds_pos 44 s.data.toList
  have wsz : ∀ i, i < (wds 44 s.data.toList).length → (bsl ((wds 44 s.data.toList).getD i [])).size ≤ 1048576 := fun i hi => Nat.le_trans (wd_size hi) hs
  have vl : (wds 44 s.data.toList).length ≤ 1048577 := by have h1 := wds_len_le 44 s.data.toList; rw [size_list] at h1; omega
  generalize hV : wds 44 s.data.toList = V at *
  refine ⟨⟨hs, by omega, by omega⟩, fun N L cp g => ⟨⟨(0, 0, [], 0), ⟨Nat.zero_le _, ⟨fun i hi => absurd hi (Nat.not_lt_zero _)⟩, Gq.nil⟩, ⟨⟨rfl, rfl⟩, rfl⟩, rfl, rfl⟩, ?_⟩⟩
  have g0 := g.room
  rw [Nat.mul_one] at g0
  have gw : ∀ i, i < V.length → decS (L.getD i 0) = bsl (V.getD i []) := fun i hi => by rw [g.get hi, encW_get hi]
  rintro ⟨k, N1, L1, cp1⟩ ⟨hk, ha, g1⟩
  simp only at hk ha g1 ⊢
  have gr := g1.room
  have ge := g1.e
  have gg : ∀ i, i < k → L1.getD i 0 = (nmV (V.getD i []) : Int) := fun i hi => by rw [g1.get hi, rrL, mkN_getD hi]
  rw [Nat.mul_one] at gr ge
  refine ⟨fun hlt => ?_, fun hge => ?_⟩
  · have kl : k < V.length := by omega
    rw [gw k kl]
    rw [bsl_list]
    have err := fun (hb : ¬ NwP (V.getD k [])) => rr_err (rr_bad kl hb)
    refine ⟨by omega, by omega, wsz k kl, fun hn => ⟨fun h1 => ⟨fun h2 => err fun q => h2 (by have := q.hi; omega), fun h2 => ?_⟩, fun h1 => err fun q => h1 (by have := q.lo; omega)⟩, fun hb => err fun q => by rw [q.n] at hb; cases hb⟩
    have q : NwP (V.getD k []) := ⟨hn, by omega, by omega⟩
    refine ⟨⟨gr, Nat.le_refl _, by omega, by omega⟩, ge, fun n L' cap c1 c2 c3 c4 => ?_⟩
    rw [show IntKind.i16.wrap (nmV (V.getD k []) : Int) = (nmV (V.getD k []) : Int) from i16w (by omega) (by omega)] at c4
    exact ⟨by omega, (k + 1, n, L', cap), ⟨by simp only; omega, an_step ha q, nu_push g1 rfl c1 c2 c3 c4⟩, by simp only; omega, ⟨⟨by simp only; omega, rfl⟩, by simp only; omega⟩, rfl, rfl⟩
  · obtain rfl : k = V.length := by omega
    rw [rr_rw hpos ha gg]
    refine ⟨⟨by omega, by have := few ha; omega, by omega, g1.l, fun i hi => ?_⟩, fun hb => ?_, fun hb => ?_⟩
    · rw [Int.toNat_natCast] at hi
      rw [gg i hi]
      have := (ha.ok i hi).hi
      omega
    · obtain ⟨e1, e2, e3⟩ := rr_no hb
      exact gq_errP e1 e2 e3.symm
    · obtain ⟨e1, e2, e3⟩ := rr_ok hb
      rw [e1, e2, e3]
      exact ⟨(N1, L1, cp1), g1, ⟨⟨rfl, rfl⟩, rfl⟩, rfl, rfl⟩
theorem x_ReadRowI (s : ByteArray) (hs : s.size ≤ 1048576) : Fex true (TT mx) (inlN true (TT mx) Crr (lookI ILrr) 4) Crr (fun _ => .inv (lmRrI (spK 44 61 s))) Tryd.f5 [.a (.c (.str s))] []
    (fun lv H' => ∃ x : Nat × List Int × Int, Gq 1 (rrK (wds 44 s.data.toList)) (rrF (wds 44 s.data.toList)) x.1 x.2.1 x.2.2 ∧ leSt ⟨[lv], H'⟩ ⟨[rnL (([] : List Nat).length + ·) (.tup [.c (.slc 0 0 0 1 (rrK (wds 44 s.data.toList)) x.2.2), .c (.int .i64 (rrE (wds 44 s.data.toList)))])], deadsN ([] : List Nat).length ++ [.cells true 34 [.run [.i16] x.1 x.2.1]]⟩ ([] : List Nat).length (resB lv)) := by
  refine Go.Sx.by_eq (q := True ∧ True ∧ True ∧ True ∧ (ByteArray.size s ≤ (1048576 : Nat) ∧ (1 : Nat) = (1 : Nat) ∧ (1 : Int) ≤ (61 : Int) ∧ (61 : Int) ≤ (1000 : Int)) ∧ ∀ (N : Nat) (L : List Int) (cp : Int), Gq (1 : Nat) (List.length (spK (List.getD (ByteArray.mk #[(44 : UInt8)]).data.toList (0 : Nat) (0 : UInt8)) (Int.toNat (61 : Int)) s)) (encW (spK (List.getD (ByteArray.mk #[(44 : UInt8)]).data.toList (0 : Nat) (0 : UInt8)) (Int.toNat (61 : Int)) s)) N L cp → True ∧ True ∧ (∃ (x : Nat × Nat × List Int × Int), (x.fst ≤ List.length (spK (44 : UInt8) (61 : Nat) s) ∧ AllI (spK (44 : UInt8) (61 : Nat) s) x.fst ∧ Gq (1 : Nat) x.fst (piL (spK (44 : UInt8) (61 : Nat) s) x.fst) x.snd.fst x.snd.snd.fst x.snd.snd.snd) ∧ (s = s ∧ Go.Sx.Cel.val Go.undef = Go.Sx.Cel.val Go.undef ∧ True ∧ True ∧ ((0 : Int) = (0 : Int) ∧ (↑x.fst : Int) = (0 : Int) ∧ x.snd.snd.snd = (0 : Int)) ∧ Go.Sx.Cel.val Go.undef = Go.Sx.Cel.val Go.undef ∧ True ∧ True ∧ True ∧ s = s ∧ Go.Sx.Cel.slc (0 : Nat) (0 : Nat) (0 : Int) (1 : Nat) (↑(List.length (spK (List.getD (ByteArray.mk #[(44 : UInt8)]).data.toList (0 : Nat) (0 : UInt8)) (Int.toNat (61 : Int)) s)) : Int) cp = Go.Sx.Cel.slc (0 : Nat) (0 : Nat) (0 : Int) (1 : Nat) (↑(List.length (spK (List.getD (ByteArray.mk #[(44 : UInt8)]).data.toList (0 : Nat) (0 : UInt8)) (Int.toNat (61 : Int)) s)) : Int) cp ∧ (Go.IntKind.i64 = Go.IntKind.i64 ∧ (↑(List.length (spK (List.getD (ByteArray.mk #[(44 : UInt8)]).data.toList (0 : Nat) (0 : UInt8)) (Int.toNat (61 : Int)) s)) : Int) = (↑(List.length (spK (List.getD (ByteArray.mk #[(44 : UInt8)]).data.toList (0 : Nat) (0 : UInt8)) (Int.toNat (61 : Int)) s)) : Int)) ∧ (Go.IntKind.i64 = Go.IntKind.i64 ∧ (0 : Int) = (↑x.fst : Int)) ∧ True ∧ True ∧ True ∧ True ∧ True ∧ True ∧ True ∧ True ∧ True ∧ True ∧ True ∧ True ∧ True ∧ True ∧ True ∧ True ∧ Go.Sx.Cel.val Go.undef = Go.Sx.Cel.val Go.undef ∧ Go.Sx.Cel.val Go.undef = Go.Sx.Cel.val Go.undef ∧ Go.Sx.Cel.val Go.undef = Go.Sx.Cel.val Go.undef ∧ Go.Sx.Cel.val Go.undef = Go.Sx.Cel.val Go.undef ∧ Go.Sx.Cel.val Go.undef = Go.Sx.Cel.val Go.undef ∧ Go.Sx.Cel.val Go.undef = Go.Sx.Cel.val Go.undef ∧ Go.Sx.Cel.val Go.undef = Go.Sx.Cel.val Go.undef ∧ Go.Sx.Cel.val Go.undef = Go.Sx.Cel.val Go.undef ∧ Go.Sx.Cel.val Go.undef = Go.Sx.Cel.val Go.undef ∧ Go.Sx.Cel.val Go.undef = Go.Sx.Cel.val Go.undef ∧ True) ∧ (Bool.true = Bool.true ∧ (9 : Nat) = (9 : Nat) ∧ ([Go.Sx.EK.str] = [Go.Sx.EK.str] ∧ N = N ∧ L = L) ∧ True) ∧ (x.snd.fst = (0 : Nat) ∧ x.snd.snd.fst = []) ∧ True) ∧ ∀ (x : Nat × Nat × List Int × Int), x.fst ≤ List.length (spK (44 : UInt8) (61 : Nat) s) ∧ AllI (spK (44 : UInt8) (61 : Nat) s) x.fst ∧ Gq (1 : Nat) x.fst (piL (spK (44 : UInt8) (61 : Nat) s) x.fst) x.snd.fst x.snd.snd.fst x.snd.snd.snd → True ∧ (Decidable.decide ((↑x.fst : Int) < (↑(List.length (spK (List.getD (ByteArray.mk #[(44 : UInt8)]).data.toList (0 : Nat) (0 : UInt8)) (Int.toNat (61 : Int)) s)) : Int)) = Bool.true → ((0 : Int) ≤ (↑x.fst : Int) ∧ (↑x.fst : Int) < (↑(List.length (spK (List.getD (ByteArray.mk #[(44 : UInt8)]).data.toList (0 : Nat) (0 : UInt8)) (Int.toNat (61 : Int)) s)) : Int)) ∧ ((0 : Int) ≤ (0 : Int) + (↑x.fst : Int) ∧ Int.toNat ((0 : Int) + (↑x.fst : Int)) < N) ∧ True ∧ True ∧ (ByteArray.size (Go.Sx.decS (List.getD L (Int.toNat ((0 : Int) + (↑x.fst : Int))) (0 : Int))) ≤ (1048576 : Nat) ∧ (10 : Int) = (10 : Int) ∧ ((16 : Int) = (8 : Int) ∨ (16 : Int) = (16 : Int))) ∧ (piB (Int.toNat (16 : Int)) (Go.Sx.decS (List.getD L (Int.toNat ((0 : Int) + (↑x.fst : Int))) (0 : Int))).data.toList = Bool.true → True ∧ True ∧ True ∧ True ∧ True ∧ True ∧ True ∧ True ∧ True ∧ True ∧ True ∧ ((Int.toNat (0 : Int) + Int.toNat (↑x.fst : Int)) * (1 : Nat) ≤ x.snd.fst ∧ (Int.toNat (0 : Int) + Int.toNat (↑(1 : Nat) : Int)) * (1 : Nat) ≤ (1 : Nat) ∧ ((↑x.fst : Int) + (↑(1 : Nat) : Int)) * (↑(2 : Nat) : Int) ≤ (140737488355328 : Int) ∧ (↑x.fst : Int) + (↑(1 : Nat) : Int) ≤ (9223372036854775807 : Int)) ∧ ((0 : Int) = (0 : Int) ∧ x.snd.fst = Int.toNat x.snd.snd.snd * (1 : Nat)) ∧ ∀ (n : Nat) (L_1 : List Int) (cap : Int), (↑x.fst : Int) + (↑(1 : Nat) : Int) ≤ cap → n = Int.toNat cap * (1 : Nat) → List.length L_1 = n → List.take (Int.toNat ((↑x.fst : Int) + (↑(1 : Nat) : Int)) * (1 : Nat)) L_1 = List.take (Int.toNat (↑x.fst : Int) * (1 : Nat)) (List.drop (Int.toNat (0 : Int) * (1 : Nat)) x.snd.snd.fst) ++ List.take (Int.toNat (↑(1 : Nat) : Int) * (1 : Nat)) (List.drop (Int.toNat (0 : Int) * (1 : Nat)) [Go.IntKind.wrap Go.IntKind.i16 (piV (Int.toNat (16 : Int)) (Go.Sx.decS (List.getD L (Int.toNat ((0 : Int) + (↑x.fst : Int))) (0 : Int))).data.toList)]) → True ∧ ((-9223372036854775808 : Int) ≤ (↑x.fst : Int) + (1 : Int) ∧ (↑x.fst : Int) + (1 : Int) ≤ (9223372036854775807 : Int)) ∧ True ∧ ∃ (y : Nat × Nat × List Int × Int), (y.fst ≤ List.length (spK (44 : UInt8) (61 : Nat) s) ∧ AllI (spK (44 : UInt8) (61 : Nat) s) y.fst ∧ Gq (1 : Nat) y.fst (piL (spK (44 : UInt8) (61 : Nat) s) y.fst) y.snd.fst y.snd.snd.fst y.snd.snd.snd) ∧ List.length (spK (44 : UInt8) (61 : Nat) s) - y.fst < List.length (spK (44 : UInt8) (61 : Nat) s) - x.fst ∧ (s = s ∧ Go.Sx.Cel.val Go.undef = Go.Sx.Cel.val Go.undef ∧ True ∧ True ∧ Go.Sx.Cel.slc (3 : Nat) (0 : Nat) (0 : Int) (1 : Nat) ((↑x.fst : Int) + (↑(1 : Nat) : Int)) cap = Go.Sx.Cel.slc (3 : Nat) (0 : Nat) (0 : Int) (1 : Nat) (↑y.fst : Int) y.snd.snd.snd ∧ Go.Sx.Cel.val Go.undef = Go.Sx.Cel.val Go.undef ∧ True ∧ True ∧ True ∧ s = s ∧ Go.Sx.Cel.slc (0 : Nat) (0 : Nat) (0 : Int) (1 : Nat) (↑(List.length (spK (List.getD (ByteArray.mk #[(44 : UInt8)]).data.toList (0 : Nat) (0 : UInt8)) (Int.toNat (61 : Int)) s)) : Int) cp = Go.Sx.Cel.slc (0 : Nat) (0 : Nat) (0 : Int) (1 : Nat) (↑(List.length (spK (List.getD (ByteArray.mk #[(44 : UInt8)]).data.toList (0 : Nat) (0 : UInt8)) (Int.toNat (61 : Int)) s)) : Int) cp ∧ (Go.IntKind.i64 = Go.IntKind.i64 ∧ (↑(List.length (spK (List.getD (ByteArray.mk #[(44 : UInt8)]).data.toList (0 : Nat) (0 : UInt8)) (Int.toNat (61 : Int)) s)) : Int) = (↑(List.length (spK (List.getD (ByteArray.mk #[(44 : UInt8)]).data.toList (0 : Nat) (0 : UInt8)) (Int.toNat (61 : Int)) s)) : Int)) ∧ (Go.IntKind.i64 = Go.IntKind.i64 ∧ (↑x.fst : Int) + (1 : Int) = (↑y.fst : Int)) ∧ True ∧ True ∧ True ∧ True ∧ True ∧ True ∧ True ∧ True ∧ True ∧ True ∧ True ∧ True ∧ True ∧ True ∧ True ∧ True ∧ Go.Sx.Cel.val Go.undef = Go.Sx.Cel.val Go.undef ∧ Go.Sx.Cel.val Go.undef = Go.Sx.Cel.val Go.undef ∧ Go.Sx.Cel.val Go.undef = Go.Sx.Cel.val Go.undef ∧ Go.Sx.Cel.val Go.undef = Go.Sx.Cel.val Go.undef ∧ Go.Sx.Cel.val Go.undef = Go.Sx.Cel.val Go.undef ∧ Go.Sx.Cel.val Go.undef = Go.Sx.Cel.val Go.undef ∧ Go.Sx.Cel.val Go.undef = Go.Sx.Cel.val Go.undef ∧ Go.Sx.Cel.val Go.undef = Go.Sx.Cel.val Go.undef ∧ Go.Sx.Cel.val Go.undef = Go.Sx.Cel.val Go.undef ∧ Go.Sx.Cel.val Go.undef = Go.Sx.Cel.val Go.undef ∧ True) ∧ (Bool.true = Bool.true ∧ (9 : Nat) = (9 : Nat) ∧ ([Go.Sx.EK.str] = [Go.Sx.EK.str] ∧ N = N ∧ L = L) ∧ True) ∧ (Bool.true = Bool.true ∧ (34 : Nat) = (34 : Nat) ∧ ([Go.Sx.EK.i16] = [Go.Sx.EK.i16] ∧ n = y.snd.fst ∧ L_1 = y.snd.snd.fst) ∧ True) ∧ True) ∧ (piB (Int.toNat (16 : Int)) (Go.Sx.decS (List.getD L (Int.toNat ((0 : Int) + (↑x.fst : Int))) (0 : Int))).data.toList = Bool.false → ∀ (x : Int) (t : Go.TypeId) (v : Go.Value), True ∧ True ∧ True ∧ True ∧ True ∧ True ∧ True ∧ True ∧ True ∧ ∃ (x : Nat × List Int × Int), Gq (1 : Nat) (rrK (wds (44 : UInt8) s.data.toList)) (rrF (wds (44 : UInt8) s.data.toList)) x.fst x.snd.fst x.snd.snd ∧ ((((0 : Int) = (0 : Int) ∧ (↑(rrK (wds (44 : UInt8) s.data.toList)) : Int) = (0 : Int) ∧ x.snd.snd = (0 : Int)) ∧ (Go.IntKind.i64 = Go.IntKind.i64 ∧ (5 : Int) = rrE (wds (44 : UInt8) s.data.toList)) ∧ True) ∧ True) ∧ (x.fst = (0 : Nat) ∧ x.snd.fst = []) ∧ True)) ∧ (Decidable.decide ((↑x.fst : Int) < (↑(List.length (spK (List.getD (ByteArray.mk #[(44 : UInt8)]).data.toList (0 : Nat) (0 : UInt8)) (Int.toNat (61 : Int)) s)) : Int)) = Bool.false → True ∧ (((34 : Nat) = (34 : Nat) ∧ (0 : Nat) = (0 : Nat) ∧ (0 : Int) = (0 : Int) ∧ (1 : Nat) = (1 : Nat) ∧ [Go.Sx.EK.i16] = [Go.Sx.EK.i16]) ∧ RwP (↑x.fst : Int) x.snd.fst x.snd.snd.fst) ∧ True ∧ True ∧ ((!rwB (Int.toNat (↑x.fst : Int)) x.snd.snd.fst) = Bool.false → True ∧ (((34 : Nat) = (34 : Nat) ∧ (0 : Nat) = (0 : Nat) ∧ (0 : Int) = (0 : Int) ∧ (1 : Nat) = (1 : Nat) ∧ [Go.Sx.EK.i16] = [Go.Sx.EK.i16]) ∧ RwP (↑x.fst : Int) x.snd.fst x.snd.snd.fst) ∧ True ∧ True ∧ True ∧ ((!ByteArray.toList (rtxS (Int.toNat (↑x.fst : Int)) x.snd.snd.fst) == ByteArray.toList s) = Bool.true → True ∧ True ∧ ∃ (x : Nat × List Int × Int), Gq (1 : Nat) (rrK (wds (44 : UInt8) s.data.toList)) (rrF (wds (44 : UInt8) s.data.toList)) x.fst x.snd.fst x.snd.snd ∧ ((((0 : Int) = (0 : Int) ∧ (↑(rrK (wds (44 : UInt8) s.data.toList)) : Int) = (0 : Int) ∧ x.snd.snd = (0 : Int)) ∧ (Go.IntKind.i64 = Go.IntKind.i64 ∧ (5 : Int) = rrE (wds (44 : UInt8) s.data.toList)) ∧ True) ∧ True) ∧ (x.fst = (0 : Nat) ∧ x.snd.fst = []) ∧ True) ∧ ((!ByteArray.toList (rtxS (Int.toNat (↑x.fst : Int)) x.snd.snd.fst) == ByteArray.toList s) = Bool.false → True ∧ True ∧ True ∧ ∃ (x_1 : Nat × List Int × Int), Gq (1 : Nat) (rrK (wds (44 : UInt8) s.data.toList)) (rrF (wds (44 : UInt8) s.data.toList)) x_1.fst x_1.snd.fst x_1.snd.snd ∧ ((Go.Sx.Cel.slc (1 : Nat) (0 : Nat) (0 : Int) (1 : Nat) (↑x.fst : Int) x.snd.snd.snd = Go.Sx.Cel.slc (1 : Nat) (0 : Nat) (0 : Int) (1 : Nat) (↑(rrK (wds (44 : UInt8) s.data.toList)) : Int) x_1.snd.snd ∧ (Go.IntKind.i64 = Go.IntKind.i64 ∧ (0 : Int) = rrE (wds (44 : UInt8) s.data.toList)) ∧ True) ∧ True) ∧ (Bool.true = Bool.true ∧ (34 : Nat) = (34 : Nat) ∧ ([Go.Sx.EK.i16] = [Go.Sx.EK.i16] ∧ x.snd.fst = x_1.fst ∧ x.snd.snd.fst = x_1.snd.fst) ∧ True) ∧ True)) ∧ ((!rwB (Int.toNat (↑x.fst : Int)) x.snd.snd.fst) = !Bool.false → True ∧ True ∧ True ∧ ∃ (x : Nat × List Int × Int), Gq (1 : Nat) (rrK (wds (44 : UInt8) s.data.toList)) (rrF (wds (44 : UInt8) s.data.toList)) x.fst x.snd.fst x.snd.snd ∧ ((((0 : Int) = (0 : Int) ∧ (↑(rrK (wds (44 : UInt8) s.data.toList)) : Int) = (0 : Int) ∧ x.snd.snd = (0 : Int)) ∧ (Go.IntKind.i64 = Go.IntKind.i64 ∧ (5 : Int) = rrE (wds (44 : UInt8) s.data.toList)) ∧ True) ∧ True) ∧ (x.fst = (0 : Nat) ∧ x.snd.fst = []) ∧ True))) (by kernel_rfl) ?_
  simp only [true_and, and_true, and_self, decide_eq_true_eq, decide_eq_false_iff_not, Bool.not_eq_true', Bool.not_eq_false', Bool.not_true, Bool.not_false, beq_iff_eq, beq_eq_false_iff_ne, bne_iff_ne, bne_eq_false_iff_eq, ne_eq, not_true_eq_false, not_false_eq_true, false_implies, true_implies, implies_true, forall_const, exists_const, ↓reduceIte, Int.reduceEq, Int.toNat_natCast, Bool.false_eq_true, Bool.true_eq_false, reduceCtorEq, Int.zero_add, Nat.add_zero, Nat.mul_one, Cel.slc.injEq, List.drop_zero, Int.toNat_zero, List.take_succ_cons, List.take_zero, Int.ofNat_eq_natCast, Nat.zero_add, Int.toNat_natCast]
  have e1 : List.getD [(44 : UInt8)] 0 0 = 44 := rfl
  have e2 : Int.toNat 61 = 61 := rfl
  have e3 : Int.toNat 16 = 16 := rfl
  simp only [e1, e2, e3]
  have V1 : (spK 44 61 s).length ≤ 61 := by
    have := splitK_le 44 (min 61 (s.size + 1) - 1) s.data.toList
    unfold spK; omega
  have wsz : ∀ i, i < (spK 44 61 s).length → (bsl ((spK 44 61 s).getD i [])).size ≤ 1048576 := fun i hi => Nat.le_trans (sp_size hi) hs
  have pbad := fun (i : Nat) => rr_pbad (s := s) (i := i)
  have pend := fun (l : List Int) => rr_end (s := s) (l := l)
  have same := rr_same (s := s)
  have nor := rr_no (V := wds 44 s.data.toList)
  have hts : ∀ t : ByteArray, t.toList = s.toList ↔ t.data.toList = s.data.toList := fun t => by rw [ByteArray.toList_eq, ByteArray.toList_eq]
  generalize hV : spK 44 61 s = V at *
  refine ⟨⟨hs, by omega, by omega⟩, fun N L cp g => ⟨⟨(0, 0, [], 0), ⟨Nat.zero_le _, ⟨fun i hi => absurd hi (Nat.not_lt_zero _)⟩, Gq.nil⟩, ⟨⟨rfl, rfl⟩, rfl⟩, rfl, rfl⟩, ?_⟩⟩
  have g0 := g.room
  rw [Nat.mul_one] at g0
  have gw : ∀ i, i < V.length → decS (L.getD i 0) = bsl (V.getD i []) := fun i hi => by rw [g.get hi, encW_get hi]
  rintro ⟨k, N1, L1, cp1⟩ ⟨hk, ha, g1⟩
  simp only at hk ha g1 ⊢
  have gr := g1.room
  have ge := g1.e
  have gg : ∀ i, i < k → L1.getD i 0 = piV 16 (V.getD i []) := fun i hi => by rw [g1.get hi, piL, mkN_getD hi]
  rw [Nat.mul_one] at gr ge
  have err := rr_err' (V := wds 44 s.data.toList)
  have e15 : ((2 ^ (16 - 1) : Nat) : Int) = 32768 := by decide
  refine ⟨fun hlt => ?_, fun hge => ?_⟩
  · have kl : k < V.length := by omega
    rw [gw k kl]
    rw [bsl_list]
    refine ⟨by omega, by omega, ⟨wsz k kl, .inr trivial⟩, fun hb => ?_, fun hb => err (pbad k kl hb)⟩
    have bd := pi_bounds hb
    refine ⟨⟨gr, Nat.le_refl _, by omega, by omega⟩, ge, fun n L' cap c1 c2 c3 c4 => ?_⟩
    rw [show IntKind.i16.wrap (piV 16 (V.getD k [])) = piV 16 (V.getD k []) from i16w (by omega) (by omega)] at c4
    exact ⟨by omega, (k + 1, n, L', cap), ⟨by simp only; omega, ai_step ha hb, nu_push g1 rfl c1 c2 c3 c4⟩, by simp only; omega, ⟨⟨by simp only; omega, rfl⟩, by simp only; omega⟩, rfl, rfl⟩
  · obtain rfl : k = V.length := by omega
    have pe := pend L1 ha gg
    have rp : RwP (V.length : Int) N1 L1 := ⟨by omega, by omega, by omega, g1.l, fun i hi => by
      rw [Int.toNat_natCast] at hi
      rw [gg i hi]
      have := pi_bounds (ha.ok i hi)
      omega⟩
    simp only [hts]
    refine ⟨rp, fun h1 => ⟨rp, fun h2 => err ?_, fun h2 => ?_⟩, fun h1 => err ?_⟩
    · rw [Bool.eq_false_iff]; exact fun h => h2 (pe.2 h).2
    · obtain ⟨f1, f2, f3⟩ := same (pe.1 ⟨h1, h2⟩)
      rw [f1, f2, f3]
      exact ⟨(N1, L1, cp1), g1, ⟨⟨rfl, rfl⟩, rfl⟩, rfl, rfl⟩
    · rw [Bool.eq_false_iff]; exact fun h => by rw [(pe.2 h).1] at h1; cases h1

noncomputable def gRrw : EntryC := fun args H K => match args with
  | [.a (.c (.str s))] => s.size ≤ 1048576 ∧ withLenP H fun h => ∀ N L cp, Gq 1 (rrK (wds 44 s.data.toList)) (rrF (wds 44 s.data.toList)) N L cp → K (.tup [.c (.slc h 0 0 1 (rrK (wds 44 s.data.toList)) cp), .c (.int .i64 (rrE (wds 44 s.data.toList)))]) (H ++ [.cells true 34 [.run [.i16] N L]])
  | _ => Stuck "read"
theorem e_ReadRowS : EntryCOk Tryd.prog (TT mx) 4 gRrw := by
  refine ⟨fnOk Tryd.func4 (by kernel_rfl) rfl, ?_⟩
  intro args H K h n0 w0 β w vals hG hH hA
  unfold gRrw at h
  split at h
  · obtain ⟨hp, hk⟩ := h
    have hk := withLenP_sound hk
    refine (entry_fresh tt_ok (inlN_ok tt_ok Crr_ok mixed (ILrr_ok).ok 4) Crr_ok mixed Tryd.func4 [] (x_ReadRowS _ hp) rfl (fun _ => rfl) (fun _ => rfl) trivial hG hH (by rw [map_self _ fun c hc => rnL_in0 _ c (List.all_eq_true.1 (show (List.all _ (inL 0)) = true from rfl) c hc)]; exact hA)).mono ?_
    rintro e w' ⟨v, γ, x, rfl, h4, h5, h6⟩
    exact ⟨v, γ, _, _, rfl, hk _ _ _ h4, h5, h6⟩
  · exact h.elim

theorem e_ReadRowI : EntryCOk Tryd.prog (TT mx) 5 gRrw := by
  refine ⟨fnOk Tryd.func5 (by kernel_rfl) rfl, ?_⟩
  intro args H K h n0 w0 β w vals hG hH hA
  unfold gRrw at h
  split at h
  · obtain ⟨hp, hk⟩ := h
    have hk := withLenP_sound hk
    refine (entry_fresh tt_ok (inlN_ok tt_ok Crr_ok mixed (ILrr_ok).ok 4) Crr_ok mixed Tryd.func5 [] (x_ReadRowI _ hp) rfl (fun _ => rfl) (fun _ => rfl) trivial hG hH (by rw [map_self _ fun c hc => rnL_in0 _ c (List.all_eq_true.1 (show (List.all _ (inL 0)) = true from rfl) c hc)]; exact hA)).mono ?_
    rintro e w' ⟨v, γ, x, rfl, h4, h5, h6⟩
    exact ⟨v, γ, _, _, rfl, hk _ _ _ h4, h5, h6⟩
  · exact h.elim

theorem rrK_le {V : List (List UInt8)} : rrK V ≤ 60 := by
  unfold rrK
  split
  · rename_i h
    exact (rrB_t.1 h).le
  · omega

end Go.Proofs.YtbphlffjgbflcaaDoor
