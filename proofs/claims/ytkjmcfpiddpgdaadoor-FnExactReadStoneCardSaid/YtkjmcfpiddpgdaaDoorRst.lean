/- ReadStone, both sides. No conditions beyond the ranges of the kinds. -/
import Derived.Test.YtkjmcfpiddpgdaaDoorCutc
import Derived.Test.YtkjmcfpiddpgdaaDoorSttx
import Derived.Test.YtkjmcfpiddpgdaaDoorWdz
set_option linter.unusedSimpArgs false
set_option linter.unusedVariables false
namespace Go.Proofs.YtkjmcfpiddpgdaaDoor
open Go.Sx Go.RowKit
variable {mx : Nat → Value}

theorem cut_len (l sep : List UInt8) : (cutL l sep).1.length ≤ l.length ∧ (cutL l sep).2.1.length ≤ l.length := by
  unfold cutL Lib.cut
  split
  · exact ⟨by rw [List.length_take]; omega, by rw [List.length_drop]; omega⟩
  · exact ⟨Nat.le_refl _, Nat.zero_le _⟩

/-! ### A corner -/
/-- How the document reads a corner. -/
def p0 (w : List UInt8) : List UInt8 := (wds 44 w).getD 0 []
def p1 (w : List UInt8) : List UInt8 := (wds 44 w).getD 1 []
structure ScP (w : List UInt8) : Prop where
  two : (wds 44 w).length = 2
  a : sgB (p0 w) = true
  b : sgB (p1 w) = true
  ax : -1000 ≤ sgV (p0 w) ∧ sgV (p0 w) ≤ 1000
  bx : -1000 ≤ sgV (p1 w) ∧ sgV (p1 w) ≤ 1000
/-- How the program reads it. -/
def q0 (w : List UInt8) : List UInt8 := (cutL w [44]).1
def q1 (w : List UInt8) : List UInt8 := (cutL w [44]).2.1
def rcB (w : List UInt8) : Bool := (cutL w [44]).2.2 && (piB 16 (q0 w) && piB 16 (q1 w))
def rcX (w : List UInt8) : Int := if rcB w then piV 16 (q0 w) else 0
def rcY (w : List UInt8) : Int := if rcB w then piV 16 (q1 w) else 0
theorem rc_t {w : List UInt8} : rcB w = true ↔ (cutL w [44]).2.2 = true ∧ piB 16 (q0 w) = true ∧ piB 16 (q1 w) = true := by simp [rcB]
theorem two_cut {w : List UInt8} (h : (wds 44 w).length = 2) : q0 w = p0 w ∧ q1 w = p1 w ∧ (cutL w [44]).2.2 = true := by
  have e := jnL_wds 44 w
  have hn : (44 : UInt8) ∉ p0 w := wds_no _ (getD_mem (by omega))
  rw [h] at e
  have e : p0 w ++ ([44] ++ p1 w) = w := e
  have := cut_at (r := p1 w) hn
  rw [show p0 w ++ 44 :: p1 w = w from e] at this
  rw [q0, q1, this]
  exact ⟨rfl, rfl, rfl⟩
theorem ScP.rc {w : List UInt8} (h : ScP w) : rcB w = true ∧ rcX w = sgV (p0 w) ∧ rcY w = sgV (p1 w) := by
  obtain ⟨c0, c1, c2⟩ := two_cut h.two
  have h1 := sg_pi h.a (by have := h.ax; omega) (by have := h.ax; omega)
  have h2 := sg_pi h.b (by have := h.bx; omega) (by have := h.bx; omega)
  have hb : rcB w = true := rc_t.2 ⟨c2, by rw [c0]; exact h1.1, by rw [c1]; exact h2.1⟩
  rw [rcX, rcY, if_pos hb, if_pos hb, c0, c1]
  exact ⟨hb, h1.2, h2.2⟩
theorem rc_bounds (w : List UInt8) : (-32768 ≤ rcX w ∧ rcX w ≤ 32767) ∧ -32768 ≤ rcY w ∧ rcY w ≤ 32767 := by
  have e15 : ((2 ^ (16 - 1) : Nat) : Int) = 32768 := by decide
  unfold rcX rcY
  split
  · rename_i h
    obtain ⟨_, h1, h2⟩ := rc_t.1 h
    have := pi_bounds h1
    have := pi_bounds h2
    omega
  · omega

/-! ### A stone -/
structure AllC (V : List (List UInt8)) (k : Nat) : Prop where
  ok : ∀ i, i < k → ScP (V.getD i [])
structure AllR (V : List (List UInt8)) (k : Nat) : Prop where
  ok : ∀ i, i < k → rcB (V.getD i []) = true
noncomputable def csL (V : List (List UInt8)) (k : Nat) : List Int := mkN (k * 2) fun i => if i % 2 = 0 then sgV (p0 (V.getD (i / 2) [])) else sgV (p1 (V.getD (i / 2) []))
noncomputable def crL (V : List (List UInt8)) (k : Nat) : List Int := mkN (k * 2) fun i => if i % 2 = 0 then rcX (V.getD (i / 2) []) else rcY (V.getD (i / 2) [])
structure RsP (V : List (List UInt8)) : Prop where
  a : AllC V V.length
  ok : okB V.length (csL V V.length) = true
open Classical in
noncomputable def rsB (V : List (List UInt8)) : Bool := decide (RsP V)
theorem rsB_t {V : List (List UInt8)} : rsB V = true ↔ RsP V := by simp [rsB]
theorem rsB_f {V : List (List UInt8)} : rsB V = false ↔ ¬ RsP V := by simp [rsB]
noncomputable def rsK (V : List (List UInt8)) : Nat := if rsB V then V.length else 0
noncomputable def rsF (V : List (List UInt8)) : List Int := if rsB V then csL V V.length else []
noncomputable def rsE (V : List (List UInt8)) : Int := if rsB V then 0 else 5
theorem rs_no {V : List (List UInt8)} (h : rsB V = false) : rsK V = 0 ∧ rsF V = [] ∧ rsE V = 5 := by simp [rsK, rsF, rsE, h]
theorem rs_ok {V : List (List UInt8)} (h : rsB V = true) : rsK V = V.length ∧ rsF V = csL V V.length ∧ rsE V = 0 := by simp [rsK, rsF, rsE, h]
theorem rs_err {V : List (List UInt8)} (h : rsB V = false) : ∃ x : Nat × List Int × Int, Gq 2 (rsK V) (rsF V) x.1 x.2.1 x.2.2 ∧ ((0 = (rsK V : Int) ∧ 0 = x.2.2) ∧ 5 = rsE V) ∧ 0 = x.1 ∧ [] = x.2.1 := by
  obtain ⟨e1, e2, e3⟩ := rs_no h
  exact gq_errP e1 e2 e3.symm
theorem rs_err' {V : List (List UInt8)} (h : rsB V = false) : ∃ x : Nat × List Int × Int, Gq 2 (rsK V) (rsF V) x.1 x.2.1 x.2.2 ∧ (((rsK V : Int) = 0 ∧ x.2.2 = 0) ∧ 5 = rsE V) ∧ x.1 = 0 ∧ x.2.1 = [] := by
  obtain ⟨e1, e2, e3⟩ := rs_no h
  exact gq_errP' e1 e2 e3.symm
theorem rs_bad {V : List (List UInt8)} {i : Nat} (hi : i < V.length) (h : ¬ ScP (V.getD i [])) : rsB V = false := rsB_f.2 fun p => h (p.a.ok i hi)
theorem okB_le {n : Nat} {l : List Int} (h : okB n l = true) : n ≤ 8 := (okB_t.1 h).hi
theorem rs_sp {s : ByteArray} (h : RsP (wds 32 s.data.toList)) : spK 32 9 s = wds 32 s.data.toList := by
  rcases spK_cases 32 9 s (by omega) with ⟨e, _⟩ | ⟨hl, _⟩
  · exact e
  · have := okB_le h.ok; omega
theorem rs_pbad {s : ByteArray} {i : Nat} (hi : i < (spK 32 9 s).length) (h : rcB ((spK 32 9 s).getD i []) = false) : rsB (wds 32 s.data.toList) = false := rsB_f.2 fun p => by
  rw [rs_sp p] at hi h
  rw [(p.a.ok i hi).rc.1] at h
  cases h
theorem cr_cs {V : List (List UInt8)} (a : AllC V V.length) : crL V V.length = csL V V.length := mkN_congr fun i hi => by
  have := (a.ok (i / 2) (by omega)).rc
  rw [this.2.1, this.2.2]
theorem cor_x {f : Nat → Int} {n i : Nat} {l : List Int} (hl : l.take (n * 2) = mkN (n * 2) f) (h : i < n) : l.getD (i * 2) 0 = f (i * 2) ∧ l.getD (i * 2 + 1) 0 = f (i * 2 + 1) :=
  ⟨by rw [← getD_take' (show i * 2 < n * 2 by omega), hl, mkN_getD (by omega)], by rw [← getD_take' (show i * 2 + 1 < n * 2 by omega), hl, mkN_getD (by omega)]⟩
theorem cor_take {n k : Nat} {l : List Int} (h : k < n) : cor (l.take (n * 2)) k = cor l k := by
  rw [cor, cor, List.drop_take, List.take_take, Nat.min_eq_left (by omega)]
theorem okB_take (n : Nat) (l : List Int) : okB n l = okB n (l.take (n * 2)) := by
  rw [Bool.eq_iff_iff, okB_t, okB_t]
  have e : ∀ i, i < n → ∀ j, j < n → sgn (l.take (n * 2)) i ((i + 1) % n) j = sgn l i ((i + 1) % n) j := fun i hi j hj => by
    rw [sgn, sgn, cor_take hi, cor_take (Nat.mod_lt _ (by omega)), cor_take hj]
  exact ⟨fun p => ⟨p.lo, p.hi, fun k hk => by rw [cor_take hk]; exact p.pl k hk, fun i hi j hj h1 h2 => by rw [e i hi j hj]; exact p.cx i hi j hj h1 h2⟩,
    fun p => ⟨p.lo, p.hi, fun k hk => by have := p.pl k hk; rwa [cor_take hk] at this, fun i hi j hj h1 h2 => by have := p.cx i hi j hj h1 h2; rwa [e i hi j hj] at this⟩⟩
theorem rs_okl {V : List (List UInt8)} {l : List Int} (a : AllC V V.length) (hl : l.take (V.length * 2) = csL V V.length) : okB V.length l = rsB V := by
  rw [okB_take, hl, Bool.eq_iff_iff, rsB_t]
  exact ⟨fun h => ⟨a, h⟩, fun p => p.ok⟩
theorem pl_of {n i : Nat} {l : List Int} (h : okB n l = true) (hi : i < n) : (-1000 ≤ l.getD (i * 2) 0 ∧ l.getD (i * 2) 0 ≤ 1000) ∧ -1000 ≤ l.getD (i * 2 + 1) 0 ∧ l.getD (i * 2 + 1) 0 ≤ 1000 := by
  have p := (okB_t.1 h).pl i hi
  have g0 : (cor l i).getD 0 0 = l.getD (i * 2) 0 := by rw [cor, getD_take' (by omega), getD_drop', Nat.add_zero]
  have g1 : (cor l i).getD 1 0 = l.getD (i * 2 + 1) 0 := by rw [cor, getD_take' (by omega), getD_drop']
  have := p.x1; have := p.x2; have := p.y1; have := p.y2
  rw [g0] at *
  rw [g1] at *
  omega
theorem crW_words {l : List Int} {i : Nat} : wds 44 (crW l i) = [Lib.itoa (l.getD (i * 2) 0), Lib.itoa (l.getD (i * 2 + 1) 0)] := by
  rw [crW, wds_app (itoa_no (by decide) (by decide)), wds_free (itoa_no (by decide) (by decide))]
theorem crW_no {l : List Int} {i : Nat} : (32 : UInt8) ∉ crW l i := by
  rw [crW]
  intro h
  rcases List.mem_append.1 h with h | h
  · exact itoa_no (by decide) (by decide) h
  · rcases List.mem_cons.1 h with h | h
    · exact absurd h (by decide)
    · exact itoa_no (by decide) (by decide) h
/-- A stone of which the text is the text: the document reads it. -/
theorem rs_back {s : ByteArray} {n : Nat} {f : Nat → Int} {l : List Int} (h : okB n l = true) (hf : l.take (n * 2) = mkN (n * 2) f) (ht : (stxS n l).data.toList = s.data.toList) : RsP (wds 32 s.data.toList) := by
  have hlo := (okB_t.1 h).lo
  have e : s.data.toList = jnL (crW l) [32] n := by rw [← ht, ← stx_ok h, stoS, bsl_list]
  have hw : wds 32 s.data.toList = (List.range n).map (crW l) := by
    rw [e]
    exact wds_jnL n _ (by omega) fun i hi => crW_no
  rw [hw]
  have g : ∀ i, i < n → ((List.range n).map (crW l)).getD i [] = crW l i := fun i hi => by
    rw [List.getD_eq_getElem?_getD, List.getElem?_map, List.getElem?_range hi]; rfl
  have hlen : ((List.range n).map (crW l)).length = n := by simp
  have q0' : ∀ i, p0 (crW l i) = Lib.itoa (l.getD (i * 2) 0) := fun i => by rw [p0, crW_words]; rfl
  have q1' : ∀ i, p1 (crW l i) = Lib.itoa (l.getD (i * 2 + 1) 0) := fun i => by rw [p1, crW_words]; rfl
  have q : ∀ i, i < n → ScP (crW l i) ∧ sgV (p0 (crW l i)) = l.getD (i * 2) 0 ∧ sgV (p1 (crW l i)) = l.getD (i * 2 + 1) 0 := fun i hi => by
    obtain ⟨b1, b2⟩ := pl_of h hi
    have s1 := sg_itoa (v := l.getD (i * 2) 0) (by omega) (by omega)
    have s2 := sg_itoa (v := l.getD (i * 2 + 1) 0) (by omega) (by omega)
    refine ⟨⟨by rw [crW_words]; rfl, by rw [q0']; exact s1.1, by rw [q1']; exact s2.1, by rw [q0', s1.2]; exact b1, by rw [q1', s2.2]; exact b2⟩, by rw [q0']; exact s1.2, by rw [q1']; exact s2.2⟩
  refine ⟨⟨fun i hi => ?_⟩, ?_⟩
  · rw [hlen] at hi
    rw [g i hi]
    exact (q i hi).1
  · rw [hlen]
    rw [okB_take, hf] at h
    have ec : csL ((List.range n).map (crW l)) n = mkN (n * 2) f := mkN_congr fun i hi => by
      obtain ⟨_, v1, v2⟩ := q (i / 2) (by omega)
      have c := cor_x hf (i := i / 2) (by omega)
      rw [g (i / 2) (by omega)]
      by_cases hi2 : i % 2 = 0
      · rw [if_pos hi2, v1, c.1, show i / 2 * 2 = i by omega]
      · rw [if_neg hi2, v2, c.2, show i / 2 * 2 + 1 = i by omega]
    rw [ec]; exact h
/-- The text of what the document reads is the text. -/
theorem rs_text {s : ByteArray} {l : List Int} (p : RsP (wds 32 s.data.toList)) (hl : l.take ((wds 32 s.data.toList).length * 2) = csL (wds 32 s.data.toList) (wds 32 s.data.toList).length) : (stxS (wds 32 s.data.toList).length l).data.toList = s.data.toList := by
  have hr : okB (wds 32 s.data.toList).length l = true := by rw [rs_okl p.a hl, rsB_t.2 p]
  rw [← stx_ok hr, stoS, bsl_list]
  refine Eq.trans (jnL_congr (n := (wds 32 s.data.toList).length) (V := fun i => (wds 32 s.data.toList).getD i []) (fun i hi => ?_) (Nat.le_refl _)) (jnL_wds 32 _)
  have c := cor_x hl hi
  have q := p.a.ok i hi
  have e := jnL_wds 44 ((wds 32 s.data.toList).getD i [])
  rw [q.two] at e
  rw [crW, c.1, c.2, if_pos (by omega), if_neg (by omega), show i * 2 / 2 = i by omega, show (i * 2 + 1) / 2 = i by omega, itoa_sg q.a, itoa_sg q.b]
  exact e
theorem rs_end {s : ByteArray} {l : List Int} (a : AllR (spK 32 9 s) (spK 32 9 s).length) (hl : l.take ((spK 32 9 s).length * 2) = crL (spK 32 9 s) (spK 32 9 s).length) :
    (okB (spK 32 9 s).length l = true ∧ (stxS (spK 32 9 s).length l).data.toList = s.data.toList) ↔ rsB (wds 32 s.data.toList) = true := by
  rw [rsB_t]
  constructor
  · intro ⟨h1, h2⟩
    exact rs_back h1 hl h2
  · intro p
    have e := rs_sp p
    rw [e] at hl ⊢
    rw [cr_cs p.a] at hl
    exact ⟨by rw [rs_okl p.a hl, rsB_t.2 p], rs_text p hl⟩
theorem rs_same {s : ByteArray} (h : rsB (wds 32 s.data.toList) = true) : rsK (wds 32 s.data.toList) = (spK 32 9 s).length ∧ rsF (wds 32 s.data.toList) = crL (spK 32 9 s) (spK 32 9 s).length ∧ rsE (wds 32 s.data.toList) = 0 := by
  obtain ⟨e1, e2, e3⟩ := rs_ok h
  have p := rsB_t.1 h
  rw [rs_sp p, e1, e2, e3, cr_cs p.a]
  exact ⟨rfl, rfl, rfl⟩
theorem ac_step {V : List (List UInt8)} {k : Nat} (a : AllC V k) (h : ScP (V.getD k [])) : AllC V (k + 1) := ⟨fun i hi => by
  rcases (show i < k ∨ i = k by omega) with h' | rfl
  · exact a.ok i h'
  · exact h⟩
theorem ar_step {V : List (List UInt8)} {k : Nat} (a : AllR V k) (h : rcB (V.getD k []) = true) : AllR V (k + 1) := ⟨fun i hi => by
  rcases (show i < k ∨ i = k by omega) with h' | rfl
  · exact a.ok i h'
  · exact h⟩
theorem mkN_two {k : Nat} {f : Nat → Int} : mkN ((k + 1) * 2) f = mkN (k * 2) f ++ [f (k * 2), f (k * 2 + 1)] := by
  simp [mkN, show (k + 1) * 2 = k * 2 + 1 + 1 by omega, List.range_succ]
/-- One more corner. -/
theorem co_push {f : Nat → Int} {v u : Int} {k N n' : Nat} {L L' : List Int} {cp cp' : Int} (g : Gq 2 k (mkN (k * 2) f) N L cp) (hv : v = f (k * 2)) (hu : u = f (k * 2 + 1)) (h1 : (k : Int) + ((1 : Nat) : Int) ≤ cp') (h2 : n' = cp'.toNat * 2) (h3 : L'.length = n') (h4 : L'.take (((k : Int) + ((1 : Nat) : Int)).toNat * 2) = L.take (k * 2) ++ [v, u]) : Gq 2 (k + 1) (mkN ((k + 1) * 2) f) n' L' cp' := by
  have e : ((k : Int) + ((1 : Nat) : Int)).toNat = k + 1 := by omega
  rw [e] at h4
  rw [mkN_two, ← hv, ← hu]
  exact g.push (by omega) (by omega) h3 h4

theorem scp_of {w : List UInt8} (h1 : (wds 44 w).length = 2) (h2 : sgB (p0 w) = true) (h3 : sgB (p1 w) = true) (h4 : -1000 ≤ sgV (p0 w) ∧ sgV (p0 w) ≤ 1000) (h5 : -1000 ≤ sgV (p1 w) ∧ sgV (p1 w) ≤ 1000) : ScP w := ⟨h1, h2, h3, h4, h5⟩
theorem scp_no {w : List UInt8} (h : (wds 44 w).length ≠ 2) : ¬ ScP w := fun q => h q.two
theorem corners_few {s : ByteArray} (hs : s.size ≤ 1048576) (a : AllC (wds 32 s.data.toList) (wds 32 s.data.toList).length) : (wds 32 s.data.toList).length ≤ 1048576 := by
  have h := wds_few (c := 32) (l := s.data.toList) fun w hw => by
    obtain ⟨i, hi, he⟩ := List.getElem_of_mem hw
    have hk := (a.ok i hi).two
    have e : (wds 32 s.data.toList).getD i [] = w := by rw [List.getD_eq_getElem?_getD, List.getElem?_eq_getElem hi, Option.getD_some, he]
    rw [e] at hk
    refine Nat.pos_of_ne_zero fun h0 => ?_
    rw [List.length_eq_zero_iff.1 h0] at hk
    exact absurd hk (by decide)
  have := size_list s
  omega

/-! ### The program's corner -/
noncomputable def rcR (w : List UInt8) : LV := .tup [.agg [.run [.i16] 2 [rcX w, rcY w]], .c (.bool (rcB w))]
def Erc : List (FuncId × Entry) := [(23, gCut)]
theorem Erc_ok : EntriesOk Tryd.prog (TT mx) Erc := ⟨e_Cut, trivial⟩
def Mrc : List (FuncId × EntryC) := [(24, gPI)]
theorem Mrc_ok : EntriesCOk Tryd.prog (TT mx) Mrc := ⟨e_ParseInt, trivial⟩
noncomputable abbrev Crc : Ctr := ctrOfM Erc Mrc
theorem Crc_ok : CtrOk Tryd.prog (TT mx) Crc := ctrOfM_ok Erc_ok Mrc_ok
noncomputable def ILrc  : List (FuncId × Func × (Nat → LM)) := [
  (25, Tryd.f25, U0)]
theorem ILrc_ok  : InlsOk Tryd.prog ILrc := ⟨⟨Tryd.func25, by kernel_rfl⟩, trivial⟩
theorem x_readCorner (s : ByteArray) (hs : s.size ≤ 1048576) : Fex true (TT mx) (inlN true (TT mx) Crc (lookI ILrc) 4) Crc U0 Tryd.f14 [.a (.c (.str s))] [] (fun lv _ => leL lv (rcR s.data.toList)) := by
  unfold rcR
  refine Go.Sx.by_eq (q := True ∧ True ∧ True ∧ ByteArray.size s ≤ (1048576 : Nat) ∧ True ∧ True ∧ True ∧ True ∧ True ∧ True ∧ True ∧ True ∧ (ByteArray.size (bsl (cutL s.data.toList (ByteArray.mk #[(44 : UInt8)]).data.toList).fst) ≤ (1048576 : Nat) ∧ (10 : Int) = (10 : Int) ∧ ((16 : Int) = (8 : Int) ∨ (16 : Int) = (16 : Int))) ∧ (piB (Int.toNat (16 : Int)) (bsl (cutL s.data.toList (ByteArray.mk #[(44 : UInt8)]).data.toList).fst).data.toList = Bool.true → True ∧ True ∧ True ∧ True ∧ True ∧ True ∧ (ByteArray.size (bsl (cutL s.data.toList (ByteArray.mk #[(44 : UInt8)]).data.toList).snd.fst) ≤ (1048576 : Nat) ∧ (10 : Int) = (10 : Int) ∧ ((16 : Int) = (8 : Int) ∨ (16 : Int) = (16 : Int))) ∧ (piB (Int.toNat (16 : Int)) (bsl (cutL s.data.toList (ByteArray.mk #[(44 : UInt8)]).data.toList).snd.fst).data.toList = Bool.true → True ∧ True ∧ True ∧ True ∧ True ∧ True ∧ True ∧ True ∧ ((!(cutL s.data.toList (ByteArray.mk #[(44 : UInt8)]).data.toList).snd.snd) = Bool.false → True ∧ True ∧ True ∧ True ∧ True ∧ True ∧ True ∧ True ∧ True ∧ True ∧ True ∧ True ∧ True ∧ True ∧ True ∧ True ∧ True ∧ True ∧ (([Go.Sx.EK.i16] = [Go.Sx.EK.i16] ∧ (2 : Nat) = (2 : Nat) ∧ [Go.IntKind.wrap Go.IntKind.i16 (piV (Int.toNat (16 : Int)) (bsl (cutL s.data.toList (ByteArray.mk #[(44 : UInt8)]).data.toList).fst).data.toList), Go.IntKind.wrap Go.IntKind.i16 (piV (Int.toNat (16 : Int)) (bsl (cutL s.data.toList (ByteArray.mk #[(44 : UInt8)]).data.toList).snd.fst).data.toList)] = [rcX s.data.toList, rcY s.data.toList]) ∧ True) ∧ rcB s.data.toList = Bool.true ∧ True) ∧ ((!(cutL s.data.toList (ByteArray.mk #[(44 : UInt8)]).data.toList).snd.snd) = !Bool.false → True ∧ True ∧ True ∧ True ∧ True ∧ True ∧ (([Go.Sx.EK.i16] = [Go.Sx.EK.i16] ∧ (2 : Nat) = (2 : Nat) ∧ [(0 : Int), (0 : Int)] = [rcX s.data.toList, rcY s.data.toList]) ∧ True) ∧ rcB s.data.toList = Bool.false ∧ True)) ∧ (piB (Int.toNat (16 : Int)) (bsl (cutL s.data.toList (ByteArray.mk #[(44 : UInt8)]).data.toList).snd.fst).data.toList = Bool.false → ∀ (x : Int) (t : Go.TypeId) (v : Go.Value), True ∧ True ∧ True ∧ True ∧ True ∧ True ∧ True ∧ True ∧ ((!(cutL s.data.toList (ByteArray.mk #[(44 : UInt8)]).data.toList).snd.snd) = Bool.false → True ∧ True ∧ True ∧ True ∧ True ∧ True ∧ True ∧ True ∧ True ∧ True ∧ (([Go.Sx.EK.i16] = [Go.Sx.EK.i16] ∧ (2 : Nat) = (2 : Nat) ∧ [(0 : Int), (0 : Int)] = [rcX s.data.toList, rcY s.data.toList]) ∧ True) ∧ rcB s.data.toList = Bool.false ∧ True) ∧ ((!(cutL s.data.toList (ByteArray.mk #[(44 : UInt8)]).data.toList).snd.snd) = !Bool.false → True ∧ True ∧ True ∧ True ∧ True ∧ True ∧ (([Go.Sx.EK.i16] = [Go.Sx.EK.i16] ∧ (2 : Nat) = (2 : Nat) ∧ [(0 : Int), (0 : Int)] = [rcX s.data.toList, rcY s.data.toList]) ∧ True) ∧ rcB s.data.toList = Bool.false ∧ True))) ∧ (piB (Int.toNat (16 : Int)) (bsl (cutL s.data.toList (ByteArray.mk #[(44 : UInt8)]).data.toList).fst).data.toList = Bool.false → ∀ (x : Int) (t : Go.TypeId) (v : Go.Value), True ∧ True ∧ True ∧ True ∧ True ∧ True ∧ (ByteArray.size (bsl (cutL s.data.toList (ByteArray.mk #[(44 : UInt8)]).data.toList).snd.fst) ≤ (1048576 : Nat) ∧ (10 : Int) = (10 : Int) ∧ ((16 : Int) = (8 : Int) ∨ (16 : Int) = (16 : Int))) ∧ (piB (Int.toNat (16 : Int)) (bsl (cutL s.data.toList (ByteArray.mk #[(44 : UInt8)]).data.toList).snd.fst).data.toList = Bool.true → True ∧ True ∧ True ∧ True ∧ True ∧ True ∧ True ∧ True ∧ ((!(cutL s.data.toList (ByteArray.mk #[(44 : UInt8)]).data.toList).snd.snd) = Bool.false → True ∧ True ∧ True ∧ True ∧ True ∧ True ∧ True ∧ True ∧ (([Go.Sx.EK.i16] = [Go.Sx.EK.i16] ∧ (2 : Nat) = (2 : Nat) ∧ [(0 : Int), (0 : Int)] = [rcX s.data.toList, rcY s.data.toList]) ∧ True) ∧ rcB s.data.toList = Bool.false ∧ True) ∧ ((!(cutL s.data.toList (ByteArray.mk #[(44 : UInt8)]).data.toList).snd.snd) = !Bool.false → True ∧ True ∧ True ∧ True ∧ True ∧ True ∧ (([Go.Sx.EK.i16] = [Go.Sx.EK.i16] ∧ (2 : Nat) = (2 : Nat) ∧ [(0 : Int), (0 : Int)] = [rcX s.data.toList, rcY s.data.toList]) ∧ True) ∧ rcB s.data.toList = Bool.false ∧ True)) ∧ (piB (Int.toNat (16 : Int)) (bsl (cutL s.data.toList (ByteArray.mk #[(44 : UInt8)]).data.toList).snd.fst).data.toList = Bool.false → ∀ (x : Int) (t : Go.TypeId) (v : Go.Value), True ∧ True ∧ True ∧ True ∧ True ∧ True ∧ True ∧ True ∧ ((!(cutL s.data.toList (ByteArray.mk #[(44 : UInt8)]).data.toList).snd.snd) = Bool.false → True ∧ True ∧ True ∧ True ∧ True ∧ True ∧ True ∧ True ∧ (([Go.Sx.EK.i16] = [Go.Sx.EK.i16] ∧ (2 : Nat) = (2 : Nat) ∧ [(0 : Int), (0 : Int)] = [rcX s.data.toList, rcY s.data.toList]) ∧ True) ∧ rcB s.data.toList = Bool.false ∧ True) ∧ ((!(cutL s.data.toList (ByteArray.mk #[(44 : UInt8)]).data.toList).snd.snd) = !Bool.false → True ∧ True ∧ True ∧ True ∧ True ∧ True ∧ (([Go.Sx.EK.i16] = [Go.Sx.EK.i16] ∧ (2 : Nat) = (2 : Nat) ∧ [(0 : Int), (0 : Int)] = [rcX s.data.toList, rcY s.data.toList]) ∧ True) ∧ rcB s.data.toList = Bool.false ∧ True)))) (by kernel_rfl) ?_
  simp only [true_and, and_true, and_self, decide_eq_true_eq, decide_eq_false_iff_not, Bool.not_eq_true', Bool.not_eq_false', Bool.not_true, Bool.not_false, beq_iff_eq, beq_eq_false_iff_ne, bne_iff_ne, bne_eq_false_iff_eq, ne_eq, not_true_eq_false, not_false_eq_true, false_implies, true_implies, implies_true, forall_const, exists_const, ↓reduceIte, Int.reduceEq, Int.toNat_natCast, Bool.false_eq_true, Bool.true_eq_false, reduceCtorEq, Int.zero_add, Nat.add_zero, Int.ofNat_eq_natCast, Int.toNat_natCast, Nat.mul_one]
  have e16 : Int.toNat 16 = 16 := rfl
  simp only [e16, bsl_list]
  have hsz := size_list s
  have k1 : (bsl (cutL s.data.toList [44]).1).size ≤ 1048576 := by
    have := (cut_len s.data.toList [44]).1
    rw [bsl_size]; omega
  have k2 : (bsl (cutL s.data.toList [44]).2.1).size ≤ 1048576 := by
    have := (cut_len s.data.toList [44]).2
    rw [bsl_size]; omega
  have no : ¬ ((cutL s.data.toList [44]).2.2 = true ∧ piB 16 (cutL s.data.toList [44]).1 = true ∧ piB 16 (cutL s.data.toList [44]).2.1 = true) → [0, 0] = [rcX s.data.toList, rcY s.data.toList] ∧ rcB s.data.toList = false := fun h => by
    have hb : rcB s.data.toList = false := Bool.eq_false_iff.2 fun q => h (rc_t.1 q)
    rw [rcX, rcY, hb]
    exact ⟨rfl, rfl⟩
  have e15 : ((2 ^ (16 - 1) : Nat) : Int) = 32768 := by decide
  refine ⟨hs, ⟨k1, .inr trivial⟩, fun h1 => ⟨⟨k2, .inr trivial⟩, fun h2 => ⟨fun h3 => ?_, fun h3 => no fun q => (by rw [q.1] at h3; cases h3)⟩, fun h2 => ⟨fun h3 => no fun q => (by rw [q.2.2] at h2; cases h2), fun h3 => no fun q => (by rw [q.1] at h3; cases h3)⟩⟩,
    fun h1 => ⟨⟨k2, .inr trivial⟩, fun h2 => ⟨fun h3 => no fun q => (by rw [q.2.1] at h1; cases h1), fun h3 => no fun q => (by rw [q.2.1] at h1; cases h1)⟩, fun h2 => ⟨fun h3 => no fun q => (by rw [q.2.1] at h1; cases h1), fun h3 => no fun q => (by rw [q.2.1] at h1; cases h1)⟩⟩⟩
  have hb : rcB s.data.toList = true := rc_t.2 ⟨h3, h1, h2⟩
  have b1 := pi_bounds h1
  have b2 := pi_bounds h2
  rw [rcX, rcY, if_pos hb, if_pos hb, q0, q1, i16w (by omega) (by omega), i16w (by omega) (by omega)]
  exact ⟨rfl, hb⟩
noncomputable def gRc : Entry := fun args _ => match args with
  | [.a (.c (.str s))] => some (s.size ≤ 1048576, rcR s.data.toList)
  | _ => none
theorem e_readCorner : EntryOk Tryd.prog (TT mx) 14 gRc := by
  refine ⟨fnOk Tryd.func14 (by kernel_rfl) rfl, ?_⟩
  intro args H p r he hp n0 w0 β w vals hG hH hA
  unfold gRc at he
  split at he
  · simp only [Option.some.injEq, Prod.mk.injEq] at he
    obtain ⟨rfl, rfl⟩ := he
    exact entry_bare tt_ok (inlN_ok tt_ok Crc_ok mixed (ILrc_ok).ok 4) Crc_ok mixed Tryd.func14 (x_readCorner _ hp) rfl rfl hG hH hA
  · simp at he


/-! ### Both sides -/
noncomputable def Ers : List (FuncId × Entry) := (10, gSg) :: (14, gRc) :: Est2
theorem Ers_ok : EntriesOk Tryd.prog (TT mx) Ers := ⟨e_l01Signed, e_readCorner, Est2_ok⟩
def Mrs : List (FuncId × EntryC) := [(9, gSpl), (13, gSpN)]
theorem Mrs_ok : EntriesCOk Tryd.prog (TT mx) Mrs := ⟨e_l01Split, e_SplitN, trivial⟩
noncomputable abbrev Crs : Ctr := ctrOfM Ers Mrs
theorem Crs_ok : CtrOk Tryd.prog (TT mx) Crs := ctrOfM_ok Ers_ok Mrs_ok
noncomputable def ILrs  : List (FuncId × Func × (Nat → LM)) := [
  (11, Tryd.f11, U0),
  (19, Tryd.f19, U0)]
theorem ILrs_ok  : InlsOk Tryd.prog ILrs := ⟨⟨Tryd.func11, by kernel_rfl⟩, ⟨Tryd.func19, by kernel_rfl⟩, trivial⟩

noncomputable def lmRsS (V : List (List UInt8)) : LAnn := { ι := Nat × Nat × List Int × Int, inv := fun _ x => x.1 ≤ V.length ∧ AllC V x.1 ∧ Gq 2 x.1 (csL V x.1) x.2.1 x.2.2.1 x.2.2.2, slots := fun _ x => [(5, .a (.c (.slc 2 0 0 2 x.1 x.2.2.2))), (6, .a (.c (.int .i64 x.1)))], blks := fun _ _ => [], μ := fun _ x => V.length - x.1, kills := [1], frs := fun _ x => [.cells true 36 [.run [.i16] x.2.1 x.2.2.1]], mv := fun st => [slotB st 5] }
noncomputable def lmRsI (V : List (List UInt8)) : LAnn := { ι := Nat × Nat × List Int × Int, inv := fun _ x => x.1 ≤ V.length ∧ AllR V x.1 ∧ Gq 2 x.1 (crL V x.1) x.2.1 x.2.2.1 x.2.2.2, slots := fun _ x => [(4, .a (.c (.slc 1 0 0 2 x.1 x.2.2.2))), (12, .a (.c (.int .i64 x.1)))], blks := fun _ _ => [], μ := fun _ x => V.length - x.1, kills := [], frs := fun _ x => [.cells true 36 [.run [.i16] x.2.1 x.2.2.1]], mv := fun st => [slotB st 4] }
theorem x_ReadStoneS (s : ByteArray) (hs : s.size ≤ 1048576) : Fex true (TT mx) (inlN true (TT mx) Crs (lookI ILrs) 4) Crs (fun _ => .inv (lmRsS (wds 32 s.data.toList))) Tryd.f4 [.a (.c (.str s))] []
    (fun lv H' => ∃ x : Nat × List Int × Int, Gq 2 (rsK (wds 32 s.data.toList)) (rsF (wds 32 s.data.toList)) x.1 x.2.1 x.2.2 ∧ leSt ⟨[lv], H'⟩ ⟨[rnL (([] : List Nat).length + ·) (.tup [.c (.slc 0 0 0 2 (rsK (wds 32 s.data.toList)) x.2.2), .c (.int .i64 (rsE (wds 32 s.data.toList)))])], deadsN ([] : List Nat).length ++ [.cells true 36 [.run [.i16] x.1 x.2.1]]⟩ ([] : List Nat).length (resB lv)) := by
  refine Go.Sx.by_eq (q := True ∧ True ∧ True ∧ (ByteArray.size s ≤ (1048576 : Nat) ∧ (0 : Int) ≤ (32 : Int) ∧ (32 : Int) ≤ (255 : Int)) ∧ ∀ (N : Nat) (L : List Int) (cp : Int), Gq (1 : Nat) (List.length (wds (UInt8.ofNat (Int.toNat (32 : Int))) s.data.toList)) (encW (wds (UInt8.ofNat (Int.toNat (32 : Int))) s.data.toList)) N L cp → True ∧ True ∧ True ∧ True ∧ (∃ (x : Nat × Nat × List Int × Int), (x.fst ≤ List.length (wds (32 : UInt8) s.data.toList) ∧ AllC (wds (32 : UInt8) s.data.toList) x.fst ∧ Gq (2 : Nat) x.fst (csL (wds (32 : UInt8) s.data.toList) x.fst) x.snd.fst x.snd.snd.fst x.snd.snd.snd) ∧ (s = s ∧ Go.Sx.Cel.val Go.undef = Go.Sx.Cel.val Go.undef ∧ True ∧ True ∧ Go.Sx.Cel.slc (0 : Nat) (0 : Nat) (0 : Int) (1 : Nat) (↑(List.length (wds (UInt8.ofNat (Int.toNat (32 : Int))) s.data.toList)) : Int) cp = Go.Sx.Cel.slc (0 : Nat) (0 : Nat) (0 : Int) (1 : Nat) (↑(List.length (wds (UInt8.ofNat (Int.toNat (32 : Int))) s.data.toList)) : Int) cp ∧ Go.Sx.Cel.slc (1 : Nat) (0 : Nat) (0 : Int) (2 : Nat) (0 : Int) (0 : Int) = Go.Sx.Cel.slc (1 : Nat) (0 : Nat) (0 : Int) (2 : Nat) (↑x.fst : Int) x.snd.snd.snd ∧ (Go.IntKind.i64 = Go.IntKind.i64 ∧ (0 : Int) = (↑x.fst : Int)) ∧ True ∧ True ∧ True ∧ True ∧ True ∧ s = s ∧ Go.Sx.Cel.slc (0 : Nat) (0 : Nat) (0 : Int) (1 : Nat) (↑(List.length (wds (UInt8.ofNat (Int.toNat (32 : Int))) s.data.toList)) : Int) cp = Go.Sx.Cel.slc (0 : Nat) (0 : Nat) (0 : Int) (1 : Nat) (↑(List.length (wds (UInt8.ofNat (Int.toNat (32 : Int))) s.data.toList)) : Int) cp ∧ Go.Sx.Cel.slc (1 : Nat) (0 : Nat) (0 : Int) (2 : Nat) (0 : Int) (0 : Int) = Go.Sx.Cel.slc (1 : Nat) (0 : Nat) (0 : Int) (2 : Nat) (0 : Int) (0 : Int) ∧ True ∧ True ∧ True ∧ True ∧ True ∧ True ∧ True ∧ True ∧ True ∧ True ∧ True ∧ True ∧ True ∧ True ∧ True ∧ True ∧ True ∧ True ∧ True ∧ True ∧ True ∧ True ∧ True ∧ True ∧ True ∧ True ∧ True ∧ True ∧ True ∧ True ∧ True ∧ True ∧ True ∧ True ∧ True ∧ True ∧ True ∧ True ∧ True ∧ True ∧ True ∧ True ∧ True ∧ True ∧ True ∧ True ∧ True ∧ True ∧ True ∧ True ∧ True ∧ True ∧ True ∧ True ∧ Go.Sx.Cel.val Go.undef = Go.Sx.Cel.val Go.undef ∧ Go.Sx.Cel.val Go.undef = Go.Sx.Cel.val Go.undef ∧ Go.Sx.Cel.val Go.undef = Go.Sx.Cel.val Go.undef ∧ Go.Sx.Cel.val Go.undef = Go.Sx.Cel.val Go.undef ∧ Go.Sx.Cel.val Go.undef = Go.Sx.Cel.val Go.undef ∧ True) ∧ (Bool.true = Bool.true ∧ (9 : Nat) = (9 : Nat) ∧ ([Go.Sx.EK.str] = [Go.Sx.EK.str] ∧ N = N ∧ L = L) ∧ True) ∧ True ∧ (Bool.true = Bool.true ∧ (36 : Nat) = (36 : Nat) ∧ ([Go.Sx.EK.i16] = [Go.Sx.EK.i16] ∧ (0 : Nat) = x.snd.fst ∧ [] = x.snd.snd.fst) ∧ True) ∧ True) ∧ ∀ (x : Nat × Nat × List Int × Int), x.fst ≤ List.length (wds (32 : UInt8) s.data.toList) ∧ AllC (wds (32 : UInt8) s.data.toList) x.fst ∧ Gq (2 : Nat) x.fst (csL (wds (32 : UInt8) s.data.toList) x.fst) x.snd.fst x.snd.snd.fst x.snd.snd.snd → True ∧ True ∧ True ∧ True ∧ (Decidable.decide ((↑x.fst : Int) < (↑(List.length (wds (UInt8.ofNat (Int.toNat (32 : Int))) s.data.toList)) : Int)) = Bool.true → True ∧ True ∧ ((0 : Int) ≤ (↑x.fst : Int) ∧ (↑x.fst : Int) < (↑(List.length (wds (UInt8.ofNat (Int.toNat (32 : Int))) s.data.toList)) : Int)) ∧ ((0 : Int) ≤ (0 : Int) + (↑x.fst : Int) ∧ Int.toNat ((0 : Int) + (↑x.fst : Int)) < N) ∧ (ByteArray.size (Go.Sx.decS (List.getD L (Int.toNat ((0 : Int) + (↑x.fst : Int))) (0 : Int))) ≤ (1048576 : Nat) ∧ (0 : Int) ≤ (44 : Int) ∧ (44 : Int) ≤ (255 : Int)) ∧ ∀ (N_1 : Nat) (L_1 : List Int) (cp_1 : Int), Gq (1 : Nat) (List.length (wds (UInt8.ofNat (Int.toNat (44 : Int))) (Go.Sx.decS (List.getD L (Int.toNat ((0 : Int) + (↑x.fst : Int))) (0 : Int))).data.toList)) (encW (wds (UInt8.ofNat (Int.toNat (44 : Int))) (Go.Sx.decS (List.getD L (Int.toNat ((0 : Int) + (↑x.fst : Int))) (0 : Int))).data.toList)) N_1 L_1 cp_1 → True ∧ True ∧ True ∧ True ∧ (((↑(List.length (wds (UInt8.ofNat (Int.toNat (44 : Int))) (Go.Sx.decS (List.getD L (Int.toNat ((0 : Int) + (↑x.fst : Int))) (0 : Int))).data.toList)) : Int) != (2 : Int)) = Bool.true → True ∧ True ∧ True ∧ ∃ (x : Nat × List Int × Int), Gq (2 : Nat) (rsK (wds (32 : UInt8) s.data.toList)) (rsF (wds (32 : UInt8) s.data.toList)) x.fst x.snd.fst x.snd.snd ∧ ((Go.Sx.Cel.slc (4 : Nat) (0 : Nat) (0 : Int) (2 : Nat) (0 : Int) (0 : Int) = Go.Sx.Cel.slc (4 : Nat) (0 : Nat) (0 : Int) (2 : Nat) (↑(rsK (wds (32 : UInt8) s.data.toList)) : Int) x.snd.snd ∧ (Go.IntKind.i64 = Go.IntKind.i64 ∧ (5 : Int) = rsE (wds (32 : UInt8) s.data.toList)) ∧ True) ∧ True) ∧ (Bool.true = Bool.true ∧ (36 : Nat) = (36 : Nat) ∧ ([Go.Sx.EK.i16] = [Go.Sx.EK.i16] ∧ (0 : Nat) = x.fst ∧ [] = x.snd.fst) ∧ True) ∧ True) ∧ (((↑(List.length (wds (UInt8.ofNat (Int.toNat (44 : Int))) (Go.Sx.decS (List.getD L (Int.toNat ((0 : Int) + (↑x.fst : Int))) (0 : Int))).data.toList)) : Int) != (2 : Int)) = Bool.false → True ∧ ((0 : Int) ≤ (0 : Int) ∧ (0 : Int) < (↑(List.length (wds (UInt8.ofNat (Int.toNat (44 : Int))) (Go.Sx.decS (List.getD L (Int.toNat ((0 : Int) + (↑x.fst : Int))) (0 : Int))).data.toList)) : Int)) ∧ ((0 : Int) ≤ (0 : Int) + (0 : Int) ∧ Int.toNat ((0 : Int) + (0 : Int)) < N_1) ∧ ByteArray.size (Go.Sx.decS (List.getD L_1 (Int.toNat ((0 : Int) + (0 : Int))) (0 : Int))) ≤ (1048576 : Nat) ∧ True ∧ True ∧ True ∧ True ∧ True ∧ True ∧ ((0 : Int) ≤ (1 : Int) ∧ (1 : Int) < (↑(List.length (wds (UInt8.ofNat (Int.toNat (44 : Int))) (Go.Sx.decS (List.getD L (Int.toNat ((0 : Int) + (↑x.fst : Int))) (0 : Int))).data.toList)) : Int)) ∧ ((0 : Int) ≤ (0 : Int) + (1 : Int) ∧ Int.toNat ((0 : Int) + (1 : Int)) < N_1) ∧ ByteArray.size (Go.Sx.decS (List.getD L_1 (Int.toNat ((0 : Int) + (1 : Int))) (0 : Int))) ≤ (1048576 : Nat) ∧ True ∧ True ∧ True ∧ True ∧ True ∧ True ∧ True ∧ True ∧ ((!sgB (Go.Sx.decS (List.getD L_1 (Int.toNat ((0 : Int) + (0 : Int))) (0 : Int))).data.toList) = Bool.false → True ∧ True ∧ True ∧ True ∧ ((!sgB (Go.Sx.decS (List.getD L_1 (Int.toNat ((0 : Int) + (1 : Int))) (0 : Int))).data.toList) = Bool.false → True ∧ True ∧ True ∧ True ∧ True ∧ True ∧ True ∧ True ∧ (Decidable.decide ((-1000 : Int) ≤ sgV (Go.Sx.decS (List.getD L_1 (Int.toNat ((0 : Int) + (0 : Int))) (0 : Int))).data.toList) = Bool.true → True ∧ True ∧ True ∧ True ∧ True ∧ True ∧ True ∧ True ∧ True ∧ ((!Decidable.decide (sgV (Go.Sx.decS (List.getD L_1 (Int.toNat ((0 : Int) + (0 : Int))) (0 : Int))).data.toList ≤ (1000 : Int))) = Bool.false → True ∧ True ∧ True ∧ True ∧ True ∧ True ∧ True ∧ True ∧ (Decidable.decide ((-1000 : Int) ≤ sgV (Go.Sx.decS (List.getD L_1 (Int.toNat ((0 : Int) + (1 : Int))) (0 : Int))).data.toList) = Bool.true → True ∧ True ∧ True ∧ True ∧ True ∧ True ∧ True ∧ True ∧ ((!Decidable.decide (sgV (Go.Sx.decS (List.getD L_1 (Int.toNat ((0 : Int) + (1 : Int))) (0 : Int))).data.toList ≤ (1000 : Int))) = Bool.true → True ∧ True ∧ True ∧ ∃ (x : Nat × List Int × Int), Gq (2 : Nat) (rsK (wds (32 : UInt8) s.data.toList)) (rsF (wds (32 : UInt8) s.data.toList)) x.fst x.snd.fst x.snd.snd ∧ ((Go.Sx.Cel.slc (4 : Nat) (0 : Nat) (0 : Int) (2 : Nat) (0 : Int) (0 : Int) = Go.Sx.Cel.slc (4 : Nat) (0 : Nat) (0 : Int) (2 : Nat) (↑(rsK (wds (32 : UInt8) s.data.toList)) : Int) x.snd.snd ∧ (Go.IntKind.i64 = Go.IntKind.i64 ∧ (5 : Int) = rsE (wds (32 : UInt8) s.data.toList)) ∧ True) ∧ True) ∧ (Bool.true = Bool.true ∧ (36 : Nat) = (36 : Nat) ∧ ([Go.Sx.EK.i16] = [Go.Sx.EK.i16] ∧ (0 : Nat) = x.fst ∧ [] = x.snd.fst) ∧ True) ∧ True) ∧ ((!Decidable.decide (sgV (Go.Sx.decS (List.getD L_1 (Int.toNat ((0 : Int) + (1 : Int))) (0 : Int))).data.toList ≤ (1000 : Int))) = Bool.false → True ∧ True ∧ True ∧ True ∧ True ∧ True ∧ True ∧ ((Int.toNat (0 : Int) + Int.toNat (↑x.fst : Int)) * (2 : Nat) ≤ x.snd.fst ∧ (Int.toNat (0 : Int) + Int.toNat (↑(1 : Nat) : Int)) * (2 : Nat) ≤ (2 : Nat) ∧ ((↑x.fst : Int) + (↑(1 : Nat) : Int)) * (↑(4 : Nat) : Int) ≤ (140737488355328 : Int) ∧ (↑x.fst : Int) + (↑(1 : Nat) : Int) ≤ (9223372036854775807 : Int)) ∧ ((0 : Int) = (0 : Int) ∧ x.snd.fst = Int.toNat x.snd.snd.snd * (2 : Nat)) ∧ ∀ (n : Nat) (L_2 : List Int) (cap : Int), (↑x.fst : Int) + (↑(1 : Nat) : Int) ≤ cap → n = Int.toNat cap * (2 : Nat) → List.length L_2 = n → List.take (Int.toNat ((↑x.fst : Int) + (↑(1 : Nat) : Int)) * (2 : Nat)) L_2 = List.take (Int.toNat (↑x.fst : Int) * (2 : Nat)) (List.drop (Int.toNat (0 : Int) * (2 : Nat)) x.snd.snd.fst) ++ List.take (Int.toNat (↑(1 : Nat) : Int) * (2 : Nat)) (List.drop (Int.toNat (0 : Int) * (2 : Nat)) [Go.IntKind.wrap Go.IntKind.i16 (sgV (Go.Sx.decS (List.getD L_1 (Int.toNat ((0 : Int) + (0 : Int))) (0 : Int))).data.toList), Go.IntKind.wrap Go.IntKind.i16 (sgV (Go.Sx.decS (List.getD L_1 (Int.toNat ((0 : Int) + (1 : Int))) (0 : Int))).data.toList)]) → True ∧ True ∧ ((-9223372036854775808 : Int) ≤ (↑x.fst : Int) + (1 : Int) ∧ (↑x.fst : Int) + (1 : Int) ≤ (9223372036854775807 : Int)) ∧ True ∧ ∃ (y : Nat × Nat × List Int × Int), (y.fst ≤ List.length (wds (32 : UInt8) s.data.toList) ∧ AllC (wds (32 : UInt8) s.data.toList) y.fst ∧ Gq (2 : Nat) y.fst (csL (wds (32 : UInt8) s.data.toList) y.fst) y.snd.fst y.snd.snd.fst y.snd.snd.snd) ∧ List.length (wds (32 : UInt8) s.data.toList) - y.fst < List.length (wds (32 : UInt8) s.data.toList) - x.fst ∧ (s = s ∧ Go.Sx.Cel.val Go.undef = Go.Sx.Cel.val Go.undef ∧ True ∧ True ∧ Go.Sx.Cel.slc (0 : Nat) (0 : Nat) (0 : Int) (1 : Nat) (↑(List.length (wds (UInt8.ofNat (Int.toNat (32 : Int))) s.data.toList)) : Int) cp = Go.Sx.Cel.slc (0 : Nat) (0 : Nat) (0 : Int) (1 : Nat) (↑(List.length (wds (UInt8.ofNat (Int.toNat (32 : Int))) s.data.toList)) : Int) cp ∧ Go.Sx.Cel.slc (5 : Nat) (0 : Nat) (0 : Int) (2 : Nat) ((↑x.fst : Int) + (↑(1 : Nat) : Int)) cap = Go.Sx.Cel.slc (5 : Nat) (0 : Nat) (0 : Int) (2 : Nat) (↑y.fst : Int) y.snd.snd.snd ∧ (Go.IntKind.i64 = Go.IntKind.i64 ∧ (↑x.fst : Int) + (1 : Int) = (↑y.fst : Int)) ∧ True ∧ True ∧ True ∧ True ∧ True ∧ s = s ∧ Go.Sx.Cel.slc (0 : Nat) (0 : Nat) (0 : Int) (1 : Nat) (↑(List.length (wds (UInt8.ofNat (Int.toNat (32 : Int))) s.data.toList)) : Int) cp = Go.Sx.Cel.slc (0 : Nat) (0 : Nat) (0 : Int) (1 : Nat) (↑(List.length (wds (UInt8.ofNat (Int.toNat (32 : Int))) s.data.toList)) : Int) cp ∧ Go.Sx.Cel.slc (1 : Nat) (0 : Nat) (0 : Int) (2 : Nat) (0 : Int) (0 : Int) = Go.Sx.Cel.slc (1 : Nat) (0 : Nat) (0 : Int) (2 : Nat) (0 : Int) (0 : Int) ∧ True ∧ True ∧ True ∧ True ∧ True ∧ True ∧ True ∧ True ∧ True ∧ True ∧ True ∧ True ∧ True ∧ True ∧ True ∧ True ∧ True ∧ True ∧ True ∧ True ∧ True ∧ True ∧ True ∧ True ∧ True ∧ True ∧ True ∧ True ∧ True ∧ True ∧ True ∧ True ∧ True ∧ True ∧ True ∧ True ∧ True ∧ True ∧ True ∧ True ∧ True ∧ True ∧ True ∧ True ∧ True ∧ True ∧ True ∧ True ∧ True ∧ True ∧ True ∧ True ∧ True ∧ True ∧ Go.Sx.Cel.val Go.undef = Go.Sx.Cel.val Go.undef ∧ Go.Sx.Cel.val Go.undef = Go.Sx.Cel.val Go.undef ∧ Go.Sx.Cel.val Go.undef = Go.Sx.Cel.val Go.undef ∧ Go.Sx.Cel.val Go.undef = Go.Sx.Cel.val Go.undef ∧ Go.Sx.Cel.val Go.undef = Go.Sx.Cel.val Go.undef ∧ True) ∧ (Bool.true = Bool.true ∧ (9 : Nat) = (9 : Nat) ∧ ([Go.Sx.EK.str] = [Go.Sx.EK.str] ∧ N = N ∧ L = L) ∧ True) ∧ True ∧ (Bool.true = Bool.true ∧ (36 : Nat) = (36 : Nat) ∧ ([Go.Sx.EK.i16] = [Go.Sx.EK.i16] ∧ n = y.snd.fst ∧ L_2 = y.snd.snd.fst) ∧ True) ∧ True)) ∧ (Decidable.decide ((-1000 : Int) ≤ sgV (Go.Sx.decS (List.getD L_1 (Int.toNat ((0 : Int) + (1 : Int))) (0 : Int))).data.toList) = !Bool.true → True ∧ True ∧ True ∧ True ∧ True ∧ True ∧ True ∧ True ∧ ∃ (x : Nat × List Int × Int), Gq (2 : Nat) (rsK (wds (32 : UInt8) s.data.toList)) (rsF (wds (32 : UInt8) s.data.toList)) x.fst x.snd.fst x.snd.snd ∧ ((Go.Sx.Cel.slc (4 : Nat) (0 : Nat) (0 : Int) (2 : Nat) (0 : Int) (0 : Int) = Go.Sx.Cel.slc (4 : Nat) (0 : Nat) (0 : Int) (2 : Nat) (↑(rsK (wds (32 : UInt8) s.data.toList)) : Int) x.snd.snd ∧ (Go.IntKind.i64 = Go.IntKind.i64 ∧ (5 : Int) = rsE (wds (32 : UInt8) s.data.toList)) ∧ True) ∧ True) ∧ (Bool.true = Bool.true ∧ (36 : Nat) = (36 : Nat) ∧ ([Go.Sx.EK.i16] = [Go.Sx.EK.i16] ∧ (0 : Nat) = x.fst ∧ [] = x.snd.fst) ∧ True) ∧ True)) ∧ ((!Decidable.decide (sgV (Go.Sx.decS (List.getD L_1 (Int.toNat ((0 : Int) + (0 : Int))) (0 : Int))).data.toList ≤ (1000 : Int))) = !Bool.false → True ∧ True ∧ True ∧ True ∧ ∃ (x : Nat × List Int × Int), Gq (2 : Nat) (rsK (wds (32 : UInt8) s.data.toList)) (rsF (wds (32 : UInt8) s.data.toList)) x.fst x.snd.fst x.snd.snd ∧ ((Go.Sx.Cel.slc (4 : Nat) (0 : Nat) (0 : Int) (2 : Nat) (0 : Int) (0 : Int) = Go.Sx.Cel.slc (4 : Nat) (0 : Nat) (0 : Int) (2 : Nat) (↑(rsK (wds (32 : UInt8) s.data.toList)) : Int) x.snd.snd ∧ (Go.IntKind.i64 = Go.IntKind.i64 ∧ (5 : Int) = rsE (wds (32 : UInt8) s.data.toList)) ∧ True) ∧ True) ∧ (Bool.true = Bool.true ∧ (36 : Nat) = (36 : Nat) ∧ ([Go.Sx.EK.i16] = [Go.Sx.EK.i16] ∧ (0 : Nat) = x.fst ∧ [] = x.snd.fst) ∧ True) ∧ True)) ∧ (Decidable.decide ((-1000 : Int) ≤ sgV (Go.Sx.decS (List.getD L_1 (Int.toNat ((0 : Int) + (0 : Int))) (0 : Int))).data.toList) = !Bool.true → True ∧ True ∧ True ∧ True ∧ True ∧ True ∧ True ∧ True ∧ True ∧ True ∧ ∃ (x : Nat × List Int × Int), Gq (2 : Nat) (rsK (wds (32 : UInt8) s.data.toList)) (rsF (wds (32 : UInt8) s.data.toList)) x.fst x.snd.fst x.snd.snd ∧ ((Go.Sx.Cel.slc (4 : Nat) (0 : Nat) (0 : Int) (2 : Nat) (0 : Int) (0 : Int) = Go.Sx.Cel.slc (4 : Nat) (0 : Nat) (0 : Int) (2 : Nat) (↑(rsK (wds (32 : UInt8) s.data.toList)) : Int) x.snd.snd ∧ (Go.IntKind.i64 = Go.IntKind.i64 ∧ (5 : Int) = rsE (wds (32 : UInt8) s.data.toList)) ∧ True) ∧ True) ∧ (Bool.true = Bool.true ∧ (36 : Nat) = (36 : Nat) ∧ ([Go.Sx.EK.i16] = [Go.Sx.EK.i16] ∧ (0 : Nat) = x.fst ∧ [] = x.snd.fst) ∧ True) ∧ True)) ∧ ((!sgB (Go.Sx.decS (List.getD L_1 (Int.toNat ((0 : Int) + (1 : Int))) (0 : Int))).data.toList) = !Bool.false → True ∧ True ∧ True ∧ True ∧ True ∧ True ∧ ∃ (x : Nat × List Int × Int), Gq (2 : Nat) (rsK (wds (32 : UInt8) s.data.toList)) (rsF (wds (32 : UInt8) s.data.toList)) x.fst x.snd.fst x.snd.snd ∧ ((Go.Sx.Cel.slc (4 : Nat) (0 : Nat) (0 : Int) (2 : Nat) (0 : Int) (0 : Int) = Go.Sx.Cel.slc (4 : Nat) (0 : Nat) (0 : Int) (2 : Nat) (↑(rsK (wds (32 : UInt8) s.data.toList)) : Int) x.snd.snd ∧ (Go.IntKind.i64 = Go.IntKind.i64 ∧ (5 : Int) = rsE (wds (32 : UInt8) s.data.toList)) ∧ True) ∧ True) ∧ (Bool.true = Bool.true ∧ (36 : Nat) = (36 : Nat) ∧ ([Go.Sx.EK.i16] = [Go.Sx.EK.i16] ∧ (0 : Nat) = x.fst ∧ [] = x.snd.fst) ∧ True) ∧ True)) ∧ ((!sgB (Go.Sx.decS (List.getD L_1 (Int.toNat ((0 : Int) + (0 : Int))) (0 : Int))).data.toList) = !Bool.false → True ∧ True ∧ True ∧ True ∧ True ∧ True ∧ True ∧ True ∧ ∃ (x : Nat × List Int × Int), Gq (2 : Nat) (rsK (wds (32 : UInt8) s.data.toList)) (rsF (wds (32 : UInt8) s.data.toList)) x.fst x.snd.fst x.snd.snd ∧ ((Go.Sx.Cel.slc (4 : Nat) (0 : Nat) (0 : Int) (2 : Nat) (0 : Int) (0 : Int) = Go.Sx.Cel.slc (4 : Nat) (0 : Nat) (0 : Int) (2 : Nat) (↑(rsK (wds (32 : UInt8) s.data.toList)) : Int) x.snd.snd ∧ (Go.IntKind.i64 = Go.IntKind.i64 ∧ (5 : Int) = rsE (wds (32 : UInt8) s.data.toList)) ∧ True) ∧ True) ∧ (Bool.true = Bool.true ∧ (36 : Nat) = (36 : Nat) ∧ ([Go.Sx.EK.i16] = [Go.Sx.EK.i16] ∧ (0 : Nat) = x.fst ∧ [] = x.snd.fst) ∧ True) ∧ True))) ∧ (Decidable.decide ((↑x.fst : Int) < (↑(List.length (wds (UInt8.ofNat (Int.toNat (32 : Int))) s.data.toList)) : Int)) = Bool.false → True ∧ ((0 : Nat) = (0 : Nat) ∧ (0 : Int) = (0 : Int) ∧ (2 : Nat) = (2 : Nat) ∧ [Go.Sx.EK.i16] = [Go.Sx.EK.i16] ∧ (0 : Int) ≤ (↑x.fst : Int) ∧ (↑x.fst : Int) ≤ (1048576 : Int) ∧ Int.toNat (↑x.fst : Int) * (2 : Nat) ≤ x.snd.fst ∧ List.length x.snd.snd.fst = x.snd.fst ∧ ∀ (i : Nat), i < Int.toNat (↑x.fst : Int) * (2 : Nat) → (-32768 : Int) ≤ List.getD x.snd.snd.fst i (0 : Int) ∧ List.getD x.snd.snd.fst i (0 : Int) ≤ (32767 : Int)) ∧ True ∧ ((!okB (Int.toNat (↑x.fst : Int)) x.snd.snd.fst) = Bool.true → True ∧ True ∧ True ∧ ∃ (x : Nat × List Int × Int), Gq (2 : Nat) (rsK (wds (32 : UInt8) s.data.toList)) (rsF (wds (32 : UInt8) s.data.toList)) x.fst x.snd.fst x.snd.snd ∧ ((Go.Sx.Cel.slc (3 : Nat) (0 : Nat) (0 : Int) (2 : Nat) (0 : Int) (0 : Int) = Go.Sx.Cel.slc (3 : Nat) (0 : Nat) (0 : Int) (2 : Nat) (↑(rsK (wds (32 : UInt8) s.data.toList)) : Int) x.snd.snd ∧ (Go.IntKind.i64 = Go.IntKind.i64 ∧ (5 : Int) = rsE (wds (32 : UInt8) s.data.toList)) ∧ True) ∧ True) ∧ (Bool.true = Bool.true ∧ (36 : Nat) = (36 : Nat) ∧ ([Go.Sx.EK.i16] = [Go.Sx.EK.i16] ∧ (0 : Nat) = x.fst ∧ [] = x.snd.fst) ∧ True) ∧ True) ∧ ((!okB (Int.toNat (↑x.fst : Int)) x.snd.snd.fst) = Bool.false → True ∧ True ∧ True ∧ ∃ (x_1 : Nat × List Int × Int), Gq (2 : Nat) (rsK (wds (32 : UInt8) s.data.toList)) (rsF (wds (32 : UInt8) s.data.toList)) x_1.fst x_1.snd.fst x_1.snd.snd ∧ ((Go.Sx.Cel.slc (2 : Nat) (0 : Nat) (0 : Int) (2 : Nat) (↑x.fst : Int) x.snd.snd.snd = Go.Sx.Cel.slc (2 : Nat) (0 : Nat) (0 : Int) (2 : Nat) (↑(rsK (wds (32 : UInt8) s.data.toList)) : Int) x_1.snd.snd ∧ (Go.IntKind.i64 = Go.IntKind.i64 ∧ (0 : Int) = rsE (wds (32 : UInt8) s.data.toList)) ∧ True) ∧ True) ∧ (Bool.true = Bool.true ∧ (36 : Nat) = (36 : Nat) ∧ ([Go.Sx.EK.i16] = [Go.Sx.EK.i16] ∧ x.snd.fst = x_1.fst ∧ x.snd.snd.fst = x_1.snd.fst) ∧ True) ∧ True))) (by kernel_rfl) ?_
  simp only [true_and, and_true, and_self, decide_eq_true_eq, decide_eq_false_iff_not, Bool.not_eq_true', Bool.not_eq_false', Bool.not_true, Bool.not_false, beq_iff_eq, beq_eq_false_iff_ne, bne_iff_ne, bne_eq_false_iff_eq, ne_eq, not_true_eq_false, not_false_eq_true, false_implies, true_implies, implies_true, forall_const, exists_const, ↓reduceIte, Int.reduceEq, Int.toNat_natCast, Bool.false_eq_true, Bool.true_eq_false, reduceCtorEq, Int.zero_add, Nat.add_zero, Cel.slc.injEq, List.drop_zero, Int.toNat_zero, List.take_succ_cons, List.take_zero, Int.ofNat_eq_natCast, Nat.zero_add, Int.toNat_natCast]
  have e32 : UInt8.ofNat (Int.toNat 32) = 32 := rfl
  have e44 : UInt8.ofNat (Int.toNat 44) = 44 := rfl
  have e01 : Int.toNat 1 = 1 := rfl
  simp only [e32, e44, e01]
  have few := corners_few hs
  have wsz : ∀ i, i < (wds 32 s.data.toList).length → (bsl ((wds 32 s.data.toList).getD i [])).size ≤ 1048576 := fun i hi => Nat.le_trans (wd_size hi) hs
  have vl : (wds 32 s.data.toList).length ≤ 1048577 := by have h1 := wds_len_le 32 s.data.toList; rw [size_list] at h1; omega
  generalize hV : wds 32 s.data.toList = V at *
  refine ⟨⟨hs, by omega, by omega⟩, fun N L cp g => ⟨⟨(0, 0, [], 0), ⟨Nat.zero_le _, ⟨fun i hi => absurd hi (Nat.not_lt_zero _)⟩, Gq.nil⟩, ⟨⟨rfl, rfl⟩, rfl⟩, rfl, rfl⟩, ?_⟩⟩
  have g0 := g.room
  rw [Nat.mul_one] at g0
  have gw : ∀ i, i < V.length → decS (L.getD i 0) = bsl (V.getD i []) := fun i hi => by rw [g.get hi, encW_get hi]
  rintro ⟨k, N1, L1, cp1⟩ ⟨hk, ha, g1⟩
  simp only at hk ha g1 ⊢
  have gr := g1.room
  have ge := g1.e
  refine ⟨fun hlt => ?_, fun hge => ?_⟩
  · have kl : k < V.length := by omega
    have ws := wsz k kl
    rw [gw k kl]
    rw [bsl_list]
    have err := fun (hb : ¬ ScP (V.getD k [])) => rs_err (rs_bad kl hb)
    have step := fun (hb : ScP (V.getD k [])) => ac_step ha hb
    have f0 : ∀ {v : Int}, v = sgV (p0 (V.getD k [])) → v = (fun i => if i % 2 = 0 then sgV (p0 (V.getD (i / 2) [])) else sgV (p1 (V.getD (i / 2) []))) (k * 2) := fun h => by
      simp only
      rw [if_pos (by omega), show k * 2 / 2 = k by omega]; exact h
    have f1 : ∀ {v : Int}, v = sgV (p1 (V.getD k [])) → v = (fun i => if i % 2 = 0 then sgV (p0 (V.getD (i / 2) [])) else sgV (p1 (V.getD (i / 2) []))) (k * 2 + 1) := fun h => by
      simp only
      rw [if_neg (by omega), show (k * 2 + 1) / 2 = k by omega]; exact h
    have ct := scp_of (w := V.getD k [])
    have cno := scp_no (w := V.getD k [])
    generalize V.getD k [] = w at *
    refine ⟨by omega, by omega, ⟨ws, by omega, by omega⟩, fun M L2 cp2 g2 => ⟨fun h2 => err fun q => h2 (by rw [q.two]; rfl), fun h2 => ?_⟩⟩
    have h2 : (wds 44 w).length = 2 := by omega
    have gr2 := g2.room
    have d0 : decS (L2.getD 0 0) = bsl (p0 w) := by rw [g2.get (by omega), encW_get (by omega)]; rfl
    have d1 : decS (L2.getD 1 0) = bsl (p1 w) := by rw [g2.get (by omega), encW_get (by omega)]; rfl
    rw [d0, d1, bsl_list, bsl_list]
    have z0 : (bsl (p0 w)).size ≤ 1048576 := by
      have := wds_le (getD_mem (V := wds 44 w) (i := 0) (by omega))
      rw [bsl_size] at ws ⊢
      exact Nat.le_trans this ws
    have z1 : (bsl (p1 w)).size ≤ 1048576 := by
      have := wds_le (getD_mem (V := wds 44 w) (i := 1) (by omega))
      rw [bsl_size] at ws ⊢
      exact Nat.le_trans this ws
    refine ⟨by omega, by omega, z0, by omega, by omega, z1, fun b0 => ⟨fun b1 => ⟨fun h3 => ⟨fun h4 => ⟨fun h5 => ⟨fun h6 => err fun q => h6 q.bx.2, fun h6 => ?_⟩, fun h5 => err fun q => h5 q.bx.1⟩, fun h4 => err fun q => h4 q.ax.2⟩, fun h3 => err fun q => h3 q.ax.1⟩, fun b1 => err fun q => (by rw [q.b] at b1; cases b1)⟩, fun b0 => err fun q => (by rw [q.a] at b0; cases b0)⟩
    refine ⟨⟨gr, by omega, by omega, by omega⟩, ge, fun n L' cap c1 c2 c3 c4 => ?_⟩
    rw [i16w (by omega) (by omega), i16w (by omega) (by omega), Nat.zero_mul, List.drop_zero, List.drop_zero] at c4
    exact ⟨by omega, (k + 1, n, L', cap), ⟨by simp only; omega, step (ct h2 b0 b1 ⟨h3, h4⟩ ⟨h5, h6⟩), co_push g1 (f0 rfl) (f1 rfl) c1 c2 c3 c4⟩, by simp only; omega, ⟨⟨by simp only; omega, rfl⟩, by simp only; omega⟩, rfl, rfl⟩
  · obtain rfl : k = V.length := by omega
    rw [rs_okl ha g1.t]
    refine ⟨⟨by omega, by have := few ha; omega, gr, g1.l, fun i hi => ?_⟩, fun hb => rs_err hb, fun hb => ?_⟩
    · rw [← getD_take' hi, g1.t, csL, mkN_getD hi]
      have := ha.ok (i / 2) (by omega)
      have h1 := this.ax
      have h2 := this.bx
      split <;> omega
    · obtain ⟨e1, e2, e3⟩ := rs_ok hb
      rw [e1, e2, e3]
      exact ⟨(N1, L1, cp1), g1, ⟨⟨rfl, rfl⟩, rfl⟩, rfl, rfl⟩
theorem x_ReadStoneI (s : ByteArray) (hs : s.size ≤ 1048576) : Fex true (TT mx) (inlN true (TT mx) Crs (lookI ILrs) 4) Crs (fun _ => .inv (lmRsI (spK 32 9 s))) Tryd.f5 [.a (.c (.str s))] []
    (fun lv H' => ∃ x : Nat × List Int × Int, Gq 2 (rsK (wds 32 s.data.toList)) (rsF (wds 32 s.data.toList)) x.1 x.2.1 x.2.2 ∧ leSt ⟨[lv], H'⟩ ⟨[rnL (([] : List Nat).length + ·) (.tup [.c (.slc 0 0 0 2 (rsK (wds 32 s.data.toList)) x.2.2), .c (.int .i64 (rsE (wds 32 s.data.toList)))])], deadsN ([] : List Nat).length ++ [.cells true 36 [.run [.i16] x.1 x.2.1]]⟩ ([] : List Nat).length (resB lv)) := by
  refine Go.Sx.by_eq (q := True ∧ True ∧ True ∧ True ∧ (ByteArray.size s ≤ (1048576 : Nat) ∧ (1 : Nat) = (1 : Nat) ∧ (1 : Int) ≤ (9 : Int) ∧ (9 : Int) ≤ (1000 : Int)) ∧ ∀ (N : Nat) (L : List Int) (cp : Int), Gq (1 : Nat) (List.length (spK (List.getD (ByteArray.mk #[(32 : UInt8)]).data.toList (0 : Nat) (0 : UInt8)) (Int.toNat (9 : Int)) s)) (encW (spK (List.getD (ByteArray.mk #[(32 : UInt8)]).data.toList (0 : Nat) (0 : UInt8)) (Int.toNat (9 : Int)) s)) N L cp → True ∧ True ∧ (∃ (x : Nat × Nat × List Int × Int), (x.fst ≤ List.length (spK (32 : UInt8) (9 : Nat) s) ∧ AllR (spK (32 : UInt8) (9 : Nat) s) x.fst ∧ Gq (2 : Nat) x.fst (crL (spK (32 : UInt8) (9 : Nat) s) x.fst) x.snd.fst x.snd.snd.fst x.snd.snd.snd) ∧ (s = s ∧ Go.Sx.Cel.val Go.undef = Go.Sx.Cel.val Go.undef ∧ True ∧ True ∧ ((0 : Int) = (0 : Int) ∧ (↑x.fst : Int) = (0 : Int) ∧ x.snd.snd.snd = (0 : Int)) ∧ Go.Sx.Cel.val Go.undef = Go.Sx.Cel.val Go.undef ∧ True ∧ True ∧ True ∧ s = s ∧ Go.Sx.Cel.slc (0 : Nat) (0 : Nat) (0 : Int) (1 : Nat) (↑(List.length (spK (List.getD (ByteArray.mk #[(32 : UInt8)]).data.toList (0 : Nat) (0 : UInt8)) (Int.toNat (9 : Int)) s)) : Int) cp = Go.Sx.Cel.slc (0 : Nat) (0 : Nat) (0 : Int) (1 : Nat) (↑(List.length (spK (List.getD (ByteArray.mk #[(32 : UInt8)]).data.toList (0 : Nat) (0 : UInt8)) (Int.toNat (9 : Int)) s)) : Int) cp ∧ (Go.IntKind.i64 = Go.IntKind.i64 ∧ (↑(List.length (spK (List.getD (ByteArray.mk #[(32 : UInt8)]).data.toList (0 : Nat) (0 : UInt8)) (Int.toNat (9 : Int)) s)) : Int) = (↑(List.length (spK (List.getD (ByteArray.mk #[(32 : UInt8)]).data.toList (0 : Nat) (0 : UInt8)) (Int.toNat (9 : Int)) s)) : Int)) ∧ (Go.IntKind.i64 = Go.IntKind.i64 ∧ (0 : Int) = (↑x.fst : Int)) ∧ True ∧ True ∧ True ∧ True ∧ True ∧ True ∧ True ∧ True ∧ True ∧ True ∧ True ∧ True ∧ True ∧ True ∧ True ∧ Go.Sx.Cel.val Go.undef = Go.Sx.Cel.val Go.undef ∧ Go.Sx.Cel.val Go.undef = Go.Sx.Cel.val Go.undef ∧ Go.Sx.Cel.val Go.undef = Go.Sx.Cel.val Go.undef ∧ Go.Sx.Cel.val Go.undef = Go.Sx.Cel.val Go.undef ∧ Go.Sx.Cel.val Go.undef = Go.Sx.Cel.val Go.undef ∧ Go.Sx.Cel.val Go.undef = Go.Sx.Cel.val Go.undef ∧ Go.Sx.Cel.val Go.undef = Go.Sx.Cel.val Go.undef ∧ Go.Sx.Cel.val Go.undef = Go.Sx.Cel.val Go.undef ∧ Go.Sx.Cel.val Go.undef = Go.Sx.Cel.val Go.undef ∧ Go.Sx.Cel.val Go.undef = Go.Sx.Cel.val Go.undef ∧ True) ∧ (Bool.true = Bool.true ∧ (9 : Nat) = (9 : Nat) ∧ ([Go.Sx.EK.str] = [Go.Sx.EK.str] ∧ N = N ∧ L = L) ∧ True) ∧ (x.snd.fst = (0 : Nat) ∧ x.snd.snd.fst = []) ∧ True) ∧ ∀ (x : Nat × Nat × List Int × Int), x.fst ≤ List.length (spK (32 : UInt8) (9 : Nat) s) ∧ AllR (spK (32 : UInt8) (9 : Nat) s) x.fst ∧ Gq (2 : Nat) x.fst (crL (spK (32 : UInt8) (9 : Nat) s) x.fst) x.snd.fst x.snd.snd.fst x.snd.snd.snd → True ∧ (Decidable.decide ((↑x.fst : Int) < (↑(List.length (spK (List.getD (ByteArray.mk #[(32 : UInt8)]).data.toList (0 : Nat) (0 : UInt8)) (Int.toNat (9 : Int)) s)) : Int)) = Bool.true → ((0 : Int) ≤ (↑x.fst : Int) ∧ (↑x.fst : Int) < (↑(List.length (spK (List.getD (ByteArray.mk #[(32 : UInt8)]).data.toList (0 : Nat) (0 : UInt8)) (Int.toNat (9 : Int)) s)) : Int)) ∧ ((0 : Int) ≤ (0 : Int) + (↑x.fst : Int) ∧ Int.toNat ((0 : Int) + (↑x.fst : Int)) < N) ∧ True ∧ True ∧ ByteArray.size (Go.Sx.decS (List.getD L (Int.toNat ((0 : Int) + (↑x.fst : Int))) (0 : Int))) ≤ (1048576 : Nat) ∧ True ∧ True ∧ True ∧ True ∧ True ∧ True ∧ True ∧ True ∧ ((!rcB (Go.Sx.decS (List.getD L (Int.toNat ((0 : Int) + (↑x.fst : Int))) (0 : Int))).data.toList) = Bool.true → True ∧ True ∧ ∃ (x : Nat × List Int × Int), Gq (2 : Nat) (rsK (wds (32 : UInt8) s.data.toList)) (rsF (wds (32 : UInt8) s.data.toList)) x.fst x.snd.fst x.snd.snd ∧ ((((0 : Int) = (0 : Int) ∧ (↑(rsK (wds (32 : UInt8) s.data.toList)) : Int) = (0 : Int) ∧ x.snd.snd = (0 : Int)) ∧ (Go.IntKind.i64 = Go.IntKind.i64 ∧ (5 : Int) = rsE (wds (32 : UInt8) s.data.toList)) ∧ True) ∧ True) ∧ (x.fst = (0 : Nat) ∧ x.snd.fst = []) ∧ True) ∧ ((!rcB (Go.Sx.decS (List.getD L (Int.toNat ((0 : Int) + (↑x.fst : Int))) (0 : Int))).data.toList) = Bool.false → True ∧ True ∧ True ∧ ((Int.toNat (0 : Int) + Int.toNat (↑x.fst : Int)) * (2 : Nat) ≤ x.snd.fst ∧ (Int.toNat (0 : Int) + Int.toNat (↑(1 : Nat) : Int)) * (2 : Nat) ≤ (2 : Nat) ∧ ((↑x.fst : Int) + (↑(1 : Nat) : Int)) * (↑(4 : Nat) : Int) ≤ (140737488355328 : Int) ∧ (↑x.fst : Int) + (↑(1 : Nat) : Int) ≤ (9223372036854775807 : Int)) ∧ ((0 : Int) = (0 : Int) ∧ x.snd.fst = Int.toNat x.snd.snd.snd * (2 : Nat)) ∧ ∀ (n : Nat) (L_1 : List Int) (cap : Int), (↑x.fst : Int) + (↑(1 : Nat) : Int) ≤ cap → n = Int.toNat cap * (2 : Nat) → List.length L_1 = n → List.take (Int.toNat ((↑x.fst : Int) + (↑(1 : Nat) : Int)) * (2 : Nat)) L_1 = List.take (Int.toNat (↑x.fst : Int) * (2 : Nat)) (List.drop (Int.toNat (0 : Int) * (2 : Nat)) x.snd.snd.fst) ++ List.take (Int.toNat (↑(1 : Nat) : Int) * (2 : Nat)) (List.drop (Int.toNat (0 : Int) * (2 : Nat)) ([rcX (Go.Sx.decS (List.getD L (Int.toNat ((0 : Int) + (↑x.fst : Int))) (0 : Int))).data.toList, rcY (Go.Sx.decS (List.getD L (Int.toNat ((0 : Int) + (↑x.fst : Int))) (0 : Int))).data.toList] ++ [])) → True ∧ ((-9223372036854775808 : Int) ≤ (↑x.fst : Int) + (1 : Int) ∧ (↑x.fst : Int) + (1 : Int) ≤ (9223372036854775807 : Int)) ∧ True ∧ ∃ (y : Nat × Nat × List Int × Int), (y.fst ≤ List.length (spK (32 : UInt8) (9 : Nat) s) ∧ AllR (spK (32 : UInt8) (9 : Nat) s) y.fst ∧ Gq (2 : Nat) y.fst (crL (spK (32 : UInt8) (9 : Nat) s) y.fst) y.snd.fst y.snd.snd.fst y.snd.snd.snd) ∧ List.length (spK (32 : UInt8) (9 : Nat) s) - y.fst < List.length (spK (32 : UInt8) (9 : Nat) s) - x.fst ∧ (s = s ∧ Go.Sx.Cel.val Go.undef = Go.Sx.Cel.val Go.undef ∧ True ∧ True ∧ Go.Sx.Cel.slc (4 : Nat) (0 : Nat) (0 : Int) (2 : Nat) ((↑x.fst : Int) + (↑(1 : Nat) : Int)) cap = Go.Sx.Cel.slc (4 : Nat) (0 : Nat) (0 : Int) (2 : Nat) (↑y.fst : Int) y.snd.snd.snd ∧ Go.Sx.Cel.val Go.undef = Go.Sx.Cel.val Go.undef ∧ True ∧ True ∧ True ∧ s = s ∧ Go.Sx.Cel.slc (0 : Nat) (0 : Nat) (0 : Int) (1 : Nat) (↑(List.length (spK (List.getD (ByteArray.mk #[(32 : UInt8)]).data.toList (0 : Nat) (0 : UInt8)) (Int.toNat (9 : Int)) s)) : Int) cp = Go.Sx.Cel.slc (0 : Nat) (0 : Nat) (0 : Int) (1 : Nat) (↑(List.length (spK (List.getD (ByteArray.mk #[(32 : UInt8)]).data.toList (0 : Nat) (0 : UInt8)) (Int.toNat (9 : Int)) s)) : Int) cp ∧ (Go.IntKind.i64 = Go.IntKind.i64 ∧ (↑(List.length (spK (List.getD (ByteArray.mk #[(32 : UInt8)]).data.toList (0 : Nat) (0 : UInt8)) (Int.toNat (9 : Int)) s)) : Int) = (↑(List.length (spK (List.getD (ByteArray.mk #[(32 : UInt8)]).data.toList (0 : Nat) (0 : UInt8)) (Int.toNat (9 : Int)) s)) : Int)) ∧ (Go.IntKind.i64 = Go.IntKind.i64 ∧ (↑x.fst : Int) + (1 : Int) = (↑y.fst : Int)) ∧ True ∧ True ∧ True ∧ True ∧ True ∧ True ∧ True ∧ True ∧ True ∧ True ∧ True ∧ True ∧ True ∧ True ∧ True ∧ Go.Sx.Cel.val Go.undef = Go.Sx.Cel.val Go.undef ∧ Go.Sx.Cel.val Go.undef = Go.Sx.Cel.val Go.undef ∧ Go.Sx.Cel.val Go.undef = Go.Sx.Cel.val Go.undef ∧ Go.Sx.Cel.val Go.undef = Go.Sx.Cel.val Go.undef ∧ Go.Sx.Cel.val Go.undef = Go.Sx.Cel.val Go.undef ∧ Go.Sx.Cel.val Go.undef = Go.Sx.Cel.val Go.undef ∧ Go.Sx.Cel.val Go.undef = Go.Sx.Cel.val Go.undef ∧ Go.Sx.Cel.val Go.undef = Go.Sx.Cel.val Go.undef ∧ Go.Sx.Cel.val Go.undef = Go.Sx.Cel.val Go.undef ∧ Go.Sx.Cel.val Go.undef = Go.Sx.Cel.val Go.undef ∧ True) ∧ (Bool.true = Bool.true ∧ (9 : Nat) = (9 : Nat) ∧ ([Go.Sx.EK.str] = [Go.Sx.EK.str] ∧ N = N ∧ L = L) ∧ True) ∧ (Bool.true = Bool.true ∧ (36 : Nat) = (36 : Nat) ∧ ([Go.Sx.EK.i16] = [Go.Sx.EK.i16] ∧ n = y.snd.fst ∧ L_1 = y.snd.snd.fst) ∧ True) ∧ True)) ∧ (Decidable.decide ((↑x.fst : Int) < (↑(List.length (spK (List.getD (ByteArray.mk #[(32 : UInt8)]).data.toList (0 : Nat) (0 : UInt8)) (Int.toNat (9 : Int)) s)) : Int)) = Bool.false → True ∧ ((0 : Nat) = (0 : Nat) ∧ (0 : Int) = (0 : Int) ∧ (2 : Nat) = (2 : Nat) ∧ [Go.Sx.EK.i16] = [Go.Sx.EK.i16] ∧ (0 : Int) ≤ (↑x.fst : Int) ∧ (↑x.fst : Int) ≤ (1048576 : Int) ∧ Int.toNat (↑x.fst : Int) * (2 : Nat) ≤ x.snd.fst ∧ List.length x.snd.snd.fst = x.snd.fst ∧ ∀ (i : Nat), i < Int.toNat (↑x.fst : Int) * (2 : Nat) → (-32768 : Int) ≤ List.getD x.snd.snd.fst i (0 : Int) ∧ List.getD x.snd.snd.fst i (0 : Int) ≤ (32767 : Int)) ∧ True ∧ True ∧ ((!okB (Int.toNat (↑x.fst : Int)) x.snd.snd.fst) = Bool.false → True ∧ ((0 : Nat) = (0 : Nat) ∧ (0 : Int) = (0 : Int) ∧ (2 : Nat) = (2 : Nat) ∧ [Go.Sx.EK.i16] = [Go.Sx.EK.i16] ∧ (0 : Int) ≤ (↑x.fst : Int) ∧ (↑x.fst : Int) ≤ (1048576 : Int) ∧ Int.toNat (↑x.fst : Int) * (2 : Nat) ≤ x.snd.fst ∧ List.length x.snd.snd.fst = x.snd.fst ∧ ∀ (i : Nat), i < Int.toNat (↑x.fst : Int) * (2 : Nat) → (-32768 : Int) ≤ List.getD x.snd.snd.fst i (0 : Int) ∧ List.getD x.snd.snd.fst i (0 : Int) ≤ (32767 : Int)) ∧ True ∧ True ∧ True ∧ ((!ByteArray.toList (stxS (Int.toNat (↑x.fst : Int)) x.snd.snd.fst) == ByteArray.toList s) = Bool.true → True ∧ True ∧ ∃ (x : Nat × List Int × Int), Gq (2 : Nat) (rsK (wds (32 : UInt8) s.data.toList)) (rsF (wds (32 : UInt8) s.data.toList)) x.fst x.snd.fst x.snd.snd ∧ ((((0 : Int) = (0 : Int) ∧ (↑(rsK (wds (32 : UInt8) s.data.toList)) : Int) = (0 : Int) ∧ x.snd.snd = (0 : Int)) ∧ (Go.IntKind.i64 = Go.IntKind.i64 ∧ (5 : Int) = rsE (wds (32 : UInt8) s.data.toList)) ∧ True) ∧ True) ∧ (x.fst = (0 : Nat) ∧ x.snd.fst = []) ∧ True) ∧ ((!ByteArray.toList (stxS (Int.toNat (↑x.fst : Int)) x.snd.snd.fst) == ByteArray.toList s) = Bool.false → True ∧ True ∧ True ∧ ∃ (x_1 : Nat × List Int × Int), Gq (2 : Nat) (rsK (wds (32 : UInt8) s.data.toList)) (rsF (wds (32 : UInt8) s.data.toList)) x_1.fst x_1.snd.fst x_1.snd.snd ∧ ((Go.Sx.Cel.slc (1 : Nat) (0 : Nat) (0 : Int) (2 : Nat) (↑x.fst : Int) x.snd.snd.snd = Go.Sx.Cel.slc (1 : Nat) (0 : Nat) (0 : Int) (2 : Nat) (↑(rsK (wds (32 : UInt8) s.data.toList)) : Int) x_1.snd.snd ∧ (Go.IntKind.i64 = Go.IntKind.i64 ∧ (0 : Int) = rsE (wds (32 : UInt8) s.data.toList)) ∧ True) ∧ True) ∧ (Bool.true = Bool.true ∧ (36 : Nat) = (36 : Nat) ∧ ([Go.Sx.EK.i16] = [Go.Sx.EK.i16] ∧ x.snd.fst = x_1.fst ∧ x.snd.snd.fst = x_1.snd.fst) ∧ True) ∧ True)) ∧ ((!okB (Int.toNat (↑x.fst : Int)) x.snd.snd.fst) = !Bool.false → True ∧ True ∧ True ∧ ∃ (x : Nat × List Int × Int), Gq (2 : Nat) (rsK (wds (32 : UInt8) s.data.toList)) (rsF (wds (32 : UInt8) s.data.toList)) x.fst x.snd.fst x.snd.snd ∧ ((((0 : Int) = (0 : Int) ∧ (↑(rsK (wds (32 : UInt8) s.data.toList)) : Int) = (0 : Int) ∧ x.snd.snd = (0 : Int)) ∧ (Go.IntKind.i64 = Go.IntKind.i64 ∧ (5 : Int) = rsE (wds (32 : UInt8) s.data.toList)) ∧ True) ∧ True) ∧ (x.fst = (0 : Nat) ∧ x.snd.fst = []) ∧ True))) (by kernel_rfl) ?_
  simp only [true_and, and_true, and_self, decide_eq_true_eq, decide_eq_false_iff_not, Bool.not_eq_true', Bool.not_eq_false', Bool.not_true, Bool.not_false, beq_iff_eq, beq_eq_false_iff_ne, bne_iff_ne, bne_eq_false_iff_eq, ne_eq, not_true_eq_false, not_false_eq_true, false_implies, true_implies, implies_true, forall_const, exists_const, ↓reduceIte, Int.reduceEq, Int.toNat_natCast, Bool.false_eq_true, Bool.true_eq_false, reduceCtorEq, Int.zero_add, Nat.add_zero, Cel.slc.injEq, List.drop_zero, Int.toNat_zero, List.take_succ_cons, List.take_zero, Int.ofNat_eq_natCast, Nat.zero_add, Int.toNat_natCast]
  have e1 : List.getD [(32 : UInt8)] 0 0 = 32 := rfl
  have e2 : Int.toNat 9 = 9 := rfl
  simp only [e1, e2]
  have V1 : (spK 32 9 s).length ≤ 9 := by
    have := splitK_le 32 (min 9 (s.size + 1) - 1) s.data.toList
    unfold spK; omega
  have wsz : ∀ i, i < (spK 32 9 s).length → (bsl ((spK 32 9 s).getD i [])).size ≤ 1048576 := fun i hi => Nat.le_trans (sp_size hi) hs
  have pbad := fun (i : Nat) => rs_pbad (s := s) (i := i)
  have pend := fun (l : List Int) => rs_end (s := s) (l := l)
  have same := rs_same (s := s)
  have hts : ∀ t : ByteArray, t.toList = s.toList ↔ t.data.toList = s.data.toList := fun t => by rw [ByteArray.toList_eq, ByteArray.toList_eq]
  generalize hV : spK 32 9 s = V at *
  refine ⟨⟨hs, by omega, by omega⟩, fun N L cp g => ⟨⟨(0, 0, [], 0), ⟨Nat.zero_le _, ⟨fun i hi => absurd hi (Nat.not_lt_zero _)⟩, Gq.nil⟩, ⟨⟨rfl, rfl⟩, rfl⟩, rfl, rfl⟩, ?_⟩⟩
  have g0 := g.room
  rw [Nat.mul_one] at g0
  have gw : ∀ i, i < V.length → decS (L.getD i 0) = bsl (V.getD i []) := fun i hi => by rw [g.get hi, encW_get hi]
  rintro ⟨k, N1, L1, cp1⟩ ⟨hk, ha, g1⟩
  simp only at hk ha g1 ⊢
  have gr := g1.room
  have ge := g1.e
  have err := rs_err' (V := wds 32 s.data.toList)
  refine ⟨fun hlt => ?_, fun hge => ?_⟩
  · have kl : k < V.length := by omega
    rw [gw k kl]
    rw [bsl_list]
    refine ⟨by omega, by omega, wsz k kl, fun hb => err (pbad k kl hb), fun hb => ?_⟩
    have f0 : rcX (V.getD k []) = (fun i => if i % 2 = 0 then rcX (V.getD (i / 2) []) else rcY (V.getD (i / 2) [])) (k * 2) := by
      simp only
      rw [if_pos (by omega), show k * 2 / 2 = k by omega]
    have f1 : rcY (V.getD k []) = (fun i => if i % 2 = 0 then rcX (V.getD (i / 2) []) else rcY (V.getD (i / 2) [])) (k * 2 + 1) := by
      simp only
      rw [if_neg (by omega), show (k * 2 + 1) / 2 = k by omega]
    refine ⟨⟨gr, by omega, by omega, by omega⟩, ge, fun n L' cap c1 c2 c3 c4 => ?_⟩
    rw [Nat.zero_mul, List.drop_zero, List.drop_zero] at c4
    exact ⟨by omega, (k + 1, n, L', cap), ⟨by simp only; omega, ar_step ha hb, co_push g1 f0 f1 c1 c2 c3 c4⟩, by simp only; omega, ⟨⟨by simp only; omega, rfl⟩, by simp only; omega⟩, rfl, rfl⟩
  · obtain rfl : k = V.length := by omega
    have pe := pend L1 ha g1.t
    have rp : 0 ≤ (V.length : Int) ∧ (V.length : Int) ≤ 1048576 ∧ V.length * 2 ≤ N1 ∧ L1.length = N1 ∧ ∀ i, i < V.length * 2 → -32768 ≤ L1.getD i 0 ∧ L1.getD i 0 ≤ 32767 := ⟨by omega, by omega, gr, g1.l, fun i hi => by
      rw [← getD_take' hi, g1.t, crL, mkN_getD hi]
      have := rc_bounds (V.getD (i / 2) [])
      split <;> omega⟩
    simp only [hts]
    refine ⟨rp, fun h1 => ⟨rp, fun h2 => err ?_, fun h2 => ?_⟩, fun h1 => err ?_⟩
    · rw [Bool.eq_false_iff]; exact fun h => h2 (pe.2 h).2
    · obtain ⟨f1, f2, f3⟩ := same (pe.1 ⟨h1, h2⟩)
      rw [f1, f2, f3]
      exact ⟨(N1, L1, cp1), g1, ⟨⟨rfl, rfl⟩, rfl⟩, rfl, rfl⟩
    · rw [Bool.eq_false_iff]; exact fun h => by rw [(pe.2 h).1] at h1; cases h1

noncomputable def gRst : EntryC := fun args H K => match args with
  | [.a (.c (.str s))] => s.size ≤ 1048576 ∧ withLenP H fun h => ∀ N L cp, Gq 2 (rsK (wds 32 s.data.toList)) (rsF (wds 32 s.data.toList)) N L cp → K (.tup [.c (.slc h 0 0 2 (rsK (wds 32 s.data.toList)) cp), .c (.int .i64 (rsE (wds 32 s.data.toList)))]) (H ++ [.cells true 36 [.run [.i16] N L]])
  | _ => Stuck "read"
theorem e_ReadStoneS : EntryCOk Tryd.prog (TT mx) 4 gRst := by
  refine ⟨fnOk Tryd.func4 (by kernel_rfl) rfl, ?_⟩
  intro args H K h n0 w0 β w vals hG hH hA
  unfold gRst at h
  split at h
  · obtain ⟨hp, hk⟩ := h
    have hk := withLenP_sound hk
    refine (entry_fresh tt_ok (inlN_ok tt_ok Crs_ok mixed (ILrs_ok).ok 4) Crs_ok mixed Tryd.func4 [] (x_ReadStoneS _ hp) rfl (fun _ => rfl) (fun _ => rfl) trivial hG hH (by rw [map_self _ fun c hc => rnL_in0 _ c (List.all_eq_true.1 (show (List.all _ (inL 0)) = true from rfl) c hc)]; exact hA)).mono ?_
    rintro e w' ⟨v, γ, x, rfl, h4, h5, h6⟩
    exact ⟨v, γ, _, _, rfl, hk _ _ _ h4, h5, h6⟩
  · exact h.elim

theorem e_ReadStoneI : EntryCOk Tryd.prog (TT mx) 5 gRst := by
  refine ⟨fnOk Tryd.func5 (by kernel_rfl) rfl, ?_⟩
  intro args H K h n0 w0 β w vals hG hH hA
  unfold gRst at h
  split at h
  · obtain ⟨hp, hk⟩ := h
    have hk := withLenP_sound hk
    refine (entry_fresh tt_ok (inlN_ok tt_ok Crs_ok mixed (ILrs_ok).ok 4) Crs_ok mixed Tryd.func5 [] (x_ReadStoneI _ hp) rfl (fun _ => rfl) (fun _ => rfl) trivial hG hH (by rw [map_self _ fun c hc => rnL_in0 _ c (List.all_eq_true.1 (show (List.all _ (inL 0)) = true from rfl) c hc)]; exact hA)).mono ?_
    rintro e w' ⟨v, γ, x, rfl, h4, h5, h6⟩
    exact ⟨v, γ, _, _, rfl, hk _ _ _ h4, h5, h6⟩
  · exact h.elim

theorem rsK_le {V : List (List UInt8)} : rsK V ≤ 8 := by
  unfold rsK
  split
  · rename_i h
    exact okB_le (rsB_t.1 h).ok
  · omega

end Go.Proofs.YtkjmcfpiddpgdaaDoor
