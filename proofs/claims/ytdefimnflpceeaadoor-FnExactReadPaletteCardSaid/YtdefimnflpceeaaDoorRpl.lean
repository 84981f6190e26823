/- ReadPalette, both sides. No conditions beyond the ranges of the kinds. -/
import Derived.Test.YtdefimnflpceeaaDoorPalv
import Derived.Test.YtdefimnflpceeaaDoorRtn
import Derived.Test.YtdefimnflpceeaaDoorSpl
set_option linter.unusedSimpArgs false
set_option linter.unusedVariables false
namespace Go.Proofs.YtdefimnflpceeaaDoor
open Go.Sx Go.RowKit
variable {mx : Nat → Value}

/-! ### What comes of words -/
/-- The word at a place. -/
def wdA (V : List (List UInt8)) (i : Nat) : ByteArray := bsl (V.getD i [])
def tnL (V : List (List UInt8)) : Nat → List Int
  | 0 => []
  | k + 1 => tnL V k ++ rtL (wdA V k)
theorem rtL_len (s : ByteArray) : (rtL s).length = 3 := by unfold rtL; split <;> rfl
structure AllT (V : List (List UInt8)) (k : Nat) : Prop where
  ok : ∀ i, i < k → rtOk (wdA V i) = true
open Classical in
noncomputable def altB (V : List (List UInt8)) : Bool := decide (AllT V V.length)
theorem altB_t {V : List (List UInt8)} : altB V = true ↔ AllT V V.length := by simp [altB]
noncomputable def rgB (V : List (List UInt8)) : Bool := altB V && palB V.length (tnL V V.length)
noncomputable def rgK (V : List (List UInt8)) : Nat := if rgB V then V.length else 0
noncomputable def rgF (V : List (List UInt8)) : List Int := if rgB V then tnL V V.length else []
noncomputable def rgE (V : List (List UInt8)) : Int := if rgB V then 0 else 5
theorem rg_no {V : List (List UInt8)} (h : rgB V = false) : rgK V = 0 ∧ rgF V = [] ∧ rgE V = 5 := by simp [rgK, rgF, rgE, h]
theorem rg_ok {V : List (List UInt8)} (h : rgB V = true) : rgK V = V.length ∧ rgF V = tnL V V.length ∧ rgE V = 0 := by simp [rgK, rgF, rgE, h]
theorem rg_bad {V : List (List UInt8)} {i : Nat} (hi : i < V.length) (h : rtOk (wdA V i) = false) : rgB V = false := by
  rw [rgB, Bool.and_eq_false_iff]
  exact .inl (Bool.eq_false_iff.2 fun e => by have a := altB_t.1 e; rw [a.ok i hi] at h; cases h)
theorem rg_pal {V : List (List UInt8)} (a : AllT V V.length) : rgB V = palB V.length (tnL V V.length) := by rw [rgB, altB_t.2 a, Bool.true_and]
/-- A word that holds a space is no tone. -/
theorem rt_space {w : List UInt8} (h : (32 : UInt8) ∈ w) : rtOk (bsl w) = false := by
  refine rtOk_f fun ⟨h1, h2, h3, h4, h5, h6, h7, h8⟩ => ?_
  rw [bsl_size] at h1
  obtain ⟨i, hi, he⟩ := List.getElem_of_mem h
  have hb : byteAt (bsl w) (i : Int) = 32 := by
    rw [byteAt_get (bsl w) (by exact hi)]
    have : (bsl w).data.toList[i]'(by exact hi) = 32 := he
    rw [this]; rfl
  have hx32 : hx 32 = -1 := by decide
  rcases (show i = 0 ∨ i = 1 ∨ i = 2 ∨ i = 3 ∨ i = 4 ∨ i = 5 ∨ i = 6 by omega) with rfl | rfl | rfl | rfl | rfl | rfl | rfl
  · have hb : byteAt (bsl w) 0 = 32 := hb
    omega
  · have hb : byteAt (bsl w) 1 = 32 := hb
    rw [hb] at h3; omega
  · have hb : byteAt (bsl w) 2 = 32 := hb
    rw [hb] at h4; omega
  · have hb : byteAt (bsl w) 3 = 32 := hb
    rw [hb] at h5; omega
  · have hb : byteAt (bsl w) 4 = 32 := hb
    rw [hb] at h6; omega
  · have hb : byteAt (bsl w) 5 = 32 := hb
    rw [hb] at h7; omega
  · have hb : byteAt (bsl w) 6 = 32 := hb
    rw [hb] at h8; omega
theorem spK_cases (n : Nat) (s : ByteArray) (hn : 1 ≤ n) : (spK 32 n s = wds 32 s.data.toList ∧ (wds 32 s.data.toList).length ≤ n) ∨ (n < (wds 32 s.data.toList).length ∧ ∃ w ∈ spK 32 n s, (32 : UInt8) ∈ w) := by
  have hsz := size_list s
  have hl := wds_len_le 32 s.data.toList
  rcases splitK_wds 32 (min n (s.size + 1) - 1) s.data.toList with ⟨h1, h2⟩ | ⟨h1, h2⟩
  · exact .inl ⟨h2, by omega⟩
  · exact .inr ⟨by omega, h2⟩
/-- Sixteen pieces are enough. -/
theorem rg_same (s : ByteArray) : rgK (spK 32 16 s) = rgK (wds 32 s.data.toList) ∧ rgF (spK 32 16 s) = rgF (wds 32 s.data.toList) ∧ rgE (spK 32 16 s) = rgE (wds 32 s.data.toList) := by
  rcases spK_cases 16 s (by omega) with ⟨h, _⟩ | ⟨h, w, hw, hc⟩
  · rw [h]; exact ⟨rfl, rfl, rfl⟩
  · obtain ⟨i, hi, he⟩ := List.getElem_of_mem hw
    have b1 : rgB (spK 32 16 s) = false := rg_bad hi (by
      have : wdA (spK 32 16 s) i = bsl w := by rw [wdA, List.getD_eq_getElem?_getD, List.getElem?_eq_getElem hi, Option.getD_some, he]
      rw [this]; exact rt_space hc)
    have b2 : rgB (wds 32 s.data.toList) = false := by
      rw [rgB, Bool.and_eq_false_iff]
      exact .inr (palB_f.2 fun p => by have := p.hi; omega)
    obtain ⟨e1, e2, e3⟩ := rg_no b1
    obtain ⟨f1, f2, f3⟩ := rg_no b2
    rw [e1, e2, e3, f1, f2, f3]
    exact ⟨rfl, rfl, rfl⟩

theorem rcd_take {n k : Nat} {L : List Int} (h : k < n) : rcd 3 (L.take (n * 3)) k = rcd 3 L k := by
  rw [rcd, rcd, List.drop_take, List.take_take, Nat.min_eq_left (by omega)]
theorem pal_take (n : Nat) (L : List Int) : palB n L = palB n (L.take (n * 3)) := by
  rw [Bool.eq_iff_iff, palB_t, palB_t]
  exact ⟨fun p => ⟨p.lo, p.hi, fun i hi k hk => by rw [rcd_take hi, rcd_take (by omega)]; exact p.df i hi k hk⟩, fun p => ⟨p.lo, p.hi, fun i hi k hk => by have := p.df i hi k hk; rwa [rcd_take hi, rcd_take (by omega)] at this⟩⟩
theorem alt_step {V : List (List UInt8)} {k : Nat} (a : AllT V k) (h : rtOk (wdA V k) = true) : AllT V (k + 1) := ⟨fun i hi => by
  rcases (show i < k ∨ i = k by omega) with h' | rfl
  · exact a.ok i h'
  · exact h⟩
theorem few_words {s : ByteArray} (hs : s.size ≤ 1048576) (a : AllT (wds 32 s.data.toList) (wds 32 s.data.toList).length) : (wds 32 s.data.toList).length ≤ 1048576 := by
  have h := wds_few (c := 32) (l := s.data.toList) fun w hw => by
    obtain ⟨i, hi, he⟩ := List.getElem_of_mem hw
    have hk := a.ok i hi
    have e : wdA (wds 32 s.data.toList) i = bsl w := by rw [wdA, List.getD_eq_getElem?_getD, List.getElem?_eq_getElem hi, Option.getD_some, he]
    rw [e] at hk
    refine Nat.pos_of_ne_zero fun h0 => ?_
    have : rtOk (bsl w) = false := rtOk_f fun q => by have := q.1; rw [bsl_size] at this; omega
    rw [this] at hk; cases hk
  have := size_list s
  omega
/-- One more tone. -/
theorem tn_push {V : List (List UInt8)} {k N n' : Nat} {L L' : List Int} {cp cp' : Int} (g : Gq 3 k (tnL V k) N L cp) (h1 : (k : Int) + ((1 : Nat) : Int) ≤ cp') (h2 : n' = cp'.toNat * 3) (h3 : L'.length = n') (h4 : L'.take (((k : Int) + ((1 : Nat) : Int)).toNat * 3) = L.take (k * 3) ++ (rtL (wdA V k) ++ []).take (1 * 3)) : Gq 3 (k + 1) (tnL V (k + 1)) n' L' cp' := by
  have e : ((k : Int) + ((1 : Nat) : Int)).toNat = k + 1 := by omega
  have e3 : (rtL (wdA V k)).take (1 * 3) = rtL (wdA V k) := List.take_of_length_le (by rw [rtL_len]; exact Nat.le_refl _)
  rw [e, List.append_nil, e3] at h4
  exact g.push (by omega) h2 h3 h4

noncomputable def Erp : List (FuncId × Entry) := (10, gRtS) :: (13, gRtI) :: Epv
theorem Erp_ok : EntriesOk Tryd.prog (TT mx) Erp := ⟨e_l02ReadTone, e_ReadToneI, Epv_ok⟩
def Mrp : List (FuncId × EntryC) := [(9, gSpl), (12, gSpN)]
theorem Mrp_ok : EntriesCOk Tryd.prog (TT mx) Mrp := ⟨e_l01Split, e_SplitN, trivial⟩
noncomputable abbrev Crp : Ctr := ctrOfM Erp Mrp
theorem Crp_ok : CtrOk Tryd.prog (TT mx) Crp := ctrOfM_ok Erp_ok Mrp_ok

def lmRpS (V : List (List UInt8)) : LAnn := { ι := Nat × Nat × List Int × Int, inv := fun _ x => x.1 ≤ V.length ∧ AllT V x.1 ∧ Gq 3 x.1 (tnL V x.1) x.2.1 x.2.2.1 x.2.2.2, slots := fun _ x => [(5, .a (.c (.slc 2 0 0 3 x.1 x.2.2.2))), (6, .a (.c (.int .i64 x.1)))], blks := fun _ _ => [], μ := fun _ x => V.length - x.1, kills := [1], frs := fun _ x => [.cells true 32 [.run [.u8] x.2.1 x.2.2.1]], mv := fun st => [slotB st 5] }
def lmRpI (V : List (List UInt8)) : LAnn := { ι := Nat × Nat × List Int × Int, inv := fun _ x => x.1 ≤ V.length ∧ AllT V x.1 ∧ Gq 3 x.1 (tnL V x.1) x.2.1 x.2.2.1 x.2.2.2, slots := fun _ x => [(4, .a (.c (.slc 1 0 0 3 x.1 x.2.2.2))), (12, .a (.c (.int .i64 x.1)))], blks := fun _ _ => [], μ := fun _ x => V.length - x.1, kills := [], frs := fun _ x => [.cells true 32 [.run [.u8] x.2.1 x.2.2.1]], mv := fun st => [slotB st 4] }
theorem x_ReadPaletteS (s : ByteArray) (hs : s.size ≤ 1048576) : Fex true (TT mx) (inlN true (TT mx) Crp (lookI ILz) 4) Crp (fun _ => .inv (lmRpS (wds 32 s.data.toList))) Tryd.f4 [.a (.c (.str s))] []
    (fun lv H' => ∃ x : Nat × List Int × Int, Gq 3 (rgK (wds 32 s.data.toList)) (rgF (wds 32 s.data.toList)) x.1 x.2.1 x.2.2 ∧ leSt ⟨[lv], H'⟩ ⟨[rnL (([] : List Nat).length + ·) (.tup [.c (.slc 0 0 0 3 (rgK (wds 32 s.data.toList)) x.2.2), .c (.int .i64 (rgE (wds 32 s.data.toList)))])], deadsN ([] : List Nat).length ++ [.cells true 32 [.run [.u8] x.1 x.2.1]]⟩ ([] : List Nat).length (resB lv)) := by
  refine Go.Sx.by_eq (q := True ∧ True ∧ True ∧ (ByteArray.size s ≤ (1048576 : Nat) ∧ (0 : Int) ≤ (32 : Int) ∧ (32 : Int) ≤ (255 : Int)) ∧ ∀ (N : Nat) (L : List Int) (cp : Int), Gq (1 : Nat) (List.length (wds (UInt8.ofNat (Int.toNat (32 : Int))) s.data.toList)) (encW (wds (UInt8.ofNat (Int.toNat (32 : Int))) s.data.toList)) N L cp → True ∧ True ∧ True ∧ True ∧ (∃ (x : Nat × Nat × List Int × Int), (x.fst ≤ List.length (wds (32 : UInt8) s.data.toList) ∧ AllT (wds (32 : UInt8) s.data.toList) x.fst ∧ Gq (3 : Nat) x.fst (tnL (wds (32 : UInt8) s.data.toList) x.fst) x.snd.fst x.snd.snd.fst x.snd.snd.snd) ∧ (s = s ∧ Go.Sx.Cel.val Go.undef = Go.Sx.Cel.val Go.undef ∧ True ∧ True ∧ Go.Sx.Cel.slc (0 : Nat) (0 : Nat) (0 : Int) (1 : Nat) (↑(List.length (wds (UInt8.ofNat (Int.toNat (32 : Int))) s.data.toList)) : Int) cp = Go.Sx.Cel.slc (0 : Nat) (0 : Nat) (0 : Int) (1 : Nat) (↑(List.length (wds (UInt8.ofNat (Int.toNat (32 : Int))) s.data.toList)) : Int) cp ∧ Go.Sx.Cel.slc (1 : Nat) (0 : Nat) (0 : Int) (3 : Nat) (0 : Int) (0 : Int) = Go.Sx.Cel.slc (1 : Nat) (0 : Nat) (0 : Int) (3 : Nat) (↑x.fst : Int) x.snd.snd.snd ∧ (Go.IntKind.i64 = Go.IntKind.i64 ∧ (0 : Int) = (↑x.fst : Int)) ∧ True ∧ True ∧ s = s ∧ Go.Sx.Cel.slc (0 : Nat) (0 : Nat) (0 : Int) (1 : Nat) (↑(List.length (wds (UInt8.ofNat (Int.toNat (32 : Int))) s.data.toList)) : Int) cp = Go.Sx.Cel.slc (0 : Nat) (0 : Nat) (0 : Int) (1 : Nat) (↑(List.length (wds (UInt8.ofNat (Int.toNat (32 : Int))) s.data.toList)) : Int) cp ∧ Go.Sx.Cel.slc (1 : Nat) (0 : Nat) (0 : Int) (3 : Nat) (0 : Int) (0 : Int) = Go.Sx.Cel.slc (1 : Nat) (0 : Nat) (0 : Int) (3 : Nat) (0 : Int) (0 : Int) ∧ True ∧ True ∧ True ∧ True ∧ True ∧ True ∧ True ∧ True ∧ True ∧ True ∧ True ∧ True ∧ True ∧ True ∧ True ∧ True ∧ True ∧ True ∧ True ∧ True ∧ True ∧ Go.Sx.Cel.val Go.undef = Go.Sx.Cel.val Go.undef ∧ Go.Sx.Cel.val Go.undef = Go.Sx.Cel.val Go.undef ∧ Go.Sx.Cel.val Go.undef = Go.Sx.Cel.val Go.undef ∧ Go.Sx.Cel.val Go.undef = Go.Sx.Cel.val Go.undef ∧ Go.Sx.Cel.val Go.undef = Go.Sx.Cel.val Go.undef ∧ True) ∧ (Bool.true = Bool.true ∧ (9 : Nat) = (9 : Nat) ∧ ([Go.Sx.EK.str] = [Go.Sx.EK.str] ∧ N = N ∧ L = L) ∧ True) ∧ True ∧ (Bool.true = Bool.true ∧ (32 : Nat) = (32 : Nat) ∧ ([Go.Sx.EK.u8] = [Go.Sx.EK.u8] ∧ (0 : Nat) = x.snd.fst ∧ [] = x.snd.snd.fst) ∧ True) ∧ True) ∧ ∀ (x : Nat × Nat × List Int × Int), x.fst ≤ List.length (wds (32 : UInt8) s.data.toList) ∧ AllT (wds (32 : UInt8) s.data.toList) x.fst ∧ Gq (3 : Nat) x.fst (tnL (wds (32 : UInt8) s.data.toList) x.fst) x.snd.fst x.snd.snd.fst x.snd.snd.snd → True ∧ True ∧ True ∧ True ∧ (Decidable.decide ((↑x.fst : Int) < (↑(List.length (wds (UInt8.ofNat (Int.toNat (32 : Int))) s.data.toList)) : Int)) = Bool.true → True ∧ True ∧ ((0 : Int) ≤ (↑x.fst : Int) ∧ (↑x.fst : Int) < (↑(List.length (wds (UInt8.ofNat (Int.toNat (32 : Int))) s.data.toList)) : Int)) ∧ ((0 : Int) ≤ (0 : Int) + (↑x.fst : Int) ∧ Int.toNat ((0 : Int) + (↑x.fst : Int)) < N) ∧ True ∧ True ∧ True ∧ True ∧ True ∧ True ∧ True ∧ True ∧ True ∧ ((!rtOk (Go.Sx.decS (List.getD L (Int.toNat ((0 : Int) + (↑x.fst : Int))) (0 : Int)))) = Bool.true → True ∧ True ∧ True ∧ ∃ (x : Nat × List Int × Int), Gq (3 : Nat) (rgK (wds (32 : UInt8) s.data.toList)) (rgF (wds (32 : UInt8) s.data.toList)) x.fst x.snd.fst x.snd.snd ∧ ((Go.Sx.Cel.slc (4 : Nat) (0 : Nat) (0 : Int) (3 : Nat) (0 : Int) (0 : Int) = Go.Sx.Cel.slc (4 : Nat) (0 : Nat) (0 : Int) (3 : Nat) (↑(rgK (wds (32 : UInt8) s.data.toList)) : Int) x.snd.snd ∧ (Go.IntKind.i64 = Go.IntKind.i64 ∧ (5 : Int) = rgE (wds (32 : UInt8) s.data.toList)) ∧ True) ∧ True) ∧ (Bool.true = Bool.true ∧ (32 : Nat) = (32 : Nat) ∧ ([Go.Sx.EK.u8] = [Go.Sx.EK.u8] ∧ (0 : Nat) = x.fst ∧ [] = x.snd.fst) ∧ True) ∧ True) ∧ ((!rtOk (Go.Sx.decS (List.getD L (Int.toNat ((0 : Int) + (↑x.fst : Int))) (0 : Int)))) = Bool.false → True ∧ True ∧ True ∧ ((Int.toNat (0 : Int) + Int.toNat (↑x.fst : Int)) * (3 : Nat) ≤ x.snd.fst ∧ (Int.toNat (0 : Int) + Int.toNat (↑(1 : Nat) : Int)) * (3 : Nat) ≤ (3 : Nat) ∧ ((↑x.fst : Int) + (↑(1 : Nat) : Int)) * (↑(3 : Nat) : Int) ≤ (140737488355328 : Int) ∧ (↑x.fst : Int) + (↑(1 : Nat) : Int) ≤ (9223372036854775807 : Int)) ∧ ((0 : Int) = (0 : Int) ∧ x.snd.fst = Int.toNat x.snd.snd.snd * (3 : Nat)) ∧ ∀ (n : Nat) (L_1 : List Int) (cap : Int), (↑x.fst : Int) + (↑(1 : Nat) : Int) ≤ cap → n = Int.toNat cap * (3 : Nat) → List.length L_1 = n → List.take (Int.toNat ((↑x.fst : Int) + (↑(1 : Nat) : Int)) * (3 : Nat)) L_1 = List.take (Int.toNat (↑x.fst : Int) * (3 : Nat)) (List.drop (Int.toNat (0 : Int) * (3 : Nat)) x.snd.snd.fst) ++ List.take (Int.toNat (↑(1 : Nat) : Int) * (3 : Nat)) (List.drop (Int.toNat (0 : Int) * (3 : Nat)) (rtL (Go.Sx.decS (List.getD L (Int.toNat ((0 : Int) + (↑x.fst : Int))) (0 : Int))) ++ [])) → True ∧ True ∧ ((-9223372036854775808 : Int) ≤ (↑x.fst : Int) + (1 : Int) ∧ (↑x.fst : Int) + (1 : Int) ≤ (9223372036854775807 : Int)) ∧ True ∧ ∃ (y : Nat × Nat × List Int × Int), (y.fst ≤ List.length (wds (32 : UInt8) s.data.toList) ∧ AllT (wds (32 : UInt8) s.data.toList) y.fst ∧ Gq (3 : Nat) y.fst (tnL (wds (32 : UInt8) s.data.toList) y.fst) y.snd.fst y.snd.snd.fst y.snd.snd.snd) ∧ List.length (wds (32 : UInt8) s.data.toList) - y.fst < List.length (wds (32 : UInt8) s.data.toList) - x.fst ∧ (s = s ∧ Go.Sx.Cel.val Go.undef = Go.Sx.Cel.val Go.undef ∧ True ∧ True ∧ Go.Sx.Cel.slc (0 : Nat) (0 : Nat) (0 : Int) (1 : Nat) (↑(List.length (wds (UInt8.ofNat (Int.toNat (32 : Int))) s.data.toList)) : Int) cp = Go.Sx.Cel.slc (0 : Nat) (0 : Nat) (0 : Int) (1 : Nat) (↑(List.length (wds (UInt8.ofNat (Int.toNat (32 : Int))) s.data.toList)) : Int) cp ∧ Go.Sx.Cel.slc (5 : Nat) (0 : Nat) (0 : Int) (3 : Nat) ((↑x.fst : Int) + (↑(1 : Nat) : Int)) cap = Go.Sx.Cel.slc (5 : Nat) (0 : Nat) (0 : Int) (3 : Nat) (↑y.fst : Int) y.snd.snd.snd ∧ (Go.IntKind.i64 = Go.IntKind.i64 ∧ (↑x.fst : Int) + (1 : Int) = (↑y.fst : Int)) ∧ True ∧ True ∧ s = s ∧ Go.Sx.Cel.slc (0 : Nat) (0 : Nat) (0 : Int) (1 : Nat) (↑(List.length (wds (UInt8.ofNat (Int.toNat (32 : Int))) s.data.toList)) : Int) cp = Go.Sx.Cel.slc (0 : Nat) (0 : Nat) (0 : Int) (1 : Nat) (↑(List.length (wds (UInt8.ofNat (Int.toNat (32 : Int))) s.data.toList)) : Int) cp ∧ Go.Sx.Cel.slc (1 : Nat) (0 : Nat) (0 : Int) (3 : Nat) (0 : Int) (0 : Int) = Go.Sx.Cel.slc (1 : Nat) (0 : Nat) (0 : Int) (3 : Nat) (0 : Int) (0 : Int) ∧ True ∧ True ∧ True ∧ True ∧ True ∧ True ∧ True ∧ True ∧ True ∧ True ∧ True ∧ True ∧ True ∧ True ∧ True ∧ True ∧ True ∧ True ∧ True ∧ True ∧ True ∧ Go.Sx.Cel.val Go.undef = Go.Sx.Cel.val Go.undef ∧ Go.Sx.Cel.val Go.undef = Go.Sx.Cel.val Go.undef ∧ Go.Sx.Cel.val Go.undef = Go.Sx.Cel.val Go.undef ∧ Go.Sx.Cel.val Go.undef = Go.Sx.Cel.val Go.undef ∧ Go.Sx.Cel.val Go.undef = Go.Sx.Cel.val Go.undef ∧ True) ∧ (Bool.true = Bool.true ∧ (9 : Nat) = (9 : Nat) ∧ ([Go.Sx.EK.str] = [Go.Sx.EK.str] ∧ N = N ∧ L = L) ∧ True) ∧ True ∧ (Bool.true = Bool.true ∧ (32 : Nat) = (32 : Nat) ∧ ([Go.Sx.EK.u8] = [Go.Sx.EK.u8] ∧ n = y.snd.fst ∧ L_1 = y.snd.snd.fst) ∧ True) ∧ True)) ∧ (Decidable.decide ((↑x.fst : Int) < (↑(List.length (wds (UInt8.ofNat (Int.toNat (32 : Int))) s.data.toList)) : Int)) = Bool.false → True ∧ (((32 : Nat) = (32 : Nat) ∧ (0 : Nat) = (0 : Nat) ∧ (0 : Int) = (0 : Int) ∧ (3 : Nat) = (3 : Nat) ∧ [Go.Sx.EK.u8] = [Go.Sx.EK.u8]) ∧ (0 : Int) ≤ (↑x.fst : Int) ∧ (↑x.fst : Int) ≤ (1048576 : Int) ∧ Int.toNat (↑x.fst : Int) * (3 : Nat) ≤ x.snd.fst ∧ List.length x.snd.snd.fst = x.snd.fst) ∧ True ∧ ((!palB (Int.toNat (↑x.fst : Int)) x.snd.snd.fst) = Bool.true → True ∧ True ∧ True ∧ ∃ (x : Nat × List Int × Int), Gq (3 : Nat) (rgK (wds (32 : UInt8) s.data.toList)) (rgF (wds (32 : UInt8) s.data.toList)) x.fst x.snd.fst x.snd.snd ∧ ((Go.Sx.Cel.slc (3 : Nat) (0 : Nat) (0 : Int) (3 : Nat) (0 : Int) (0 : Int) = Go.Sx.Cel.slc (3 : Nat) (0 : Nat) (0 : Int) (3 : Nat) (↑(rgK (wds (32 : UInt8) s.data.toList)) : Int) x.snd.snd ∧ (Go.IntKind.i64 = Go.IntKind.i64 ∧ (5 : Int) = rgE (wds (32 : UInt8) s.data.toList)) ∧ True) ∧ True) ∧ (Bool.true = Bool.true ∧ (32 : Nat) = (32 : Nat) ∧ ([Go.Sx.EK.u8] = [Go.Sx.EK.u8] ∧ (0 : Nat) = x.fst ∧ [] = x.snd.fst) ∧ True) ∧ True) ∧ ((!palB (Int.toNat (↑x.fst : Int)) x.snd.snd.fst) = Bool.false → True ∧ True ∧ True ∧ ∃ (x_1 : Nat × List Int × Int), Gq (3 : Nat) (rgK (wds (32 : UInt8) s.data.toList)) (rgF (wds (32 : UInt8) s.data.toList)) x_1.fst x_1.snd.fst x_1.snd.snd ∧ ((Go.Sx.Cel.slc (2 : Nat) (0 : Nat) (0 : Int) (3 : Nat) (↑x.fst : Int) x.snd.snd.snd = Go.Sx.Cel.slc (2 : Nat) (0 : Nat) (0 : Int) (3 : Nat) (↑(rgK (wds (32 : UInt8) s.data.toList)) : Int) x_1.snd.snd ∧ (Go.IntKind.i64 = Go.IntKind.i64 ∧ (0 : Int) = rgE (wds (32 : UInt8) s.data.toList)) ∧ True) ∧ True) ∧ (Bool.true = Bool.true ∧ (32 : Nat) = (32 : Nat) ∧ ([Go.Sx.EK.u8] = [Go.Sx.EK.u8] ∧ x.snd.fst = x_1.fst ∧ x.snd.snd.fst = x_1.snd.fst) ∧ True) ∧ True))) (by kernel_rfl) ?_
  simp only [true_and, and_true, and_self, decide_eq_true_eq, decide_eq_false_iff_not, Bool.not_eq_true', Bool.not_eq_false', Bool.not_true, Bool.not_false, beq_iff_eq, beq_eq_false_iff_ne, bne_iff_ne, bne_eq_false_iff_eq, ne_eq, not_true_eq_false, not_false_eq_true, false_implies, true_implies, implies_true, forall_const, exists_const, ↓reduceIte, Int.reduceEq, Int.toNat_natCast, Bool.false_eq_true, Bool.true_eq_false, reduceCtorEq, Int.zero_add, Nat.add_zero, Cel.slc.injEq, List.drop_zero, Int.toNat_zero, List.take_succ_cons, List.take_zero, Int.ofNat_eq_natCast, Nat.zero_add, Int.toNat_natCast]
  have e32 : UInt8.ofNat (Int.toNat 32) = 32 := rfl
  simp only [e32]
  have few := few_words hs
  generalize hV : wds 32 s.data.toList = V at *
  refine ⟨⟨hs, by omega, by omega⟩, fun N L cp g => ⟨⟨(0, 0, [], 0), ⟨Nat.zero_le _, ⟨fun i hi => absurd hi (Nat.not_lt_zero _)⟩, Gq.nil⟩, ⟨⟨rfl, rfl⟩, rfl⟩, rfl, rfl⟩, ?_⟩⟩
  have g0 := g.room
  rw [Nat.mul_one] at g0
  have gw : ∀ i, i < V.length → decS (L.getD i 0) = wdA V i := fun i hi => by rw [g.get hi, encW_get hi, wdA]
  rintro ⟨k, N1, L1, cp1⟩ ⟨hk, ha, g1⟩
  simp only at hk ha g1 ⊢
  have gr := g1.room
  have ge := g1.e
  refine ⟨fun hlt => ?_, fun hge => ?_⟩
  · rw [gw k (by omega)]
    refine ⟨by omega, by omega, fun hb => ?_, fun hb => ?_⟩
    · obtain ⟨e1, e2, e3⟩ := rg_no (rg_bad (by omega) hb)
      exact gq_errP e1 e2 e3.symm
    · have vl : V.length ≤ 1048577 := by have h1 := wds_len_le 32 s.data.toList; rw [hV, size_list] at h1; omega
      refine ⟨⟨gr, Nat.le_refl _, by omega, by omega⟩, ge, fun n L' cap c1 c2 c3 c4 => ?_⟩
      rw [Nat.zero_mul, List.drop_zero, List.drop_zero] at c4
      exact ⟨by omega, (k + 1, n, L', cap), ⟨by simp only; omega, alt_step ha hb, tn_push g1 c1 c2 c3 c4⟩, by simp only; omega, ⟨⟨by simp only; omega, rfl⟩, by simp only; omega⟩, rfl, rfl⟩
  · obtain rfl : k = V.length := by omega
    have e : palB V.length L1 = rgB V := by rw [rg_pal ha, pal_take, g1.t]
    rw [e]
    refine ⟨⟨by omega, by have := few ha; omega, gr, g1.l⟩, fun hb => ?_, fun hb => ?_⟩
    · obtain ⟨e1, e2, e3⟩ := rg_no hb
      exact gq_errP e1 e2 e3.symm
    · obtain ⟨e1, e2, e3⟩ := rg_ok hb
      rw [e1, e2, e3]
      exact ⟨(N1, L1, cp1), g1, ⟨⟨rfl, rfl⟩, rfl⟩, rfl, rfl⟩
theorem x_ReadPaletteI (s : ByteArray) (hs : s.size ≤ 1048576) : Fex true (TT mx) (inlN true (TT mx) Crp (lookI ILz) 4) Crp (fun _ => .inv (lmRpI (spK 32 16 s))) Tryd.f5 [.a (.c (.str s))] []
    (fun lv H' => ∃ x : Nat × List Int × Int, Gq 3 (rgK (wds 32 s.data.toList)) (rgF (wds 32 s.data.toList)) x.1 x.2.1 x.2.2 ∧ leSt ⟨[lv], H'⟩ ⟨[rnL (([] : List Nat).length + ·) (.tup [.c (.slc 0 0 0 3 (rgK (wds 32 s.data.toList)) x.2.2), .c (.int .i64 (rgE (wds 32 s.data.toList)))])], deadsN ([] : List Nat).length ++ [.cells true 32 [.run [.u8] x.1 x.2.1]]⟩ ([] : List Nat).length (resB lv)) := by
  refine Go.Sx.by_eq (q := True ∧ True ∧ True ∧ True ∧ (ByteArray.size s ≤ (1048576 : Nat) ∧ (1 : Nat) = (1 : Nat) ∧ (1 : Int) ≤ (16 : Int) ∧ (16 : Int) ≤ (1000 : Int)) ∧ ∀ (N : Nat) (L : List Int) (cp : Int), Gq (1 : Nat) (List.length (spK (List.getD (ByteArray.mk #[(32 : UInt8)]).data.toList (0 : Nat) (0 : UInt8)) (Int.toNat (16 : Int)) s)) (encW (spK (List.getD (ByteArray.mk #[(32 : UInt8)]).data.toList (0 : Nat) (0 : UInt8)) (Int.toNat (16 : Int)) s)) N L cp → True ∧ True ∧ (∃ (x : Nat × Nat × List Int × Int), (x.fst ≤ List.length (spK (32 : UInt8) (16 : Nat) s) ∧ AllT (spK (32 : UInt8) (16 : Nat) s) x.fst ∧ Gq (3 : Nat) x.fst (tnL (spK (32 : UInt8) (16 : Nat) s) x.fst) x.snd.fst x.snd.snd.fst x.snd.snd.snd) ∧ (s = s ∧ Go.Sx.Cel.val Go.undef = Go.Sx.Cel.val Go.undef ∧ True ∧ True ∧ ((0 : Int) = (0 : Int) ∧ (↑x.fst : Int) = (0 : Int) ∧ x.snd.snd.snd = (0 : Int)) ∧ Go.Sx.Cel.val Go.undef = Go.Sx.Cel.val Go.undef ∧ True ∧ True ∧ True ∧ s = s ∧ Go.Sx.Cel.slc (0 : Nat) (0 : Nat) (0 : Int) (1 : Nat) (↑(List.length (spK (List.getD (ByteArray.mk #[(32 : UInt8)]).data.toList (0 : Nat) (0 : UInt8)) (Int.toNat (16 : Int)) s)) : Int) cp = Go.Sx.Cel.slc (0 : Nat) (0 : Nat) (0 : Int) (1 : Nat) (↑(List.length (spK (List.getD (ByteArray.mk #[(32 : UInt8)]).data.toList (0 : Nat) (0 : UInt8)) (Int.toNat (16 : Int)) s)) : Int) cp ∧ (Go.IntKind.i64 = Go.IntKind.i64 ∧ (↑(List.length (spK (List.getD (ByteArray.mk #[(32 : UInt8)]).data.toList (0 : Nat) (0 : UInt8)) (Int.toNat (16 : Int)) s)) : Int) = (↑(List.length (spK (List.getD (ByteArray.mk #[(32 : UInt8)]).data.toList (0 : Nat) (0 : UInt8)) (Int.toNat (16 : Int)) s)) : Int)) ∧ (Go.IntKind.i64 = Go.IntKind.i64 ∧ (0 : Int) = (↑x.fst : Int)) ∧ True ∧ True ∧ True ∧ True ∧ True ∧ True ∧ True ∧ True ∧ True ∧ True ∧ True ∧ True ∧ True ∧ True ∧ True ∧ Go.Sx.Cel.val Go.undef = Go.Sx.Cel.val Go.undef ∧ Go.Sx.Cel.val Go.undef = Go.Sx.Cel.val Go.undef ∧ Go.Sx.Cel.val Go.undef = Go.Sx.Cel.val Go.undef ∧ Go.Sx.Cel.val Go.undef = Go.Sx.Cel.val Go.undef ∧ True) ∧ (Bool.true = Bool.true ∧ (9 : Nat) = (9 : Nat) ∧ ([Go.Sx.EK.str] = [Go.Sx.EK.str] ∧ N = N ∧ L = L) ∧ True) ∧ (x.snd.fst = (0 : Nat) ∧ x.snd.snd.fst = []) ∧ True) ∧ ∀ (x : Nat × Nat × List Int × Int), x.fst ≤ List.length (spK (32 : UInt8) (16 : Nat) s) ∧ AllT (spK (32 : UInt8) (16 : Nat) s) x.fst ∧ Gq (3 : Nat) x.fst (tnL (spK (32 : UInt8) (16 : Nat) s) x.fst) x.snd.fst x.snd.snd.fst x.snd.snd.snd → True ∧ (Decidable.decide ((↑x.fst : Int) < (↑(List.length (spK (List.getD (ByteArray.mk #[(32 : UInt8)]).data.toList (0 : Nat) (0 : UInt8)) (Int.toNat (16 : Int)) s)) : Int)) = Bool.true → ((0 : Int) ≤ (↑x.fst : Int) ∧ (↑x.fst : Int) < (↑(List.length (spK (List.getD (ByteArray.mk #[(32 : UInt8)]).data.toList (0 : Nat) (0 : UInt8)) (Int.toNat (16 : Int)) s)) : Int)) ∧ ((0 : Int) ≤ (0 : Int) + (↑x.fst : Int) ∧ Int.toNat ((0 : Int) + (↑x.fst : Int)) < N) ∧ True ∧ True ∧ True ∧ True ∧ True ∧ True ∧ True ∧ True ∧ True ∧ True ∧ True ∧ (((if rtOk (Go.Sx.decS (List.getD L (Int.toNat ((0 : Int) + (↑x.fst : Int))) (0 : Int))) = Bool.true then (0 : Int) else (5 : Int)) != (0 : Int)) = Bool.true → True ∧ True ∧ ∃ (x : Nat × List Int × Int), Gq (3 : Nat) (rgK (wds (32 : UInt8) s.data.toList)) (rgF (wds (32 : UInt8) s.data.toList)) x.fst x.snd.fst x.snd.snd ∧ ((((0 : Int) = (0 : Int) ∧ (↑(rgK (wds (32 : UInt8) s.data.toList)) : Int) = (0 : Int) ∧ x.snd.snd = (0 : Int)) ∧ (Go.IntKind.i64 = Go.IntKind.i64 ∧ (5 : Int) = rgE (wds (32 : UInt8) s.data.toList)) ∧ True) ∧ True) ∧ (x.fst = (0 : Nat) ∧ x.snd.fst = []) ∧ True) ∧ (((if rtOk (Go.Sx.decS (List.getD L (Int.toNat ((0 : Int) + (↑x.fst : Int))) (0 : Int))) = Bool.true then (0 : Int) else (5 : Int)) != (0 : Int)) = Bool.false → True ∧ True ∧ True ∧ ((Int.toNat (0 : Int) + Int.toNat (↑x.fst : Int)) * (3 : Nat) ≤ x.snd.fst ∧ (Int.toNat (0 : Int) + Int.toNat (↑(1 : Nat) : Int)) * (3 : Nat) ≤ (3 : Nat) ∧ ((↑x.fst : Int) + (↑(1 : Nat) : Int)) * (↑(3 : Nat) : Int) ≤ (140737488355328 : Int) ∧ (↑x.fst : Int) + (↑(1 : Nat) : Int) ≤ (9223372036854775807 : Int)) ∧ ((0 : Int) = (0 : Int) ∧ x.snd.fst = Int.toNat x.snd.snd.snd * (3 : Nat)) ∧ ∀ (n : Nat) (L_1 : List Int) (cap : Int), (↑x.fst : Int) + (↑(1 : Nat) : Int) ≤ cap → n = Int.toNat cap * (3 : Nat) → List.length L_1 = n → List.take (Int.toNat ((↑x.fst : Int) + (↑(1 : Nat) : Int)) * (3 : Nat)) L_1 = List.take (Int.toNat (↑x.fst : Int) * (3 : Nat)) (List.drop (Int.toNat (0 : Int) * (3 : Nat)) x.snd.snd.fst) ++ List.take (Int.toNat (↑(1 : Nat) : Int) * (3 : Nat)) (List.drop (Int.toNat (0 : Int) * (3 : Nat)) (rtL (Go.Sx.decS (List.getD L (Int.toNat ((0 : Int) + (↑x.fst : Int))) (0 : Int))) ++ [])) → True ∧ ((-9223372036854775808 : Int) ≤ (↑x.fst : Int) + (1 : Int) ∧ (↑x.fst : Int) + (1 : Int) ≤ (9223372036854775807 : Int)) ∧ True ∧ ∃ (y : Nat × Nat × List Int × Int), (y.fst ≤ List.length (spK (32 : UInt8) (16 : Nat) s) ∧ AllT (spK (32 : UInt8) (16 : Nat) s) y.fst ∧ Gq (3 : Nat) y.fst (tnL (spK (32 : UInt8) (16 : Nat) s) y.fst) y.snd.fst y.snd.snd.fst y.snd.snd.snd) ∧ List.length (spK (32 : UInt8) (16 : Nat) s) - y.fst < List.length (spK (32 : UInt8) (16 : Nat) s) - x.fst ∧ (s = s ∧ Go.Sx.Cel.val Go.undef = Go.Sx.Cel.val Go.undef ∧ True ∧ True ∧ Go.Sx.Cel.slc (4 : Nat) (0 : Nat) (0 : Int) (3 : Nat) ((↑x.fst : Int) + (↑(1 : Nat) : Int)) cap = Go.Sx.Cel.slc (4 : Nat) (0 : Nat) (0 : Int) (3 : Nat) (↑y.fst : Int) y.snd.snd.snd ∧ Go.Sx.Cel.val Go.undef = Go.Sx.Cel.val Go.undef ∧ True ∧ True ∧ True ∧ s = s ∧ Go.Sx.Cel.slc (0 : Nat) (0 : Nat) (0 : Int) (1 : Nat) (↑(List.length (spK (List.getD (ByteArray.mk #[(32 : UInt8)]).data.toList (0 : Nat) (0 : UInt8)) (Int.toNat (16 : Int)) s)) : Int) cp = Go.Sx.Cel.slc (0 : Nat) (0 : Nat) (0 : Int) (1 : Nat) (↑(List.length (spK (List.getD (ByteArray.mk #[(32 : UInt8)]).data.toList (0 : Nat) (0 : UInt8)) (Int.toNat (16 : Int)) s)) : Int) cp ∧ (Go.IntKind.i64 = Go.IntKind.i64 ∧ (↑(List.length (spK (List.getD (ByteArray.mk #[(32 : UInt8)]).data.toList (0 : Nat) (0 : UInt8)) (Int.toNat (16 : Int)) s)) : Int) = (↑(List.length (spK (List.getD (ByteArray.mk #[(32 : UInt8)]).data.toList (0 : Nat) (0 : UInt8)) (Int.toNat (16 : Int)) s)) : Int)) ∧ (Go.IntKind.i64 = Go.IntKind.i64 ∧ (↑x.fst : Int) + (1 : Int) = (↑y.fst : Int)) ∧ True ∧ True ∧ True ∧ True ∧ True ∧ True ∧ True ∧ True ∧ True ∧ True ∧ True ∧ True ∧ True ∧ True ∧ True ∧ Go.Sx.Cel.val Go.undef = Go.Sx.Cel.val Go.undef ∧ Go.Sx.Cel.val Go.undef = Go.Sx.Cel.val Go.undef ∧ Go.Sx.Cel.val Go.undef = Go.Sx.Cel.val Go.undef ∧ Go.Sx.Cel.val Go.undef = Go.Sx.Cel.val Go.undef ∧ True) ∧ (Bool.true = Bool.true ∧ (9 : Nat) = (9 : Nat) ∧ ([Go.Sx.EK.str] = [Go.Sx.EK.str] ∧ N = N ∧ L = L) ∧ True) ∧ (Bool.true = Bool.true ∧ (32 : Nat) = (32 : Nat) ∧ ([Go.Sx.EK.u8] = [Go.Sx.EK.u8] ∧ n = y.snd.fst ∧ L_1 = y.snd.snd.fst) ∧ True) ∧ True)) ∧ (Decidable.decide ((↑x.fst : Int) < (↑(List.length (spK (List.getD (ByteArray.mk #[(32 : UInt8)]).data.toList (0 : Nat) (0 : UInt8)) (Int.toNat (16 : Int)) s)) : Int)) = Bool.false → True ∧ (((32 : Nat) = (32 : Nat) ∧ (0 : Nat) = (0 : Nat) ∧ (0 : Int) = (0 : Int) ∧ (3 : Nat) = (3 : Nat) ∧ [Go.Sx.EK.u8] = [Go.Sx.EK.u8]) ∧ (0 : Int) ≤ (↑x.fst : Int) ∧ (↑x.fst : Int) ≤ (1048576 : Int) ∧ Int.toNat (↑x.fst : Int) * (3 : Nat) ≤ x.snd.fst ∧ List.length x.snd.snd.fst = x.snd.fst) ∧ True ∧ ((!palB (Int.toNat (↑x.fst : Int)) x.snd.snd.fst) = Bool.true → True ∧ True ∧ ∃ (x : Nat × List Int × Int), Gq (3 : Nat) (rgK (wds (32 : UInt8) s.data.toList)) (rgF (wds (32 : UInt8) s.data.toList)) x.fst x.snd.fst x.snd.snd ∧ ((((0 : Int) = (0 : Int) ∧ (↑(rgK (wds (32 : UInt8) s.data.toList)) : Int) = (0 : Int) ∧ x.snd.snd = (0 : Int)) ∧ (Go.IntKind.i64 = Go.IntKind.i64 ∧ (5 : Int) = rgE (wds (32 : UInt8) s.data.toList)) ∧ True) ∧ True) ∧ (x.fst = (0 : Nat) ∧ x.snd.fst = []) ∧ True) ∧ ((!palB (Int.toNat (↑x.fst : Int)) x.snd.snd.fst) = Bool.false → True ∧ True ∧ True ∧ ∃ (x_1 : Nat × List Int × Int), Gq (3 : Nat) (rgK (wds (32 : UInt8) s.data.toList)) (rgF (wds (32 : UInt8) s.data.toList)) x_1.fst x_1.snd.fst x_1.snd.snd ∧ ((Go.Sx.Cel.slc (1 : Nat) (0 : Nat) (0 : Int) (3 : Nat) (↑x.fst : Int) x.snd.snd.snd = Go.Sx.Cel.slc (1 : Nat) (0 : Nat) (0 : Int) (3 : Nat) (↑(rgK (wds (32 : UInt8) s.data.toList)) : Int) x_1.snd.snd ∧ (Go.IntKind.i64 = Go.IntKind.i64 ∧ (0 : Int) = rgE (wds (32 : UInt8) s.data.toList)) ∧ True) ∧ True) ∧ (Bool.true = Bool.true ∧ (32 : Nat) = (32 : Nat) ∧ ([Go.Sx.EK.u8] = [Go.Sx.EK.u8] ∧ x.snd.fst = x_1.fst ∧ x.snd.snd.fst = x_1.snd.fst) ∧ True) ∧ True))) (by kernel_rfl) ?_
  simp only [true_and, and_true, and_self, decide_eq_true_eq, decide_eq_false_iff_not, Bool.not_eq_true', Bool.not_eq_false', Bool.not_true, Bool.not_false, beq_iff_eq, beq_eq_false_iff_ne, bne_iff_ne, bne_eq_false_iff_eq, ne_eq, not_true_eq_false, not_false_eq_true, false_implies, true_implies, implies_true, forall_const, exists_const, ↓reduceIte, Int.reduceEq, Int.toNat_natCast, Bool.false_eq_true, Bool.true_eq_false, reduceCtorEq, Int.zero_add, Nat.add_zero, Cel.slc.injEq, List.drop_zero, Int.toNat_zero, List.take_succ_cons, List.take_zero, Int.ofNat_eq_natCast, Nat.zero_add, Int.toNat_natCast]
  simp only [List.getD_cons_zero, show Int.toNat 16 = 16 from rfl]
  obtain ⟨r1, r2, r3⟩ := rg_same s
  rw [← r1, ← r2, ← r3]
  have few : AllT (spK 32 16 s) (spK 32 16 s).length → (spK 32 16 s).length ≤ 1048576 := fun _ => by
    have := splitK_le 32 (min 16 (s.size + 1) - 1) s.data.toList
    unfold spK; omega
  generalize hV : spK 32 16 s = V at *
  refine ⟨⟨hs, by omega, by omega⟩, fun N L cp g => ⟨⟨(0, 0, [], 0), ⟨Nat.zero_le _, ⟨fun i hi => absurd hi (Nat.not_lt_zero _)⟩, Gq.nil⟩, ⟨⟨rfl, rfl⟩, rfl⟩, rfl, rfl⟩, ?_⟩⟩
  have g0 := g.room
  rw [Nat.mul_one] at g0
  have gw : ∀ i, i < V.length → decS (L.getD i 0) = wdA V i := fun i hi => by rw [g.get hi, encW_get hi, wdA]
  rintro ⟨k, N1, L1, cp1⟩ ⟨hk, ha, g1⟩
  simp only at hk ha g1 ⊢
  have gr := g1.room
  have ge := g1.e
  refine ⟨fun hlt => ?_, fun hge => ?_⟩
  · rw [gw k (by omega)]
    refine ⟨by omega, by omega, fun hb => ?_, fun hb => ?_⟩
    · have hb : rtOk (wdA V k) = false := Bool.eq_false_iff.2 fun h => hb (by rw [if_pos h])
      obtain ⟨e1, e2, e3⟩ := rg_no (rg_bad (by omega) hb)
      exact gq_errP' e1 e2 e3.symm
    · have hb : rtOk (wdA V k) = true := by
        by_cases h : rtOk (wdA V k) = true
        · exact h
        · rw [if_neg h] at hb; cases hb
      have vl : V.length ≤ 1048577 := by have := splitK_le 32 (min 16 (s.size + 1) - 1) s.data.toList; rw [← hV]; unfold spK; omega
      refine ⟨⟨gr, Nat.le_refl _, by omega, by omega⟩, ge, fun n L' cap c1 c2 c3 c4 => ?_⟩
      rw [Nat.zero_mul, List.drop_zero, List.drop_zero] at c4
      exact ⟨by omega, (k + 1, n, L', cap), ⟨by simp only; omega, alt_step ha hb, tn_push g1 c1 c2 c3 c4⟩, by simp only; omega, ⟨⟨by simp only; omega, rfl⟩, by simp only; omega⟩, rfl, rfl⟩
  · obtain rfl : k = V.length := by omega
    have e : palB V.length L1 = rgB V := by rw [rg_pal ha, pal_take, g1.t]
    rw [e]
    refine ⟨⟨by omega, by have := few ha; omega, gr, g1.l⟩, fun hb => ?_, fun hb => ?_⟩
    · obtain ⟨e1, e2, e3⟩ := rg_no hb
      exact gq_errP' e1 e2 e3.symm
    · obtain ⟨e1, e2, e3⟩ := rg_ok hb
      rw [e1, e2, e3]
      exact ⟨(N1, L1, cp1), g1, ⟨⟨rfl, rfl⟩, rfl⟩, rfl, rfl⟩

noncomputable def gRpl : EntryC := fun args H K => match args with
  | [.a (.c (.str s))] => s.size ≤ 1048576 ∧ withLenP H fun h => ∀ N L cp, Gq 3 (rgK (wds 32 s.data.toList)) (rgF (wds 32 s.data.toList)) N L cp → K (.tup [.c (.slc h 0 0 3 (rgK (wds 32 s.data.toList)) cp), .c (.int .i64 (rgE (wds 32 s.data.toList)))]) (H ++ [.cells true 32 [.run [.u8] N L]])
  | _ => Stuck "read"
theorem e_ReadPaletteS : EntryCOk Tryd.prog (TT mx) 4 gRpl := by
  refine ⟨fnOk Tryd.func4 (by kernel_rfl) rfl, ?_⟩
  intro args H K h n0 w0 β w vals hG hH hA
  unfold gRpl at h
  split at h
  · obtain ⟨hp, hk⟩ := h
    have hk := withLenP_sound hk
    refine (entry_fresh tt_ok (inlN_ok tt_ok Crp_ok mixed (ILz_ok).ok 4) Crp_ok mixed Tryd.func4 [] (x_ReadPaletteS _ hp) rfl (fun _ => rfl) (fun _ => rfl) trivial hG hH (by rw [map_self _ fun c hc => rnL_in0 _ c (List.all_eq_true.1 (show (List.all _ (inL 0)) = true from rfl) c hc)]; exact hA)).mono ?_
    rintro e w' ⟨v, γ, x, rfl, h4, h5, h6⟩
    exact ⟨v, γ, _, _, rfl, hk _ _ _ h4, h5, h6⟩
  · exact h.elim

theorem e_ReadPaletteI : EntryCOk Tryd.prog (TT mx) 5 gRpl := by
  refine ⟨fnOk Tryd.func5 (by kernel_rfl) rfl, ?_⟩
  intro args H K h n0 w0 β w vals hG hH hA
  unfold gRpl at h
  split at h
  · obtain ⟨hp, hk⟩ := h
    have hk := withLenP_sound hk
    refine (entry_fresh tt_ok (inlN_ok tt_ok Crp_ok mixed (ILz_ok).ok 4) Crp_ok mixed Tryd.func5 [] (x_ReadPaletteI _ hp) rfl (fun _ => rfl) (fun _ => rfl) trivial hG hH (by rw [map_self _ fun c hc => rnL_in0 _ c (List.all_eq_true.1 (show (List.all _ (inL 0)) = true from rfl) c hc)]; exact hA)).mono ?_
    rintro e w' ⟨v, γ, x, rfl, h4, h5, h6⟩
    exact ⟨v, γ, _, _, rfl, hk _ _ _ h4, h5, h6⟩
  · exact h.elim


end Go.Proofs.YtdefimnflpceeaaDoor
