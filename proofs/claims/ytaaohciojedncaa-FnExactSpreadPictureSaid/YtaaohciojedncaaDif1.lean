/- The cells in which two pictures differ: both sides. No conditions beyond the ranges of the kinds. -/
import Derived.Test.YtaaohciojedncaaPc2
import Derived.Test.YtaaohciojedncaaI64
set_option linter.unusedSimpArgs false
set_option linter.unusedVariables false
namespace Go.Proofs.Ytaaohciojedncaa
open Go.Sx Go.RowKit

theorem isB_t {w h : Int} {k : Nat} : isB w h k = true ↔ ((k % 12 : Nat) : Int) < w ∧ ((k / 12 : Nat) : Int) < h := by simp [isB]
theorem isB_f {w h : Int} {k : Nat} : isB w h k = false ↔ ¬ (((k % 12 : Nat) : Int) < w ∧ ((k / 12 : Nat) : Int) < h) := by rw [Bool.eq_false_iff, ne_eq, isB_t]

theorem isB_in {w h : Int} {x y : Nat} (h1 : (x : Int) < w) (h2 : (y : Int) < h) (h3 : w ≤ 12) : isB w h (12 * y + x) = true := isB_t.2 ⟨by omega, by omega⟩
theorem isB_row {w h : Int} {x y i : Nat} (h1 : ¬ (x : Int) < w) (h2 : 12 * y + x ≤ i) (h3 : i < 12 * (y + 1)) : isB w h i = false := isB_f.2 (by omega)
theorem isB_end {w h : Int} {y i : Nat} (h1 : ¬ (y : Int) < h) (h2 : 12 * y ≤ i) : isB w h i = false := isB_f.2 (by omega)

/-- The cells below a number for which something holds. -/
def selF (p : Nat → Bool) (N : Nat) : List Int := ((List.range N).filter p).map Int.ofNat
theorem selF_yes {p : Nat → Bool} {N : Nat} (h : p N = true) : selF p (N + 1) = selF p N ++ [(N : Int)] := by simp [selF, List.range_succ, List.filter_append, h]
theorem selF_no {p : Nat → Bool} {N : Nat} (h : p N = false) : selF p (N + 1) = selF p N := by simp [selF, List.range_succ, List.filter_append, h]
theorem selF_skip {p : Nat → Bool} {N : Nat} : ∀ {M : Nat}, N ≤ M → (∀ i, N ≤ i → i < M → p i = false) → selF p M = selF p N
  | 0, h, _ => by rw [show N = 0 by omega]
  | M + 1, h, hp => by
    by_cases e : N = M + 1
    · rw [e]
    · rw [selF_no (hp M (by omega) (by omega))]
      exact selF_skip (by omega) fun i h1 h2 => hp i h1 (by omega)
theorem selF_len (p : Nat → Bool) (N : Nat) : (selF p N).length ≤ N := by
  simp only [selF, List.length_map]
  exact Nat.le_trans (List.length_filter_le _ _) (by simp)
theorem selF_congr {p q : Nat → Bool} {N : Nat} (h : ∀ i, i < N → p i = q i) : selF p N = selF q N := by
  simp only [selF]
  rw [List.filter_congr (fun i hi => h i (by simpa using hi))]

/-- A slice's memory that holds a list, and maybe more room. -/
structure Gr (F : List Int) (n : Nat) (L : List Int) (cap : Int) : Prop where
  c : (F.length : Int) ≤ cap
  e : n = cap.toNat
  l : L.length = n
  t : L.take F.length = F

theorem Gr.nil : Gr [] 0 [] 0 := ⟨by simp, rfl, rfl, rfl⟩

theorem Gr.push {F : List Int} {n n' : Nat} {L L' : List Int} {cap cap' v : Int} (g : Gr F n L cap) (h1 : (F.length : Int) + 1 ≤ cap') (h2 : n' = cap'.toNat) (h3 : L'.length = n') (h4 : L'.take ((F.length : Int) + 1).toNat = L.take F.length ++ [v]) : Gr (F ++ [v]) n' L' cap' :=
  ⟨by simp; omega, h2, h3, by rw [List.length_append, List.length_singleton, show F.length + 1 = ((F.length : Int) + 1).toNat by omega, h4, g.t]⟩
theorem Gr.room {F : List Int} {n : Nat} {L : List Int} {cap : Int} (g : Gr F n L cap) : F.length ≤ n := by have := g.c; have := g.e; omega

theorem Gr.same {F : List Int} {n n' : Nat} {L L' : List Int} {cap cap' : Int} (g : Gr F n L cap) (g' : Gr F n' L' cap') {i : Nat} (h : i < F.length) : L.getD i 0 = L'.getD i 0 := by
  have e1 : L.getD i 0 = F.getD i 0 := by rw [← getD_take' h, g.t]
  have e2 : L'.getD i 0 = F.getD i 0 := by rw [← getD_take' h, g'.t]
  rw [e1, e2]

def dfB (w h : Int) (l m : List Int) (i : Nat) : Bool := isB w h i && l.getD i 0 != m.getD i 0
def dfE (w h : Int) (l : List Int) (w' h' : Int) (l' : List Int) : Int := if okB w h l && okB w' h' l' then (if w = w' ∧ h = h' then 0 else 4) else 1
def dfR (w h : Int) (l : List Int) (w' h' : Int) (l' : List Int) : List Int := if dfE w h l w' h' l' = 0 then selF (dfB w h l l') 144 else []

theorem df_err {w h w' h' E : Int} {l l' : List Int} (he : dfE w h l w' h' l' = E) (hE : E ≠ 0) : ∃ x : Nat × List Int × Int, Gr (dfR w h l w' h' l') x.1 x.2.1 x.2.2 ∧ ((0 = ((dfR w h l w' h' l').length : Int) ∧ 0 = x.2.2) ∧ E = dfE w h l w' h' l') ∧ 0 = x.1 ∧ [] = x.2.1 := by
  have e : dfR w h l w' h' l' = [] := by rw [dfR, if_neg (by omega)]
  rw [e]
  exact ⟨(0, [], 0), Gr.nil, ⟨⟨rfl, rfl⟩, he.symm⟩, rfl, rfl⟩

theorem okB_all {w h : Int} {l : List Int} (e : okB w h l = true) : (1 ≤ w ∧ w ≤ 12) ∧ (1 ≤ h ∧ h ≤ 12) ∧ ∀ i, i < 144 → l.getD i 0 < 16 ∧ (isB w h i = false → l.getD i 0 = 0) := by
  simp only [okB, Bool.and_eq_true, decide_eq_true_eq, List.all_eq_true, List.mem_range] at e
  refine ⟨e.1.1, e.1.2, fun i hi => ?_⟩
  have := okC_iff.1 (e.2 i hi)
  refine ⟨this.1, fun hb => ?_⟩
  have := isB_f.1 hb
  omega

theorem df_ok {w h w' h' : Int} {l l' : List Int} (e1 : okB w h l = true) (e2 : okB w' h' l' = true) (ew : w = w') (eh : h = h') : dfE w h l w' h' l' = 0 ∧ dfR w h l w' h' l' = selF (dfB w h l l') 144 ∧ selF (fun i => l.getD i 0 != l'.getD i 0) 144 = selF (dfB w h l l') 144 := by
  have e : dfE w h l w' h' l' = 0 := by unfold dfE; rw [e1, e2]; simp [ew, eh]
  refine ⟨e, by rw [dfR, if_pos e], selF_congr fun i hi => ?_⟩
  obtain ⟨_, _, h1⟩ := okB_all e1
  obtain ⟨_, _, h2⟩ := okB_all e2
  simp only [dfB]
  cases hb : isB w h i with
  | true => simp
  | false =>
    have a := (h1 i hi).2 hb
    have b := (h2 i hi).2 (by rw [← ew, ← eh]; exact hb)
    rw [a, b]; rfl

theorem df_err' {w h w' h' E : Int} {l l' : List Int} (he : dfE w h l w' h' l' = E) (hE : E ≠ 0) : ∃ x : Nat × List Int × Int, Gr (dfR w h l w' h' l') x.1 x.2.1 x.2.2 ∧ ((((dfR w h l w' h' l').length : Int) = 0 ∧ x.2.2 = 0) ∧ E = dfE w h l w' h' l') ∧ x.1 = 0 ∧ x.2.1 = [] := by
  have e : dfR w h l w' h' l' = [] := by rw [dfR, if_neg (by omega)]
  rw [e]
  exact ⟨(0, [], 0), Gr.nil, ⟨⟨rfl, rfl⟩, he.symm⟩, rfl, rfl⟩

def resB (lv : LV) : List Nat := match lv with
  | .tup (.c (.slc id _ _ _ _ _) :: _) => [id]
  | .a (.c (.slc id _ _ _ _ _)) => [id]
  | _ => [9999]

def gDif : EntryC := fun args H K => match args with
  | [.a (.agg [.int .i8 w, .int .i8 h, .run [.u8] 144 l]), .a (.agg [.int .i8 w', .int .i8 h', .run [.u8] 144 l'])] => (Rg w h l ∧ Rg w' h' l') ∧
    withLenP H fun m => ∀ n L cap, Gr (dfR w h l w' h' l') n L cap → K (.tup [.c (.slc m 0 0 1 (dfR w h l w' h' l').length cap), .c (.int .i64 (dfE w h l w' h' l'))]) (H ++ [.cells true 2 [.run [.i64] n L]])
  | _ => Stuck "differ"


end Go.Proofs.Ytaaohciojedncaa
