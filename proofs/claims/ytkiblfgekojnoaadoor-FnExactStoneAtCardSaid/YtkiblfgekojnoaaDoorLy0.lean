/- Lists of stones: the functions of the laws that copy and compare them. No conditions beyond the ranges of the kinds. -/
import Derived.Test.YtkiblfgekojnoaaDoorVal2
set_option linter.unusedSimpArgs false
set_option linter.unusedVariables false
namespace Go.Proofs.YtkiblfgekojnoaaDoor
open Go.Sx Go.RowKit

variable {e : Nat → Value}

abbrev SL := List (Nat × List Int)

/-- Stones as they are made: each one is all of its memory. -/
structure StL (L : List (Nat × List Int)) : Prop where
  lo : L.length ≤ 1048576
  en : ∀ (j n : Nat) (l : List Int), L[j]? = some (n, l) → n ≤ 1048576 ∧ l.length = n * 2 ∧ wfl (n * 2) l

/-- Slices of corners as they come in. -/
structure NsL (L : List (Nat × List Int)) : Prop where
  en : ∀ (j n : Nat) (l : List Int), L[j]? = some (n, l) → n * 2 ≤ l.length ∧ n ≤ 9223372036854775807 ∧ wfl l.length l

theorem ns_of {L : List (Nat × List Int)} (h : ∀ (j : Nat) (x : Nat × List Int), L[j]? = some x → x.1 * 2 ≤ x.2.length ∧ x.1 ≤ maxLen ∧ ∀ k, k < x.2.length → (Lit.int (([.i16] : List IntKind).getD (k % ([.i16] : List IntKind).length) .i64) (x.2.getD k 0)).wf = true) : NsL L :=
  ⟨fun j n l hj => by
    obtain ⟨h1, h2, h3⟩ := h j _ hj
    refine ⟨h1, by simp only [maxLen] at h2; omega, fun i hi => ?_⟩
    have h := h3 i hi
    simp only [List.length_cons, List.length_nil, Nat.zero_add, Nat.mod_one, List.getD_cons_zero] at h
    simpa [Lit.wf, IntKind.min, IntKind.max, IntKind.signed, IntKind.bits] using h⟩

def szG : List (Nat × List Int) → Int → Int
  | [], left => left
  | x :: r, left => if szF left x.1 < 0 then -1 else szG r (szF left x.1)
def szSS (L : List (Nat × List Int)) (left : Int) : Int := if szF left L.length < 0 then -1 else szG L (szF left L.length)

theorem drop_some {α : Type} {L : List α} {k : Nat} {x : α} (h : L[k]? = some x) : L.drop k = x :: L.drop (k + 1) := by
  obtain ⟨hk, rfl⟩ := List.getElem?_eq_some_iff.1 h
  exact List.drop_eq_getElem_cons hk

theorem szG_bd : ∀ (L : List (Nat × List Int)) (left : Int), 0 ≤ left → ¬ szG L left < 0 → (∀ (j n : Nat) (l : List Int), L[j]? = some (n, l) → (n : Int) ≤ left)
  | [], left, _, _, j, n, l, h => by simp at h
  | x :: r, left, h0, h, j, n, l, hj => by
    unfold szG at h
    by_cases hs : szF left x.1 < 0
    · rw [if_pos hs] at h; omega
    · rw [if_neg hs] at h
      obtain ⟨s1, s2⟩ := szF_pos hs
      cases j with
      | zero =>
        simp at hj
        subst hj
        simp only at s1 s2
        omega
      | succ j =>
        have := szG_bd r _ (by omega) h j n l (by simpa using hj)
        omega

/-- What is made of a slice of slices. -/
def trS (x : Nat × List Int) : Nat × List Int := (x.1, x.2.take (x.1 * 2))
theorem stL_tr {L : List (Nat × List Int)} (h : NsL L) {left : Int} (hl : left ≤ 1048576) (hs : ¬ szSS L left < 0) : StL (L.map trS) := by
  unfold szSS at hs
  by_cases h1 : szF left L.length < 0
  · rw [if_pos h1] at hs; omega
  · rw [if_neg h1] at hs
    obtain ⟨s1, s2⟩ := szF_pos h1
    refine ⟨by simp; omega, fun j n l hj => ?_⟩
    rw [List.getElem?_map] at hj
    obtain ⟨⟨n', l'⟩, hj', e1⟩ := Option.map_eq_some_iff.1 hj
    simp only [trS, Prod.mk.injEq] at e1
    obtain ⟨rfl, rfl⟩ := e1
    have hb := szG_bd L _ (by omega) hs j _ _ hj'
    obtain ⟨g1, _, g3⟩ := h.en j _ _ hj'
    refine ⟨by omega, by simp; omega, fun i hi => ?_⟩
    rw [getD_take' hi]
    exact g3 i (by omega)

/-! ### szStoneS -/
def lmSzS (L : List (Nat × List Int)) (R : Int) : LAnn := { ι := Nat × Int, inv := fun _ x => x.1 ≤ L.length ∧ 0 ≤ x.2 ∧ x.2 ≤ 1048576 ∧ szG (L.drop x.1) x.2 = R, slots := fun _ x => [(1, .a (.c (.int .i64 x.2))), (5, .a (.c (.int .i64 x.1)))], blks := fun _ _ => [], μ := fun _ x => L.length - x.1 }

theorem x_szStoneS (t : TypeId) (b : Nat) (L : List (Nat × List Int)) (hL : NsL L) (len : Nat) (hlen : L.length = len) (h0 : len ≤ 9223372036854775807) (cap left : Int) (h3 : 0 ≤ left) (h4 : left ≤ 1048576) :
    Fex true (TT e) (inlN true (TT e) Cs (lookI []) 1) Cs (fun _ => .inv (lmSzS L (szG L (left - len)))) Tryd.f41 [.a (.c (.slc 0 b 0 1 len cap)), .a (.c (.int .i64 left))] [.nst false (t, none) b [.i16] 2 L] (fun lv _ => leL lv (.a (.c (.int .i64 (szSS L left))))) := by
  refine Go.Sx.by_eq (q := True ∧ True ∧ True ∧ True ∧ ((-9223372036854775808 : Int) ≤ left - (↑len : Int) ∧ left - (↑len : Int) ≤ (9223372036854775807 : Int)) ∧ True ∧ True ∧ True ∧ (Decidable.decide (left - (↑len : Int) < (0 : Int)) = Bool.true → True ∧ Go.IntKind.i64 = Go.IntKind.i64 ∧ (-1 : Int) = szSS L left) ∧ (Decidable.decide (left - (↑len : Int) < (0 : Int)) = Bool.false → True ∧ (∃ (x : Nat × Int), (x.fst ≤ List.length L ∧ (0 : Int) ≤ x.snd ∧ x.snd ≤ (1048576 : Int) ∧ szG (List.drop x.fst L) x.snd = szG L (left - (↑len : Int))) ∧ (Go.Sx.Cel.slc (0 : Nat) b (0 : Int) (1 : Nat) (↑len : Int) cap = Go.Sx.Cel.slc (0 : Nat) b (0 : Int) (1 : Nat) (↑len : Int) cap ∧ (Go.IntKind.i64 = Go.IntKind.i64 ∧ left - (↑len : Int) = x.snd) ∧ Go.Sx.Cel.val Go.undef = Go.Sx.Cel.val Go.undef ∧ Go.Sx.Cel.val Go.undef = Go.Sx.Cel.val Go.undef ∧ True ∧ (Go.IntKind.i64 = Go.IntKind.i64 ∧ (0 : Int) = (↑x.fst : Int)) ∧ (Go.IntKind.i64 = Go.IntKind.i64 ∧ left = left) ∧ Go.Sx.Cel.slc (0 : Nat) b (0 : Int) (1 : Nat) (↑len : Int) cap = Go.Sx.Cel.slc (0 : Nat) b (0 : Int) (1 : Nat) (↑len : Int) cap ∧ (Go.IntKind.i64 = Go.IntKind.i64 ∧ (↑len : Int) = (↑len : Int)) ∧ (Go.IntKind.i64 = Go.IntKind.i64 ∧ left - (↑len : Int) = left - (↑len : Int)) ∧ (Go.IntKind.i64 = Go.IntKind.i64 ∧ left - (↑len : Int) = left - (↑len : Int)) ∧ Decidable.decide (left - (↑len : Int) < (0 : Int)) = Decidable.decide (left - (↑len : Int) < (0 : Int)) ∧ True ∧ True ∧ True ∧ True ∧ True ∧ True ∧ True ∧ True ∧ True ∧ True ∧ True ∧ True ∧ True ∧ True ∧ Go.Sx.Cel.val Go.undef = Go.Sx.Cel.val Go.undef ∧ True) ∧ (Bool.false = Bool.false ∧ (t, (Option.none : Option Go.TypeId)) = (t, (Option.none : Option Go.TypeId)) ∧ b = b ∧ [Go.Sx.EK.i16] = [Go.Sx.EK.i16] ∧ (2 : Nat) = (2 : Nat) ∧ L = L) ∧ True) ∧ ∀ (x : Nat × Int), x.fst ≤ List.length L ∧ (0 : Int) ≤ x.snd ∧ x.snd ≤ (1048576 : Int) ∧ szG (List.drop x.fst L) x.snd = szG L (left - (↑len : Int)) → True ∧ True ∧ True ∧ True ∧ (Decidable.decide ((↑x.fst : Int) < (↑len : Int)) = Bool.true → True ∧ True ∧ ((0 : Int) ≤ (↑x.fst : Int) ∧ (↑x.fst : Int) < (↑len : Int)) ∧ (b = b ∧ (1 : Nat) = (1 : Nat) ∧ (0 : Nat) = (0 : Nat) ∧ (0 : Int) ≤ (0 : Int) + (↑x.fst : Int) ∧ Int.toNat ((0 : Int) + (↑x.fst : Int)) < List.length L) ∧ ∀ (n N ao : Nat) (l : List Int) (cap_1 : Int), L[Int.toNat ((0 : Int) + (↑x.fst : Int))]? = Option.some (n, l) → List.length l = N → n * (2 : Nat) ≤ N → (↑n : Int) ≤ cap_1 → True ∧ ((0 : Int) ≤ (↑n : Int) ∧ (↑n : Int) ≤ (9223372036854775807 : Int) ∧ (0 : Int) ≤ x.snd ∧ x.snd ≤ (1048576 : Int)) ∧ True ∧ True ∧ True ∧ (Decidable.decide (szF x.snd (↑n : Int) < (0 : Int)) = Bool.true → True ∧ Go.IntKind.i64 = Go.IntKind.i64 ∧ (-1 : Int) = szSS L left) ∧ (Decidable.decide (szF x.snd (↑n : Int) < (0 : Int)) = Bool.false → True ∧ ((-9223372036854775808 : Int) ≤ (↑x.fst : Int) + (1 : Int) ∧ (↑x.fst : Int) + (1 : Int) ≤ (9223372036854775807 : Int)) ∧ True ∧ ∃ (y : Nat × Int), (y.fst ≤ List.length L ∧ (0 : Int) ≤ y.snd ∧ y.snd ≤ (1048576 : Int) ∧ szG (List.drop y.fst L) y.snd = szG L (left - (↑len : Int))) ∧ List.length L - y.fst < List.length L - x.fst ∧ (Go.Sx.Cel.slc (0 : Nat) b (0 : Int) (1 : Nat) (↑len : Int) cap = Go.Sx.Cel.slc (0 : Nat) b (0 : Int) (1 : Nat) (↑len : Int) cap ∧ (Go.IntKind.i64 = Go.IntKind.i64 ∧ szF x.snd (↑n : Int) = y.snd) ∧ Go.Sx.Cel.val Go.undef = Go.Sx.Cel.val Go.undef ∧ Go.Sx.Cel.val Go.undef = Go.Sx.Cel.val Go.undef ∧ True ∧ (Go.IntKind.i64 = Go.IntKind.i64 ∧ (↑x.fst : Int) + (1 : Int) = (↑y.fst : Int)) ∧ (Go.IntKind.i64 = Go.IntKind.i64 ∧ left = left) ∧ Go.Sx.Cel.slc (0 : Nat) b (0 : Int) (1 : Nat) (↑len : Int) cap = Go.Sx.Cel.slc (0 : Nat) b (0 : Int) (1 : Nat) (↑len : Int) cap ∧ (Go.IntKind.i64 = Go.IntKind.i64 ∧ (↑len : Int) = (↑len : Int)) ∧ (Go.IntKind.i64 = Go.IntKind.i64 ∧ left - (↑len : Int) = left - (↑len : Int)) ∧ (Go.IntKind.i64 = Go.IntKind.i64 ∧ left - (↑len : Int) = left - (↑len : Int)) ∧ Decidable.decide (left - (↑len : Int) < (0 : Int)) = Decidable.decide (left - (↑len : Int) < (0 : Int)) ∧ True ∧ True ∧ True ∧ True ∧ True ∧ True ∧ True ∧ True ∧ True ∧ True ∧ True ∧ True ∧ True ∧ True ∧ Go.Sx.Cel.val Go.undef = Go.Sx.Cel.val Go.undef ∧ True) ∧ (Bool.false = Bool.false ∧ (t, (Option.none : Option Go.TypeId)) = (t, (Option.none : Option Go.TypeId)) ∧ b = b ∧ [Go.Sx.EK.i16] = [Go.Sx.EK.i16] ∧ (2 : Nat) = (2 : Nat) ∧ L = L) ∧ True)) ∧ (Decidable.decide ((↑x.fst : Int) < (↑len : Int)) = Bool.false → True ∧ True ∧ Go.IntKind.i64 = Go.IntKind.i64 ∧ x.snd = szSS L left))) (by kernel_rfl) ?_
  subst hlen
  simp only [true_and, and_true, and_self, decide_eq_true_eq, decide_eq_false_iff_not, Bool.not_eq_true', Bool.not_eq_false', Bool.not_true, Bool.not_false, beq_iff_eq, beq_eq_false_iff_ne, bne_iff_ne, bne_eq_false_iff_eq, ne_eq, not_true_eq_false, not_false_eq_true, false_implies, true_implies, implies_true, forall_const, exists_const, ↓reduceIte, Int.reduceEq, Int.toNat_natCast, Bool.false_eq_true, Bool.true_eq_false, reduceCtorEq, Int.zero_add, Nat.add_zero, Int.ofNat_eq_natCast]
  have hS : szF left L.length = if left - (L.length : Int) < 0 then -1 else left - L.length := rfl
  refine ⟨⟨by omega, by omega⟩, fun h => by simp [szSS, hS, h], fun h => ?_⟩
  have hR : szSS L left = szG L (left - L.length) := by simp [szSS, hS, h]
  refine ⟨⟨(0, left - L.length), ⟨by omega, by simp only; omega, by simp only; omega, rfl⟩, rfl, rfl⟩, ?_⟩
  rintro ⟨k, lk⟩ ⟨hk, hl0, hl1, hg⟩
  simp only at hk hl0 hl1 hg ⊢
  refine ⟨fun hlt => ⟨⟨by omega, by omega⟩, ⟨by omega, by omega⟩, ?_⟩, fun hge => ?_⟩
  · intro n N l c hj hN hn hc
    rw [drop_some hj] at hg
    obtain ⟨g1, g2, g3⟩ := hL.en k n l hj
    refine ⟨⟨by omega, by omega, by omega, by omega⟩, fun hs => ?_, fun hs => ⟨⟨by omega, by omega⟩, (k + 1, szF lk n), ⟨by simp only; omega, ?_, ?_, ?_⟩, by simp only; omega, rfl, by simp only; omega⟩⟩
    · rw [hR, ← hg, szG, if_pos hs]
    · obtain ⟨s1, s2⟩ := szF_pos (left := lk) (len := n) (by omega); simp only; omega
    · obtain ⟨s1, s2⟩ := szF_pos (left := lk) (len := n) (by omega); simp only; omega
    · rw [← hg, szG, if_neg (by simpa using hs)]
  · have : k = L.length := by omega
    subst this
    rw [List.drop_length] at hg
    rw [hR, ← hg]; rfl

def gSzS : Entry := fun args H => match args with
  | [.a (.c (.slc id b z s len _)), .a (.c (.int .i64 left))] => match getB H id with
    | .nst _ (_, none) o ks s2 L => some (b = o ∧ z = 0 ∧ s = 1 ∧ ks = [.i16] ∧ s2 = 2 ∧ (L.length : Int) = len ∧ len ≤ 9223372036854775807 ∧ NsL L ∧ 0 ≤ left ∧ left ≤ 1048576, .a (.c (.int .i64 (szSS L left))))
    | _ => none
  | _ => none
theorem e_szStoneS : EntryOk Tryd.prog (TT e) 41 gSzS := by
  refine ⟨fnOk Tryd.func41 (by kernel_rfl) rfl, ?_⟩
  intro args H p r he hp n0 w0 β w vals hG hH hA
  unfold gSzS at he
  split at he
  · split at he
    · rename_i id b z s len cap left _ ow t1 o ks s2 L hg
      simp only [Option.some.injEq, Prod.mk.injEq] at he
      obtain ⟨rfl, rfl⟩ := he
      obtain ⟨rfl, rfl, rfl, rfl, rfl, rfl, h1, h2, h3, h4⟩ := hp
      exact entry_view tt_ok (inlN_ok tt_ok Cs_ok mixed (InlsOk.ok (L := []) trivial) 1) Cs_ok mixed Tryd.func41 [id] (x_szStoneS t1 b L h2 _ rfl (by omega) cap left h3 h4) rfl rfl ⟨.inr (by rw [hg]; rfl), trivial⟩ hG hH hA
    · simp at he
  · simp at he

/-! ### toStoneS -/
/-- The first k slices are made. -/
def nsF (M : List (Nat × List Int)) (k : Nat) : List (Nat × List Int) := M.take k ++ List.replicate (M.length - k) (0, [])
theorem nsF_zero (M : List (Nat × List Int)) : nsF M 0 = List.replicate M.length (0, []) := by simp [nsF]
theorem nsF_all (M : List (Nat × List Int)) : nsF M M.length = M := by simp [nsF]
theorem nsF_len {M : List (Nat × List Int)} {k : Nat} (h : k ≤ M.length) : (nsF M k).length = M.length := by simp [nsF]; omega
theorem nsF_set {M : List (Nat × List Int)} {k : Nat} {x : Nat × List Int} (h : M[k]? = some x) : (nsF M k).set k x = nsF M (k + 1) := by
  have hk : k < M.length := (List.getElem?_eq_some_iff.1 h).1
  apply List.ext_getElem?
  intro i
  rw [List.getElem?_set, nsF_len (by omega)]
  unfold nsF
  by_cases e1 : k = i
  · subst e1
    rw [if_pos rfl, if_pos hk, List.getElem?_append_left (by simp; omega), List.getElem?_take_of_lt (by omega), h]
  · rw [if_neg e1]
    by_cases c1 : i < k
    · rw [List.getElem?_append_left (by simp; omega), List.getElem?_append_left (by simp; omega), List.getElem?_take_of_lt c1, List.getElem?_take_of_lt (by omega)]
    · rw [List.getElem?_append_right (by simp; omega), List.getElem?_append_right (by simp; omega), List.getElem?_replicate, List.getElem?_replicate]
      simp only [List.length_take]
      rw [Nat.min_eq_left (by omega), Nat.min_eq_left (by omega)]
      by_cases c2 : i < M.length
      · rw [if_pos (by omega), if_pos (by omega)]
      · rw [if_neg (by omega), if_neg (by omega)]

def lmToS (L : List (Nat × List Int)) : LAnn := { ι := Nat, inv := fun _ k => k ≤ L.length, slots := fun _ k => [(3, .a (.c (.slc 2 0 0 1 L.length L.length))), (4, .a (.c (.int .i64 k)))], blks := fun _ _ => [], μ := fun _ k => L.length - k, kills := [1], frs := fun _ k => [.nst true (27, some 66) 0 [.i16] 2 (nsF (L.map trS) k)], mv := fun st => [slotB st 3] }
abbrev Mt : List (FuncId × EntryC) := [(17, gTo)]
theorem Mt_ok : EntriesCOk Tryd.prog (TT e) Mt := ⟨e_toStone, trivial⟩
abbrev Ctt : Ctr := ctrOfM [] Mt
theorem Ctt_ok : CtrOk Tryd.prog (TT e) Ctt := ctrOfM_ok trivial Mt_ok

theorem x_toStoneS (t : TypeId) (b : Nat) (L : List (Nat × List Int)) (hL : NsL L) (hS : StL (L.map trS)) (cap : Int) :
    Fex true (TT e) (inlN true (TT e) Ctt (lookI []) 1) Ctt (fun _ => .inv (lmToS L)) Tryd.f43 [.a (.c (.slc 0 b 0 1 L.length cap))] [.nst false (t, none) b [.i16] 2 L]
      (fun lv H' => ∃ _ : Unit, True ∧ leSt ⟨[lv], H'⟩ ⟨[rnL ([0].length + ·) (.a (.c (.slc 0 0 0 1 L.length L.length)))], deadsN [0].length ++ [.nst true (27, some 66) 0 [.i16] 2 (L.map trS)]⟩ [0].length [2]) := by
  refine Go.Sx.by_eq (q := True ∧ True ∧ True ∧ ((0 : Int) ≤ (↑(List.length L) : Int) ∧ (↑(List.length L) : Int) ≤ (↑(List.length L) : Int) ∧ (↑(List.length L) : Int) ≤ (9223372036854775807 : Int) ∧ (↑(24 : Nat) : Int) * (↑(List.length L) : Int) ≤ (281474976710656 : Int)) ∧ True ∧ True ∧ (∃ (x : Nat), x ≤ List.length L ∧ (Go.Sx.Cel.slc (0 : Nat) b (0 : Int) (1 : Nat) (↑(List.length L) : Int) cap = Go.Sx.Cel.slc (0 : Nat) b (0 : Int) (1 : Nat) (↑(List.length L) : Int) cap ∧ Go.Sx.Cel.val Go.undef = Go.Sx.Cel.val Go.undef ∧ Go.Sx.Cel.val (Go.Value.slice Option.none (0 : Nat) (0 : Nat)) = Go.Sx.Cel.val (Go.Value.slice Option.none (0 : Nat) (0 : Nat)) ∧ Go.Sx.Cel.slc (1 : Nat) (0 : Nat) (0 : Int) (1 : Nat) (↑(List.length L) : Int) (↑(List.length L) : Int) = Go.Sx.Cel.slc (1 : Nat) (0 : Nat) (0 : Int) (1 : Nat) (↑(List.length L) : Int) (↑(List.length L) : Int) ∧ (Go.IntKind.i64 = Go.IntKind.i64 ∧ (0 : Int) = (↑x : Int)) ∧ Go.Sx.Cel.slc (0 : Nat) b (0 : Int) (1 : Nat) (↑(List.length L) : Int) cap = Go.Sx.Cel.slc (0 : Nat) b (0 : Int) (1 : Nat) (↑(List.length L) : Int) cap ∧ (Go.IntKind.i64 = Go.IntKind.i64 ∧ (↑(List.length L) : Int) = (↑(List.length L) : Int)) ∧ Go.Sx.Cel.slc (1 : Nat) (0 : Nat) (0 : Int) (1 : Nat) (↑(List.length L) : Int) (↑(List.length L) : Int) = Go.Sx.Cel.slc (1 : Nat) (0 : Nat) (0 : Int) (1 : Nat) (↑(List.length L) : Int) (↑(List.length L) : Int) ∧ True ∧ True ∧ True ∧ True ∧ True ∧ True ∧ True ∧ True ∧ True ∧ True ∧ True ∧ True ∧ True ∧ True ∧ Go.Sx.Cel.val Go.undef = Go.Sx.Cel.val Go.undef ∧ True) ∧ (Bool.false = Bool.false ∧ (t, (Option.none : Option Go.TypeId)) = (t, (Option.none : Option Go.TypeId)) ∧ b = b ∧ [Go.Sx.EK.i16] = [Go.Sx.EK.i16] ∧ (2 : Nat) = (2 : Nat) ∧ L = L) ∧ True ∧ (Bool.true = Bool.true ∧ ((27 : Nat), Option.some (66 : Nat)) = ((27 : Nat), Option.some (66 : Nat)) ∧ (0 : Nat) = (0 : Nat) ∧ [Go.Sx.EK.i16] = [Go.Sx.EK.i16] ∧ (2 : Nat) = (2 : Nat) ∧ List.replicate (Int.toNat (↑(List.length L) : Int)) ((0 : Nat), []) = nsF (List.map trS L) x) ∧ True) ∧ ∀ (x : Nat), x ≤ List.length L → True ∧ True ∧ True ∧ True ∧ (Decidable.decide ((↑x : Int) < (↑(List.length L) : Int)) = Bool.true → True ∧ True ∧ True ∧ True ∧ ((0 : Int) ≤ (↑x : Int) ∧ (↑x : Int) < (↑(List.length L) : Int)) ∧ (b = b ∧ (1 : Nat) = (1 : Nat) ∧ (0 : Nat) = (0 : Nat) ∧ (0 : Int) ≤ (0 : Int) + (↑x : Int) ∧ Int.toNat ((0 : Int) + (↑x : Int)) < List.length L) ∧ ∀ (n N ao : Nat) (l : List Int) (cap_1 : Int), L[Int.toNat ((0 : Int) + (↑x : Int))]? = Option.some (n, l) → List.length l = N → n * (2 : Nat) ≤ N → (↑n : Int) ≤ cap_1 → (ao = ao ∧ (0 : Int) = (0 : Int) ∧ (2 : Nat) = (2 : Nat) ∧ [Go.Sx.EK.i16] = [Go.Sx.EK.i16] ∧ List.length l = N ∧ (0 : Int) ≤ (↑n : Int) ∧ (↑n : Int) ≤ (1048576 : Int) ∧ Int.toNat (↑n : Int) * (2 : Nat) ≤ N) ∧ ((0 : Int) ≤ (↑x : Int) ∧ (↑x : Int) < (↑(List.length L) : Int)) ∧ ((0 : Nat) = (0 : Nat) ∧ (1 : Nat) = (1 : Nat) ∧ (0 : Nat) = (0 : Nat) ∧ (0 : Int) ≤ (0 : Int) + (↑x : Int) ∧ Int.toNat ((0 : Int) + (↑x : Int)) < List.length (nsF (List.map trS L) x) ∧ (0 : Int) = (0 : Int) ∧ Int.toNat (↑n : Int) * (2 : Nat) = Int.toNat (↑n : Int) * (2 : Nat) ∧ (1 : Nat) = (1 : Nat)) ∧ True ∧ ((-9223372036854775808 : Int) ≤ (↑x : Int) + (1 : Int) ∧ (↑x : Int) + (1 : Int) ≤ (9223372036854775807 : Int)) ∧ True ∧ ∃ (y : Nat), y ≤ List.length L ∧ List.length L - y < List.length L - x ∧ (Go.Sx.Cel.slc (0 : Nat) b (0 : Int) (1 : Nat) (↑(List.length L) : Int) cap = Go.Sx.Cel.slc (0 : Nat) b (0 : Int) (1 : Nat) (↑(List.length L) : Int) cap ∧ Go.Sx.Cel.val Go.undef = Go.Sx.Cel.val Go.undef ∧ Go.Sx.Cel.val (Go.Value.slice Option.none (0 : Nat) (0 : Nat)) = Go.Sx.Cel.val (Go.Value.slice Option.none (0 : Nat) (0 : Nat)) ∧ Go.Sx.Cel.slc (2 : Nat) (0 : Nat) (0 : Int) (1 : Nat) (↑(List.length L) : Int) (↑(List.length L) : Int) = Go.Sx.Cel.slc (2 : Nat) (0 : Nat) (0 : Int) (1 : Nat) (↑(List.length L) : Int) (↑(List.length L) : Int) ∧ (Go.IntKind.i64 = Go.IntKind.i64 ∧ (↑x : Int) + (1 : Int) = (↑y : Int)) ∧ Go.Sx.Cel.slc (0 : Nat) b (0 : Int) (1 : Nat) (↑(List.length L) : Int) cap = Go.Sx.Cel.slc (0 : Nat) b (0 : Int) (1 : Nat) (↑(List.length L) : Int) cap ∧ (Go.IntKind.i64 = Go.IntKind.i64 ∧ (↑(List.length L) : Int) = (↑(List.length L) : Int)) ∧ Go.Sx.Cel.slc (1 : Nat) (0 : Nat) (0 : Int) (1 : Nat) (↑(List.length L) : Int) (↑(List.length L) : Int) = Go.Sx.Cel.slc (1 : Nat) (0 : Nat) (0 : Int) (1 : Nat) (↑(List.length L) : Int) (↑(List.length L) : Int) ∧ True ∧ True ∧ True ∧ True ∧ True ∧ True ∧ True ∧ True ∧ True ∧ True ∧ True ∧ True ∧ True ∧ True ∧ Go.Sx.Cel.val Go.undef = Go.Sx.Cel.val Go.undef ∧ True) ∧ (Bool.false = Bool.false ∧ (t, (Option.none : Option Go.TypeId)) = (t, (Option.none : Option Go.TypeId)) ∧ b = b ∧ [Go.Sx.EK.i16] = [Go.Sx.EK.i16] ∧ (2 : Nat) = (2 : Nat) ∧ L = L) ∧ True ∧ (Bool.true = Bool.true ∧ ((27 : Nat), Option.some (66 : Nat)) = ((27 : Nat), Option.some (66 : Nat)) ∧ (0 : Nat) = (0 : Nat) ∧ [Go.Sx.EK.i16] = [Go.Sx.EK.i16] ∧ (2 : Nat) = (2 : Nat) ∧ List.set (nsF (List.map trS L) x) (Int.toNat ((0 : Int) + (↑x : Int))) (Int.toNat (↑n : Int), List.take (Int.toNat (↑n : Int) * (2 : Nat)) l) = nsF (List.map trS L) y) ∧ True) ∧ (Decidable.decide ((↑x : Int) < (↑(List.length L) : Int)) = Bool.false → True ∧ True ∧ ∃ (x_1 : Unit), True ∧ (Go.Sx.Cel.slc (2 : Nat) (0 : Nat) (0 : Int) (1 : Nat) (↑(List.length L) : Int) (↑(List.length L) : Int) = Go.Sx.Cel.slc (2 : Nat) (0 : Nat) (0 : Int) (1 : Nat) (↑(List.length L) : Int) (↑(List.length L) : Int) ∧ True) ∧ True ∧ (Bool.true = Bool.true ∧ ((27 : Nat), Option.some (66 : Nat)) = ((27 : Nat), Option.some (66 : Nat)) ∧ (0 : Nat) = (0 : Nat) ∧ [Go.Sx.EK.i16] = [Go.Sx.EK.i16] ∧ (2 : Nat) = (2 : Nat) ∧ nsF (List.map trS L) x = List.map trS L) ∧ True)) (by kernel_rfl) ?_
  have h1 := hS.lo
  simp only [List.length_map] at h1
  simp only [true_and, and_true, and_self, decide_eq_true_eq, decide_eq_false_iff_not, Bool.not_eq_true', Bool.not_eq_false', Bool.not_true, Bool.not_false, beq_iff_eq, beq_eq_false_iff_ne, bne_iff_ne, bne_eq_false_iff_eq, ne_eq, not_true_eq_false, not_false_eq_true, false_implies, true_implies, implies_true, forall_const, exists_const, ↓reduceIte, Int.reduceEq, Int.toNat_natCast, Bool.false_eq_true, Bool.true_eq_false, reduceCtorEq, Int.zero_add, Nat.add_zero, Int.ofNat_eq_natCast]
  refine ⟨⟨by omega, by omega, by omega⟩, ⟨0, by omega, rfl, by rw [nsF_zero, List.length_map]⟩, fun k hk => ⟨fun hlt => ⟨⟨by omega, by omega⟩, ⟨by omega, by omega⟩, ?_⟩, fun hge => ?_⟩⟩
  · intro n N l c hj hN hn hc
    have hM : (L.map trS)[k]? = some (n, l.take (n * 2)) := by rw [List.getElem?_map, hj]; rfl
    obtain ⟨g1, _, _⟩ := hS.en k _ _ hM
    exact ⟨⟨hN, by omega, by omega, hn⟩, ⟨by omega, by omega⟩, ⟨by omega, by rw [nsF_len (by simp; omega)]; simp; omega⟩, ⟨by omega, by omega⟩, k + 1, by omega, by omega, by omega, nsF_set hM⟩
  · have hk' : k = (L.map trS).length := by simp; omega
    rw [hk', nsF_all]

def gToS : EntryC := fun args H K => match args with
  | [.a (.c (.slc id b z s len _))] => match getB H id with
    | .nst _ (_, none) o ks s2 L => (b = o ∧ z = 0 ∧ s = 1 ∧ ks = [.i16] ∧ s2 = 2 ∧ (L.length : Int) = len ∧ NsL L ∧ StL (L.map trS)) ∧ withLenP H fun m => K (.a (.c (.slc m 0 0 1 len len))) (H ++ [.nst true (27, some 66) 0 [.i16] 2 (L.map trS)])
    | _ => Stuck "to"
  | _ => Stuck "to"
theorem e_toStoneS : EntryCOk Tryd.prog (TT e) 43 gToS := by
  refine ⟨fnOk Tryd.func43 (by kernel_rfl) rfl, ?_⟩
  intro args H K h n0 w0 β w vals hG hH hA
  unfold gToS at h
  split at h
  · split at h
    · rename_i id b z s len cap _ ow t1 o ks s2 L hg
      obtain ⟨⟨rfl, rfl, rfl, rfl, rfl, rfl, h1, h2⟩, hk⟩ := h
      have hk := withLenP_sound hk
      refine (entry_fresh tt_ok (inlN_ok tt_ok Ctt_ok mixed (InlsOk.ok (L := []) trivial) 1) Ctt_ok mixed Tryd.func43 [id] (x_toStoneS t1 b L h1 h2 cap) rfl (fun _ => rfl) (fun _ => rfl) ⟨.inr (by rw [hg]; rfl), trivial⟩ hG hH hA).mono ?_
      rintro e w' ⟨v, γ, x, rfl, _, h5, h6⟩
      exact ⟨v, γ, _, _, rfl, hk, h5, h6⟩
    · exact h.elim
  · exact h.elim

/-! ### eqStoneS, of equal lists -/
def lmEqS (n : Nat) : LAnn := { ι := Nat, inv := fun _ k => k ≤ n, slots := fun _ k => [(5, .a (.c (.int .i64 k)))], blks := fun _ _ => [], μ := fun _ k => n - k }
theorem x_eqStoneS (t : TypeId) (L : List (Nat × List Int)) (hL : StL L) (c1 c2 : Int) :
    Fex true (TT e) (inlN true (TT e) Cs (lookI []) 1) Cs (fun r => if r = 6 then .all else .inv (lmEqS L.length)) Tryd.f45 [.a (.c (.slc 0 0 0 1 L.length c1)), .a (.c (.slc 1 0 0 1 L.length c2))] [.nst false (t, some 66) 0 [.i16] 2 L, .nst false (t, some 66) 0 [.i16] 2 L]
      (fun lv _ => leL lv (.a (.c (.bool true)))) := by
  refine Go.Sx.by_eq (q := True ∧ True ∧ True ∧ True ∧ True ∧ True ∧ (((↑(List.length L) : Int) != (↑(List.length L) : Int)) = Bool.true → True ∧ Bool.true = Bool.false) ∧ (((↑(List.length L) : Int) != (↑(List.length L) : Int)) = Bool.false → True ∧ (∃ (x : Nat), x ≤ List.length L ∧ (Go.Sx.Cel.slc (0 : Nat) (0 : Nat) (0 : Int) (1 : Nat) (↑(List.length L) : Int) c1 = Go.Sx.Cel.slc (0 : Nat) (0 : Nat) (0 : Int) (1 : Nat) (↑(List.length L) : Int) c1 ∧ Go.Sx.Cel.slc (1 : Nat) (0 : Nat) (0 : Int) (1 : Nat) (↑(List.length L) : Int) c2 = Go.Sx.Cel.slc (1 : Nat) (0 : Nat) (0 : Int) (1 : Nat) (↑(List.length L) : Int) c2 ∧ Go.Sx.Cel.val Go.undef = Go.Sx.Cel.val Go.undef ∧ Go.Sx.Cel.val Go.undef = Go.Sx.Cel.val Go.undef ∧ True ∧ (Go.IntKind.i64 = Go.IntKind.i64 ∧ (0 : Int) = (↑x : Int)) ∧ Go.Sx.Cel.slc (0 : Nat) (0 : Nat) (0 : Int) (1 : Nat) (↑(List.length L) : Int) c1 = Go.Sx.Cel.slc (0 : Nat) (0 : Nat) (0 : Int) (1 : Nat) (↑(List.length L) : Int) c1 ∧ (Go.IntKind.i64 = Go.IntKind.i64 ∧ (↑(List.length L) : Int) = (↑(List.length L) : Int)) ∧ Go.Sx.Cel.slc (1 : Nat) (0 : Nat) (0 : Int) (1 : Nat) (↑(List.length L) : Int) c2 = Go.Sx.Cel.slc (1 : Nat) (0 : Nat) (0 : Int) (1 : Nat) (↑(List.length L) : Int) c2 ∧ (Go.IntKind.i64 = Go.IntKind.i64 ∧ (↑(List.length L) : Int) = (↑(List.length L) : Int)) ∧ ((↑(List.length L) : Int) != (↑(List.length L) : Int)) = ((↑(List.length L) : Int) != (↑(List.length L) : Int)) ∧ True ∧ True ∧ True ∧ True ∧ True ∧ True ∧ True ∧ True ∧ True ∧ True ∧ True ∧ True ∧ True ∧ True ∧ True ∧ True ∧ True) ∧ (Bool.false = Bool.false ∧ (t, Option.some (66 : Nat)) = (t, Option.some (66 : Nat)) ∧ (0 : Nat) = (0 : Nat) ∧ [Go.Sx.EK.i16] = [Go.Sx.EK.i16] ∧ (2 : Nat) = (2 : Nat) ∧ L = L) ∧ (Bool.false = Bool.false ∧ (t, Option.some (66 : Nat)) = (t, Option.some (66 : Nat)) ∧ (0 : Nat) = (0 : Nat) ∧ [Go.Sx.EK.i16] = [Go.Sx.EK.i16] ∧ (2 : Nat) = (2 : Nat) ∧ L = L) ∧ True) ∧ ∀ (x : Nat), x ≤ List.length L → True ∧ True ∧ True ∧ True ∧ (Decidable.decide ((↑x : Int) < (↑(List.length L) : Int)) = Bool.true → True ∧ True ∧ True ∧ True ∧ (((0 : Int) ≤ (↑x : Int) ∧ (↑x : Int) < (↑(List.length L) : Int)) ∧ (((0 : Nat) = (0 : Nat) ∧ (1 : Nat) = (1 : Nat) ∧ (0 : Nat) = (0 : Nat) ∧ (0 : Int) ≤ (0 : Int) + (↑x : Int) ∧ Int.toNat ((0 : Int) + (↑x : Int)) < List.length L) ∧ ∀ (n N : Nat) (l : List Int) (cap : Int), L[Int.toNat ((0 : Int) + (↑x : Int))]? = Option.some (n, l) → List.length l = N → n * (2 : Nat) ≤ N → (↑n : Int) ≤ cap → (((0 : Int) ≤ (↑x : Int) ∧ (↑x : Int) < (↑(List.length L) : Int)) ∧ (((0 : Nat) = (0 : Nat) ∧ (1 : Nat) = (1 : Nat) ∧ (0 : Nat) = (0 : Nat) ∧ (0 : Int) ≤ (0 : Int) + (↑x : Int) ∧ Int.toNat ((0 : Int) + (↑x : Int)) < List.length L) ∧ ∀ (n_1 N_1 : Nat) (l_1 : List Int) (cap : Int), L[Int.toNat ((0 : Int) + (↑x : Int))]? = Option.some (n_1, l_1) → List.length l_1 = N_1 → n_1 * (2 : Nat) ≤ N_1 → (↑n_1 : Int) ≤ cap → (((0 : Int) = (0 : Int) ∧ (0 : Int) = (0 : Int) ∧ (0 : Int) ≤ (↑n : Int) ∧ (↑n : Int) ≤ (1048576 : Int) ∧ (0 : Int) ≤ (↑n_1 : Int) ∧ Int.toNat (↑n : Int) * (2 : Nat) ≤ N ∧ Int.toNat (↑n_1 : Int) * (2 : Nat) ≤ N_1 ∧ List.length l = N ∧ List.length l_1 = N_1) ∧ (True ∧ ((!eqSl (2 : Nat) (↑n : Int) (↑n_1 : Int) l l_1) = Bool.true → True ∧ Bool.true = Bool.false) ∧ ((!eqSl (2 : Nat) (↑n : Int) (↑n_1 : Int) l l_1) = Bool.false → True ∧ ((-9223372036854775808 : Int) ≤ (↑x : Int) + (1 : Int) ∧ (↑x : Int) + (1 : Int) ≤ (9223372036854775807 : Int)) ∧ True ∧ ∃ (y : Nat), y ≤ List.length L ∧ List.length L - y < List.length L - x ∧ (Go.Sx.Cel.slc (0 : Nat) (0 : Nat) (0 : Int) (1 : Nat) (↑(List.length L) : Int) c1 = Go.Sx.Cel.slc (0 : Nat) (0 : Nat) (0 : Int) (1 : Nat) (↑(List.length L) : Int) c1 ∧ Go.Sx.Cel.slc (1 : Nat) (0 : Nat) (0 : Int) (1 : Nat) (↑(List.length L) : Int) c2 = Go.Sx.Cel.slc (1 : Nat) (0 : Nat) (0 : Int) (1 : Nat) (↑(List.length L) : Int) c2 ∧ Go.Sx.Cel.val Go.undef = Go.Sx.Cel.val Go.undef ∧ Go.Sx.Cel.val Go.undef = Go.Sx.Cel.val Go.undef ∧ True ∧ (Go.IntKind.i64 = Go.IntKind.i64 ∧ (↑x : Int) + (1 : Int) = (↑y : Int)) ∧ Go.Sx.Cel.slc (0 : Nat) (0 : Nat) (0 : Int) (1 : Nat) (↑(List.length L) : Int) c1 = Go.Sx.Cel.slc (0 : Nat) (0 : Nat) (0 : Int) (1 : Nat) (↑(List.length L) : Int) c1 ∧ (Go.IntKind.i64 = Go.IntKind.i64 ∧ (↑(List.length L) : Int) = (↑(List.length L) : Int)) ∧ Go.Sx.Cel.slc (1 : Nat) (0 : Nat) (0 : Int) (1 : Nat) (↑(List.length L) : Int) c2 = Go.Sx.Cel.slc (1 : Nat) (0 : Nat) (0 : Int) (1 : Nat) (↑(List.length L) : Int) c2 ∧ (Go.IntKind.i64 = Go.IntKind.i64 ∧ (↑(List.length L) : Int) = (↑(List.length L) : Int)) ∧ ((↑(List.length L) : Int) != (↑(List.length L) : Int)) = ((↑(List.length L) : Int) != (↑(List.length L) : Int)) ∧ True ∧ True ∧ True ∧ True ∧ True ∧ True ∧ True ∧ True ∧ True ∧ True ∧ True ∧ True ∧ True ∧ True ∧ True ∧ True ∧ True) ∧ (Bool.false = Bool.false ∧ (t, Option.some (66 : Nat)) = (t, Option.some (66 : Nat)) ∧ (0 : Nat) = (0 : Nat) ∧ [Go.Sx.EK.i16] = [Go.Sx.EK.i16] ∧ (2 : Nat) = (2 : Nat) ∧ L = L) ∧ (Bool.false = Bool.false ∧ (t, Option.some (66 : Nat)) = (t, Option.some (66 : Nat)) ∧ (0 : Nat) = (0 : Nat) ∧ [Go.Sx.EK.i16] = [Go.Sx.EK.i16] ∧ (2 : Nat) = (2 : Nat) ∧ L = L) ∧ True)) ∧ True) ∧ True) ∧ True) ∧ True) ∧ (((0 : Int) ≤ (↑x : Int) ∧ (↑x : Int) < (↑(List.length L) : Int)) ∧ (((0 : Nat) = (0 : Nat) ∧ (1 : Nat) = (1 : Nat) ∧ (0 : Nat) = (0 : Nat) ∧ (0 : Int) ≤ (0 : Int) + (↑x : Int) ∧ Int.toNat ((0 : Int) + (↑x : Int)) < List.length L) ∧ ∀ (n N : Nat) (l : List Int) (cap : Int), L[Int.toNat ((0 : Int) + (↑x : Int))]? = Option.some (n, l) → List.length l = N → n * (2 : Nat) ≤ N → (↑n : Int) ≤ cap → (((0 : Nat) = (0 : Nat) ∧ (1 : Nat) = (1 : Nat) ∧ (0 : Nat) = (0 : Nat) ∧ (0 : Int) ≤ (0 : Int) + (↑x : Int) ∧ Int.toNat ((0 : Int) + (↑x : Int)) < List.length L) ∧ ∀ (n_1 N_1 : Nat) (l_1 : List Int) (cap : Int), L[Int.toNat ((0 : Int) + (↑x : Int))]? = Option.some (n_1, l_1) → List.length l_1 = N_1 → n_1 * (2 : Nat) ≤ N_1 → (↑n_1 : Int) ≤ cap → (((0 : Int) = (0 : Int) ∧ (0 : Int) = (0 : Int) ∧ (0 : Int) ≤ (↑n : Int) ∧ (↑n : Int) ≤ (1048576 : Int) ∧ (0 : Int) ≤ (↑n_1 : Int) ∧ Int.toNat (↑n : Int) * (2 : Nat) ≤ N ∧ Int.toNat (↑n_1 : Int) * (2 : Nat) ≤ N_1 ∧ List.length l = N ∧ List.length l_1 = N_1) ∧ (True ∧ ((!eqSl (2 : Nat) (↑n : Int) (↑n_1 : Int) l l_1) = Bool.true → True ∧ Bool.true = Bool.false) ∧ ((!eqSl (2 : Nat) (↑n : Int) (↑n_1 : Int) l l_1) = Bool.false → True ∧ ((-9223372036854775808 : Int) ≤ (↑x : Int) + (1 : Int) ∧ (↑x : Int) + (1 : Int) ≤ (9223372036854775807 : Int)) ∧ True ∧ ∃ (y : Nat), y ≤ List.length L ∧ List.length L - y < List.length L - x ∧ (Go.Sx.Cel.slc (0 : Nat) (0 : Nat) (0 : Int) (1 : Nat) (↑(List.length L) : Int) c1 = Go.Sx.Cel.slc (0 : Nat) (0 : Nat) (0 : Int) (1 : Nat) (↑(List.length L) : Int) c1 ∧ Go.Sx.Cel.slc (1 : Nat) (0 : Nat) (0 : Int) (1 : Nat) (↑(List.length L) : Int) c2 = Go.Sx.Cel.slc (1 : Nat) (0 : Nat) (0 : Int) (1 : Nat) (↑(List.length L) : Int) c2 ∧ Go.Sx.Cel.val Go.undef = Go.Sx.Cel.val Go.undef ∧ Go.Sx.Cel.val Go.undef = Go.Sx.Cel.val Go.undef ∧ True ∧ (Go.IntKind.i64 = Go.IntKind.i64 ∧ (↑x : Int) + (1 : Int) = (↑y : Int)) ∧ Go.Sx.Cel.slc (0 : Nat) (0 : Nat) (0 : Int) (1 : Nat) (↑(List.length L) : Int) c1 = Go.Sx.Cel.slc (0 : Nat) (0 : Nat) (0 : Int) (1 : Nat) (↑(List.length L) : Int) c1 ∧ (Go.IntKind.i64 = Go.IntKind.i64 ∧ (↑(List.length L) : Int) = (↑(List.length L) : Int)) ∧ Go.Sx.Cel.slc (1 : Nat) (0 : Nat) (0 : Int) (1 : Nat) (↑(List.length L) : Int) c2 = Go.Sx.Cel.slc (1 : Nat) (0 : Nat) (0 : Int) (1 : Nat) (↑(List.length L) : Int) c2 ∧ (Go.IntKind.i64 = Go.IntKind.i64 ∧ (↑(List.length L) : Int) = (↑(List.length L) : Int)) ∧ ((↑(List.length L) : Int) != (↑(List.length L) : Int)) = ((↑(List.length L) : Int) != (↑(List.length L) : Int)) ∧ True ∧ True ∧ True ∧ True ∧ True ∧ True ∧ True ∧ True ∧ True ∧ True ∧ True ∧ True ∧ True ∧ True ∧ True ∧ True ∧ True) ∧ (Bool.false = Bool.false ∧ (t, Option.some (66 : Nat)) = (t, Option.some (66 : Nat)) ∧ (0 : Nat) = (0 : Nat) ∧ [Go.Sx.EK.i16] = [Go.Sx.EK.i16] ∧ (2 : Nat) = (2 : Nat) ∧ L = L) ∧ (Bool.false = Bool.false ∧ (t, Option.some (66 : Nat)) = (t, Option.some (66 : Nat)) ∧ (0 : Nat) = (0 : Nat) ∧ [Go.Sx.EK.i16] = [Go.Sx.EK.i16] ∧ (2 : Nat) = (2 : Nat) ∧ L = L) ∧ True)) ∧ True) ∧ True) ∧ True) ∧ (((0 : Nat) = (0 : Nat) ∧ (1 : Nat) = (1 : Nat) ∧ (0 : Nat) = (0 : Nat) ∧ (0 : Int) ≤ (0 : Int) + (↑x : Int) ∧ Int.toNat ((0 : Int) + (↑x : Int)) < List.length L) ∧ ∀ (n N : Nat) (l : List Int) (cap : Int), L[Int.toNat ((0 : Int) + (↑x : Int))]? = Option.some (n, l) → List.length l = N → n * (2 : Nat) ≤ N → (↑n : Int) ≤ cap → (((0 : Nat) = (0 : Nat) ∧ (1 : Nat) = (1 : Nat) ∧ (0 : Nat) = (0 : Nat) ∧ (0 : Int) ≤ (0 : Int) + (↑x : Int) ∧ Int.toNat ((0 : Int) + (↑x : Int)) < List.length L) ∧ ∀ (n_1 N_1 : Nat) (l_1 : List Int) (cap : Int), L[Int.toNat ((0 : Int) + (↑x : Int))]? = Option.some (n_1, l_1) → List.length l_1 = N_1 → n_1 * (2 : Nat) ≤ N_1 → (↑n_1 : Int) ≤ cap → (((0 : Int) = (0 : Int) ∧ (0 : Int) = (0 : Int) ∧ (0 : Int) ≤ (↑n_1 : Int) ∧ (↑n_1 : Int) ≤ (1048576 : Int) ∧ (0 : Int) ≤ (↑n : Int) ∧ Int.toNat (↑n_1 : Int) * (2 : Nat) ≤ N_1 ∧ Int.toNat (↑n : Int) * (2 : Nat) ≤ N ∧ List.length l_1 = N_1 ∧ List.length l = N) ∧ (True ∧ ((!eqSl (2 : Nat) (↑n_1 : Int) (↑n : Int) l_1 l) = Bool.true → True ∧ Bool.true = Bool.false) ∧ ((!eqSl (2 : Nat) (↑n_1 : Int) (↑n : Int) l_1 l) = Bool.false → True ∧ ((-9223372036854775808 : Int) ≤ (↑x : Int) + (1 : Int) ∧ (↑x : Int) + (1 : Int) ≤ (9223372036854775807 : Int)) ∧ True ∧ ∃ (y : Nat), y ≤ List.length L ∧ List.length L - y < List.length L - x ∧ (Go.Sx.Cel.slc (0 : Nat) (0 : Nat) (0 : Int) (1 : Nat) (↑(List.length L) : Int) c1 = Go.Sx.Cel.slc (0 : Nat) (0 : Nat) (0 : Int) (1 : Nat) (↑(List.length L) : Int) c1 ∧ Go.Sx.Cel.slc (1 : Nat) (0 : Nat) (0 : Int) (1 : Nat) (↑(List.length L) : Int) c2 = Go.Sx.Cel.slc (1 : Nat) (0 : Nat) (0 : Int) (1 : Nat) (↑(List.length L) : Int) c2 ∧ Go.Sx.Cel.val Go.undef = Go.Sx.Cel.val Go.undef ∧ Go.Sx.Cel.val Go.undef = Go.Sx.Cel.val Go.undef ∧ True ∧ (Go.IntKind.i64 = Go.IntKind.i64 ∧ (↑x : Int) + (1 : Int) = (↑y : Int)) ∧ Go.Sx.Cel.slc (0 : Nat) (0 : Nat) (0 : Int) (1 : Nat) (↑(List.length L) : Int) c1 = Go.Sx.Cel.slc (0 : Nat) (0 : Nat) (0 : Int) (1 : Nat) (↑(List.length L) : Int) c1 ∧ (Go.IntKind.i64 = Go.IntKind.i64 ∧ (↑(List.length L) : Int) = (↑(List.length L) : Int)) ∧ Go.Sx.Cel.slc (1 : Nat) (0 : Nat) (0 : Int) (1 : Nat) (↑(List.length L) : Int) c2 = Go.Sx.Cel.slc (1 : Nat) (0 : Nat) (0 : Int) (1 : Nat) (↑(List.length L) : Int) c2 ∧ (Go.IntKind.i64 = Go.IntKind.i64 ∧ (↑(List.length L) : Int) = (↑(List.length L) : Int)) ∧ ((↑(List.length L) : Int) != (↑(List.length L) : Int)) = ((↑(List.length L) : Int) != (↑(List.length L) : Int)) ∧ True ∧ True ∧ True ∧ True ∧ True ∧ True ∧ True ∧ True ∧ True ∧ True ∧ True ∧ True ∧ True ∧ True ∧ True ∧ True ∧ True) ∧ (Bool.false = Bool.false ∧ (t, Option.some (66 : Nat)) = (t, Option.some (66 : Nat)) ∧ (0 : Nat) = (0 : Nat) ∧ [Go.Sx.EK.i16] = [Go.Sx.EK.i16] ∧ (2 : Nat) = (2 : Nat) ∧ L = L) ∧ (Bool.false = Bool.false ∧ (t, Option.some (66 : Nat)) = (t, Option.some (66 : Nat)) ∧ (0 : Nat) = (0 : Nat) ∧ [Go.Sx.EK.i16] = [Go.Sx.EK.i16] ∧ (2 : Nat) = (2 : Nat) ∧ L = L) ∧ True)) ∧ True) ∧ True) ∧ True) ∧ True) ∧ True) ∧ (((0 : Int) ≤ (↑x : Int) ∧ (↑x : Int) < (↑(List.length L) : Int)) ∧ (((0 : Int) ≤ (↑x : Int) ∧ (↑x : Int) < (↑(List.length L) : Int)) ∧ (((0 : Nat) = (0 : Nat) ∧ (1 : Nat) = (1 : Nat) ∧ (0 : Nat) = (0 : Nat) ∧ (0 : Int) ≤ (0 : Int) + (↑x : Int) ∧ Int.toNat ((0 : Int) + (↑x : Int)) < List.length L) ∧ ∀ (n N : Nat) (l : List Int) (cap : Int), L[Int.toNat ((0 : Int) + (↑x : Int))]? = Option.some (n, l) → List.length l = N → n * (2 : Nat) ≤ N → (↑n : Int) ≤ cap → (((0 : Nat) = (0 : Nat) ∧ (1 : Nat) = (1 : Nat) ∧ (0 : Nat) = (0 : Nat) ∧ (0 : Int) ≤ (0 : Int) + (↑x : Int) ∧ Int.toNat ((0 : Int) + (↑x : Int)) < List.length L) ∧ ∀ (n_1 N_1 : Nat) (l_1 : List Int) (cap : Int), L[Int.toNat ((0 : Int) + (↑x : Int))]? = Option.some (n_1, l_1) → List.length l_1 = N_1 → n_1 * (2 : Nat) ≤ N_1 → (↑n_1 : Int) ≤ cap → (((0 : Int) = (0 : Int) ∧ (0 : Int) = (0 : Int) ∧ (0 : Int) ≤ (↑n : Int) ∧ (↑n : Int) ≤ (1048576 : Int) ∧ (0 : Int) ≤ (↑n_1 : Int) ∧ Int.toNat (↑n : Int) * (2 : Nat) ≤ N ∧ Int.toNat (↑n_1 : Int) * (2 : Nat) ≤ N_1 ∧ List.length l = N ∧ List.length l_1 = N_1) ∧ (True ∧ ((!eqSl (2 : Nat) (↑n : Int) (↑n_1 : Int) l l_1) = Bool.true → True ∧ Bool.true = Bool.false) ∧ ((!eqSl (2 : Nat) (↑n : Int) (↑n_1 : Int) l l_1) = Bool.false → True ∧ ((-9223372036854775808 : Int) ≤ (↑x : Int) + (1 : Int) ∧ (↑x : Int) + (1 : Int) ≤ (9223372036854775807 : Int)) ∧ True ∧ ∃ (y : Nat), y ≤ List.length L ∧ List.length L - y < List.length L - x ∧ (Go.Sx.Cel.slc (0 : Nat) (0 : Nat) (0 : Int) (1 : Nat) (↑(List.length L) : Int) c1 = Go.Sx.Cel.slc (0 : Nat) (0 : Nat) (0 : Int) (1 : Nat) (↑(List.length L) : Int) c1 ∧ Go.Sx.Cel.slc (1 : Nat) (0 : Nat) (0 : Int) (1 : Nat) (↑(List.length L) : Int) c2 = Go.Sx.Cel.slc (1 : Nat) (0 : Nat) (0 : Int) (1 : Nat) (↑(List.length L) : Int) c2 ∧ Go.Sx.Cel.val Go.undef = Go.Sx.Cel.val Go.undef ∧ Go.Sx.Cel.val Go.undef = Go.Sx.Cel.val Go.undef ∧ True ∧ (Go.IntKind.i64 = Go.IntKind.i64 ∧ (↑x : Int) + (1 : Int) = (↑y : Int)) ∧ Go.Sx.Cel.slc (0 : Nat) (0 : Nat) (0 : Int) (1 : Nat) (↑(List.length L) : Int) c1 = Go.Sx.Cel.slc (0 : Nat) (0 : Nat) (0 : Int) (1 : Nat) (↑(List.length L) : Int) c1 ∧ (Go.IntKind.i64 = Go.IntKind.i64 ∧ (↑(List.length L) : Int) = (↑(List.length L) : Int)) ∧ Go.Sx.Cel.slc (1 : Nat) (0 : Nat) (0 : Int) (1 : Nat) (↑(List.length L) : Int) c2 = Go.Sx.Cel.slc (1 : Nat) (0 : Nat) (0 : Int) (1 : Nat) (↑(List.length L) : Int) c2 ∧ (Go.IntKind.i64 = Go.IntKind.i64 ∧ (↑(List.length L) : Int) = (↑(List.length L) : Int)) ∧ ((↑(List.length L) : Int) != (↑(List.length L) : Int)) = ((↑(List.length L) : Int) != (↑(List.length L) : Int)) ∧ True ∧ True ∧ True ∧ True ∧ True ∧ True ∧ True ∧ True ∧ True ∧ True ∧ True ∧ True ∧ True ∧ True ∧ True ∧ True ∧ True) ∧ (Bool.false = Bool.false ∧ (t, Option.some (66 : Nat)) = (t, Option.some (66 : Nat)) ∧ (0 : Nat) = (0 : Nat) ∧ [Go.Sx.EK.i16] = [Go.Sx.EK.i16] ∧ (2 : Nat) = (2 : Nat) ∧ L = L) ∧ (Bool.false = Bool.false ∧ (t, Option.some (66 : Nat)) = (t, Option.some (66 : Nat)) ∧ (0 : Nat) = (0 : Nat) ∧ [Go.Sx.EK.i16] = [Go.Sx.EK.i16] ∧ (2 : Nat) = (2 : Nat) ∧ L = L) ∧ True)) ∧ True) ∧ True) ∧ True) ∧ (((0 : Nat) = (0 : Nat) ∧ (1 : Nat) = (1 : Nat) ∧ (0 : Nat) = (0 : Nat) ∧ (0 : Int) ≤ (0 : Int) + (↑x : Int) ∧ Int.toNat ((0 : Int) + (↑x : Int)) < List.length L) ∧ ∀ (n N : Nat) (l : List Int) (cap : Int), L[Int.toNat ((0 : Int) + (↑x : Int))]? = Option.some (n, l) → List.length l = N → n * (2 : Nat) ≤ N → (↑n : Int) ≤ cap → (((0 : Nat) = (0 : Nat) ∧ (1 : Nat) = (1 : Nat) ∧ (0 : Nat) = (0 : Nat) ∧ (0 : Int) ≤ (0 : Int) + (↑x : Int) ∧ Int.toNat ((0 : Int) + (↑x : Int)) < List.length L) ∧ ∀ (n_1 N_1 : Nat) (l_1 : List Int) (cap : Int), L[Int.toNat ((0 : Int) + (↑x : Int))]? = Option.some (n_1, l_1) → List.length l_1 = N_1 → n_1 * (2 : Nat) ≤ N_1 → (↑n_1 : Int) ≤ cap → (((0 : Int) = (0 : Int) ∧ (0 : Int) = (0 : Int) ∧ (0 : Int) ≤ (↑n_1 : Int) ∧ (↑n_1 : Int) ≤ (1048576 : Int) ∧ (0 : Int) ≤ (↑n : Int) ∧ Int.toNat (↑n_1 : Int) * (2 : Nat) ≤ N_1 ∧ Int.toNat (↑n : Int) * (2 : Nat) ≤ N ∧ List.length l_1 = N_1 ∧ List.length l = N) ∧ (True ∧ ((!eqSl (2 : Nat) (↑n_1 : Int) (↑n : Int) l_1 l) = Bool.true → True ∧ Bool.true = Bool.false) ∧ ((!eqSl (2 : Nat) (↑n_1 : Int) (↑n : Int) l_1 l) = Bool.false → True ∧ ((-9223372036854775808 : Int) ≤ (↑x : Int) + (1 : Int) ∧ (↑x : Int) + (1 : Int) ≤ (9223372036854775807 : Int)) ∧ True ∧ ∃ (y : Nat), y ≤ List.length L ∧ List.length L - y < List.length L - x ∧ (Go.Sx.Cel.slc (0 : Nat) (0 : Nat) (0 : Int) (1 : Nat) (↑(List.length L) : Int) c1 = Go.Sx.Cel.slc (0 : Nat) (0 : Nat) (0 : Int) (1 : Nat) (↑(List.length L) : Int) c1 ∧ Go.Sx.Cel.slc (1 : Nat) (0 : Nat) (0 : Int) (1 : Nat) (↑(List.length L) : Int) c2 = Go.Sx.Cel.slc (1 : Nat) (0 : Nat) (0 : Int) (1 : Nat) (↑(List.length L) : Int) c2 ∧ Go.Sx.Cel.val Go.undef = Go.Sx.Cel.val Go.undef ∧ Go.Sx.Cel.val Go.undef = Go.Sx.Cel.val Go.undef ∧ True ∧ (Go.IntKind.i64 = Go.IntKind.i64 ∧ (↑x : Int) + (1 : Int) = (↑y : Int)) ∧ Go.Sx.Cel.slc (0 : Nat) (0 : Nat) (0 : Int) (1 : Nat) (↑(List.length L) : Int) c1 = Go.Sx.Cel.slc (0 : Nat) (0 : Nat) (0 : Int) (1 : Nat) (↑(List.length L) : Int) c1 ∧ (Go.IntKind.i64 = Go.IntKind.i64 ∧ (↑(List.length L) : Int) = (↑(List.length L) : Int)) ∧ Go.Sx.Cel.slc (1 : Nat) (0 : Nat) (0 : Int) (1 : Nat) (↑(List.length L) : Int) c2 = Go.Sx.Cel.slc (1 : Nat) (0 : Nat) (0 : Int) (1 : Nat) (↑(List.length L) : Int) c2 ∧ (Go.IntKind.i64 = Go.IntKind.i64 ∧ (↑(List.length L) : Int) = (↑(List.length L) : Int)) ∧ ((↑(List.length L) : Int) != (↑(List.length L) : Int)) = ((↑(List.length L) : Int) != (↑(List.length L) : Int)) ∧ True ∧ True ∧ True ∧ True ∧ True ∧ True ∧ True ∧ True ∧ True ∧ True ∧ True ∧ True ∧ True ∧ True ∧ True ∧ True ∧ True) ∧ (Bool.false = Bool.false ∧ (t, Option.some (66 : Nat)) = (t, Option.some (66 : Nat)) ∧ (0 : Nat) = (0 : Nat) ∧ [Go.Sx.EK.i16] = [Go.Sx.EK.i16] ∧ (2 : Nat) = (2 : Nat) ∧ L = L) ∧ (Bool.false = Bool.false ∧ (t, Option.some (66 : Nat)) = (t, Option.some (66 : Nat)) ∧ (0 : Nat) = (0 : Nat) ∧ [Go.Sx.EK.i16] = [Go.Sx.EK.i16] ∧ (2 : Nat) = (2 : Nat) ∧ L = L) ∧ True)) ∧ True) ∧ True) ∧ True) ∧ True) ∧ (((0 : Nat) = (0 : Nat) ∧ (1 : Nat) = (1 : Nat) ∧ (0 : Nat) = (0 : Nat) ∧ (0 : Int) ≤ (0 : Int) + (↑x : Int) ∧ Int.toNat ((0 : Int) + (↑x : Int)) < List.length L) ∧ ∀ (n N : Nat) (l : List Int) (cap : Int), L[Int.toNat ((0 : Int) + (↑x : Int))]? = Option.some (n, l) → List.length l = N → n * (2 : Nat) ≤ N → (↑n : Int) ≤ cap → (((0 : Int) ≤ (↑x : Int) ∧ (↑x : Int) < (↑(List.length L) : Int)) ∧ (((0 : Nat) = (0 : Nat) ∧ (1 : Nat) = (1 : Nat) ∧ (0 : Nat) = (0 : Nat) ∧ (0 : Int) ≤ (0 : Int) + (↑x : Int) ∧ Int.toNat ((0 : Int) + (↑x : Int)) < List.length L) ∧ ∀ (n_1 N_1 : Nat) (l_1 : List Int) (cap : Int), L[Int.toNat ((0 : Int) + (↑x : Int))]? = Option.some (n_1, l_1) → List.length l_1 = N_1 → n_1 * (2 : Nat) ≤ N_1 → (↑n_1 : Int) ≤ cap → (((0 : Int) = (0 : Int) ∧ (0 : Int) = (0 : Int) ∧ (0 : Int) ≤ (↑n_1 : Int) ∧ (↑n_1 : Int) ≤ (1048576 : Int) ∧ (0 : Int) ≤ (↑n : Int) ∧ Int.toNat (↑n_1 : Int) * (2 : Nat) ≤ N_1 ∧ Int.toNat (↑n : Int) * (2 : Nat) ≤ N ∧ List.length l_1 = N_1 ∧ List.length l = N) ∧ (True ∧ ((!eqSl (2 : Nat) (↑n_1 : Int) (↑n : Int) l_1 l) = Bool.true → True ∧ Bool.true = Bool.false) ∧ ((!eqSl (2 : Nat) (↑n_1 : Int) (↑n : Int) l_1 l) = Bool.false → True ∧ ((-9223372036854775808 : Int) ≤ (↑x : Int) + (1 : Int) ∧ (↑x : Int) + (1 : Int) ≤ (9223372036854775807 : Int)) ∧ True ∧ ∃ (y : Nat), y ≤ List.length L ∧ List.length L - y < List.length L - x ∧ (Go.Sx.Cel.slc (0 : Nat) (0 : Nat) (0 : Int) (1 : Nat) (↑(List.length L) : Int) c1 = Go.Sx.Cel.slc (0 : Nat) (0 : Nat) (0 : Int) (1 : Nat) (↑(List.length L) : Int) c1 ∧ Go.Sx.Cel.slc (1 : Nat) (0 : Nat) (0 : Int) (1 : Nat) (↑(List.length L) : Int) c2 = Go.Sx.Cel.slc (1 : Nat) (0 : Nat) (0 : Int) (1 : Nat) (↑(List.length L) : Int) c2 ∧ Go.Sx.Cel.val Go.undef = Go.Sx.Cel.val Go.undef ∧ Go.Sx.Cel.val Go.undef = Go.Sx.Cel.val Go.undef ∧ True ∧ (Go.IntKind.i64 = Go.IntKind.i64 ∧ (↑x : Int) + (1 : Int) = (↑y : Int)) ∧ Go.Sx.Cel.slc (0 : Nat) (0 : Nat) (0 : Int) (1 : Nat) (↑(List.length L) : Int) c1 = Go.Sx.Cel.slc (0 : Nat) (0 : Nat) (0 : Int) (1 : Nat) (↑(List.length L) : Int) c1 ∧ (Go.IntKind.i64 = Go.IntKind.i64 ∧ (↑(List.length L) : Int) = (↑(List.length L) : Int)) ∧ Go.Sx.Cel.slc (1 : Nat) (0 : Nat) (0 : Int) (1 : Nat) (↑(List.length L) : Int) c2 = Go.Sx.Cel.slc (1 : Nat) (0 : Nat) (0 : Int) (1 : Nat) (↑(List.length L) : Int) c2 ∧ (Go.IntKind.i64 = Go.IntKind.i64 ∧ (↑(List.length L) : Int) = (↑(List.length L) : Int)) ∧ ((↑(List.length L) : Int) != (↑(List.length L) : Int)) = ((↑(List.length L) : Int) != (↑(List.length L) : Int)) ∧ True ∧ True ∧ True ∧ True ∧ True ∧ True ∧ True ∧ True ∧ True ∧ True ∧ True ∧ True ∧ True ∧ True ∧ True ∧ True ∧ True) ∧ (Bool.false = Bool.false ∧ (t, Option.some (66 : Nat)) = (t, Option.some (66 : Nat)) ∧ (0 : Nat) = (0 : Nat) ∧ [Go.Sx.EK.i16] = [Go.Sx.EK.i16] ∧ (2 : Nat) = (2 : Nat) ∧ L = L) ∧ (Bool.false = Bool.false ∧ (t, Option.some (66 : Nat)) = (t, Option.some (66 : Nat)) ∧ (0 : Nat) = (0 : Nat) ∧ [Go.Sx.EK.i16] = [Go.Sx.EK.i16] ∧ (2 : Nat) = (2 : Nat) ∧ L = L) ∧ True)) ∧ True) ∧ True) ∧ True) ∧ True) ∧ True) ∧ True) ∧ (Decidable.decide ((↑x : Int) < (↑(List.length L) : Int)) = Bool.false → True ∧ Bool.true = Bool.true))) (by kernel_rfl) ?_
  have h1 := hL.lo
  simp only [true_and, and_true, and_self, decide_eq_true_eq, decide_eq_false_iff_not, Bool.not_eq_true', Bool.not_eq_false', Bool.not_true, Bool.not_false, beq_iff_eq, beq_eq_false_iff_ne, bne_iff_ne, bne_eq_false_iff_eq, ne_eq, not_true_eq_false, not_false_eq_true, false_implies, true_implies, implies_true, forall_const, exists_const, ↓reduceIte, Int.reduceEq, Int.toNat_natCast, Bool.false_eq_true, Bool.true_eq_false, reduceCtorEq, Int.zero_add, Nat.add_zero, Int.ofNat_eq_natCast]
  have hE : ∀ (n : Nat) (l : List Int), eqSl 2 (n : Int) (n : Int) l l = true := fun _ _ => eqSl_self rfl
  refine ⟨⟨0, by omega, rfl⟩, fun k hk hlt => ?_⟩
  have leaf : ∀ {n1 N1 : Nat} {l1 : List Int} {n2 N2 : Nat} {l2 : List Int}, L[k]? = some (n1, l1) → l1.length = N1 → n1 * 2 ≤ N1 → L[k]? = some (n2, l2) → l2.length = N2 → n2 * 2 ≤ N2 →
      (0 ≤ (n1 : Int) ∧ (n1 : Int) ≤ 1048576 ∧ 0 ≤ (n2 : Int) ∧ n1 * 2 ≤ N1 ∧ n2 * 2 ≤ N2 ∧ l1.length = N1 ∧ l2.length = N2) ∧ (eqSl 2 (n1 : Int) (n2 : Int) l1 l2 = false → False) ∧
        (eqSl 2 (n1 : Int) (n2 : Int) l1 l2 = true → (-9223372036854775808 ≤ (k : Int) + 1 ∧ (k : Int) + 1 ≤ 9223372036854775807) ∧ ∃ y, y ≤ L.length ∧ L.length - y < L.length - k ∧ (k : Int) + 1 = ((y : Nat) : Int)) := by
    intro n1 N1 l1 n2 N2 l2 hj1 hN1 hn1 hj2 hN2 hn2
    obtain ⟨g1, g2, _⟩ := hL.en k _ _ hj1
    rw [hj1] at hj2
    simp only [Option.some.injEq, Prod.mk.injEq] at hj2
    obtain ⟨rfl, rfl⟩ := hj2
    refine ⟨⟨by omega, by omega, by omega, by omega, by omega, by omega, by omega⟩, ?_, fun _ => ⟨⟨by omega, by omega⟩, k + 1, by omega, by omega, by omega⟩⟩
    intro hf
    rw [hE] at hf
    cases hf
  repeat' (first
    | exact leaf ‹_› ‹_› ‹_› ‹_› ‹_› ‹_›
    | exact ⟨by omega, by omega⟩
    | (intro _ _ _ _ _ _ _ _)
    | apply And.intro)

open Classical in
noncomputable def gEqSS : Entry := fun args H => match args with
  | [.a (.c (.slc i1 b1 z1 s1 len1 _)), .a (.c (.slc i2 b2 z2 s2 len2 _))] => match getB H i1, getB H i2 with
    | .nst _ t1 o1 k1 r1 L1, .nst _ t2 o2 k2 r2 L2 => some ((b1 = 0 ∧ z1 = 0 ∧ s1 = 1 ∧ b2 = 0 ∧ z2 = 0 ∧ s2 = 1 ∧ (L1.length : Int) = len1 ∧ (L2.length : Int) = len2) ∧ (t1 = t2 ∧ t1.2 = some 66 ∧ o1 = 0 ∧ o2 = 0 ∧ k1 = [.i16] ∧ k2 = [.i16] ∧ r1 = 2 ∧ r2 = 2) ∧ L1 = L2 ∧ StL L1, .a (.c (.bool true)))
    | _, _ => none
  | _ => none
theorem e_eqStoneS : EntryOk Tryd.prog (TT e) 45 gEqSS := by
  refine ⟨fnOk Tryd.func45 (by kernel_rfl) rfl, ?_⟩
  intro args H p r he hp n0 w0 β w vals hG hH hA
  unfold gEqSS at he
  split at he
  · split at he
    · rename_i i1 b1 z1 s1 len1 c1 i2 b2 z2 s2 len2 c2 _ _ w1 t1 o1 k1 r1 L1 w2 t2 o2 k2 r2 L2 hg1 hg2
      simp only [Option.some.injEq, Prod.mk.injEq] at he
      obtain ⟨rfl, rfl⟩ := he
      obtain ⟨⟨rfl, rfl, rfl, rfl, rfl, rfl, rfl, rfl⟩, ⟨rfl, ht, rfl, rfl, rfl, rfl, rfl, rfl⟩, rfl, hL⟩ := hp
      obtain ⟨ta, tb⟩ := t1
      simp only at ht
      subst ht
      exact entry_view tt_ok (inlN_ok tt_ok Cs_ok mixed (InlsOk.ok (L := []) trivial) 1) Cs_ok mixed Tryd.func45 [i1, i2] (x_eqStoneS ta L1 hL c1 c2) rfl rfl ⟨.inr (by rw [hg1]; rfl), .inr (by rw [hg2]; rfl), trivial⟩ hG hH hA
    · simp at he
  · simp at he

noncomputable def Ely0 : List (FuncId × Entry) := [(41, gSzS), (45, gEqSS)]
theorem Ely0_ok : EntriesOk Tryd.prog (TT e) Ely0 := ⟨e_szStoneS, e_eqStoneS, trivial⟩
def Mly0 : List (FuncId × EntryC) := [(43, gToS)]
theorem Mly0_ok : EntriesCOk Tryd.prog (TT e) Mly0 := ⟨e_toStoneS, trivial⟩

end Go.Proofs.YtkiblfgekojnoaaDoor
