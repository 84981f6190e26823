/- The longest chain: the program's functions as contracts. No conditions beyond the ranges of the kinds. -/
import Derived.Test.YtagdkibmlfjggaaDoorJb8
set_option linter.unusedSimpArgs false
set_option linter.unusedVariables false
namespace Go.Proofs.YtagdkibmlfjggaaDoor
open Go.Sx Go.RowKit

theorem x_longestChain0 : Fex true TT (inlN true TT Cj8 (lookI (ILlg 0 [])) 6) Cj8 (fun _ => .unroll 1) Tryd.f63 [.a (.c (.val (.slice none 0 0)))] []
    (fun lv H' => ∃ x : Nat × List Int × Int, Gq 1 0 [] x.1 x.2.1 x.2.2 ∧ leSt ⟨[lv], H'⟩ ⟨[rnL (([] : List Nat).length + ·) (.tup [.c (.slc 0 0 0 1 0 x.2.2), .c (.int .i64 0)])], deadsN ([] : List Nat).length ++ [.cells true 2 [.run [.i64] x.1 x.2.1]]⟩ ([] : List Nat).length (resB lv)) := by
  refine Go.Sx.by_eq (q := True ∧ True ∧ True ∧ True ∧ True ∧ True ∧ True ∧ True ∧ True ∧ True ∧ True ∧ (Decidable.decide ((0 : Int) < (0 : Int)) = Bool.true → ((0 : Int) ≤ (0 : Int) ∧ (0 : Int) < (0 : Int)) ∧ ((0 : Int) ≤ (0 : Int) + (0 : Int) ∧ Int.toNat ((0 : Int) + (0 : Int)) < (0 : Nat)) ∧ True ∧ True ∧ True ∧ True ∧ True ∧ True ∧ True ∧ Go.Sx.Stuck "unroll") ∧ (Decidable.decide ((0 : Int) < (0 : Int)) = Bool.false → True ∧ True ∧ True ∧ True ∧ True ∧ True ∧ True ∧ True ∧ True ∧ True ∧ True ∧ True ∧ True ∧ ∃ (x : Nat × List Int × Int), Gq (1 : Nat) (0 : Nat) [] x.fst x.snd.fst x.snd.snd ∧ ((((0 : Int) = (0 : Int) ∧ (0 : Int) = (0 : Int) ∧ x.snd.snd = (0 : Int)) ∧ (Go.IntKind.i64 = Go.IntKind.i64 ∧ (0 : Int) = (0 : Int)) ∧ True) ∧ True) ∧ (x.fst = (0 : Nat) ∧ x.snd.fst = []) ∧ True)) (by kernel_rfl) ?_
  simp only [true_and, and_true, and_self, decide_eq_true_eq, decide_eq_false_iff_not, Bool.not_eq_true', Bool.not_eq_false', Bool.not_true, Bool.not_false, beq_iff_eq, beq_eq_false_iff_ne, bne_iff_ne, bne_eq_false_iff_eq, ne_eq, not_true_eq_false, not_false_eq_true, false_implies, true_implies, implies_true, forall_const, exists_const, ↓reduceIte, Int.reduceEq, Int.toNat_natCast, Bool.false_eq_true, Bool.true_eq_false, reduceCtorEq]
  exact ⟨fun h => absurd h (by omega), fun _ => ⟨(0, [], 0), Gq.nil, rfl, rfl, rfl⟩⟩
noncomputable def gLc : EntryC := fun args H K => match args with
  | [.a (.c (.slc id b z s len _))] => match getB H id with
    | .cells _ t' [.run ks m l] => ((t' = 80 ∧ b = 0 ∧ z = 0 ∧ s = 2 ∧ ks = [.i64, .u16]) ∧ Jl len m l ∧ VJ len.toNat l) ∧
      withLenP H fun h => ∀ N L cp, Gq 1 (lgK l len.toNat) (lgF l len.toNat) N L cp → K (.tup [.c (.slc h 0 0 1 (lgK l len.toNat) cp), .c (.int .i64 (mxT (tl l len.toNat) len.toNat))]) (H ++ [.cells true 2 [.run [.i64] N L]])
    | _ => Stuck "chain"
  | [.a (.c (.val (.slice none 0 0)))] => withLenP H fun h => ∀ N L cp, Gq 1 0 [] N L cp → K (.tup [.c (.slc h 0 0 1 0 cp), .c (.int .i64 0)]) (H ++ [.cells true 2 [.run [.i64] N L]])
  | _ => Stuck "chain"
theorem e_longestChain : EntryCOk Tryd.prog TT 63 gLc := by
  refine ⟨fnOk Tryd.func63 (by kernel_rfl) rfl, ?_⟩
  intro args H K h n0 w0 β w vals hG hH hA
  unfold gLc at h
  split at h
  · split at h
    · rename_i id b z s len cap _ o t ks m l hg
      obtain ⟨⟨⟨rfl, rfl, rfl, rfl, rfl⟩, q, v⟩, hk⟩ := h
      have hk := withLenP_sound hk
      obtain ⟨n, rfl⟩ := Int.eq_ofNat_of_zero_le q.lo
      refine (entry_fresh tt_ok (inlN_ok tt_ok Cj8_ok mixed (ILlg_ok (n := n) (l := l)).ok 6) Cj8_ok mixed Tryd.func63 [id] (x_longestChain m n l cap q v) rfl (fun _ => rfl) (fun _ => rfl) ⟨.inr (by rw [hg]; rfl), trivial⟩ hG hH hA).mono ?_
      rintro e w' ⟨v, γ, x, rfl, h4, h5, h6⟩
      exact ⟨v, γ, _, _, rfl, hk _ _ _ h4, h5, h6⟩
    · exact h.elim
  · have hk := withLenP_sound h
    refine (entry_fresh tt_ok (inlN_ok tt_ok Cj8_ok mixed (ILlg_ok (n := 0) (l := [])).ok 6) Cj8_ok mixed Tryd.func63 [] x_longestChain0 rfl (fun _ => rfl) (fun _ => rfl) trivial hG hH (by rw [map_self _ fun c hc => rnL_in0 _ c (List.all_eq_true.1 (show (List.all _ (inL 0)) = true from rfl) c hc)]; exact hA)).mono ?_
    rintro e w' ⟨v, γ, x, rfl, h4, h5, h6⟩
    exact ⟨v, γ, _, _, rfl, hk _ _ _ h4, h5, h6⟩
  · exact h.elim
noncomputable def Mj9 : List (FuncId × EntryC) := (63, gLc) :: Mj6
theorem Mj9_ok : EntriesCOk Tryd.prog TT Mj9 := ⟨e_longestChain, Mj6_ok⟩
noncomputable abbrev Cj9 : Ctr := ctrOfM Ej8 Mj9
theorem Cj9_ok : CtrOk Tryd.prog TT Cj9 := ctrOfM_ok Ej8_ok Mj9_ok

theorem Sm.lg {n : Nat} {l l' : List Int} (h : Sm n l l') : lgK l n = lgK l' n ∧ lgF l n = lgF l' n ∧ mxT (Go.Proofs.YtagdkibmlfjggaaDoor.tl l n) n = mxT (Go.Proofs.YtagdkibmlfjggaaDoor.tl l' n) n := ⟨by rw [lgK, lgK, h.lc], by rw [lgF, lgF, h.lc], mxT_congr n fun i hi => h.tl hi⟩
theorem x_LongestChainI (m n : Nat) (l : List Int) (cap : Int) (q : Jx n m l) : Fex true TT (inlN true TT Cj9 (lookI ILz) 6) Cj9 U0 Tryd.f30 [.a (.c (.slc 0 0 0 2 n cap))] [.cells false 64 [.run [.i8, .u16] m l]] (PJc 2 1 [.i64] (loK n l) (loF n l) (loM n l) (vjE n l)) := by
  refine Go.Sx.by_eq (q := True ∧ True ∧ True ∧ True ∧ (((64 : Nat) = (64 : Nat) ∧ (0 : Nat) = (0 : Nat) ∧ (0 : Int) = (0 : Int) ∧ (2 : Nat) = (2 : Nat) ∧ [Go.Sx.EK.i8, Go.Sx.EK.u16] = [Go.Sx.EK.i8, Go.Sx.EK.u16]) ∧ (0 : Int) ≤ (↑n : Int) ∧ Jx (Int.toNat (↑n : Int)) m l) ∧ (vjB (Int.toNat (↑n : Int)) l = Bool.true → True ∧ True ∧ True ∧ True ∧ True ∧ True ∧ (((80 : Nat) = (80 : Nat) ∧ (0 : Nat) = (0 : Nat) ∧ (0 : Int) = (0 : Int) ∧ (2 : Nat) = (2 : Nat) ∧ [Go.Sx.EK.i64, Go.Sx.EK.u16] = [Go.Sx.EK.i64, Go.Sx.EK.u16]) ∧ Jl (↑n : Int) (Int.toNat (↑n : Int) * (2 : Nat)) (List.take (Int.toNat (↑n : Int) * (2 : Nat)) l) ∧ VJ (Int.toNat (↑n : Int)) (List.take (Int.toNat (↑n : Int) * (2 : Nat)) l)) ∧ ∀ (N : Nat) (L : List Int) (cp : Int), Gq (1 : Nat) (lgK (List.take (Int.toNat (↑n : Int) * (2 : Nat)) l) (Int.toNat (↑n : Int))) (lgF (List.take (Int.toNat (↑n : Int) * (2 : Nat)) l) (Int.toNat (↑n : Int))) N L cp → True ∧ True ∧ True ∧ True ∧ True ∧ True ∧ True ∧ True ∧ True ∧ True ∧ True ∧ True ∧ ∃ (x : Nat × List Int × Int), Gq (1 : Nat) (loK n l) (loF n l) x.fst x.snd.fst x.snd.snd ∧ ((Go.Sx.Cel.slc (2 : Nat) (0 : Nat) (0 : Int) (1 : Nat) (↑(lgK (List.take (Int.toNat (↑n : Int) * (2 : Nat)) l) (Int.toNat (↑n : Int))) : Int) cp = Go.Sx.Cel.slc (2 : Nat) (0 : Nat) (0 : Int) (1 : Nat) (↑(loK n l) : Int) x.snd.snd ∧ (Go.IntKind.i64 = Go.IntKind.i64 ∧ mxT (tl (List.take (Int.toNat (↑n : Int) * (2 : Nat)) l) (Int.toNat (↑n : Int))) (Int.toNat (↑n : Int)) = loM n l) ∧ (Go.IntKind.i64 = Go.IntKind.i64 ∧ (0 : Int) = vjE n l) ∧ True) ∧ True) ∧ True ∧ (Bool.true = Bool.true ∧ (2 : Nat) = (2 : Nat) ∧ ([Go.Sx.EK.i64] = [Go.Sx.EK.i64] ∧ N = x.fst ∧ L = x.snd.fst) ∧ True) ∧ True) ∧ (vjB (Int.toNat (↑n : Int)) l = Bool.false → True ∧ True ∧ True ∧ True ∧ True ∧ True ∧ ∀ (N : Nat) (L : List Int) (cp : Int), Gq (1 : Nat) (0 : Nat) [] N L cp → True ∧ True ∧ True ∧ True ∧ True ∧ True ∧ True ∧ True ∧ (126 : Nat) = (126 : Nat) ∧ True ∧ True ∧ True ∧ ∃ (x : Nat × List Int × Int), Gq (1 : Nat) (loK n l) (loF n l) x.fst x.snd.fst x.snd.snd ∧ ((Go.Sx.Cel.slc (1 : Nat) (0 : Nat) (0 : Int) (1 : Nat) (0 : Int) cp = Go.Sx.Cel.slc (1 : Nat) (0 : Nat) (0 : Int) (1 : Nat) (↑(loK n l) : Int) x.snd.snd ∧ (Go.IntKind.i64 = Go.IntKind.i64 ∧ (0 : Int) = loM n l) ∧ (Go.IntKind.i64 = Go.IntKind.i64 ∧ (1 : Int) = vjE n l) ∧ True) ∧ True) ∧ True ∧ (Bool.true = Bool.true ∧ (2 : Nat) = (2 : Nat) ∧ ([Go.Sx.EK.i64] = [Go.Sx.EK.i64] ∧ N = x.fst ∧ L = x.snd.fst) ∧ True) ∧ True)) (by kernel_rfl) ?_
  simp only [true_and, and_true, and_self, decide_eq_true_eq, decide_eq_false_iff_not, Bool.not_eq_true', Bool.not_eq_false', Bool.not_true, Bool.not_false, beq_iff_eq, beq_eq_false_iff_ne, bne_iff_ne, bne_eq_false_iff_eq, ne_eq, not_true_eq_false, not_false_eq_true, false_implies, true_implies, implies_true, forall_const, exists_const, ↓reduceIte, Int.reduceEq, Int.toNat_natCast, Bool.false_eq_true, Bool.true_eq_false, reduceCtorEq, Int.zero_add, Nat.add_zero, Int.ofNat_eq_natCast, Int.toNat_natCast, Nat.mul_one, Cel.slc.injEq]
  have sm : Sm n (l.take (n * 2)) l := Sm.take
  obtain ⟨s1, s2, s3⟩ := sm.lg
  refine ⟨⟨by omega, q⟩, fun hv => ⟨⟨q.jt (vjB_t.1 hv), sm.vj (vjB_t.1 hv)⟩, fun N L cp g => ?_⟩, fun hv N L cp g => ?_⟩
  · obtain ⟨h1, h2, h3⟩ := lo_0 hv
    exact pjc_k (s1.trans h1.symm) (s2.trans h2.symm) g (s3.trans h3.symm) (vjE_0 hv).symm
  · obtain ⟨h1, h2, h3⟩ := lo_1 hv
    exact pjc_e h1 h2 g h3.symm (vjE_1 hv).symm
noncomputable def gLo : EntryC := gJc 2 1 [.i64] loK loF loM vjE
theorem e_LongestChainS : EntryCOk Tryd.prog TT 29 gLo := gJc_ok Cj8_ok (inl := fun _ _ => lookI ILz) (Λ := fun n l r => if r = 8 then .inv (lmLcS n l) else .inv (lmLcK n l)) (fun _ _ => ILz_ok.ok) Tryd.func29 (by kernel_rfl) rfl x_LongestChainS
theorem e_LongestChainI : EntryCOk Tryd.prog TT 30 gLo := gJc_ok Cj9_ok (inl := fun _ _ => lookI ILz) (Λ := fun _ _ => U0) (fun _ _ => ILz_ok.ok) Tryd.func30 (by kernel_rfl) rfl x_LongestChainI
theorem loK_le {n : Nat} {l : List Int} : loK n l ≤ 360 := by
  cases h : vjB n l
  · rw [(lo_1 h).1]; omega
  · rw [(lo_0 h).1]; exact lgK_le (vjB_t.1 h)
end Go.Proofs.YtagdkibmlfjggaaDoor
