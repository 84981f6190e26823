/- OrderOf: both sides. No conditions beyond the ranges of the kinds. -/
import Derived.Test.YtmgkecegfjpagaaDoorJb4
set_option linter.unusedSimpArgs false
set_option linter.unusedVariables false
namespace Go.Proofs.YtmgkecegfjpagaaDoor
open Go.Sx Go.RowKit

noncomputable def orK (n : Nat) (l : List Int) : Nat := if vjB n l = true then n else 0
noncomputable def orF (n : Nat) (l : List Int) : List Int := if vjB n l = true then odI l n n else []
noncomputable def vjE (n : Nat) (l : List Int) : Int := if vjB n l = true then 0 else 1
theorem vjE_0 {n : Nat} {l : List Int} (h : vjB n l = true) : vjE n l = 0 := by rw [vjE, if_pos h]
theorem vjE_1 {n : Nat} {l : List Int} (h : vjB n l = false) : vjE n l = 1 := by rw [vjE, h]; rfl
theorem Jx.jl {n m : Nat} {l : List Int} (q : Jx n m l) (v : VJ n l) : Jl n m l := ⟨by omega, by have := v.hi; omega, by rw [Int.toNat_natCast]; exact q.le, q.ln, by rw [Int.toNat_natCast]; exact q.jw⟩
theorem Jx.jt {n m : Nat} {l : List Int} (q : Jx n m l) (v : VJ n l) : Jl n (n * 2) (l.take (n * 2)) := ⟨by omega, by have := v.hi; omega, by rw [Int.toNat_natCast]; exact Nat.le_refl _, by have := q.le; have := q.ln; simp; omega, by rw [Int.toNat_natCast]; exact (Sm.take (n := n) (l := l)).jw q.jw⟩

/-! ### Functions of jobs that answer a list and a code -/
noncomputable def gJs (t : TypeId) (s : Nat) (kk : List EK) (K : Nat → List Int → Nat) (F : Nat → List Int → List Int) (E : Nat → List Int → Int) : EntryC := fun args H k => match args with
  | [.a (.c (.slc id b z st len _))] => match getB H id with
    | .cells _ t' [.run ks m l] => ((t' = 63 ∧ b = 0 ∧ z = 0 ∧ st = 2 ∧ ks = [.i8, .u16]) ∧ 0 ≤ len ∧ Jx len.toNat m l) ∧
      withLenP H fun h => ∀ N L cp, Gq s (K len.toNat l) (F len.toNat l) N L cp → k (.tup [.c (.slc h 0 0 s (K len.toNat l) cp), .c (.int .i64 (E len.toNat l))]) (H ++ [.cells true t [.run kk N L]])
    | _ => Stuck "jobs"
  | _ => Stuck "jobs"
/-- What its execution is to show. -/
def PJs (t : TypeId) (s : Nat) (kk : List EK) (K : Nat) (F : List Int) (E : Int) (lv : LV) (H' : List Blk) : Prop := ∃ x : Nat × List Int × Int, Gq s K F x.1 x.2.1 x.2.2 ∧ leSt ⟨[lv], H'⟩ ⟨[rnL ([0].length + ·) (.tup [.c (.slc 0 0 0 s K x.2.2), .c (.int .i64 E)])], deadsN [0].length ++ [.cells true t [.run kk x.1 x.2.1]]⟩ [0].length (resB lv)
theorem gJs_ok {f : FuncId} {fn : Func} {t : TypeId} {s : Nat} {kk : List EK} {K : Nat → List Int → Nat} {F : Nat → List Int → List Int} {E : Nat → List Int → Int} {C : Ctr} (hC : CtrOk Tryd.prog TT C) {inl : Nat → List Int → FuncId → Option (Func × (Nat → LM))} (hI : ∀ n l, InlOk Tryd.prog (inl n l)) {Λ : Nat → List Int → Nat → LM}
    (hf : Tryd.prog.funcs[f]? = some fn) (h2 : (fn.name == "runtime.NumGoroutine") = false) (h3 : fn.body.isNone = false)
    (x : ∀ (m n : Nat) (l : List Int) (cap : Int), Jx n m l → Fex true TT (inlN true TT C (inl n l) 6) C (Λ n l) fn [.a (.c (.slc 0 0 0 2 n cap))] [.cells false 63 [.run [.i8, .u16] m l]] (PJs t s kk (K n l) (F n l) (E n l))) :
    EntryCOk Tryd.prog TT f (gJs t s kk K F E) := by
  refine ⟨fnOk hf h2 h3, ?_⟩
  intro args H k hh n0 w0 β w vals hG hH hA
  unfold gJs at hh
  split at hh
  · split at hh
    · rename_i id b z st len cap _ o t' ks m l hg
      obtain ⟨⟨⟨rfl, rfl, rfl, rfl, rfl⟩, h0, q⟩, hk⟩ := hh
      have hk := withLenP_sound hk
      obtain ⟨n, rfl⟩ := Int.eq_ofNat_of_zero_le h0
      rw [Int.toNat_natCast] at q hk
      refine (entry_fresh tt_ok (inlN_ok tt_ok hC mixed (hI n l) 6) hC mixed hf [id] (x m n l cap q) rfl (fun _ => rfl) (fun _ => rfl) ⟨.inr (by rw [hg]; rfl), trivial⟩ hG hH hA).mono ?_
      rintro e w' ⟨v, γ, x, rfl, h4, h5, h6⟩
      exact ⟨v, γ, _, _, rfl, hk _ _ _ h4, h5, h6⟩
    · exact hh.elim
  · exact hh.elim
theorem pjs_e {s K : Nat} {F : List Int} {E E' : Int} {N : Nat} {L : List Int} {cp : Int} (hK : K = 0) (hF : F = []) (g : Gq s 0 [] N L cp) (hE : E' = E) : ∃ x : Nat × List Int × Int, Gq s K F x.1 x.2.1 x.2.2 ∧ ((0 = (K : Int) ∧ cp = x.2.2) ∧ E' = E) ∧ N = x.1 ∧ L = x.2.1 := by
  subst hK hF; exact ⟨(N, L, cp), g, ⟨⟨rfl, rfl⟩, hE⟩, rfl, rfl⟩
theorem pjs_k {s K K' : Nat} {F F' : List Int} {E E' : Int} {N : Nat} {L : List Int} {cp : Int} (hK : K' = K) (hF : F' = F) (g : Gq s K' F' N L cp) (hE : E' = E) : ∃ x : Nat × List Int × Int, Gq s K F x.1 x.2.1 x.2.2 ∧ (((K' : Int) = (K : Int) ∧ cp = x.2.2) ∧ E' = E) ∧ N = x.1 ∧ L = x.2.1 := by
  subst hK hF; exact ⟨(N, L, cp), g, ⟨⟨rfl, rfl⟩, hE⟩, rfl, rfl⟩

/-! ### OrderOf -/
theorem or_0 {n : Nat} {l : List Int} (h : vjB n l = true) : orK n l = n ∧ orF n l = odI l n n := by
  constructor
  · rw [orK, if_pos h]
  · rw [orF, if_pos h]
theorem or_1 {n : Nat} {l : List Int} (h : vjB n l = false) : orK n l = 0 ∧ orF n l = [] := by
  constructor
  · rw [orK, h]; rfl
  · rw [orF, h]; rfl
theorem x_OrderOfS (m n : Nat) (l : List Int) (cap : Int) (q : Jx n m l) : Fex true TT (inlN true TT Cj4 (lookI ILz) 6) Cj4 U0 Tryd.f14 [.a (.c (.slc 0 0 0 2 n cap))] [.cells false 63 [.run [.i8, .u16] m l]] (PJs 2 1 [.i64] (orK n l) (orF n l) (vjE n l)) := by
  refine Go.Sx.by_eq (q := True ∧ True ∧ True ∧ (((63 : Nat) = (63 : Nat) ∧ (0 : Nat) = (0 : Nat) ∧ (0 : Int) = (0 : Int) ∧ (2 : Nat) = (2 : Nat) ∧ [Go.Sx.EK.i8, Go.Sx.EK.u16] = [Go.Sx.EK.i8, Go.Sx.EK.u16]) ∧ (0 : Int) ≤ (↑n : Int) ∧ Jx (Int.toNat (↑n : Int)) m l) ∧ True ∧ ((!vjB (Int.toNat (↑n : Int)) l) = Bool.true → True ∧ True ∧ True ∧ ∃ (x : Nat × List Int × Int), Gq (1 : Nat) (orK n l) (orF n l) x.fst x.snd.fst x.snd.snd ∧ ((Go.Sx.Cel.slc (1 : Nat) (0 : Nat) (0 : Int) (1 : Nat) (0 : Int) (0 : Int) = Go.Sx.Cel.slc (1 : Nat) (0 : Nat) (0 : Int) (1 : Nat) (↑(orK n l) : Int) x.snd.snd ∧ (Go.IntKind.i64 = Go.IntKind.i64 ∧ (1 : Int) = vjE n l) ∧ True) ∧ True) ∧ True ∧ (Bool.true = Bool.true ∧ (2 : Nat) = (2 : Nat) ∧ ([Go.Sx.EK.i64] = [Go.Sx.EK.i64] ∧ (0 : Nat) = x.fst ∧ [] = x.snd.fst) ∧ True) ∧ True) ∧ ((!vjB (Int.toNat (↑n : Int)) l) = Bool.false → True ∧ (((63 : Nat) = (63 : Nat) ∧ (0 : Nat) = (0 : Nat) ∧ (0 : Int) = (0 : Int) ∧ (2 : Nat) = (2 : Nat) ∧ [Go.Sx.EK.i8, Go.Sx.EK.u16] = [Go.Sx.EK.i8, Go.Sx.EK.u16]) ∧ Jl (↑n : Int) m l) ∧ ∀ (N : Nat) (L : List Int) (cp : Int), Gq (1 : Nat) (odK l (Int.toNat (↑n : Int))) (odV l (Int.toNat (↑n : Int))) N L cp → True ∧ True ∧ True ∧ True ∧ True ∧ True ∧ True ∧ True ∧ ∃ (x : Nat × List Int × Int), Gq (1 : Nat) (orK n l) (orF n l) x.fst x.snd.fst x.snd.snd ∧ ((Go.Sx.Cel.slc (1 : Nat) (0 : Nat) (0 : Int) (1 : Nat) (↑(odK l (Int.toNat (↑n : Int))) : Int) cp = Go.Sx.Cel.slc (1 : Nat) (0 : Nat) (0 : Int) (1 : Nat) (↑(orK n l) : Int) x.snd.snd ∧ (Go.IntKind.i64 = Go.IntKind.i64 ∧ (0 : Int) = vjE n l) ∧ True) ∧ True) ∧ True ∧ (Bool.true = Bool.true ∧ (2 : Nat) = (2 : Nat) ∧ ([Go.Sx.EK.i64] = [Go.Sx.EK.i64] ∧ N = x.fst ∧ L = x.snd.fst) ∧ True) ∧ True)) (by kernel_rfl) ?_
  simp only [true_and, and_true, and_self, decide_eq_true_eq, decide_eq_false_iff_not, Bool.not_eq_true', Bool.not_eq_false', Bool.not_true, Bool.not_false, beq_iff_eq, beq_eq_false_iff_ne, bne_iff_ne, bne_eq_false_iff_eq, ne_eq, not_true_eq_false, not_false_eq_true, false_implies, true_implies, implies_true, forall_const, exists_const, ↓reduceIte, Int.reduceEq, Int.toNat_natCast, Bool.false_eq_true, Bool.true_eq_false, reduceCtorEq, Int.zero_add, Nat.add_zero, Int.ofNat_eq_natCast, Int.toNat_natCast, Nat.mul_one, Cel.slc.injEq]
  refine ⟨⟨by omega, q⟩, fun hv => ?_, fun hv => ⟨q.jl (vjB_t.1 hv), fun N L cp g => ?_⟩⟩
  · obtain ⟨h1, h2⟩ := or_1 hv
    exact pjs_e h1 h2 Gq.nil (vjE_1 hv).symm
  · obtain ⟨h1, h2⟩ := or_0 hv
    obtain ⟨z1, z2, _⟩ := od_all (vjB_t.1 hv).od
    exact pjs_k (z1.trans h1.symm) (z2.trans h2.symm) g (vjE_0 hv).symm
theorem x_OrderOfI (m n : Nat) (l : List Int) (cap : Int) (q : Jx n m l) : Fex true TT (inlN true TT Cj4 (lookI ILz) 6) Cj4 U0 Tryd.f16 [.a (.c (.slc 0 0 0 2 n cap))] [.cells false 63 [.run [.i8, .u16] m l]] (PJs 2 1 [.i64] (orK n l) (orF n l) (vjE n l)) := by
  refine Go.Sx.by_eq (q := True ∧ True ∧ True ∧ (((63 : Nat) = (63 : Nat) ∧ (0 : Nat) = (0 : Nat) ∧ (0 : Int) = (0 : Int) ∧ (2 : Nat) = (2 : Nat) ∧ [Go.Sx.EK.i8, Go.Sx.EK.u16] = [Go.Sx.EK.i8, Go.Sx.EK.u16]) ∧ (0 : Int) ≤ (↑n : Int) ∧ Jx (Int.toNat (↑n : Int)) m l) ∧ (vjB (Int.toNat (↑n : Int)) l = Bool.true → True ∧ True ∧ True ∧ True ∧ True ∧ True ∧ (((108 : Nat) = (108 : Nat) ∧ (0 : Nat) = (0 : Nat) ∧ (0 : Int) = (0 : Int) ∧ (2 : Nat) = (2 : Nat) ∧ [Go.Sx.EK.i64, Go.Sx.EK.u16] = [Go.Sx.EK.i64, Go.Sx.EK.u16]) ∧ Jl (↑n : Int) (Int.toNat (↑n : Int) * (2 : Nat)) (List.take (Int.toNat (↑n : Int) * (2 : Nat)) l)) ∧ ∀ (N : Nat) (L : List Int) (cp : Int), Gq (1 : Nat) (List.length (od (List.take (Int.toNat (↑n : Int) * (2 : Nat)) l) (Int.toNat (↑n : Int)) (Int.toNat (↑n : Int))).fst) (odI (List.take (Int.toNat (↑n : Int) * (2 : Nat)) l) (Int.toNat (↑n : Int)) (Int.toNat (↑n : Int))) N L cp → True ∧ True ∧ True ∧ True ∧ ∃ (x : Nat × List Int × Int), Gq (1 : Nat) (orK n l) (orF n l) x.fst x.snd.fst x.snd.snd ∧ ((Go.Sx.Cel.slc (2 : Nat) (0 : Nat) (0 : Int) (1 : Nat) (↑(List.length (od (List.take (Int.toNat (↑n : Int) * (2 : Nat)) l) (Int.toNat (↑n : Int)) (Int.toNat (↑n : Int))).fst) : Int) cp = Go.Sx.Cel.slc (2 : Nat) (0 : Nat) (0 : Int) (1 : Nat) (↑(orK n l) : Int) x.snd.snd ∧ (Go.IntKind.i64 = Go.IntKind.i64 ∧ (0 : Int) = vjE n l) ∧ True) ∧ True) ∧ True ∧ (Bool.true = Bool.true ∧ (2 : Nat) = (2 : Nat) ∧ ([Go.Sx.EK.i64] = [Go.Sx.EK.i64] ∧ N = x.fst ∧ L = x.snd.fst) ∧ True) ∧ True) ∧ (vjB (Int.toNat (↑n : Int)) l = Bool.false → True ∧ True ∧ True ∧ True ∧ True ∧ True ∧ ∀ (N : Nat) (L : List Int) (cp : Int), Gq (1 : Nat) (0 : Nat) [] N L cp → True ∧ (129 : Nat) = (129 : Nat) ∧ True ∧ True ∧ ∃ (x : Nat × List Int × Int), Gq (1 : Nat) (orK n l) (orF n l) x.fst x.snd.fst x.snd.snd ∧ ((Go.Sx.Cel.slc (1 : Nat) (0 : Nat) (0 : Int) (1 : Nat) (0 : Int) cp = Go.Sx.Cel.slc (1 : Nat) (0 : Nat) (0 : Int) (1 : Nat) (↑(orK n l) : Int) x.snd.snd ∧ (Go.IntKind.i64 = Go.IntKind.i64 ∧ (1 : Int) = vjE n l) ∧ True) ∧ True) ∧ True ∧ (Bool.true = Bool.true ∧ (2 : Nat) = (2 : Nat) ∧ ([Go.Sx.EK.i64] = [Go.Sx.EK.i64] ∧ N = x.fst ∧ L = x.snd.fst) ∧ True) ∧ True)) (by kernel_rfl) ?_
  simp only [true_and, and_true, and_self, decide_eq_true_eq, decide_eq_false_iff_not, Bool.not_eq_true', Bool.not_eq_false', Bool.not_true, Bool.not_false, beq_iff_eq, beq_eq_false_iff_ne, bne_iff_ne, bne_eq_false_iff_eq, ne_eq, not_true_eq_false, not_false_eq_true, false_implies, true_implies, implies_true, forall_const, exists_const, ↓reduceIte, Int.reduceEq, Int.toNat_natCast, Bool.false_eq_true, Bool.true_eq_false, reduceCtorEq, Int.zero_add, Nat.add_zero, Int.ofNat_eq_natCast, Int.toNat_natCast, Nat.mul_one, Cel.slc.injEq]
  have sm : Sm n (l.take (n * 2)) l := Sm.take
  refine ⟨⟨by omega, q⟩, fun hv => ⟨q.jt (vjB_t.1 hv), fun N L cp g => ?_⟩, fun hv N L cp g => ?_⟩
  · obtain ⟨h1, h2⟩ := or_0 hv
    refine pjs_k ?_ ?_ g (vjE_0 hv).symm
    · rw [h1, sm.od]; exact (vjB_t.1 hv).len
    · rw [h2, sm.odI]
  · obtain ⟨h1, h2⟩ := or_1 hv
    exact pjs_e h1 h2 g (vjE_1 hv).symm
noncomputable def gOr : EntryC := gJs 2 1 [.i64] orK orF vjE
theorem e_OrderOfS : EntryCOk Tryd.prog TT 14 gOr := gJs_ok Cj4_ok (inl := fun _ _ => lookI ILz) (Λ := fun _ _ => U0) (fun _ _ => ILz_ok.ok) Tryd.func14 (by kernel_rfl) rfl x_OrderOfS
theorem e_OrderOfI : EntryCOk Tryd.prog TT 16 gOr := gJs_ok Cj4_ok (inl := fun _ _ => lookI ILz) (Λ := fun _ _ => U0) (fun _ _ => ILz_ok.ok) Tryd.func16 (by kernel_rfl) rfl x_OrderOfI

end Go.Proofs.YtmgkecegfjpagaaDoor
