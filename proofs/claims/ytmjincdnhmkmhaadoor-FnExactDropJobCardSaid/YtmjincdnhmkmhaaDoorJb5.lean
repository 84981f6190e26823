/- OrderOf: both sides. No conditions beyond the ranges of the kinds. -/
import Derived.Test.YtmjincdnhmkmhaaDoorJb4
set_option linter.unusedSimpArgs false
set_option linter.unusedVariables false
namespace Go.Proofs.YtmjincdnhmkmhaaDoor
open Go.Sx Go.RowKit

noncomputable def orK (n : Nat) (l : List Int) : Nat := if vjB n l = true then n else 0
noncomputable def orF (n : Nat) (l : List Int) : List Int := if vjB n l = true then odI l n n else []
noncomputable def vjE (n : Nat) (l : List Int) : Int := if vjB n l = true then 0 else 1
theorem vjE_0 {n : Nat} {l : List Int} (h : vjB n l = true) : vjE n l = 0 := by rw [vjE, if_pos h]
theorem vjE_1 {n : Nat} {l : List Int} (h : vjB n l = false) : vjE n l = 1 := by rw [vjE, h]; rfl
theorem Jx.jl {n m : Nat} {l : List Int} (q : Jx n m l) (v : VJ n l) : Jl n m l := ⟨by omega, by have := v.hi; omega, by rw [Int.toNat_natCast]; exact q.le, q.ln, by rw [Int.toNat_natCast]; exact q.jw⟩
theorem Jx.jt {n m : Nat} {l : List Int} (q : Jx n m l) (v : VJ n l) : Jl n (n * 2) (l.take (n * 2)) := ⟨by omega, by have := v.hi; omega, by rw [Int.toNat_natCast]; exact Nat.le_refl _, by have := q.le; have := q.ln; simp; omega, by rw [Int.toNat_natCast]; exact (Sm.take (n := n) (l := l)).jw q.jw⟩

/-! ### Functions of jobs that answer a list and a code -/
noncomputable def gJs (t : TypeId) (s : Nat) (kk : List EK) (K : Nat → List Int → Nat) (F : Nat → List Int → List Int) (E : Nat → List Int → Int) : EntryC := fun args H k => match args with
  | [.a (.c (.slc id b z st len _))] => match getB H id with
    | .cells _ t' [.run ks m l] => ((t' = 35 ∧ b = 0 ∧ z = 0 ∧ st = 2 ∧ ks = [.i8, .u16]) ∧ 0 ≤ len ∧ Jx len.toNat m l) ∧
      withLenP H fun h => ∀ N L cp, Gq s (K len.toNat l) (F len.toNat l) N L cp → k (.tup [.c (.slc h 0 0 s (K len.toNat l) cp), .c (.int .i64 (E len.toNat l))]) (H ++ [.cells true t [.run kk N L]])
    | _ => Stuck "jobs"
  | _ => Stuck "jobs"
/-- What its execution is to show. -/
def PJs (t : TypeId) (s : Nat) (kk : List EK) (K : Nat) (F : List Int) (E : Int) (lv : LV) (H' : List Blk) : Prop := ∃ x : Nat × List Int × Int, Gq s K F x.1 x.2.1 x.2.2 ∧ leSt ⟨[lv], H'⟩ ⟨[rnL ([0].length + ·) (.tup [.c (.slc 0 0 0 s K x.2.2), .c (.int .i64 E)])], deadsN [0].length ++ [.cells true t [.run kk x.1 x.2.1]]⟩ [0].length (resB lv)
theorem gJs_ok {f : FuncId} {fn : Func} {t : TypeId} {s : Nat} {kk : List EK} {K : Nat → List Int → Nat} {F : Nat → List Int → List Int} {E : Nat → List Int → Int} {C : Ctr} (hC : CtrOk Tryd.prog TT C) {inl : Nat → List Int → FuncId → Option (Func × (Nat → LM))} (hI : ∀ n l, InlOk Tryd.prog (inl n l)) {Λ : Nat → List Int → Nat → LM}
    (hf : Tryd.prog.funcs[f]? = some fn) (h2 : (fn.name == "runtime.NumGoroutine") = false) (h3 : fn.body.isNone = false)
    (x : ∀ (m n : Nat) (l : List Int) (cap : Int), Jx n m l → Fex true TT (inlN true TT C (inl n l) 6) C (Λ n l) fn [.a (.c (.slc 0 0 0 2 n cap))] [.cells false 35 [.run [.i8, .u16] m l]] (PJs t s kk (K n l) (F n l) (E n l))) :
    EntryCOk Tryd.prog TT f (gJs t s kk K F E) := by
  refine ⟨fnOk hf h2 h3, ?_⟩
  intro args H k hh n0 w0 β w vals hG hH hA
  unfold gJs at hh
  split at hh
  · split at hh
    · rename_i id b z st len cap _ o t' ks m l hg
      obtain ⟨⟨⟨rfl, rfl, rfl, rfl, rfl⟩, h0, q⟩, hk⟩ := hh
      have hk := withLenP_sound hk
      obtain ⟨n, rfl⟩ := Int.eq_ofNat_of_zero_le h0
      rw [Int.toNat_natCast] at q hk
      refine (entry_fresh tt_ok (inlN_ok tt_ok hC mixed (hI n l) 6) hC mixed hf [id] (x m n l cap q) rfl (fun _ => rfl) (fun _ => rfl) ⟨.inr (by rw [hg]; rfl), trivial⟩ hG hH hA).mono ?_
      rintro e w' ⟨v, γ, x, rfl, h4, h5, h6⟩
      exact ⟨v, γ, _, _, rfl, hk _ _ _ h4, h5, h6⟩
    · exact hh.elim
  · exact hh.elim
theorem pjs_e {s K : Nat} {F : List Int} {E E' : Int} {N : Nat} {L : List Int} {cp : Int} (hK : K = 0) (hF : F = []) (g : Gq s 0 [] N L cp) (hE : E' = E) : ∃ x : Nat × List Int × Int, Gq s K F x.1 x.2.1 x.2.2 ∧ ((0 = (K : Int) ∧ cp = x.2.2) ∧ E' = E) ∧ N = x.1 ∧ L = x.2.1 := by
  subst hK hF; exact ⟨(N, L, cp), g, ⟨⟨rfl, rfl⟩, hE⟩, rfl, rfl⟩
theorem pjs_k {s K K' : Nat} {F F' : List Int} {E E' : Int} {N : Nat} {L : List Int} {cp : Int} (hK : K' = K) (hF : F' = F) (g : Gq s K' F' N L cp) (hE : E' = E) : ∃ x : Nat × List Int × Int, Gq s K F x.1 x.2.1 x.2.2 ∧ (((K' : Int) = (K : Int) ∧ cp = x.2.2) ∧ E' = E) ∧ N = x.1 ∧ L = x.2.1 := by
  subst hK hF; exact ⟨(N, L, cp), g, ⟨⟨rfl, rfl⟩, hE⟩, rfl, rfl⟩

/-! ### OrderOf -/
theorem or_0 {n : Nat} {l : List Int} (h : vjB n l = true) : orK n l = n ∧ orF n l = odI l n n := by
  constructor
  · rw [orK, if_pos h]
  · rw [orF, if_pos h]
theorem or_1 {n : Nat} {l : List Int} (h : vjB n l = false) : orK n l = 0 ∧ orF n l = [] := by
  constructor
  · rw [orK, h]; rfl
  · rw [orF, h]; rfl

end Go.Proofs.YtmjincdnhmkmhaaDoor
