/- SpreadPicture: contracts of both sides. No conditions beyond the ranges of the kinds. -/
import Derived.Test.YtaaohciojedncaaSpr2
import Derived.Test.YtaaohciojedncaaSpr3
set_option linter.unusedSimpArgs false
set_option linter.unusedVariables false
namespace Go.Proofs.Ytaaohciojedncaa
open Go.Sx Go.RowKit

noncomputable def gSp : Entry := fun args H => match args with
  | [.a (.agg [.int .i8 w, .int .i8 h, .run [.u8] 432 l]), .a (.c (.slc id b z s len _))] => match getB H id with
    | .cells _ t [.run ks n p] => some ((t = 34 ∧ b = 0 ∧ z = 0 ∧ s = 3 ∧ ks = [.u8]) ∧ RgI w h l ∧ 0 ≤ len ∧ len ≤ 1048576 ∧ len.toNat * 3 ≤ n ∧ p.length = n ∧ byl (len.toNat * 3) p, spRr w h l len.toNat p)
    | _ => none
  | _ => none
theorem gSp_inv {args : List LV} {H : List Blk} {p : Prop} {r : LV} (he : gSp args H = some (p, r)) (hp : p) : ∃ (id m n : Nat) (o : Bool) (w h : Int) (l p : List Int) (cap : Int),
    args = [img w h l, .a (.c (.slc id 0 0 3 n cap))] ∧ getB H id = .cells o 34 [.run [.u8] m p] ∧ r = spRr w h l n p ∧ RgI w h l ∧ n ≤ 1048576 ∧ n * 3 ≤ m ∧ p.length = m ∧ byl (n * 3) p := by
  unfold gSp at he
  split at he
  · split at he
    · rename_i w h l id b z s len cap _ o t ks m p hg
      simp only [Option.some.injEq, Prod.mk.injEq] at he
      obtain ⟨rfl, rfl⟩ := he
      obtain ⟨⟨rfl, rfl, rfl, rfl, rfl⟩, r, h1, h2, h3, h4, h5⟩ := hp
      obtain ⟨n, rfl⟩ := Int.eq_ofNat_of_zero_le h1
      exact ⟨id, m, n, o, w, h, l, p, cap, rfl, hg, rfl, r, by omega, by simpa using h3, h4, by simpa using h5⟩
    · simp at he
  · simp at he
theorem e_SpreadS : EntryOk Try.prog TT 5 gSp := by
  refine ⟨fnOk Try.func5 (by kernel_rfl) rfl, ?_⟩
  intro args H p r he hp n0 w0 β w vals hG hH hA
  obtain ⟨id, m, n, o, w, h, l, p, cap, rfl, hg, rfl, r, h1, h2, h3, h4⟩ := gSp_inv he hp
  exact entry_view tt_ok (inlN_ok tt_ok Csp_ok mixed (ILs0_ok).ok 4) Csp_ok mixed Try.func5 [id] (x_SpreadS w h l r m n p cap h1 h2 h3 h4) rfl rfl ⟨.inr (by rw [hg]; rfl), trivial⟩ hG hH hA

theorem e_SpreadI : EntryOk Try.prog TT 8 gSp := by
  refine ⟨fnOk Try.func8 (by kernel_rfl) rfl, ?_⟩
  intro args H p r he hp n0 w0 β w vals hG hH hA
  obtain ⟨id, m, n, o, w, h, l, p, cap, rfl, hg, rfl, r, h1, h2, h3, h4⟩ := gSp_inv he hp
  exact entry_view tt_ok (inlN_ok tt_ok Csp_ok mixed (ILs1_ok).ok 4) Csp_ok mixed Try.func8 [id] (x_SpreadI w h l r m n p cap h1 h2 h3 h4) rfl rfl ⟨.inr (by rw [hg]; rfl), trivial⟩ hG hH hA


noncomputable def Es4 : List (FuncId × Entry) := (5, gSp) :: (8, gSp) :: Ei3
theorem Es4_ok : EntriesOk Try.prog TT Es4 := ⟨e_SpreadS, e_SpreadI, Ei3_ok⟩
noncomputable abbrev Cs4 : Ctr := ctrOfM Es4 Mp3
theorem Cs4_ok : CtrOk Try.prog TT Cs4 := ctrOfM_ok Es4_ok Mp3_ok

end Go.Proofs.Ytaaohciojedncaa
