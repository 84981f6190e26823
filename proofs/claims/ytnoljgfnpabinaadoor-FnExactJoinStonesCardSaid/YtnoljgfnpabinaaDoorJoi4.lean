/- JoinStones: contracts of both sides. No conditions beyond the ranges of the kinds. -/
import Derived.Test.YtnoljgfnpabinaaDoorJoi3
set_option linter.unusedSimpArgs false
set_option linter.unusedVariables false
namespace Go.Proofs.YtnoljgfnpabinaaDoor
open Go.Sx Go.RowKit
variable {a : Nat → Addr} {c : Nat → Value}

noncomputable def gJn : EntryC := fun args H K => match args with
  | [.a (.c (.slc i1 o1 z1 s1 len1 cap1)), .a (.c (.slc i2 o2 z2 s2 len2 cap2))] => match getB H i1, getB H i2 with
    | .cells _ t1 [.run ks1 m1 l1], .cells _ t2 [.run ks2 m2 l2] => (((t1 = 35 ∧ o1 = 0 ∧ z1 = 0 ∧ s1 = 2 ∧ ks1 = [.i16]) ∧ 0 ≤ len1 ∧ len1 ≤ cap1 ∧ len1 ≤ 1048576 ∧ len1.toNat * 2 ≤ m1 ∧ l1.length = m1 ∧ wfl (len1.toNat * 2) l1) ∧ ((t2 = 35 ∧ o2 = 0 ∧ z2 = 0 ∧ s2 = 2 ∧ ks2 = [.i16]) ∧ 0 ≤ len2 ∧ len2 ≤ cap2 ∧ len2 ≤ 1048576 ∧ len2.toNat * 2 ≤ m2 ∧ l2.length = m2 ∧ wfl (len2.toNat * 2) l2)) ∧
      withLenP H fun m => ∀ N L cp, Gs (jnK len1.toNat l1 len2.toNat l2) (jnL len1.toNat l1 len2.toNat l2) N L cp → K (.tup [.c (.slc m 0 0 2 (jnK len1.toNat l1 len2.toNat l2) cp), .c (.int .i64 (jnE len1.toNat l1 len2.toNat l2))]) (H ++ [.cells true 35 [.run [.i16] N L]])
    | _, _ => Stuck "join"
  | _ => Stuck "join"
theorem e_JoinS {e : Nat → Value} : EntryCOk Tryd.prog (TT e) 5 gJn := by
  refine ⟨fnOk Tryd.func5 (by kernel_rfl) rfl, ?_⟩
  intro args H K hh n0 w0 β w vals hG hH hA
  unfold gJn at hh
  split at hh
  · split at hh
    · rename_i i1 o1 z1 s1 len1 cap1 i2 o2 z2 s2 len2 cap2 _ _ ow1 t1 ks1 m1 l1 ow2 t2 ks2 m2 l2 hg1 hg2
      obtain ⟨⟨⟨⟨rfl, rfl, rfl, rfl, rfl⟩, h1, h0, h2, h3, h4, h5⟩, ⟨rfl, rfl, rfl, rfl, rfl⟩, k1, k0, k2, k3, k4, k5⟩, hk⟩ := hh
      have hk := withLenP_sound hk
      obtain ⟨len1, rfl⟩ := Int.eq_ofNat_of_zero_le h1
      obtain ⟨len2, rfl⟩ := Int.eq_ofNat_of_zero_le k1
      refine (entry_fresh tt_ok (inlN_ok tt_ok Cjs_ok mixed ILjs_ok.ok 4) Cjs_ok mixed Tryd.func5 [i1, i2] (x_JoinS m1 len1 l1 cap1 (by omega) (by simpa using h3) h4 (by simpa using h5) m2 len2 l2 cap2 (by omega) (by simpa using k3) k4 (by simpa using k5)) rfl (fun _ => rfl) (fun _ => rfl) ⟨.inr (by rw [hg1]; rfl), .inr (by rw [hg2]; rfl), trivial⟩ hG hH hA).mono ?_
      rintro e w' ⟨v, γ, x, rfl, h4, h5, h6⟩
      exact ⟨v, γ, _, _, rfl, hk _ _ _ h4, h5, h6⟩
    · exact hh.elim
  · exact hh.elim
theorem e_JoinI (d1 : a 0 ≠ a 1) (d2 : a 1 ≠ a 2) (d3 : a 0 ≠ a 2) : EntryCOk Tryd.prog (TTx a c) 7 gJn := by
  refine ⟨fnOk Tryd.func7 (by kernel_rfl) rfl, ?_⟩
  intro args H K hh n0 w0 β w vals hG hH hA
  unfold gJn at hh
  split at hh
  · split at hh
    · rename_i i1 o1 z1 s1 len1 cap1 i2 o2 z2 s2 len2 cap2 _ _ ow1 t1 ks1 m1 l1 ow2 t2 ks2 m2 l2 hg1 hg2
      obtain ⟨⟨⟨⟨rfl, rfl, rfl, rfl, rfl⟩, h1, h0, h2, h3, h4, h5⟩, ⟨rfl, rfl, rfl, rfl, rfl⟩, k1, k0, k2, k3, k4, k5⟩, hk⟩ := hh
      have hk := withLenP_sound hk
      obtain ⟨len1, rfl⟩ := Int.eq_ofNat_of_zero_le h1
      obtain ⟨len2, rfl⟩ := Int.eq_ofNat_of_zero_le k1
      refine (entry_fresh ttx_ok (inlJ_ok ttx_ok Cji_ok mixed ILji_ok.ok _ 5) Cji_ok mixed Tryd.func7 [i1, i2] (x_JoinI d1 d2 d3 m1 len1 l1 cap1 h0 (by omega) (by simpa using h3) h4 (by simpa using h5) m2 len2 l2 cap2 k0 (by omega) (by simpa using k3) k4 (by simpa using k5)) rfl (fun _ => rfl) (fun _ => rfl) ⟨.inr (by rw [hg1]; rfl), .inr (by rw [hg2]; rfl), trivial⟩ hG hH hA).mono ?_
      rintro e w' ⟨v, γ, x, rfl, h4, h5, h6⟩
      exact ⟨v, γ, _, _, rfl, hk _ _ _ h4, h5, h6⟩
    · exact hh.elim
  · exact hh.elim
noncomputable def Mjn : List (FuncId × EntryC) := (5, gJn) :: (7, gJn) :: Mv
theorem Mjn_ok (d1 : a 0 ≠ a 1) (d2 : a 1 ≠ a 2) (d3 : a 0 ≠ a 2) : EntriesCOk Tryd.prog (TTx a c) Mjn := ⟨liftC e_JoinS, e_JoinI d1 d2 d3, liftCs Mv_ok⟩
noncomputable abbrev Cjn : Ctr := ctrOfM Ev Mjn
theorem Cjn_ok (d1 : a 0 ≠ a 1) (d2 : a 1 ≠ a 2) (d3 : a 0 ≠ a 2) : CtrOk Tryd.prog (TTx a c) Cjn := ctrOfM_ok (liftEs Ev_ok) (Mjn_ok d1 d2 d3)

end Go.Proofs.YtnoljgfnpabinaaDoor
