/- The corner with an index, as a contract. No conditions beyond the ranges of the kinds. -/
import Derived.Test.YtnoljgfnpabinaaDoorVal2
set_option linter.unusedSimpArgs false
set_option linter.unusedVariables false
namespace Go.Proofs.YtnoljgfnpabinaaDoor
open Go.Sx Go.RowKit

variable {e : Nat → Value}

/-! ### The corner with an index, as a contract -/
def gAt : Entry := fun args H => match args with
  | [.a (.c (.slc id b z s len _)), .a (.c (.int .i64 i))] => match getB H id with
    | .cells _ t [.run ks n l] => if t = 35 then some (b = 0 ∧ z = 0 ∧ s = 2 ∧ ks = [.i16] ∧ 0 < len ∧ len ≤ 1048576 ∧ len.toNat * 2 ≤ n ∧ l.length = n ∧ 0 ≤ i ∧ i ≤ 1048576, .a (.agg [.run [.i16] 2 (cor l (i.toNat % len.toNat))])) else none
    | _ => none
  | _ => none

theorem x_at (m n k : Nat) (l : List Int) (cap : Int) (h0 : 0 < n) (h1 : n ≤ 1048576) (h3 : n * 2 ≤ m) (h4 : l.length = m) (hk : k ≤ 1048576) : Fex true (TT e) (inlN true (TT e) C0 (lookI []) 4) C0 U0 Tryd.f26 [.a (.c (.slc 0 0 0 2 n cap)), .a (.c (.int .i64 k))] [.cells false 35 [.run [.i16] m l]] (fun lv _ => leL lv (.a (.agg [.run [.i16] 2 (cor l (k % n))]))) := by
  refine Go.Sx.by_eq (q := True ∧ True ∧ True ∧ True ∧ True ∧ True ∧ True ∧ ((-9223372036854775808 : Int) ≤ (↑k : Int) + (↑n : Int) ∧ (↑k : Int) + (↑n : Int) ≤ (9223372036854775807 : Int)) ∧ True ∧ (↑n : Int) ≠ (0 : Int) ∧ ((0 : Int) ≤ Int.tmod ((↑k : Int) + (↑n : Int)) (↑n : Int) ∧ Int.tmod ((↑k : Int) + (↑n : Int)) (↑n : Int) < (↑n : Int)) ∧ ((0 : Int) ≤ (0 : Int) + Int.tmod ((↑k : Int) + (↑n : Int)) (↑n : Int) ∧ Int.toNat ((0 : Int) + Int.tmod ((↑k : Int) + (↑n : Int)) (↑n : Int)) * (2 : Nat) + (0 : Nat) + (2 : Nat) ≤ m) ∧ True ∧ ([EK.i16] = [EK.i16] ∧ (2 : Nat) = (2 : Nat) ∧ List.take (2 : Nat) (List.drop (Int.toNat ((0 : Int) + Int.tmod ((↑k : Int) + (↑n : Int)) (↑n : Int)) * (2 : Nat) + (0 : Nat)) l) = cor l (k % n)) ∧ True) (by kernel_rfl) ?_
  have ec : ∀ i, List.take 2 (List.drop (i * 2) l) = cor l i := fun _ => rfl
  simp only [true_and, and_true, and_self, decide_eq_true_eq, decide_eq_false_iff_not, Bool.not_eq_true', Bool.not_eq_false', Bool.not_true, Bool.not_false, beq_iff_eq, beq_eq_false_iff_ne, bne_iff_ne, bne_eq_false_iff_eq, ne_eq, not_true_eq_false, not_false_eq_true, false_implies, true_implies, implies_true, forall_const, exists_const, ↓reduceIte, Int.reduceEq, Int.toNat_natCast, Bool.false_eq_true, Bool.true_eq_false, reduceCtorEq, Int.zero_add, Nat.add_zero, ec, tmodN, Int.ofNat_eq_natCast]
  have hm : k % n < n := Nat.mod_lt _ h0
  have et : ((k : Int) + (n : Int)).tmod (n : Int) = ((k % n : Nat) : Int) := by rw [← Int.natCast_add, ← Int.ofNat_tmod, Nat.add_mod_right]
  simp only [et, Int.toNat_natCast]
  exact ⟨⟨by omega, by omega⟩, by omega, ⟨by omega, by omega⟩, ⟨by omega, by omega⟩, trivial⟩

theorem e_at : EntryOk Tryd.prog (TT e) 26 gAt := by
  refine ⟨fnOk Tryd.func26 (by kernel_rfl) rfl, ?_⟩
  intro args H p r he hp n0 w0 β w vals hG hH hA
  unfold gAt at he
  split at he
  · split at he
    · rename_i id b z s len cap i _ o t ks m l hg
      split at he
      · rename_i ht
        subst ht
        simp only [Option.some.injEq, Prod.mk.injEq] at he
        obtain ⟨rfl, rfl⟩ := he
        obtain ⟨rfl, rfl, rfl, rfl, h1, h2, h3, h4, h5, h6⟩ := hp
        obtain ⟨n, rfl⟩ := Int.eq_ofNat_of_zero_le (Int.le_of_lt h1)
        obtain ⟨k, rfl⟩ := Int.eq_ofNat_of_zero_le h5
        exact entry_view tt_ok (inlN_ok tt_ok C0_ok mixed (InlsOk.ok (L := []) trivial) 4) C0_ok mixed Tryd.func26 [id] (x_at m n k l cap (by omega) (by omega) (by simpa using h3) h4 (by omega)) rfl rfl ⟨.inr (by rw [hg]; rfl), trivial⟩ hG hH hA
      · simp at he
    · simp at he
  · simp at he

def Ea : List (FuncId × Entry) := [(26, gAt)]
theorem Ea_ok : EntriesOk Tryd.prog (TT e) Ea := ⟨e_at, trivial⟩
abbrev Ca : Ctr := ctrOf Ea
theorem Ca_ok : CtrOk Tryd.prog (TT e) Ca := ctrOf_ok Ea_ok

theorem ws_wfa {n : Nat} {l : List Int} {len cap : Int} (ws : WS [.i16] 2 n l len cap) : wfl (len.toNat * 2) (l.take (len.toNat * 2)) := by
  intro i hi
  rw [getD_take' hi]
  have h := ws.wf i (by have := ws.hn; omega)
  simp only [List.length_cons, List.length_nil, Nat.zero_add, Nat.mod_one, List.getD_cons_zero] at h
  simpa [Lit.wf, IntKind.min, IntKind.max, IntKind.signed, IntKind.bits] using h

end Go.Proofs.YtnoljgfnpabinaaDoor
