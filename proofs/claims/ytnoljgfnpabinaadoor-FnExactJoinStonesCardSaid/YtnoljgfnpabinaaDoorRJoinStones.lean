/- FnExactJoinStones: whatever comes in, the law returns true and what came in reads as it did. No conditions. -/
import Derived.Test.YtnoljgfnpabinaaDoorLJoinStones
import Derived.Test.YtnoljgfnpabinaaDoorRows
import Derived.Test.YtnoljgfnpabinaaDoorLaidX
import Derived.Test.YtnoljgfnpabinaaDoorCards
import Derived.Test.YtnoljgfnpabinaaDoorTie
import Derived.Lay
import Derived.MakeChecks
import Derived.OpenVars
import Derived.SevenTiedAt
import Derived.WalkKit
import Derived.ProofKit
import Derived.OpenShut
import Derived.ChangeOld
import Derived.Below
set_option linter.unusedSimpArgs false
set_option linter.unusedVariables false
namespace Go.Proofs.YtnoljgfnpabinaaDoor.fnExactJoinStones
open Go.Sx Go.ChangeShapes Go.WideShapes Go.ChangeAt Go.RowKit

theorem own : ownKnob Tryd.prog.godebug = none := by kernel_rfl
theorem laidOut : laidOutB Tryd.prog = true := by kernel_rfl

theorem walk (W : World) (a : Nat → Addr) (c : Nat → Value) (d1 : a 0 ≠ a 1) (d2 : a 1 ≠ a 2) (d3 : a 0 ≠ a 2) (hE : GOk (TTx a c) (Base.pl W)) (x0 : Value) (b0 off0 n0 : Nat) (l0 : List Int) (len0 cap0 : Int) (ws0 : WS [.i16] 2 n0 l0 len0 cap0) (o0 : LVR [b0] (.a (.c (.slc 0 off0 0 2 len0 cap0))) x0) (k0 : BlkR W.heap.size (Base.pl W) [b0] W 0 b0 (.wnd off0 [.i16] n0 l0)) (x1 : Value) (b1 off1 n1 : Nat) (l1 : List Int) (len1 cap1 : Int) (ws1 : WS [.i16] 2 n1 l1 len1 cap1) (o1 : LVR [b1] (.a (.c (.slc 0 off1 0 2 len1 cap1))) x1) (k1 : BlkR W.heap.size (Base.pl W) [b1] W 0 b1 (.wnd off1 [.i16] n1 l1)) :
    Calls Tryd.prog 3 #[x0, x1] W fun e W' => e = .returned (.bool true) ∧ Below W.heap.size W W' := by
  refine ((law_JoinStones (a := a) (c := c) off0 n0 l0 len0 cap0 ws0 off1 n1 l1 len1 cap1 ws1).plain ttx_ok (inlN_ok ttx_ok (Cjn_ok d1 d2 d3) mixed ILmk_ok.ok 3) (Cjn_ok d1 d2 d3) mixed Tryd.func3 rfl hE (HR.wnd2 k0 k1) (β1 := []) (vals := #[x0, x1]) ⟨x0, [x1], rfl, (LVR.fw (f := (0 + ·)) (β := [b0]) (fun id b h => by cases id with | zero => simpa using h | succ id => simp at h) o0), ⟨x1, [], rfl, (LVR.fw (f := (1 + ·)) (β := [b1]) (fun id b h => by cases id with | zero => simpa using h | succ id => simp at h) o1), rfl⟩⟩).mono ?_
  rintro e W' ⟨v, rfl, hb, hv⟩
  have hv : v = .bool true := hv
  subst hv
  exact ⟨rfl, hb⟩

set_option maxRecDepth 100000 in
theorem lifted (os : Os) (started : os.Started) (H : Type) (enc : TypeId × Value → H) :
    ReturnsInHanded {} Tryd.checked os 3 .any (fun w args => (Rows.fnExactJoinStonesSpec.pre enc Tryd.prog Tryd.f3 Rows.fnExactJoinStonesRow.domain false w args ∧ laidMetH Tryd.prog lst w) ∧ sizedMet enc Tryd.prog Tryd.f3 (OpenSpec.ofChange Rows.fnExactJoinStonesSpec) false w args) (Rows.fnExactJoinStonesSpec.post enc Tryd.prog Tryd.f3 false true false false) := by
  refine returnsInHanded_of_change_and (C := Tryd.checked) (X := fun w _ => laidMetH Tryd.prog lst w) (fun _ _ _ hh h => h.of_heap hh) own started (by kernel_rfl) Tryd.func3
    (ChangeSpec.witness_shaped (enc := enc) (C := Tryd.checked) (os := os) (X := fun w _ => laidMetH Tryd.prog lst w) false (World.laidAll Tryd.prog os lst) #[.slice none 0 0, .slice none 0 0] 8 (World.laidAll_os _ _ _)
      (World.shaped_of_ZipB (by kernel_rfl) (by kernel_rfl)) (by kernel_rfl) (by kernel_rfl) (by kernel_rfl)
      (by rw [MakeChecks.laidMetH_plain _ _ _ (by kernel_rfl)]; exact laidMet_laidAll _ (by kernel_rfl) (by kernel_rfl))) ?_
  intro W base args ds gs before hval0 hW hc0 _ hL _
  rw [MakeChecks.laidMetH_plain _ _ _ (by kernel_rfl)] at hL
  obtain ⟨a, c, ⟨z1, z2, z3⟩, hE⟩ := sentinelsX hL
  have hval : ∀ (j : Nat) t v, Tryd.f3.params[j]? = some t → args[j]? = some v → Value.okWide Tryd.prog W .any base t v := hval0
  have hW' := hW
  obtain ⟨p, q, hA0, hV, rfl, hfz, hnd⟩ := hW
  have hA : DataW.TrodAll enc Tryd.prog W 0 (fun _ => true) true Tryd.f3.params.toList args.toList ds p := hA0
  rw [Tryd.params3] at hA hval
  obtain ⟨v0, vs0, d0, ds0, p0, q0, hargs, rfl, rfl, h0, r0⟩ := trodAll_cons hA
  obtain ⟨v1, vs1, d1, ds1, p1, q1, rfl, rfl, rfl, h1, r1⟩ := trodAll_cons r0
  obtain ⟨rfl, rfl, rfl⟩ := trodAll_nil r1
  obtain rfl : args = #[v0, v1] := by cases args; simp_all
  have k0 := h0
  have lt0 : ∀ x ∈ p0, x.block < W.heap.size := by obtain ⟨m, hm⟩ := k0; exact DataW.trod_lt m _ _ _ hm
  obtain ⟨b0, off0, len0, cap0, l0, lc0, cm0, ll0, wf0, o0, bk0⟩ := open_sl Tryd.underlying22 (hval 0 22 v0 rfl rfl) h0 [.i16] 2 (by kernel_rfl)
  have k1 := h1
  have lt1 : ∀ x ∈ p1, x.block < W.heap.size := by obtain ⟨m, hm⟩ := k1; exact DataW.trod_lt m _ _ _ hm
  obtain ⟨b1, off1, len1, cap1, l1, lc1, cm1, ll1, wf1, o1, bk1⟩ := open_sl Tryd.underlying22 (hval 1 22 v1 rfl rfl) h1 [.i16] 2 (by kernel_rfl)
  clear hA0 hval0
  obtain ⟨g1, g2, g3, rfl⟩ : ∃ g1 g2 g3 : DataW H, gs = [g1, g2, g3] := three_vars hV
  have hV' := fun (W' : World) (bel : Below W.heap.size W W') => Below.trodVars laidOut bel (by kernel_rfl) hV
  refine (walk W a c z1 z2 z3 hE v0 b0 off0 (cap0 * 2) l0 len0 cap0 ⟨by omega, by simp only [maxLen] at cm0; omega, by omega, by rw [Int.toNat_natCast]; exact Nat.mul_le_mul_right _ lc0, ll0, wf0⟩ o0 bk0 v1 b1 off1 (cap1 * 2) l1 len1 cap1 ⟨by omega, by simp only [maxLen] at cm1; omega, by omega, by rw [Int.toNat_natCast]; exact Nat.mul_le_mul_right _ lc1, ll1, wf1⟩ o1 bk1).mono fun e W' ⟨he, bel⟩ => ?_
  subst he
  exact ⟨_, rfl, _, _, _, [], _, _, hW', trodAll_mk1 (shut_bool Tryd.underlying4 _), (trodAll_cons_mk (Below.trod laidOut (by kernel_rfl) (of_decide_eq_true (by kernel_rfl)) k0 bel lt0) (trodAll_cons_mk (Below.trod laidOut (by kernel_rfl) (of_decide_eq_true (by kernel_rfl)) k1 bel lt1) trodAll_mk0)), hV' W' bel, bel.frame _, fun h => by cases h⟩

theorem over : Rows.fnExactJoinStonesRow.holds Tryd.pinned (OpenSpec.ofChange Rows.fnExactJoinStonesSpec) :=
  OpenClaim.holds_of_wide 3 Tryd.f3 rfl rfl rfl rfl rfl rfl rfl ⟨rfl, rfl, rfl, rfl, rfl⟩ rfl rfl rfl rfl rfl (by kernel_rfl) Tryd.func3 (by kernel_rfl)
    (of_decide_eq_true (by kernel_rfl)) (by unfold Func.isWrapper; first | (rw [if_pos (by decide +kernel)]; kernel_rfl) | (rw [if_neg (by decide +kernel)]; exact ⟨rfl, rfl⟩))
    (fun os started H enc _ => lifted os started H enc)

/-- The given statement. -/
theorem proved : Rows.FnExactJoinStonesCardSaid :=
  Claim7.holds_tied_plain_at .later [] [.sentinel, .sentinel, .sentinel] true (true, "511d342b0c46c1cb184524899d4bfb9689855e9661d7155d395303afca3a8e20") true
    over (fun _ h => by cases h) (by kernel_rfl) (fun _ h => by cases h) fnExactJoinStones_row_tie rfl ⟨rfl, rfl⟩ (by kernel_rfl) rfl
    (fun f fn hf hfn => by
      obtain rfl : f = 3 := Option.some.inj ((show Tryd.prog.funcNamed "loop.example/g01322/laws.FnExactJoinStones" = some 3 by kernel_rfl).symm.trans hf) |>.symm
      obtain rfl : fn = Tryd.f3 := (Option.some.inj (Tryd.func3.symm.trans hfn)).symm
      exact ⟨by kernel_rfl, fun j t ht => by
        rw [Tryd.params3] at ht
        have hm := Array.mem_of_getElem? ht
        simp only [List.mem_toArray, List.mem_cons, List.not_mem_nil, or_false] at hm
        rcases hm with rfl | rfl
        · exact (show Tryd.prog.wantsStandIn 22 = false by kernel_rfl)
        · exact (show Tryd.prog.wantsStandIn 22 = false by kernel_rfl)⟩)
    (by kernel_rfl)
#print axioms proved
end Go.Proofs.YtnoljgfnpabinaaDoor.fnExactJoinStones
