/- FnExactStoneAt: whatever comes in, the law returns true and what came in reads as it did. No conditions. -/
import Derived.Test.YtkiblfgekojnoaaDoorLStoneAt
import Derived.Test.YtkiblfgekojnoaaDoorRows
import Derived.Test.YtkiblfgekojnoaaDoorLaid
import Derived.Test.YtkiblfgekojnoaaDoorCards
import Derived.Test.YtkiblfgekojnoaaDoorTie
import Derived.Lay
import Derived.MakeChecks
import Derived.OpenVars
import Derived.SevenTiedAt
import Derived.WalkKit
import Derived.ProofKit
import Derived.OpenShut
import Derived.ChangeOld
import Derived.Below
set_option linter.unusedSimpArgs false
set_option linter.unusedVariables false
namespace Go.Proofs.YtkiblfgekojnoaaDoor.fnExactStoneAt
open Go.Sx Go.ChangeShapes Go.WideShapes Go.ChangeAt Go.RowKit

theorem own : ownKnob Tryd.prog.godebug = none := by kernel_rfl
theorem laidOut : laidOutB Tryd.prog = true := by kernel_rfl

theorem walk (W : World) (ev : Nat → Value) (hE : GOk (TT ev) (Base.pl W)) (x0 : Value) (w0 h0 : Int) (r0 : Fr w0 h0) (o0 : ∀ β, LVR β (frC w0 h0) x0) (x1 : Value) (b1 off1 : Nat) (L1 : List (Nat × List Int)) (ns1 : NsL L1) (len1 cap1 : Int) (hl1 : (L1.length : Int) = len1) (hm1 : len1 ≤ 9223372036854775807) (o1 : LVR [b1] (.a (.c (.slc 0 off1 0 1 len1 cap1))) x1) (k1 : BlkR W.heap.size (Base.pl W) [b1] W 0 b1 (.nst false (0, none) off1 [.i16] 2 L1)) (x2 : Int) (b2 : -9223372036854775808 ≤ x2 ∧ x2 ≤ 9223372036854775807) (x3 : Int) (b3 : -9223372036854775808 ≤ x3 ∧ x3 ≤ 9223372036854775807) :
    Calls Tryd.prog 14 #[x0, x1, (.int .i64 x2), (.int .i64 x3)] W fun e W' => e = .returned (.bool true) ∧ Below W.heap.size W W' := by
  refine ((law_StoneAt (e := ev) w0 h0 r0 0 off1 L1 ns1 len1 cap1 hl1 hm1 x2 b2 x3 b3).plain tt_ok (inlN_ok tt_ok Cly8_ok mixed ILly4_ok.ok 3) Cly8_ok mixed Tryd.func14 rfl hE (HR.reads (bs := [b1]) (Bs := [.nst false (0, none) off1 [.i16] 2 L1]) rfl (fun i b B hB hb => by match i with | 0 => simp at hB hb; subst hB; subst hb; exact ⟨rfl, k1⟩ | i + 1 => simp at hB)) (β1 := []) (vals := #[x0, x1, (.int .i64 x2), (.int .i64 x3)]) ⟨x0, [x1, (.int .i64 x2), (.int .i64 x3)], rfl, (o0 _), ⟨x1, [(.int .i64 x2), (.int .i64 x3)], rfl, (LVR.fw (f := (0 + ·)) (β := [b1]) (fun id b h => by cases id with | zero => simpa using h | succ id => simp at h) o1), ⟨(.int .i64 x2), [(.int .i64 x3)], rfl, rfl, ⟨(.int .i64 x3), [], rfl, rfl, rfl⟩⟩⟩⟩).mono ?_
  rintro e W' ⟨v, rfl, hb, hv⟩
  have hv : v = .bool true := hv
  subst hv
  exact ⟨rfl, hb⟩

set_option maxRecDepth 100000 in
theorem lifted (os : Os) (started : os.Started) (H : Type) (enc : TypeId × Value → H) :
    ReturnsInHanded {} Tryd.checked os 14 .any (fun w args => (Rows.fnExactStoneAtSpec.pre enc Tryd.prog Tryd.f14 Rows.fnExactStoneAtRow.domain false w args ∧ laidMetH Tryd.prog lst w) ∧ sizedMet enc Tryd.prog Tryd.f14 (OpenSpec.ofChange Rows.fnExactStoneAtSpec) false w args) (Rows.fnExactStoneAtSpec.post enc Tryd.prog Tryd.f14 false true false false) := by
  refine returnsInHanded_of_change_and (C := Tryd.checked) (X := fun w _ => laidMetH Tryd.prog lst w) (fun _ _ _ hh h => h.of_heap hh) own started (by kernel_rfl) Tryd.func14
    (ChangeSpec.witness_shaped (enc := enc) (C := Tryd.checked) (os := os) (X := fun w _ => laidMetH Tryd.prog lst w) false (World.laidAll Tryd.prog os lst) #[.agg #[.int .i16 0, .int .i16 0], .slice none 0 0, .int .i64 0, .int .i64 0] 8 (World.laidAll_os _ _ _)
      (World.shaped_of_ZipB (by kernel_rfl) (by kernel_rfl)) (by kernel_rfl) (by kernel_rfl) (by kernel_rfl)
      (by rw [MakeChecks.laidMetH_plain _ _ _ (by kernel_rfl)]; exact laidMet_laidAll _ (by kernel_rfl) (by kernel_rfl))) ?_
  intro W base args ds gs before hval0 hW hc0 _ hL _
  rw [MakeChecks.laidMetH_plain _ _ _ (by kernel_rfl)] at hL
  obtain ⟨ev, hE⟩ := sentinels hL
  have hval : ∀ (j : Nat) t v, Tryd.f14.params[j]? = some t → args[j]? = some v → Value.okWide Tryd.prog W .any base t v := hval0
  have hW' := hW
  obtain ⟨p, q, hA0, hV, rfl, hfz, hnd⟩ := hW
  have hA : DataW.TrodAll enc Tryd.prog W 0 (fun _ => true) true Tryd.f14.params.toList args.toList ds p := hA0
  rw [Tryd.params14] at hA hval
  obtain ⟨v0, vs0, d0, ds0, p0, q0, hargs, rfl, rfl, h0, r0⟩ := trodAll_cons hA
  obtain ⟨v1, vs1, d1, ds1, p1, q1, rfl, rfl, rfl, h1, r1⟩ := trodAll_cons r0
  obtain ⟨v2, vs2, d2, ds2, p2, q2, rfl, rfl, rfl, h2, r2⟩ := trodAll_cons r1
  obtain ⟨v3, vs3, d3, ds3, p3, q3, rfl, rfl, rfl, h3, r3⟩ := trodAll_cons r2
  obtain ⟨rfl, rfl, rfl⟩ := trodAll_nil r3
  obtain rfl : args = #[v0, v1, v2, v3] := by cases args; simp_all
  have k0 := h0
  have lt0 : ∀ x ∈ p0, x.block < W.heap.size := by obtain ⟨m, hm⟩ := k0; exact DataW.trod_lt m _ _ _ hm
  obtain ⟨wd0, hg0, rg0, o0⟩ := open_fr (hval 0 46 v0 rfl rfl) h0
  have k1 := h1
  have lt1 : ∀ x ∈ p1, x.block < W.heap.size := by obtain ⟨m, hm⟩ := k1; exact DataW.trod_lt m _ _ _ hm
  obtain ⟨b1, off1, len1, cap1, L1, lc1, cm1, ll1, wf1, o1, bk1⟩ := open_nst Tryd.underlying51 Tryd.underlying22 (hval 1 51 v1 rfl rfl) h1 [.i16] 2 (by kernel_rfl) (by kernel_rfl)
  obtain ⟨a2, rfl, rfl, rfl, wf2⟩ := open_int Tryd.underlying2 (hval 2 2 v2 rfl rfl) h2
  obtain ⟨a3, rfl, rfl, rfl, wf3⟩ := open_int Tryd.underlying2 (hval 3 2 v3 rfl rfl) h3
  clear hA0 hval0
  obtain ⟨g1, g2, g3, rfl⟩ : ∃ g1 g2 g3 : DataW H, gs = [g1, g2, g3] := three_vars hV
  have hV' := fun (W' : World) (bel : Below W.heap.size W W') => Below.trodVars laidOut bel (by kernel_rfl) hV
  refine (walk W ev hE v0 wd0 hg0 rg0 o0 v1 b1 off1 L1 (ns_of wf1) len1 cap1 (by omega) (by simp only [maxLen] at cm1; omega) o1 bk1 a2 (bounds_i64 wf2) a3 (bounds_i64 wf3)).mono fun e W' ⟨he, bel⟩ => ?_
  subst he
  exact ⟨_, rfl, _, _, _, [], _, _, hW', trodAll_mk1 (shut_bool Tryd.underlying4 _), (trodAll_cons_mk (Below.trod laidOut (by kernel_rfl) (of_decide_eq_true (by kernel_rfl)) k0 bel lt0) (trodAll_cons_mk (Below.trod laidOut (by kernel_rfl) (of_decide_eq_true (by kernel_rfl)) k1 bel lt1) (trodAll_cons_mk (shut_int Tryd.underlying2 wf2) (trodAll_cons_mk (shut_int Tryd.underlying2 wf3) trodAll_mk0)))), hV' W' bel, bel.frame _, fun h => by cases h⟩

theorem over : Rows.fnExactStoneAtRow.holds Tryd.pinned (OpenSpec.ofChange Rows.fnExactStoneAtSpec) :=
  OpenClaim.holds_of_wide 14 Tryd.f14 rfl rfl rfl rfl rfl rfl rfl ⟨rfl, rfl, rfl, rfl, rfl⟩ rfl rfl rfl rfl rfl (by kernel_rfl) Tryd.func14 (by kernel_rfl)
    (of_decide_eq_true (by kernel_rfl)) (by unfold Func.isWrapper; first | (rw [if_pos (by decide +kernel)]; kernel_rfl) | (rw [if_neg (by decide +kernel)]; exact ⟨rfl, rfl⟩))
    (fun os started H enc _ => lifted os started H enc)

/-- The given statement. -/
theorem proved : Rows.FnExactStoneAtCardSaid :=
  Claim7.holds_tied_plain_at .later [] [.sentinel, .sentinel, .sentinel] true (true, "3ff9fbd67a887e538a8db093fe7a9500f7b32a00a6dd903c7551a9b39c3c80bb") true
    over (fun _ h => by cases h) (by kernel_rfl) (fun _ h => by cases h) fnExactStoneAt_row_tie rfl ⟨rfl, rfl⟩ (by kernel_rfl) rfl
    (fun f fn hf hfn => by
      obtain rfl : f = 14 := Option.some.inj ((show Tryd.prog.funcNamed "loop.example/g01322/laws.FnExactStoneAt" = some 14 by kernel_rfl).symm.trans hf) |>.symm
      obtain rfl : fn = Tryd.f14 := (Option.some.inj (Tryd.func14.symm.trans hfn)).symm
      exact ⟨by kernel_rfl, fun j t ht => by
        rw [Tryd.params14] at ht
        have hm := Array.mem_of_getElem? ht
        simp only [List.mem_toArray, List.mem_cons, List.not_mem_nil, or_false] at hm
        rcases hm with rfl | rfl | rfl | rfl
        · exact (show Tryd.prog.wantsStandIn 46 = false by kernel_rfl)
        · exact (show Tryd.prog.wantsStandIn 51 = false by kernel_rfl)
        · exact (show Tryd.prog.wantsStandIn 2 = false by kernel_rfl)
        · exact (show Tryd.prog.wantsStandIn 2 = false by kernel_rfl)⟩)
    (by kernel_rfl)
#print axioms proved
end Go.Proofs.YtkiblfgekojnoaaDoor.fnExactStoneAt
