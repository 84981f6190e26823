/- FnExactDropJob: whatever comes in, the law returns true and what came in reads as it did. No conditions. -/
import Derived.Test.YtmjincdnhmkmhaaDoorLDropJob
import Derived.Test.YtmjincdnhmkmhaaDoorRows
import Derived.Test.YtmjincdnhmkmhaaDoorLaidH
import Derived.Test.YtmjincdnhmkmhaaDoorCards
import Derived.Test.YtmjincdnhmkmhaaDoorTie
import Derived.Lay
import Derived.ChangeVars
import Derived.Stop.Joined
import Derived.SevenTiedAt
import Derived.WalkKit
import Derived.ProofKit
import Derived.OpenShut
import Derived.ChangeOld
import Derived.Below
set_option linter.unusedSimpArgs false
set_option linter.unusedVariables false
namespace Go.Proofs.YtmjincdnhmkmhaaDoor.fnExactDropJob
open Go.Sx Go.ChangeShapes Go.WideShapes Go.ChangeAt Go.RowKit

theorem own : ownKnob Tryd.prog.godebug = none := by kernel_rfl
theorem laidOut : laidOutB Tryd.prog = true := by kernel_rfl

theorem walk (W : World) (hE : GOk TT (Base.pl W)) (x0 : Value) (b0 off0 n0 : Nat) (l0 : List Int) (len0 cap0 : Int) (ws0 : WS [.i8, .u16] 2 n0 l0 len0 cap0) (o0 : LVR [b0] (.a (.c (.slc 0 off0 0 2 len0 cap0))) x0) (k0 : BlkR W.heap.size (Base.pl W) [b0] W 0 b0 (.wnd off0 [.i8, .u16] n0 l0)) (x1 : Int) (b1 : -9223372036854775808 ≤ x1 ∧ x1 ≤ 9223372036854775807) :
    Calls Tryd.prog 3 #[x0, (.int .i64 x1)] W fun e W' => e = .returned (.bool true) ∧ Below W.heap.size W W' := by
  refine ((law_DropJob off0 n0 l0 len0 cap0 ws0 x1 b1).plain tt_ok (inlN_ok tt_ok Cj_DropJob_ok mixed ILml_ok.ok 3) Cj_DropJob_ok mixed Tryd.func3 rfl hE (HR.wnd1 k0) (β1 := []) (vals := #[x0, (.int .i64 x1)]) ⟨x0, [(.int .i64 x1)], rfl, (LVR.fw (f := (0 + ·)) (β := [b0]) (fun id b h => by cases id with | zero => simpa using h | succ id => simp at h) o0), ⟨(.int .i64 x1), [], rfl, rfl, rfl⟩⟩).mono ?_
  rintro e W' ⟨v, rfl, hb, hv⟩
  have hv : v = .bool true := hv
  subst hv
  exact ⟨rfl, hb⟩

set_option maxRecDepth 100000 in
theorem lifted (os : Os) (started : os.Started) (H : Type) (enc : TypeId × Value → H) :
    ReturnsInHanded {} Tryd.checked os 3 .any (fun w args => (Rows.fnExactDropJobSpec.pre enc Tryd.prog Tryd.f3 Rows.fnExactDropJobRow.domain false w args ∧ laidMetH Tryd.prog lst w) ∧ sizedMet enc Tryd.prog Tryd.f3 (OpenSpec.ofChange Rows.fnExactDropJobSpec) false w args) (Rows.fnExactDropJobSpec.post enc Tryd.prog Tryd.f3 false true false false) := by
  refine returnsInHanded_of_change_and (C := Tryd.checked) (X := fun w _ => laidMetH Tryd.prog lst w) (fun _ _ _ hh h => h.of_heap hh) own started (by kernel_rfl) Tryd.func3
    (ChangeSpec.witness_at (enc := enc) (C := Tryd.checked) (os := os) (X := fun w _ => laidMetH Tryd.prog lst w) false (laidWorld os) #[.slice none 0 0, .int .i64 0] 8 rfl (by kernel_rfl) (by kernel_rfl) (by kernel_rfl) (by kernel_rfl) (by kernel_rfl) (laidWorld_met os _)) ?_
  intro W base args ds gs before hval0 hW hc0 _ hL _
  have hE := handle_of_laid hL
  have hval : ∀ (j : Nat) t v, Tryd.f3.params[j]? = some t → args[j]? = some v → Value.okWide Tryd.prog W .any base t v := hval0
  have hW' := hW
  obtain ⟨p, q, hA0, hV, rfl, hfz, hnd⟩ := hW
  have hA : DataW.TrodAll enc Tryd.prog W 0 (fun _ => true) true Tryd.f3.params.toList args.toList ds p := hA0
  rw [Tryd.params3] at hA hval
  obtain ⟨v0, vs0, d0, ds0, p0, q0, hargs, rfl, rfl, h0, r0⟩ := trodAll_cons hA
  obtain ⟨v1, vs1, d1, ds1, p1, q1, rfl, rfl, rfl, h1, r1⟩ := trodAll_cons r0
  obtain ⟨rfl, rfl, rfl⟩ := trodAll_nil r1
  obtain rfl : args = #[v0, v1] := by cases args; simp_all
  obtain ⟨rfl, rfl⟩ := trodVars_none hV
  have k0 := h0
  have lt0 : ∀ x ∈ p0, x.block < W.heap.size := by obtain ⟨m, hm⟩ := k0; exact DataW.trod_lt m _ _ _ hm
  obtain ⟨b0, off0, len0, cap0, l0, lc0, cm0, ll0, wf0, o0, bk0⟩ := open_sl Tryd.underlying22 (hval 0 22 v0 rfl rfl) h0 [.i8, .u16] 2 (by kernel_rfl)
  obtain ⟨a1, rfl, rfl, rfl, wf1⟩ := open_int Tryd.underlying2 (hval 1 2 v1 rfl rfl) h1
  clear hA0 hval0
  refine (walk W hE v0 b0 off0 (cap0 * 2) l0 len0 cap0 ⟨by omega, by simp only [maxLen] at cm0; omega, by omega, by rw [Int.toNat_natCast]; exact Nat.mul_le_mul_right _ lc0, ll0, wf0⟩ o0 bk0 a1 (bounds_i64 wf1)).mono fun e W' ⟨he, bel⟩ => ?_
  subst he
  exact ⟨_, rfl, _, _, _, [], _, [], hW', trodAll_mk1 (shut_bool Tryd.underlying4 _), (trodAll_cons_mk (Below.trod laidOut (by kernel_rfl) (of_decide_eq_true (by kernel_rfl)) k0 bel lt0) (trodAll_cons_mk (shut_int Tryd.underlying2 wf1) trodAll_mk0)), rfl, bel.frame _, fun h => by cases h⟩

theorem over : Rows.fnExactDropJobRow.holds Tryd.pinned (OpenSpec.ofChange Rows.fnExactDropJobSpec) :=
  OpenClaim.holds_of_wide 3 Tryd.f3 rfl rfl rfl rfl rfl rfl rfl ⟨rfl, rfl, rfl, rfl, rfl⟩ rfl rfl rfl rfl rfl (by kernel_rfl) Tryd.func3 (by kernel_rfl)
    (of_decide_eq_true (by kernel_rfl)) (by unfold Func.isWrapper; first | (rw [if_pos (by decide +kernel)]; kernel_rfl) | (rw [if_neg (by decide +kernel)]; exact ⟨rfl, rfl⟩))
    (fun os started H enc _ => lifted os started H enc)

/-- The given statement. -/
theorem proved : Rows.FnExactDropJobCardSaid :=
  Claim7.holds_tied_plain_at .later [] [.handle] true (true, "77f93d863b20d4c1eb49f21d1bff38d8bb7cdfd7dc1eb51709be9f8ea38683b2") true
    over (fun _ h => by cases h) (by kernel_rfl) (fun _ h => by cases h) fnExactDropJob_row_tie rfl ⟨rfl, rfl⟩ (by kernel_rfl) rfl
    (fun f fn hf hfn => by
      obtain rfl : f = 3 := Option.some.inj ((show Tryd.prog.funcNamed "loop.example/g01322/laws.FnExactDropJob" = some 3 by kernel_rfl).symm.trans hf) |>.symm
      obtain rfl : fn = Tryd.f3 := (Option.some.inj (Tryd.func3.symm.trans hfn)).symm
      exact ⟨by kernel_rfl, fun j t ht => by
        rw [Tryd.params3] at ht
        have hm := Array.mem_of_getElem? ht
        simp only [List.mem_toArray, List.mem_cons, List.not_mem_nil, or_false] at hm
        rcases hm with rfl | rfl
        · exact (show Tryd.prog.wantsStandIn 22 = false by kernel_rfl)
        · exact (show Tryd.prog.wantsStandIn 2 = false by kernel_rfl)⟩)
    (by kernel_rfl)
#print axioms proved
end Go.Proofs.YtmjincdnhmkmhaaDoor.fnExactDropJob
