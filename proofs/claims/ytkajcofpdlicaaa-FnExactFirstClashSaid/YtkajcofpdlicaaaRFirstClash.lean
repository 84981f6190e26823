/- FnExactFirstClash: whatever comes in, the law returns true and what came in reads as it did. No conditions. -/
import Derived.Test.YtkajcofpdlicaaaLFirstClash
import Derived.Test.YtkajcofpdlicaaaRows
import Derived.WalkKit
import Derived.ProofKit
import Derived.OpenShut
import Derived.ChangeOld
import Derived.Below
set_option linter.unusedSimpArgs false
set_option linter.unusedVariables false
namespace Go.Proofs.Ytkajcofpdlicaaa.fnExactFirstClash
open Go.Sx Go.ChangeShapes Go.WideShapes Go.ChangeAt Go.RowKit

theorem own : ownKnob Try.prog.godebug = none := by kernel_rfl
theorem laidOut : laidOutB Try.prog = true := by kernel_rfl

theorem walk (W : World) (x0 : Value) (b0 off0 : Nat) (L0 : List (Nat × List Int)) (ns0 : Ns16 L0) (len0 cap0 : Int) (hl0 : (L0.length : Int) = len0) (hm0 : len0 ≤ 9223372036854775807) (o0 : LVR [b0] (.a (.c (.slc 0 off0 0 1 len0 cap0))) x0) (k0 : BlkR W.heap.size (Base.pl W) [b0] W 0 b0 (.nst false (0, none) off0 [.i16] 1 L0)) (x1 : Int) (b1 : -9223372036854775808 ≤ x1 ∧ x1 ≤ 9223372036854775807) (x2 : Int) (b2 : -9223372036854775808 ≤ x2 ∧ x2 ≤ 9223372036854775807) :
    Calls Try.prog 13 #[x0, (.int .i64 x1), (.int .i64 x2)] W fun e W' => e = .returned (.bool true) ∧ Below W.heap.size W W' := by
  refine ((law_FirstClash 0 off0 L0 ns0 len0 cap0 hl0 hm0 x1 b1 x2 b2).plain tt_ok (inlN_ok tt_ok Cfcl_ok mixed ILfl_ok.ok 3) Cfcl_ok mixed Try.func13 rfl (fun g v h => by cases h) (HR.reads (bs := [b0]) (Bs := [.nst false (0, none) off0 [.i16] 1 L0]) rfl (fun i b B hB hb => by match i with | 0 => simp at hB hb; subst hB; subst hb; exact ⟨rfl, k0⟩ | i + 1 => simp at hB)) (β1 := []) (vals := #[x0, (.int .i64 x1), (.int .i64 x2)]) ⟨x0, [(.int .i64 x1), (.int .i64 x2)], rfl, (LVR.fw (f := (0 + ·)) (β := [b0]) (fun id b h => by cases id with | zero => simpa using h | succ id => simp at h) o0), ⟨(.int .i64 x1), [(.int .i64 x2)], rfl, rfl, ⟨(.int .i64 x2), [], rfl, rfl, rfl⟩⟩⟩).mono ?_
  rintro e W' ⟨v, rfl, hb, hv⟩
  have hv : v = .bool true := hv
  subst hv
  exact ⟨rfl, hb⟩

set_option maxRecDepth 100000 in
theorem lifted (os : Os) (started : os.Started) (H : Type) (enc : TypeId × Value → H) :
    ReturnsInHanded {} Try.checked os 13 .any (Rows.fnExactFirstClashSpec.pre6 enc Try.prog Try.f13 Rows.fnExactFirstClashRow.domain false) (Rows.fnExactFirstClashSpec.post enc Try.prog Try.f13 false true false false) := by
  refine returnsInHanded_of_change (C := Try.checked) own started (by kernel_rfl) Try.func13
    (ChangeSpec.witness6 (enc := enc) (C := Try.checked) false ⟨#[], #[.slice none 0 0, .int .i64 0, .int .i64 0], []⟩ 8 (by kernel_rfl) (by kernel_rfl) (by kernel_rfl) (by kernel_rfl)) ?_
  intro W base args ds gs before hval0 hW hcnd _
  have hval : ∀ (j : Nat) t v, Try.f13.params[j]? = some t → args[j]? = some v → Value.okWide Try.prog W .any base t v := hval0
  have hW' := hW
  obtain ⟨p, q, hA0, hV, rfl, hfz, hnd⟩ := hW
  have hA : DataW.TrodAll enc Try.prog W 0 (fun _ => true) true Try.f13.params.toList args.toList ds p := hA0
  rw [Try.params13] at hA hval
  obtain ⟨v0, vs0, d0, ds0, p0, q0, hargs, rfl, rfl, h0, r0⟩ := trodAll_cons hA
  obtain ⟨v1, vs1, d1, ds1, p1, q1, rfl, rfl, rfl, h1, r1⟩ := trodAll_cons r0
  obtain ⟨v2, vs2, d2, ds2, p2, q2, rfl, rfl, rfl, h2, r2⟩ := trodAll_cons r1
  obtain ⟨rfl, rfl, rfl⟩ := trodAll_nil r2
  obtain rfl : args = #[v0, v1, v2] := by cases args; simp_all
  obtain ⟨rfl, rfl⟩ := trodVars_none hV
  have k0 := h0
  have lt0 : ∀ x ∈ p0, x.block < W.heap.size := by obtain ⟨m, hm⟩ := k0; exact DataW.trod_lt m _ _ _ hm
  obtain ⟨b0, off0, len0, cap0, L0, lc0, cm0, ll0, wf0, o0, bk0⟩ := open_nst Try.underlying91 Try.underlying71 (hval 0 91 v0 rfl rfl) h0 [.i16] 1 (by kernel_rfl) (by kernel_rfl)
  obtain ⟨a1, rfl, rfl, rfl, wf1⟩ := open_int Try.underlying2 (hval 1 2 v1 rfl rfl) h1
  obtain ⟨a2, rfl, rfl, rfl, wf2⟩ := open_int Try.underlying2 (hval 2 2 v2 rfl rfl) h2
  clear hA0 hval0
  refine (walk W v0 b0 off0 L0 (ns16_of wf0) len0 cap0 (by omega) (by simp only [maxLen] at cm0; omega) o0 bk0 a1 (bounds_i64 wf1) a2 (bounds_i64 wf2)).mono fun e W' ⟨he, bel⟩ => ?_
  subst he
  exact ⟨_, rfl, _, _, _, [], _, [], hW', trodAll_mk1 (shut_bool Try.underlying4 _), (trodAll_cons_mk (Below.trod laidOut (by kernel_rfl) (of_decide_eq_true (by kernel_rfl)) k0 bel lt0) (trodAll_cons_mk (shut_int Try.underlying2 wf1) (trodAll_cons_mk (shut_int Try.underlying2 wf2) trodAll_mk0))), rfl, bel.frame _, fun h => by cases h⟩

theorem over : Rows.fnExactFirstClashRow.holds Try.pinned (OpenSpec.ofChange Rows.fnExactFirstClashSpec) :=
  OpenClaim.holds_of_wide 13 Try.f13 rfl rfl rfl rfl rfl rfl rfl ⟨rfl, rfl, rfl, rfl, rfl⟩ rfl rfl rfl rfl rfl (by kernel_rfl) Try.func13 (by kernel_rfl)
    (of_decide_eq_true (by kernel_rfl)) (by unfold Func.isWrapper; first | (rw [if_pos (by decide +kernel)]; kernel_rfl) | (rw [if_neg (by decide +kernel)]; exact ⟨rfl, rfl⟩))
    (fun os started H enc _ => lifted os started H enc)

/-- The given statement. -/
theorem proved : Rows.FnExactFirstClashSaid := over
#print axioms proved
end Go.Proofs.Ytkajcofpdlicaaa.fnExactFirstClash
