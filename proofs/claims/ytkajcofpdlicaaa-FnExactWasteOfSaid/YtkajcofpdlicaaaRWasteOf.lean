/- FnExactWasteOf: whatever comes in, the law returns true and what came in reads as it did. No conditions. -/
import Derived.Test.YtkajcofpdlicaaaLWasteOf
import Derived.Test.YtkajcofpdlicaaaRows
import Derived.WalkKit
import Derived.ProofKit
import Derived.OpenShut
import Derived.ChangeOld
import Derived.Below
set_option linter.unusedSimpArgs false
set_option linter.unusedVariables false
namespace Go.Proofs.Ytkajcofpdlicaaa.fnExactWasteOf
open Go.Sx Go.ChangeShapes Go.WideShapes Go.ChangeAt Go.RowKit

theorem own : ownKnob Try.prog.godebug = none := by kernel_rfl
theorem laidOut : laidOutB Try.prog = true := by kernel_rfl

theorem walk (W : World) (x0 : Int) (b0 : -9223372036854775808 ≤ x0 ∧ x0 ≤ 9223372036854775807) (x1 : Int) (b1 : -9223372036854775808 ≤ x1 ∧ x1 ≤ 9223372036854775807) (x2 : Value) (b2 off2 n2 : Nat) (l2 : List Int) (len2 cap2 : Int) (ws2 : WS [.i64] 1 n2 l2 len2 cap2) (o2 : LVR [b2] (.a (.c (.slc 0 off2 0 1 len2 cap2))) x2) (k2 : BlkR W.heap.size (Base.pl W) [b2] W 0 b2 (.wnd off2 [.i64] n2 l2)) (x3 : Value) (b3 off3 : Nat) (L3 : List (Nat × List Int)) (ns3 : Ns64 L3) (len3 cap3 : Int) (hl3 : (L3.length : Int) = len3) (hm3 : len3 ≤ 9223372036854775807) (o3 : LVR [b3] (.a (.c (.slc 0 off3 0 1 len3 cap3))) x3) (k3 : BlkR W.heap.size (Base.pl W) [b3] W 0 b3 (.nst false (0, none) off3 [.i64] 1 L3)) :
    Calls Try.prog 9 #[(.int .i64 x0), (.int .i64 x1), x2, x3] W fun e W' => e = .returned (.bool true) ∧ Below W.heap.size W W' := by
  refine ((law_WasteOf x0 b0 x1 b1 off2 n2 l2 len2 cap2 ws2 0 off3 L3 ns3 len3 cap3 hl3 hm3).plain tt_ok (inlN_ok tt_ok Cck_ok mixed ILck_ok.ok 3) Cck_ok mixed Try.func9 rfl (fun g v h => by cases h) (HR.reads (bs := [b2, b3]) (Bs := [.wnd off2 [.i64] n2 l2, .nst false (0, none) off3 [.i64] 1 L3]) rfl (fun i b B hB hb => by match i with | 0 => simp at hB hb; subst hB; subst hb; exact ⟨rfl, k2⟩ | 1 => simp at hB hb; subst hB; subst hb; exact ⟨rfl, k3⟩ | i + 2 => simp at hB)) (β1 := []) (vals := #[(.int .i64 x0), (.int .i64 x1), x2, x3]) ⟨(.int .i64 x0), [(.int .i64 x1), x2, x3], rfl, rfl, ⟨(.int .i64 x1), [x2, x3], rfl, rfl, ⟨x2, [x3], rfl, (LVR.fw (f := (0 + ·)) (β := [b2]) (fun id b h => by cases id with | zero => simpa using h | succ id => simp at h) o2), ⟨x3, [], rfl, (LVR.fw (f := (1 + ·)) (β := [b3]) (fun id b h => by cases id with | zero => simpa using h | succ id => simp at h) o3), rfl⟩⟩⟩⟩).mono ?_
  rintro e W' ⟨v, rfl, hb, hv⟩
  have hv : v = .bool true := hv
  subst hv
  exact ⟨rfl, hb⟩

set_option maxRecDepth 100000 in
theorem lifted (os : Os) (started : os.Started) (H : Type) (enc : TypeId × Value → H) :
    ReturnsInHanded {} Try.checked os 9 .any (Rows.fnExactWasteOfSpec.pre6 enc Try.prog Try.f9 Rows.fnExactWasteOfRow.domain false) (Rows.fnExactWasteOfSpec.post enc Try.prog Try.f9 false true false false) := by
  refine returnsInHanded_of_change (C := Try.checked) own started (by kernel_rfl) Try.func9
    (ChangeSpec.witness6 (enc := enc) (C := Try.checked) false ⟨#[], #[.int .i64 0, .int .i64 0, .slice none 0 0, .slice none 0 0], []⟩ 8 (by kernel_rfl) (by kernel_rfl) (by kernel_rfl) (by kernel_rfl)) ?_
  intro W base args ds gs before hval0 hW hcnd _
  have hval : ∀ (j : Nat) t v, Try.f9.params[j]? = some t → args[j]? = some v → Value.okWide Try.prog W .any base t v := hval0
  have hW' := hW
  obtain ⟨p, q, hA0, hV, rfl, hfz, hnd⟩ := hW
  have hA : DataW.TrodAll enc Try.prog W 0 (fun _ => true) true Try.f9.params.toList args.toList ds p := hA0
  rw [Try.params9] at hA hval
  obtain ⟨v0, vs0, d0, ds0, p0, q0, hargs, rfl, rfl, h0, r0⟩ := trodAll_cons hA
  obtain ⟨v1, vs1, d1, ds1, p1, q1, rfl, rfl, rfl, h1, r1⟩ := trodAll_cons r0
  obtain ⟨v2, vs2, d2, ds2, p2, q2, rfl, rfl, rfl, h2, r2⟩ := trodAll_cons r1
  obtain ⟨v3, vs3, d3, ds3, p3, q3, rfl, rfl, rfl, h3, r3⟩ := trodAll_cons r2
  obtain ⟨rfl, rfl, rfl⟩ := trodAll_nil r3
  obtain rfl : args = #[v0, v1, v2, v3] := by cases args; simp_all
  obtain ⟨rfl, rfl⟩ := trodVars_none hV
  obtain ⟨a0, rfl, rfl, rfl, wf0⟩ := open_int Try.underlying2 (hval 0 2 v0 rfl rfl) h0
  obtain ⟨a1, rfl, rfl, rfl, wf1⟩ := open_int Try.underlying2 (hval 1 2 v1 rfl rfl) h1
  have k2 := h2
  have lt2 : ∀ x ∈ p2, x.block < W.heap.size := by obtain ⟨m, hm⟩ := k2; exact DataW.trod_lt m _ _ _ hm
  obtain ⟨b2, off2, len2, cap2, l2, lc2, cm2, ll2, wf2, o2, bk2⟩ := open_sl Try.underlying26 (hval 2 26 v2 rfl rfl) h2 [.i64] 1 (by kernel_rfl)
  have k3 := h3
  have lt3 : ∀ x ∈ p3, x.block < W.heap.size := by obtain ⟨m, hm⟩ := k3; exact DataW.trod_lt m _ _ _ hm
  obtain ⟨b3, off3, len3, cap3, L3, lc3, cm3, ll3, wf3, o3, bk3⟩ := open_nst Try.underlying34 Try.underlying26 (hval 3 34 v3 rfl rfl) h3 [.i64] 1 (by kernel_rfl) (by kernel_rfl)
  clear hA0 hval0
  refine (walk W a0 (bounds_i64 wf0) a1 (bounds_i64 wf1) v2 b2 off2 (cap2 * 1) l2 len2 cap2 ⟨by omega, by simp only [maxLen] at cm2; omega, by omega, by rw [Int.toNat_natCast]; exact Nat.mul_le_mul_right _ lc2, ll2, wf2⟩ o2 bk2 v3 b3 off3 L3 (ns64_of wf3) len3 cap3 (by omega) (by simp only [maxLen] at cm3; omega) o3 bk3).mono fun e W' ⟨he, bel⟩ => ?_
  subst he
  exact ⟨_, rfl, _, _, _, [], _, [], hW', trodAll_mk1 (shut_bool Try.underlying4 _), (trodAll_cons_mk (shut_int Try.underlying2 wf0) (trodAll_cons_mk (shut_int Try.underlying2 wf1) (trodAll_cons_mk (Below.trod laidOut (by kernel_rfl) (of_decide_eq_true (by kernel_rfl)) k2 bel lt2) (trodAll_cons_mk (Below.trod laidOut (by kernel_rfl) (of_decide_eq_true (by kernel_rfl)) k3 bel lt3) trodAll_mk0)))), rfl, bel.frame _, fun h => by cases h⟩

theorem over : Rows.fnExactWasteOfRow.holds Try.pinned (OpenSpec.ofChange Rows.fnExactWasteOfSpec) :=
  OpenClaim.holds_of_wide 9 Try.f9 rfl rfl rfl rfl rfl rfl rfl ⟨rfl, rfl, rfl, rfl, rfl⟩ rfl rfl rfl rfl rfl (by kernel_rfl) Try.func9 (by kernel_rfl)
    (of_decide_eq_true (by kernel_rfl)) (by unfold Func.isWrapper; first | (rw [if_pos (by decide +kernel)]; kernel_rfl) | (rw [if_neg (by decide +kernel)]; exact ⟨rfl, rfl⟩))
    (fun os started H enc _ => lifted os started H enc)

/-- The given statement. -/
theorem proved : Rows.FnExactWasteOfSaid := over
#print axioms proved
end Go.Proofs.Ytkajcofpdlicaaa.fnExactWasteOf
