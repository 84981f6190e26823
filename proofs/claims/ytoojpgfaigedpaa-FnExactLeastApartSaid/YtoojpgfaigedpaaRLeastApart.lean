/- FnExactLeastApart: whatever comes in, the law returns true and what came in reads as it did. No conditions. -/
import Derived.Test.YtoojpgfaigedpaaLLeastApart
import Derived.Test.YtoojpgfaigedpaaRows
import Derived.WalkKit
import Derived.ProofKit
import Derived.OpenShut
import Derived.ChangeOld
import Derived.Below
set_option linter.unusedSimpArgs false
set_option linter.unusedVariables false
namespace Go.Proofs.Ytoojpgfaigedpaa.fnExactLeastApart
open Go.Sx Go.ChangeShapes Go.WideShapes Go.ChangeAt Go.RowKit

theorem own : ownKnob Try.prog.godebug = none := by kernel_rfl
theorem laidOut : laidOutB Try.prog = true := by kernel_rfl

theorem walk (W : World) (x0 : Value) (b0 off0 n0 : Nat) (l0 : List Int) (len0 cap0 : Int) (ws0 : WS [.i16] 1 n0 l0 len0 cap0) (o0 : LVR [b0] (.a (.c (.slc 0 off0 0 1 len0 cap0))) x0) (k0 : BlkR W.heap.size (Base.pl W) [b0] W 0 b0 (.wnd off0 [.i16] n0 l0)) (x1 : Value) (b1 off1 n1 : Nat) (l1 : List Int) (len1 cap1 : Int) (ws1 : WS [.i16] 1 n1 l1 len1 cap1) (o1 : LVR [b1] (.a (.c (.slc 0 off1 0 1 len1 cap1))) x1) (k1 : BlkR W.heap.size (Base.pl W) [b1] W 0 b1 (.wnd off1 [.i16] n1 l1)) (x2 : Int) (b2 : -9223372036854775808 ≤ x2 ∧ x2 ≤ 9223372036854775807) :
    Calls Try.prog 8 #[x0, x1, (.int .i64 x2)] W fun e W' => e = .returned (.bool true) ∧ Below W.heap.size W W' := by
  refine ((law_LeastApart off0 n0 l0 len0 cap0 ws0 off1 n1 l1 len1 cap1 ws1 x2 b2).plain tt_ok (inlN_ok tt_ok Cla_ok mixed ILla0_ok.ok 3) Cla_ok mixed Try.func8 rfl (fun g v h => by cases h) (HR.wnd2 k0 k1) (β1 := []) (vals := #[x0, x1, (.int .i64 x2)]) ⟨x0, [x1, (.int .i64 x2)], rfl, (LVR.fw (f := (0 + ·)) (β := [b0]) (fun id b h => by cases id with | zero => simpa using h | succ id => simp at h) o0), ⟨x1, [(.int .i64 x2)], rfl, (LVR.fw (f := (1 + ·)) (β := [b1]) (fun id b h => by cases id with | zero => simpa using h | succ id => simp at h) o1), ⟨(.int .i64 x2), [], rfl, rfl, rfl⟩⟩⟩).mono ?_
  rintro e W' ⟨v, rfl, hb, hv⟩
  have hv : v = .bool true := hv
  subst hv
  exact ⟨rfl, hb⟩

set_option maxRecDepth 100000 in
theorem lifted (os : Os) (started : os.Started) (H : Type) (enc : TypeId × Value → H) :
    ReturnsInHanded {} Try.checked os 8 .any (Rows.fnExactLeastApartSpec.pre6 enc Try.prog Try.f8 Rows.fnExactLeastApartRow.domain false) (Rows.fnExactLeastApartSpec.post enc Try.prog Try.f8 false true false false) := by
  refine returnsInHanded_of_change (C := Try.checked) own started (by kernel_rfl) Try.func8
    (ChangeSpec.witness6 (enc := enc) (C := Try.checked) false ⟨#[], #[.slice none 0 0, .slice none 0 0, .int .i64 0], []⟩ 8 (by kernel_rfl) (by kernel_rfl) (by kernel_rfl) (by kernel_rfl)) ?_
  intro W base args ds gs before hval0 hW hcnd _
  have hval : ∀ (j : Nat) t v, Try.f8.params[j]? = some t → args[j]? = some v → Value.okWide Try.prog W .any base t v := hval0
  have hW' := hW
  obtain ⟨p, q, hA0, hV, rfl, hfz, hnd⟩ := hW
  have hA : DataW.TrodAll enc Try.prog W 0 (fun _ => true) true Try.f8.params.toList args.toList ds p := hA0
  rw [Try.params8] at hA hval
  obtain ⟨v0, vs0, d0, ds0, p0, q0, hargs, rfl, rfl, h0, r0⟩ := trodAll_cons hA
  obtain ⟨v1, vs1, d1, ds1, p1, q1, rfl, rfl, rfl, h1, r1⟩ := trodAll_cons r0
  obtain ⟨v2, vs2, d2, ds2, p2, q2, rfl, rfl, rfl, h2, r2⟩ := trodAll_cons r1
  obtain ⟨rfl, rfl, rfl⟩ := trodAll_nil r2
  obtain rfl : args = #[v0, v1, v2] := by cases args; simp_all
  obtain ⟨rfl, rfl⟩ := trodVars_none hV
  have k0 := h0
  have lt0 : ∀ x ∈ p0, x.block < W.heap.size := by obtain ⟨m, hm⟩ := k0; exact DataW.trod_lt m _ _ _ hm
  obtain ⟨b0, off0, len0, cap0, l0, lc0, cm0, ll0, wf0, o0, bk0⟩ := open_sl Try.underlying22 (hval 0 22 v0 rfl rfl) h0 [.i16] 1 (by kernel_rfl)
  have k1 := h1
  have lt1 : ∀ x ∈ p1, x.block < W.heap.size := by obtain ⟨m, hm⟩ := k1; exact DataW.trod_lt m _ _ _ hm
  obtain ⟨b1, off1, len1, cap1, l1, lc1, cm1, ll1, wf1, o1, bk1⟩ := open_sl Try.underlying22 (hval 1 22 v1 rfl rfl) h1 [.i16] 1 (by kernel_rfl)
  obtain ⟨a2, rfl, rfl, rfl, wf2⟩ := open_int Try.underlying2 (hval 2 2 v2 rfl rfl) h2
  clear hA0 hval0
  refine (walk W v0 b0 off0 (cap0 * 1) l0 len0 cap0 ⟨by omega, by simp only [maxLen] at cm0; omega, by omega, by rw [Int.toNat_natCast]; exact Nat.mul_le_mul_right _ lc0, ll0, wf0⟩ o0 bk0 v1 b1 off1 (cap1 * 1) l1 len1 cap1 ⟨by omega, by simp only [maxLen] at cm1; omega, by omega, by rw [Int.toNat_natCast]; exact Nat.mul_le_mul_right _ lc1, ll1, wf1⟩ o1 bk1 a2 (bounds_i64 wf2)).mono fun e W' ⟨he, bel⟩ => ?_
  subst he
  exact ⟨_, rfl, _, _, _, [], _, [], hW', trodAll_mk1 (shut_bool Try.underlying4 _), (trodAll_cons_mk (Below.trod laidOut (by kernel_rfl) (of_decide_eq_true (by kernel_rfl)) k0 bel lt0) (trodAll_cons_mk (Below.trod laidOut (by kernel_rfl) (of_decide_eq_true (by kernel_rfl)) k1 bel lt1) (trodAll_cons_mk (shut_int Try.underlying2 wf2) trodAll_mk0))), rfl, bel.frame _, fun h => by cases h⟩

theorem over : Rows.fnExactLeastApartRow.holds Try.pinned (OpenSpec.ofChange Rows.fnExactLeastApartSpec) :=
  OpenClaim.holds_of_wide 8 Try.f8 rfl rfl rfl rfl rfl rfl rfl ⟨rfl, rfl, rfl, rfl, rfl⟩ rfl rfl rfl rfl rfl (by kernel_rfl) Try.func8 (by kernel_rfl)
    (of_decide_eq_true (by kernel_rfl)) (by unfold Func.isWrapper; first | (rw [if_pos (by decide +kernel)]; kernel_rfl) | (rw [if_neg (by decide +kernel)]; exact ⟨rfl, rfl⟩))
    (fun os started H enc _ => lifted os started H enc)

/-- The given statement. -/
theorem proved : Rows.FnExactLeastApartSaid := over
#print axioms proved
end Go.Proofs.Ytoojpgfaigedpaa.fnExactLeastApart
