/- FnExactSpreadPicture: whatever comes in, the law returns true and what came in reads as it did. No conditions. -/
import Derived.Test.YtaaohciojedncaaLSpreadPicture
import Derived.Test.YtaaohciojedncaaRows
import Derived.WalkKit
import Derived.ProofKit
import Derived.OpenShut
import Derived.ChangeOld
import Derived.Below
set_option linter.unusedSimpArgs false
set_option linter.unusedVariables false
namespace Go.Proofs.Ytaaohciojedncaa.fnExactSpreadPicture
open Go.Sx Go.ChangeShapes Go.WideShapes Go.ChangeAt Go.RowKit

theorem own : ownKnob Try.prog.godebug = none := by kernel_rfl
theorem laidOut : laidOutB Try.prog = true := by kernel_rfl

theorem walk (W : World) (x0 : Value) (w0 h0 : Int) (l0 : List Int) (r0 : RgI w0 h0 l0) (o0 : ∀ β, LVR β (img w0 h0 l0) x0) (x1 : Value) (b1 off1 n1 : Nat) (l1 : List Int) (len1 cap1 : Int) (ws1 : WS [.u8] 3 n1 l1 len1 cap1) (o1 : LVR [b1] (.a (.c (.slc 0 off1 0 3 len1 cap1))) x1) (k1 : BlkR W.heap.size (Base.pl W) [b1] W 0 b1 (.wnd off1 [.u8] n1 l1)) :
    Calls Try.prog 3 #[x0, x1] W fun e W' => e = .returned (.bool true) ∧ Below W.heap.size W W' := by
  refine ((law_SpreadPicture w0 h0 l0 r0 off1 n1 l1 len1 cap1 ws1).plain tt_ok (inlN_ok tt_ok Cs4_ok mixed ILz_ok.ok 3) Cs4_ok mixed Try.func3 rfl (fun g v h => by cases h) (HR.wnd1 k1) (β1 := []) (vals := #[x0, x1]) ⟨x0, [x1], rfl, (o0 _), ⟨x1, [], rfl, (LVR.fw (f := (0 + ·)) (β := [b1]) (fun id b h => by cases id with | zero => simpa using h | succ id => simp at h) o1), rfl⟩⟩).mono ?_
  rintro e W' ⟨v, rfl, hb, hv⟩
  have hv : v = .bool true := hv
  subst hv
  exact ⟨rfl, hb⟩

set_option maxRecDepth 100000 in
theorem lifted (os : Os) (started : os.Started) (H : Type) (enc : TypeId × Value → H) :
    ReturnsInHanded {} Try.checked os 3 .any (Rows.fnExactSpreadPictureSpec.pre6 enc Try.prog Try.f3 Rows.fnExactSpreadPictureRow.domain false) (Rows.fnExactSpreadPictureSpec.post enc Try.prog Try.f3 false true false false) := by
  refine returnsInHanded_of_change (C := Try.checked) own started (by kernel_rfl) Try.func3
    (ChangeSpec.witness6 (enc := enc) (C := Try.checked) false ⟨#[], #[.agg ((Value.int .i8 0 :: Value.int .i8 0 :: List.replicate 432 (Value.int .u8 0)).toArray), .slice none 0 0], []⟩ 8 (by kernel_rfl) (by kernel_rfl) (by kernel_rfl) (by kernel_rfl)) ?_
  intro W base args ds gs before hval0 hW hcnd _
  have hval : ∀ (j : Nat) t v, Try.f3.params[j]? = some t → args[j]? = some v → Value.okWide Try.prog W .any base t v := hval0
  have hW' := hW
  obtain ⟨p, q, hA0, hV, rfl, hfz, hnd⟩ := hW
  have hA : DataW.TrodAll enc Try.prog W 0 (fun _ => true) true Try.f3.params.toList args.toList ds p := hA0
  rw [Try.params3] at hA hval
  obtain ⟨v0, vs0, d0, ds0, p0, q0, hargs, rfl, rfl, h0, r0⟩ := trodAll_cons hA
  obtain ⟨v1, vs1, d1, ds1, p1, q1, rfl, rfl, rfl, h1, r1⟩ := trodAll_cons r0
  obtain ⟨rfl, rfl, rfl⟩ := trodAll_nil r1
  obtain rfl : args = #[v0, v1] := by cases args; simp_all
  obtain ⟨rfl, rfl⟩ := trodVars_none hV
  have k0 := h0
  have lt0 : ∀ x ∈ p0, x.block < W.heap.size := by obtain ⟨m, hm⟩ := k0; exact DataW.trod_lt m _ _ _ hm
  obtain ⟨wd0, hg0, l0, rg0, o0⟩ := open_img (hval 0 26 v0 rfl rfl) h0
  have k1 := h1
  have lt1 : ∀ x ∈ p1, x.block < W.heap.size := by obtain ⟨m, hm⟩ := k1; exact DataW.trod_lt m _ _ _ hm
  obtain ⟨b1, off1, len1, cap1, l1, lc1, cm1, ll1, wf1, o1, bk1⟩ := open_sl Try.underlying27 (hval 1 27 v1 rfl rfl) h1 [.u8] 3 (by kernel_rfl)
  clear hA0 hval0
  refine (walk W v0 wd0 hg0 l0 rg0 o0 v1 b1 off1 (cap1 * 3) l1 len1 cap1 ⟨by omega, by simp only [maxLen] at cm1; omega, by omega, by rw [Int.toNat_natCast]; exact Nat.mul_le_mul_right _ lc1, ll1, wf1⟩ o1 bk1).mono fun e W' ⟨he, bel⟩ => ?_
  subst he
  exact ⟨_, rfl, _, _, _, [], _, [], hW', trodAll_mk1 (shut_bool Try.underlying4 _), (trodAll_cons_mk (Below.trod laidOut (by kernel_rfl) (of_decide_eq_true (by kernel_rfl)) k0 bel lt0) (trodAll_cons_mk (Below.trod laidOut (by kernel_rfl) (of_decide_eq_true (by kernel_rfl)) k1 bel lt1) trodAll_mk0)), rfl, bel.frame _, fun h => by cases h⟩

theorem over : Rows.fnExactSpreadPictureRow.holds Try.pinned (OpenSpec.ofChange Rows.fnExactSpreadPictureSpec) :=
  OpenClaim.holds_of_wide 3 Try.f3 rfl rfl rfl rfl rfl rfl rfl ⟨rfl, rfl, rfl, rfl, rfl⟩ rfl rfl rfl rfl rfl (by kernel_rfl) Try.func3 (by kernel_rfl)
    (of_decide_eq_true (by kernel_rfl)) (by unfold Func.isWrapper; first | (rw [if_pos (by decide +kernel)]; kernel_rfl) | (rw [if_neg (by decide +kernel)]; exact ⟨rfl, rfl⟩))
    (fun os started H enc _ => lifted os started H enc)

/-- The given statement. -/
theorem proved : Rows.FnExactSpreadPictureSaid := over
#print axioms proved
end Go.Proofs.Ytaaohciojedncaa.fnExactSpreadPicture
