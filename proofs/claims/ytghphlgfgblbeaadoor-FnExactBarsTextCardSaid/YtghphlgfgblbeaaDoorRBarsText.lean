/- FnExactBarsText: whatever comes in, the law returns true and what came in reads as it did. No conditions. -/
import Derived.Test.YtghphlgfgblbeaaDoorLBarsText
import Derived.Test.YtghphlgfgblbeaaDoorRows
import Derived.Test.YtghphlgfgblbeaaDoorLaidP
import Derived.Test.YtghphlgfgblbeaaDoorCards
import Derived.Test.YtghphlgfgblbeaaDoorTie
import Derived.Lay
import Derived.MakeChecks
import Derived.OpenVars
import Derived.ChangeVars
import Derived.Stop.Joined
import Derived.SevenTiedAt
import Derived.WalkKit
import Derived.ProofKit
import Derived.OpenShut
import Derived.ChangeOld
import Derived.Below
set_option linter.unusedSimpArgs false
set_option linter.unusedVariables false
namespace Go.Proofs.YtghphlgfgblbeaaDoor.fnExactBarsText
open Go.Sx Go.ChangeShapes Go.WideShapes Go.ChangeAt Go.RowKit

theorem own : ownKnob Tryd.prog.godebug = none := by kernel_rfl
theorem laidOut : laidOutB Tryd.prog = true := by kernel_rfl

theorem walk (W : World) (hE : GOk TT (Base.pl W)) (x0 : Value) (b0 off0 : Nat) (L0 : List (Nat × List Int)) (ns0 : Ns64 L0) (len0 cap0 : Int) (hl0 : (L0.length : Int) = len0) (hm0 : len0 ≤ 9223372036854775807) (o0 : LVR [b0] (.a (.c (.slc 0 off0 0 1 len0 cap0))) x0) (k0 : BlkR W.heap.size (Base.pl W) [b0] W 0 b0 (.nst false (0, none) off0 [.i64] 1 L0)) :
    Calls Tryd.prog 3 #[x0] W fun e W' => e = .returned (.bool true) ∧ Below W.heap.size W W' := by
  refine ((law_BarsText 0 off0 L0 ns0 len0 cap0 hl0 hm0).plain tt_ok (inlN_ok tt_ok Cbl_ok mixed ILbl_ok.ok 3) Cbl_ok mixed Tryd.func3 rfl hE (HR.reads (bs := [b0]) (Bs := [.nst false (0, none) off0 [.i64] 1 L0]) rfl (fun i b B hB hb => by match i with | 0 => simp at hB hb; subst hB; subst hb; exact ⟨rfl, k0⟩ | i + 1 => simp at hB)) (β1 := []) (vals := #[x0]) ⟨x0, [], rfl, (LVR.fw (f := (0 + ·)) (β := [b0]) (fun id b h => by cases id with | zero => simpa using h | succ id => simp at h) o0), rfl⟩).mono ?_
  rintro e W' ⟨v, rfl, hb, hv⟩
  have hv : v = .bool true := hv
  subst hv
  exact ⟨rfl, hb⟩

set_option maxRecDepth 100000 in
theorem lifted (os : Os) (started : os.Started) (H : Type) (enc : TypeId × Value → H) :
    ReturnsInHanded {} Tryd.checked os 3 .any (fun w args => (Rows.fnExactBarsTextSpec.pre enc Tryd.prog Tryd.f3 Rows.fnExactBarsTextRow.domain false w args ∧ laidMetH Tryd.prog lst w) ∧ sizedMet enc Tryd.prog Tryd.f3 (OpenSpec.ofChange Rows.fnExactBarsTextSpec) false w args) (Rows.fnExactBarsTextSpec.post enc Tryd.prog Tryd.f3 false true false false) := by
  refine returnsInHanded_of_change_and (C := Tryd.checked) (X := fun w _ => laidMetH Tryd.prog lst w) (fun _ _ _ hh h => h.of_heap hh) own started (by kernel_rfl) Tryd.func3
    (ChangeSpec.witness_shaped (enc := enc) (C := Tryd.checked) (os := os) (X := fun w _ => laidMetH Tryd.prog lst w) false (World.laidAll Tryd.prog os lst) #[.slice none 0 0] 8 (World.laidAll_os _ _ _)
      (World.shaped_of_ZipB (by kernel_rfl) (by kernel_rfl)) (by kernel_rfl) (by kernel_rfl) (by kernel_rfl)
      (by rw [MakeChecks.laidMetH_plain _ _ _ (by kernel_rfl)]; exact laidMet_laidAll _ (by kernel_rfl) (by kernel_rfl))) ?_
  intro W base args ds gs before hval0 hW hc0 _ hL _
  rw [MakeChecks.laidMetH_plain _ _ _ (by kernel_rfl)] at hL
  have hE := laid_gok hL
  have hval : ∀ (j : Nat) t v, Tryd.f3.params[j]? = some t → args[j]? = some v → Value.okWide Tryd.prog W .any base t v := hval0
  have hW' := hW
  obtain ⟨p, q, hA0, hV, rfl, hfz, hnd⟩ := hW
  have hA : DataW.TrodAll enc Tryd.prog W 0 (fun _ => true) true Tryd.f3.params.toList args.toList ds p := hA0
  rw [Tryd.params3] at hA hval
  obtain ⟨v0, vs0, d0, ds0, p0, q0, hargs, rfl, rfl, h0, r0⟩ := trodAll_cons hA
  obtain ⟨rfl, rfl, rfl⟩ := trodAll_nil r0
  obtain rfl : args = #[v0] := by cases args; simp_all
  obtain ⟨rfl, rfl⟩ := trodVars_none hV
  have k0 := h0
  have lt0 : ∀ x ∈ p0, x.block < W.heap.size := by obtain ⟨m, hm⟩ := k0; exact DataW.trod_lt m _ _ _ hm
  obtain ⟨b0, off0, len0, cap0, L0, lc0, cm0, ll0, wf0, o0, bk0⟩ := open_nst Tryd.underlying22 Tryd.underlying29 (hval 0 22 v0 rfl rfl) h0 [.i64] 1 (by kernel_rfl) (by kernel_rfl)
  clear hA0 hval0
  refine (walk W hE v0 b0 off0 L0 (ns64_of wf0) len0 cap0 (by omega) (by simp only [maxLen] at cm0; omega) o0 bk0).mono fun e W' ⟨he, bel⟩ => ?_
  subst he
  exact ⟨_, rfl, _, _, _, [], _, [], hW', trodAll_mk1 (shut_bool Tryd.underlying4 _), (trodAll_cons_mk (Below.trod laidOut (by kernel_rfl) (of_decide_eq_true (by kernel_rfl)) k0 bel lt0) trodAll_mk0), rfl, bel.frame _, fun h => by cases h⟩

theorem over : Rows.fnExactBarsTextRow.holds Tryd.pinned (OpenSpec.ofChange Rows.fnExactBarsTextSpec) :=
  OpenClaim.holds_of_wide 3 Tryd.f3 rfl rfl rfl rfl rfl rfl rfl ⟨rfl, rfl, rfl, rfl, rfl⟩ rfl rfl rfl rfl rfl (by kernel_rfl) Tryd.func3 (by kernel_rfl)
    (of_decide_eq_true (by kernel_rfl)) (by unfold Func.isWrapper; first | (rw [if_pos (by decide +kernel)]; kernel_rfl) | (rw [if_neg (by decide +kernel)]; exact ⟨rfl, rfl⟩))
    (fun os started H enc _ => lifted os started H enc)

/-- The given statement. -/
theorem proved : Rows.FnExactBarsTextCardSaid :=
  Claim7.holds_tied_plain_at .later [] [.data, .data, .data] true (true, "62c031291e4d0bf08f3aab081f5da965b8329cedc9eddf5843bc17c16d30f412") false
    over (fun _ h => by cases h) (by kernel_rfl) (fun _ h => by cases h) fnExactBarsText_row_tie rfl ⟨rfl, rfl⟩ (by kernel_rfl) rfl
    (fun f fn hf hfn => by
      obtain rfl : f = 3 := Option.some.inj ((show Tryd.prog.funcNamed "loop.example/g01322/laws.FnExactBarsText" = some 3 by kernel_rfl).symm.trans hf) |>.symm
      obtain rfl : fn = Tryd.f3 := (Option.some.inj (Tryd.func3.symm.trans hfn)).symm
      exact ⟨by kernel_rfl, fun j t ht => by
        rw [Tryd.params3] at ht
        have hm := Array.mem_of_getElem? ht
        simp only [List.mem_toArray, List.mem_cons, List.not_mem_nil, or_false] at hm
        rcases hm with rfl
        · exact (show Tryd.prog.wantsStandIn 22 = false by kernel_rfl)⟩)
    (by kernel_rfl)
#print axioms proved
end Go.Proofs.YtghphlgfgblbeaaDoor.fnExactBarsText
