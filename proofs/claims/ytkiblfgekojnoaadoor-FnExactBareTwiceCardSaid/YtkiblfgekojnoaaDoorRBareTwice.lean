/- FnExactBareTwice: whatever comes in, the law returns true and what came in reads as it did. No conditions. -/
import Derived.Test.YtkiblfgekojnoaaDoorLBareTwice
import Derived.Test.YtkiblfgekojnoaaDoorRows
import Derived.Test.YtkiblfgekojnoaaDoorLaid
import Derived.Test.YtkiblfgekojnoaaDoorCards
import Derived.Test.YtkiblfgekojnoaaDoorTie
import Derived.Lay
import Derived.MakeChecks
import Derived.OpenVars
import Derived.SevenTiedAt
import Derived.WalkKit
import Derived.ProofKit
import Derived.OpenShut
import Derived.ChangeOld
import Derived.Below
set_option linter.unusedSimpArgs false
set_option linter.unusedVariables false
namespace Go.Proofs.YtkiblfgekojnoaaDoor.fnExactBareTwice
open Go.Sx Go.ChangeShapes Go.WideShapes Go.ChangeAt Go.RowKit

theorem own : ownKnob Tryd.prog.godebug = none := by kernel_rfl
theorem laidOut : laidOutB Tryd.prog = true := by kernel_rfl

theorem walk (W : World) (ev : Nat → Value) (hE : GOk (TT ev) (Base.pl W)) (x0 : Value) (w0 h0 : Int) (r0 : Fr w0 h0) (o0 : ∀ β, LVR β (frC w0 h0) x0) (x1 : Value) (b1 off1 : Nat) (L1 : List (Nat × List Int)) (ns1 : NsL L1) (len1 cap1 : Int) (hl1 : (L1.length : Int) = len1) (hm1 : len1 ≤ 9223372036854775807) (o1 : LVR [b1] (.a (.c (.slc 0 off1 0 1 len1 cap1))) x1) (k1 : BlkR W.heap.size (Base.pl W) [b1] W 0 b1 (.nst false (0, none) off1 [.i16] 2 L1)) :
    Calls Tryd.prog 13 #[x0, x1] W fun e W' => e = .returned (.bool true) ∧ Below W.heap.size W W' := by
  refine ((law_BareTwice (e := ev) w0 h0 r0 0 off1 L1 ns1 len1 cap1 hl1 hm1).plain tt_ok (inlN_ok tt_ok Cly6_ok mixed ILly4_ok.ok 3) Cly6_ok mixed Tryd.func13 rfl hE (HR.reads (bs := [b1]) (Bs := [.nst false (0, none) off1 [.i16] 2 L1]) rfl (fun i b B hB hb => by match i with | 0 => simp at hB hb; subst hB; subst hb; exact ⟨rfl, k1⟩ | i + 1 => simp at hB)) (β1 := []) (vals := #[x0, x1]) ⟨x0, [x1], rfl, (o0 _), ⟨x1, [], rfl, (LVR.fw (f := (0 + ·)) (β := [b1]) (fun id b h => by cases id with | zero => simpa using h | succ id => simp at h) o1), rfl⟩⟩).mono ?_
  rintro e W' ⟨v, rfl, hb, hv⟩
  have hv : v = .bool true := hv
  subst hv
  exact ⟨rfl, hb⟩

set_option maxRecDepth 100000 in
theorem lifted (os : Os) (started : os.Started) (H : Type) (enc : TypeId × Value → H) :
    ReturnsInHanded {} Tryd.checked os 13 .any (fun w args => (Rows.fnExactBareTwiceSpec.pre enc Tryd.prog Tryd.f13 Rows.fnExactBareTwiceRow.domain false w args ∧ laidMetH Tryd.prog lst w) ∧ sizedMet enc Tryd.prog Tryd.f13 (OpenSpec.ofChange Rows.fnExactBareTwiceSpec) false w args) (Rows.fnExactBareTwiceSpec.post enc Tryd.prog Tryd.f13 false true false false) := by
  refine returnsInHanded_of_change_and (C := Tryd.checked) (X := fun w _ => laidMetH Tryd.prog lst w) (fun _ _ _ hh h => h.of_heap hh) own started (by kernel_rfl) Tryd.func13
    (ChangeSpec.witness_shaped (enc := enc) (C := Tryd.checked) (os := os) (X := fun w _ => laidMetH Tryd.prog lst w) false (World.laidAll Tryd.prog os lst) #[.agg #[.int .i16 0, .int .i16 0], .slice none 0 0] 8 (World.laidAll_os _ _ _)
      (World.shaped_of_ZipB (by kernel_rfl) (by kernel_rfl)) (by kernel_rfl) (by kernel_rfl) (by kernel_rfl)
      (by rw [MakeChecks.laidMetH_plain _ _ _ (by kernel_rfl)]; exact laidMet_laidAll _ (by kernel_rfl) (by kernel_rfl))) ?_
  intro W base args ds gs before hval0 hW hc0 _ hL _
  rw [MakeChecks.laidMetH_plain _ _ _ (by kernel_rfl)] at hL
  obtain ⟨ev, hE⟩ := sentinels hL
  have hval : ∀ (j : Nat) t v, Tryd.f13.params[j]? = some t → args[j]? = some v → Value.okWide Tryd.prog W .any base t v := hval0
  have hW' := hW
  obtain ⟨p, q, hA0, hV, rfl, hfz, hnd⟩ := hW
  have hA : DataW.TrodAll enc Tryd.prog W 0 (fun _ => true) true Tryd.f13.params.toList args.toList ds p := hA0
  rw [Tryd.params13] at hA hval
  obtain ⟨v0, vs0, d0, ds0, p0, q0, hargs, rfl, rfl, h0, r0⟩ := trodAll_cons hA
  obtain ⟨v1, vs1, d1, ds1, p1, q1, rfl, rfl, rfl, h1, r1⟩ := trodAll_cons r0
  obtain ⟨rfl, rfl, rfl⟩ := trodAll_nil r1
  obtain rfl : args = #[v0, v1] := by cases args; simp_all
  have k0 := h0
  have lt0 : ∀ x ∈ p0, x.block < W.heap.size := by obtain ⟨m, hm⟩ := k0; exact DataW.trod_lt m _ _ _ hm
  obtain ⟨wd0, hg0, rg0, o0⟩ := open_fr (hval 0 46 v0 rfl rfl) h0
  have k1 := h1
  have lt1 : ∀ x ∈ p1, x.block < W.heap.size := by obtain ⟨m, hm⟩ := k1; exact DataW.trod_lt m _ _ _ hm
  obtain ⟨b1, off1, len1, cap1, L1, lc1, cm1, ll1, wf1, o1, bk1⟩ := open_nst Tryd.underlying51 Tryd.underlying22 (hval 1 51 v1 rfl rfl) h1 [.i16] 2 (by kernel_rfl) (by kernel_rfl)
  clear hA0 hval0
  obtain ⟨g1, g2, g3, rfl⟩ : ∃ g1 g2 g3 : DataW H, gs = [g1, g2, g3] := three_vars hV
  have hV' := fun (W' : World) (bel : Below W.heap.size W W') => Below.trodVars laidOut bel (by kernel_rfl) hV
  refine (walk W ev hE v0 wd0 hg0 rg0 o0 v1 b1 off1 L1 (ns_of wf1) len1 cap1 (by omega) (by simp only [maxLen] at cm1; omega) o1 bk1).mono fun e W' ⟨he, bel⟩ => ?_
  subst he
  exact ⟨_, rfl, _, _, _, [], _, _, hW', trodAll_mk1 (shut_bool Tryd.underlying4 _), (trodAll_cons_mk (Below.trod laidOut (by kernel_rfl) (of_decide_eq_true (by kernel_rfl)) k0 bel lt0) (trodAll_cons_mk (Below.trod laidOut (by kernel_rfl) (of_decide_eq_true (by kernel_rfl)) k1 bel lt1) trodAll_mk0)), hV' W' bel, bel.frame _, fun h => by cases h⟩

theorem over : Rows.fnExactBareTwiceRow.holds Tryd.pinned (OpenSpec.ofChange Rows.fnExactBareTwiceSpec) :=
  OpenClaim.holds_of_wide 13 Tryd.f13 rfl rfl rfl rfl rfl rfl rfl ⟨rfl, rfl, rfl, rfl, rfl⟩ rfl rfl rfl rfl rfl (by kernel_rfl) Tryd.func13 (by kernel_rfl)
    (of_decide_eq_true (by kernel_rfl)) (by unfold Func.isWrapper; first | (rw [if_pos (by decide +kernel)]; kernel_rfl) | (rw [if_neg (by decide +kernel)]; exact ⟨rfl, rfl⟩))
    (fun os started H enc _ => lifted os started H enc)

/-- The given statement. -/
theorem proved : Rows.FnExactBareTwiceCardSaid :=
  Claim7.holds_tied_plain_at .later [] [.sentinel, .sentinel, .sentinel] true (true, "3ff9fbd67a887e538a8db093fe7a9500f7b32a00a6dd903c7551a9b39c3c80bb") true
    over (fun _ h => by cases h) (by kernel_rfl) (fun _ h => by cases h) fnExactBareTwice_row_tie rfl ⟨rfl, rfl⟩ (by kernel_rfl) rfl
    (fun f fn hf hfn => by
      obtain rfl : f = 13 := Option.some.inj ((show Tryd.prog.funcNamed "loop.example/g01322/laws.FnExactBareTwice" = some 13 by kernel_rfl).symm.trans hf) |>.symm
      obtain rfl : fn = Tryd.f13 := (Option.some.inj (Tryd.func13.symm.trans hfn)).symm
      exact ⟨by kernel_rfl, fun j t ht => by
        rw [Tryd.params13] at ht
        have hm := Array.mem_of_getElem? ht
        simp only [List.mem_toArray, List.mem_cons, List.not_mem_nil, or_false] at hm
        rcases hm with rfl | rfl
        · exact (show Tryd.prog.wantsStandIn 46 = false by kernel_rfl)
        · exact (show Tryd.prog.wantsStandIn 51 = false by kernel_rfl)⟩)
    (by kernel_rfl)
#print axioms proved
end Go.Proofs.YtkiblfgekojnoaaDoor.fnExactBareTwice
