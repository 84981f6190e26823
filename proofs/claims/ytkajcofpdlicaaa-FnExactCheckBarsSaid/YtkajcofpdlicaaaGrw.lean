/- slices.Grow of no slice: by walking Go's own text. No conditions. -/
import Derived.Test.YtkajcofpdlicaaaEq64
import Derived.WalkKit
import Derived.RowKitTokens
import Derived.OwnWalk
import Derived.Lib.AppendZeros
set_option linter.unusedSimpArgs false
set_option linter.unusedVariables false
namespace Go.Proofs.Ytkajcofpdlicaaa
open Go.Sx Go.RowKit

set_option maxRecDepth 100000 in
set_option maxHeartbeats 4000000 in
theorem grow_calls (inf : TypeInfo) (z : Value) (hi : Try.prog.info? 2 = some inf) (hz : inf.zero = some z) (hs : 0 < inf.size) (hb : inf.bytes = 8) (n : Nat) (hn : n ≤ 1048576) (w : World) :
    Calls Try.prog 184 #[.slice none 0 0, .int .i64 n] w fun e w' =>
      (n = 0 ∧ e = .returned (.slice none 0 0) ∧ w' = w) ∨ (∃ cap, 0 < n ∧ n ≤ cap ∧ e = .returned (.slice (some ⟨w.heap.size, 0, none⟩) 0 cap) ∧ w' = w.drew.alloc (.cells (Builtin.zeroCells z.cells n ++ Builtin.zeroCells z.cells (cap - n)) 2)) := by
  rcases Nat.eq_zero_or_pos n with h0 | h0
  · subst h0
    go_enter Try.func184, Try.ntmps184
    go_wp2
    go_ret
    first | exact .inl ⟨rfl, rfl, rfl⟩ | exact .inl ⟨trivial, rfl, rfl⟩
  · have h1 : ¬ ((n : Int) < 0) := by omega
    have h4 : (n : Int) > 0 := by omega
    have h3 : wrap64 ((n : Int) - 0) = (n : Int) := by unfold wrap64; omega
    have hrz : ∀ ty, (Builtin.append_ #[26, 3] ty #[.slice none 0 0, .int .i64 n]).run Try.prog w =
      .ok (.slice (some ⟨w.heap.size, 0, none⟩) n (grownCap w n 0 2)) (w.drew.alloc (.cells (Builtin.zeroCells z.cells n ++ Builtin.zeroCells z.cells (grownCap w n 0 2 - n)) 2)) := fun ty =>
      Lib.run_append_nil_zeros w 26 3 ty 2 inf z .i64 .i64 Try.underlying26 Try.underlying3 hi hz n h0 hs (by omega) (by rw [hb]; omega)
    have hGn : n ≤ grownCap w n 0 2 := grownCap_ge w n 0 _
    obtain ⟨G, hG⟩ : ∃ G, G = grownCap w n 0 2 := ⟨_, rfl⟩
    rw [← hG] at hrz hGn
    have hG63 : G ≤ 9223372036854775807 := by
      have := grownCap_le_maxLen w n 0 2 (by unfold maxLen; omega)
      rw [← hG] at this
      unfold maxLen at this
      omega
    clear hG
    go_enter Try.func184, Try.ntmps184
    go_wp2_with (at_builtin; refine Lib.wpList_append_run _ rfl _ _ _ _ rfl _ _ rfl rfl _ _ (hrz _) ?_)
    all_goals (go_ret; first | exact .inr ⟨G, h0, hGn, rfl, rfl⟩ | exact .inr ⟨G, hGn, rfl, rfl⟩ | exact ⟨G, hGn, rfl, rfl⟩ | exact ⟨G, h0, hGn, rfl, rfl⟩)

def gGrow : EntryC := fun args H K => match args with
  | [.a (.c (.val (.slice none 0 0))), .a (.c (.int .i64 n))] => (0 ≤ n ∧ n ≤ 1048576) ∧ appN H 2 [.i64] 1 0 [] K
  | _ => Stuck "grow"
theorem e_Grow : EntryCOk Try.prog TT 184 gGrow := by
  refine ⟨fnOk Try.func184 (by kernel_rfl) rfl, ?_⟩
  intro args H K h n0 w0 β w vals hG hH hA
  unfold gGrow at h
  split at h
  · rename_i n
    obtain ⟨⟨h0, h1⟩, hk⟩ := h
    obtain ⟨n, rfl⟩ := Int.eq_ofNat_of_zero_le h0
    have hv : vals = #[.slice none 0 0, .int .i64 n] := by
      obtain ⟨v1, r1, e1, q1, v2, r2, e2, q2, q3⟩ := hA
      have q1 : v1 = .slice none 0 0 := q1
      have q2 : v2 = .int .i64 n := q2
      have q3 : r2 = [] := q3
      subst q1 q2 q3 e2
      exact Array.toList_inj.1 e1
    subst hv
    obtain ⟨⟨inf, g1, g2, z, hz, hzc⟩, _⟩ := tt_ok.look (t := 2) (ti := _) rfl
    have hby := TabBy.look tt_ok.by_ (t := 2) (ti := _) rfl g1
    have hcr := hzc β
    refine (grow_calls inf z g1 hz (by rw [g2]; decide) hby n (by omega) w).mono ?_
    rintro e w' (⟨rfl, rfl, rfl⟩ | ⟨cap, c0, c1, rfl, rfl⟩)
    · exact ⟨_, [0], _, _, rfl, appN_sound hk 0 [] 0 (by omega) (by simp) rfl (by simp), hH.ghost 0 ⟨[], [], rfl, ⟨rfl, rfl⟩, rfl⟩, ⟨by omega, by omega, by omega, .inr ⟨rfl, none, rfl⟩⟩⟩
    · obtain ⟨f1, f2, f3⟩ := flatE_sound (ks := [.i64]) rfl hcr
      have hcs : CelsR β [.run [.i64] cap (List.replicate cap 0)] (Builtin.zeroCells z.cells n ++ Builtin.zeroCells z.cells (cap - n)).toList := by
        refine ⟨_, [], by rw [List.append_nil], ⟨List.length_replicate, ?_⟩, rfl⟩
        have e1 : ∀ k, (Builtin.zeroCells z.cells k).toList = runV [.i64] (List.replicate k 0) := fun k => by
          unfold Builtin.zeroCells
          have := repV_run (n := k) f3
          rw [made_eq, f1, this, Nat.mul_one]
        rw [Array.toList_append, e1, e1, ← runV_app (by simp [Nat.mod_one]), List.replicate_append_replicate, show n + (cap - n) = cap by omega]
      have hp := (hH.draw).push (t := 2) hcs
      refine ⟨_, [w.heap.size], _, _, rfl, appN_sound hk cap (List.replicate cap 0) (cap : Int) (by omega) (by simp) List.length_replicate (by simp), hp, ⟨by omega, by omega, by omega, .inl ⟨w.heap.size, by rw [← hH.len]; simp, ?_⟩⟩⟩
      simp
  · exact h.elim

end Go.Proofs.Ytkajcofpdlicaaa
