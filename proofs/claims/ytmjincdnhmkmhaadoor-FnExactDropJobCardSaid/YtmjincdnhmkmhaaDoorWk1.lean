/- What is refused with a panic, and recovered: the deferred function, both ways. No conditions. -/
import Derived.Test.YtmjincdnhmkmhaaDoorTt
import Derived.WalkKit
import Derived.Stop.Asserts
import Derived.Defers
import Derived.Recover
set_option linter.unusedSimpArgs false
set_option linter.unusedVariables false
namespace Go.Proofs.YtmjincdnhmkmhaaDoor
open Go.Sx Go.RowKit Go.Extern.Stop Go.Stop Go.Extern

theorem hasCode (v : Value) (xT : TypeId) (w : World) : (Instr.typeAssert (.iface 72 v) xT 69 true).run Tryd.prog w = .ok (.tuple #[.iface 72 v, .bool true]) w := run_typeAssert_hasB Tryd.underlying69 (by kernel_rfl) v xT w
theorem nilCode (xT : TypeId) (w : World) : (Instr.typeAssert .nilIface xT 69 true).run Tryd.prog w = .ok (.tuple #[.nilIface, .bool false]) w := by kernel_rfl
theorem methodCode (v : Value) (w : World) : (Go.method 239 72 v "loop.example/g01322/impl.code").run Tryd.prog w = .ok (67, v) w := by kernel_rfl

theorem noJob_code (arr : Array Value) (w : World) : Calls Tryd.prog 67 #[.agg arr] w fun e w' => e = .returned (.int .i64 1) ∧ w' = w.alloc (.cells arr 72) := by
  go_enter Tryd.func67, Tryd.ntmps67
  go_wp2
  go_ret
  exact ⟨rfl, rfl⟩

theorem catch_idle (p : Addr) (w : World) :
    CallsD Tryd.prog 31 #[.pointer (some p)] .returning w fun e u' w' => e = .returned (.tuple #[]) ∧ u' = .returning ∧ w' = w := by
  refine callsD_of_wpS Tryd.func31 rfl fun c₀ cs hu => ?_
  have hn := nilCode
  apply wpS_seq
  apply wpS_region
  simp [wpOpsS, go_sem, recoverD, hu, Tryd.ntmps31, Exit.thenS, hn]
  apply wpS_seq
  apply wpS_region
  simp [wpOpsS, go_sem, Exit.thenS]
  refine wpS_cond (t := false) (by simp [Act.eval, Array.replicate]) ?_
  simp only [Bool.false_eq_true, if_false]
  refine wpS_of_wp (wp_skip ?_)
  cases c₀
  simp_all [bodyPostS, results, Tryd.results31]

theorem catch_panicking (p : Addr) (x : Int) (arr : Array Value) (older : List PanicEntry) (w : World) (hc : w.cell? p = some (.int .i64 x)) (hz : w.frozen? p = false) :
    CallsD Tryd.prog 31 #[.pointer (some p)] (.panicking ({ v := .iface 72 (.agg arr), recovered := false } :: older)) w fun e u' w' =>
      e = .returned (.tuple #[]) ∧ u' = .panicking ({ v := .iface 72 (.agg arr), recovered := true } :: older) ∧ w' = (w.alloc (.cells arr 72)).setCell p (.int .i64 1) := by
  refine callsD_of_wpS Tryd.func31 rfl fun c₀ cs hu => ?_
  have hn := hasCode
  have hlt : p.block < w.heap.size := by
    rcases Nat.lt_or_ge p.block w.heap.size with h | h
    · exact h
    · simp [World.cell?, Array.getElem?_eq_none h] at hc
  have hcA : (w.alloc (.cells arr 72)).cell? p = some (.int .i64 x) := by rw [World.cell?_alloc_lt _ _ p hlt]; exact hc
  have hzA : (w.alloc (.cells arr 72)).frozen? p = false := by rw [World.frozen?_alloc_old _ _ p (Nat.ne_of_lt hlt)]; exact hz
  apply wpS_seq
  apply wpS_region
  simp [wpOpsS, go_sem, recoverD, hu, Tryd.ntmps31, Exit.thenS, hn]
  apply wpS_seq
  apply wpS_region
  simp [wpOpsS, go_sem, Exit.thenS]
  refine wpS_cond (t := true) (by simp [Act.eval, Array.replicate]) ?_
  simp only [if_true]
  refine wpS_of_wp ?_
  have mC := methodCode
  go_wp2_with (go_at_call 67; refine (noJob_code _ _).mono ?_; rintro e w' ⟨rfl, rfl⟩)
  simp [bodyPostS, results, Tryd.results31]

end Go.Proofs.YtmjincdnhmkmhaaDoor
