/- errors.Is at errors of errors.New's make: by walking Go's own text, after the guide's worked text on errors.Is, at this program's types. No conditions. -/
import Derived.Test.YtkiblfgekojnoaaDoorProg
import Derived.WalkKit
import Derived.LaidEql
import Derived.Stop.Asserts
import Derived.RowKitTokens
set_option linter.unusedSimpArgs false
set_option linter.unusedVariables false
namespace Go.Proofs.YtkiblfgekojnoaaDoor
open Go.RowKit Go.Extern.Stop Go.Stop Go.Extern

theorem isTypeE (v : Value) (w : World) : (Extern.ReflectliteType.typeOf #[.iface 138 v]).run Tryd.prog w = .ok (.iface 129 (.agg #[.pointer (some ⟨3, 138, none⟩)])) w := by kernel_rfl
theorem isCompE (w : World) : ((Extern.ReflectliteType.method fun t => do Extern.Rtype.noPackHeld "Comparable" t; (fun a => Value.bool a.comparable) <$> typeInfo t) #[.agg #[.pointer (some ⟨3, 138, none⟩)]]).run Tryd.prog w = .ok (.bool true) w := by kernel_rfl
theorem isMethE (v : Value) (w : World) : (Go.method 276 129 v "Comparable").run Tryd.prog w = .ok (142, v) w := by kernel_rfl
theorem infoP : (Tryd.prog.info? 138).map (·.comparable) = some true := by kernel_rfl
theorem infoS : (Tryd.prog.info? 164).map (·.size) = some 1 := by kernel_rfl
theorem lackIs (v : Value) (xT : TypeId) (w : World) : (Instr.typeAssert (.iface 138 v) xT 131 true).run Tryd.prog w = .ok (.tuple #[.nilIface, .bool false]) w := run_typeAssert_lacksB Tryd.underlying131 (by kernel_rfl) (by kernel_rfl) v xT w
theorem lackUn (v : Value) (xT : TypeId) (w : World) : (Instr.typeAssert (.iface 138 v) xT 134 true).run Tryd.prog w = .ok (.tuple #[.nilIface, .bool false]) w := run_typeAssert_lacksB Tryd.underlying134 (by kernel_rfl) (by kernel_rfl) v xT w
theorem lackUs (v : Value) (xT : TypeId) (w : World) : (Instr.typeAssert (.iface 138 v) xT 135 true).run Tryd.prog w = .ok (.tuple #[.nilIface, .bool false]) w := run_typeAssert_lacksB Tryd.underlying135 (by kernel_rfl) (by kernel_rfl) v xT w

/-- errors.Is of an error and itself. -/
theorem isx_same (a : Addr) (w : World) :
    Calls Tryd.prog 102 #[.iface 138 (.pointer (some a)), .iface 138 (.pointer (some a))] w fun e w' => e = .returned (.bool true) ∧ w' = w := by
  obtain ⟨i, hi, hcmp⟩ := Option.map_eq_some_iff.1 infoP
  obtain ⟨j, hj, hjs⟩ := Option.map_eq_some_iff.1 infoS
  have hA := @run_callFunc_extern Tryd.prog 118 _ Extern.ReflectliteType.typeOf Tryd.func118 (by kernel_rfl) (by kernel_rfl) (by kernel_rfl) (by kernel_rfl)
  have hB := @run_callFunc_extern Tryd.prog 142 _ (Extern.ReflectliteType.method fun t => do Extern.Rtype.noPackHeld "Comparable" t; pure (.bool (← typeInfo t).comparable)) Tryd.func142 (by kernel_rfl) (by kernel_rfl) (by kernel_rfl) (by kernel_rfl)
  have h1 := isTypeE
  have h2 := isCompE
  have h3 := isMethE
  have heq := run_eql_iface_ptr_same (P := Tryd.prog) w a Tryd.underlying103 Tryd.underlying138 hi hcmp hj
  go_enter Tryd.func102, Tryd.ntmps102
  go_wp2
  refine wp_loop_rounds 1 ?_
  rw [rounds_succ]
  go_wp2
  go_ret
  exact ⟨rfl, rfl⟩

/-- errors.Is of no error. -/
theorem isx_nil (b : Addr) (w : World) :
    Calls Tryd.prog 102 #[.nilIface, .iface 138 (.pointer (some b))] w fun e w' => e = .returned (.bool false) ∧ w' = w := by
  have hn := run_eql_iface_nil_left (P := Tryd.prog) w 138 (.pointer (some b)) Tryd.underlying103
  go_enter Tryd.func102, Tryd.ntmps102
  go_wp2
  go_ret
  exact ⟨rfl, rfl⟩

/-- errors.Is of two different errors. -/
theorem isx_other (a b : Addr) (ca cb : Array Value) (ta tb : TypeId) (w : World) (hne : a ≠ b) (ha : w.heap[a.block]? = some (.cells ca ta (0, 0))) (hb : w.heap[b.block]? = some (.cells cb tb (0, 0))) :
    Calls Tryd.prog 102 #[.iface 138 (.pointer (some a)), .iface 138 (.pointer (some b))] w fun e w' => e = .returned (.bool false) ∧ w' = w := by
  obtain ⟨i, hi, hcmp⟩ := Option.map_eq_some_iff.1 infoP
  obtain ⟨j, hj, hjs⟩ := Option.map_eq_some_iff.1 infoS
  have hA := @run_callFunc_extern Tryd.prog 118 _ Extern.ReflectliteType.typeOf Tryd.func118 (by kernel_rfl) (by kernel_rfl) (by kernel_rfl) (by kernel_rfl)
  have hB := @run_callFunc_extern Tryd.prog 142 _ (Extern.ReflectliteType.method fun t => do Extern.Rtype.noPackHeld "Comparable" t; pure (.bool (← typeInfo t).comparable)) Tryd.func142 (by kernel_rfl) (by kernel_rfl) (by kernel_rfl) (by kernel_rfl)
  have h1 := isTypeE
  have h2 := isCompE
  have h3 := isMethE
  have l1 := lackIs
  have l2 := lackUn
  have l3 := lackUs
  have heq := run_eql_iface_ptr_other (P := Tryd.prog) w Tryd.underlying103 Tryd.underlying138 hi hcmp hj (by rw [hjs]; decide) hne ha hb
  go_enter Tryd.func102, Tryd.ntmps102
  go_wp2
  refine wp_loop_rounds 1 ?_
  rw [rounds_succ]
  go_wp2
  go_ret
  exact ⟨rfl, rfl⟩

end Go.Proofs.YtkiblfgekojnoaaDoor
