/- errors.Is at errors of errors.New's make: by walking Go's own text, after the guide's worked text on errors.Is, at this program's types. No conditions. -/
import Derived.Test.YtnoljgfnpabinaaDoorProg
import Derived.WalkKit
import Derived.LaidEql
import Derived.Stop.Asserts
import Derived.RowKitTokens
set_option linter.unusedSimpArgs false
set_option linter.unusedVariables false
namespace Go.Proofs.YtnoljgfnpabinaaDoor
open Go.RowKit Go.Extern.Stop Go.Stop Go.Extern

theorem isTypeE (v : Value) (w : World) : (Extern.ReflectliteType.typeOf #[.iface 77 v]).run Tryd.prog w = .ok (.iface 68 (.agg #[.pointer (some ⟨3, 77, none⟩)])) w := by kernel_rfl
theorem isCompE (w : World) : ((Extern.ReflectliteType.method fun t => do Extern.Rtype.noPackHeld "Comparable" t; (fun a => Value.bool a.comparable) <$> typeInfo t) #[.agg #[.pointer (some ⟨3, 77, none⟩)]]).run Tryd.prog w = .ok (.bool true) w := by kernel_rfl
theorem isMethE (v : Value) (w : World) : (Go.method 217 68 v "Comparable").run Tryd.prog w = .ok (60, v) w := by kernel_rfl
theorem infoP : (Tryd.prog.info? 77).map (·.comparable) = some true := by kernel_rfl
theorem infoS : (Tryd.prog.info? 105).map (·.size) = some 1 := by kernel_rfl
theorem lackIs (v : Value) (xT : TypeId) (w : World) : (Instr.typeAssert (.iface 77 v) xT 70 true).run Tryd.prog w = .ok (.tuple #[.nilIface, .bool false]) w := run_typeAssert_lacksB Tryd.underlying70 (by kernel_rfl) (by kernel_rfl) v xT w
theorem lackUn (v : Value) (xT : TypeId) (w : World) : (Instr.typeAssert (.iface 77 v) xT 73 true).run Tryd.prog w = .ok (.tuple #[.nilIface, .bool false]) w := run_typeAssert_lacksB Tryd.underlying73 (by kernel_rfl) (by kernel_rfl) v xT w
theorem lackUs (v : Value) (xT : TypeId) (w : World) : (Instr.typeAssert (.iface 77 v) xT 74 true).run Tryd.prog w = .ok (.tuple #[.nilIface, .bool false]) w := run_typeAssert_lacksB Tryd.underlying74 (by kernel_rfl) (by kernel_rfl) v xT w

/-- errors.Is of an error and itself. -/
theorem isx_same (a : Addr) (w : World) :
    Calls Tryd.prog 29 #[.iface 77 (.pointer (some a)), .iface 77 (.pointer (some a))] w fun e w' => e = .returned (.bool true) ∧ w' = w := by
  obtain ⟨i, hi, hcmp⟩ := Option.map_eq_some_iff.1 infoP
  obtain ⟨j, hj, hjs⟩ := Option.map_eq_some_iff.1 infoS
  have hA := @run_callFunc_extern Tryd.prog 36 _ Extern.ReflectliteType.typeOf Tryd.func36 (by kernel_rfl) (by kernel_rfl) (by kernel_rfl) (by kernel_rfl)
  have hB := @run_callFunc_extern Tryd.prog 60 _ (Extern.ReflectliteType.method fun t => do Extern.Rtype.noPackHeld "Comparable" t; pure (.bool (← typeInfo t).comparable)) Tryd.func60 (by kernel_rfl) (by kernel_rfl) (by kernel_rfl) (by kernel_rfl)
  have h1 := isTypeE
  have h2 := isCompE
  have h3 := isMethE
  have heq := run_eql_iface_ptr_same (P := Tryd.prog) w a Tryd.underlying53 Tryd.underlying77 hi hcmp hj
  go_enter Tryd.func29, Tryd.ntmps29
  go_wp2
  refine wp_loop_rounds 1 ?_
  rw [rounds_succ]
  go_wp2
  go_ret
  exact ⟨rfl, rfl⟩

/-- errors.Is of no error. -/
theorem isx_nil (b : Addr) (w : World) :
    Calls Tryd.prog 29 #[.nilIface, .iface 77 (.pointer (some b))] w fun e w' => e = .returned (.bool false) ∧ w' = w := by
  have hn := run_eql_iface_nil_left (P := Tryd.prog) w 77 (.pointer (some b)) Tryd.underlying53
  go_enter Tryd.func29, Tryd.ntmps29
  go_wp2
  go_ret
  exact ⟨rfl, rfl⟩

/-- errors.Is of two different errors. -/
theorem isx_other (a b : Addr) (ca cb : Array Value) (ta tb : TypeId) (w : World) (hne : a ≠ b) (ha : w.heap[a.block]? = some (.cells ca ta (0, 0))) (hb : w.heap[b.block]? = some (.cells cb tb (0, 0))) :
    Calls Tryd.prog 29 #[.iface 77 (.pointer (some a)), .iface 77 (.pointer (some b))] w fun e w' => e = .returned (.bool false) ∧ w' = w := by
  obtain ⟨i, hi, hcmp⟩ := Option.map_eq_some_iff.1 infoP
  obtain ⟨j, hj, hjs⟩ := Option.map_eq_some_iff.1 infoS
  have hA := @run_callFunc_extern Tryd.prog 36 _ Extern.ReflectliteType.typeOf Tryd.func36 (by kernel_rfl) (by kernel_rfl) (by kernel_rfl) (by kernel_rfl)
  have hB := @run_callFunc_extern Tryd.prog 60 _ (Extern.ReflectliteType.method fun t => do Extern.Rtype.noPackHeld "Comparable" t; pure (.bool (← typeInfo t).comparable)) Tryd.func60 (by kernel_rfl) (by kernel_rfl) (by kernel_rfl) (by kernel_rfl)
  have h1 := isTypeE
  have h2 := isCompE
  have h3 := isMethE
  have l1 := lackIs
  have l2 := lackUn
  have l3 := lackUs
  have heq := run_eql_iface_ptr_other (P := Tryd.prog) w Tryd.underlying53 Tryd.underlying77 hi hcmp hj (by rw [hjs]; decide) hne ha hb
  go_enter Tryd.func29, Tryd.ntmps29
  go_wp2
  refine wp_loop_rounds 1 ?_
  rw [rounds_succ]
  go_wp2
  go_ret
  exact ⟨rfl, rfl⟩

end Go.Proofs.YtnoljgfnpabinaaDoor
