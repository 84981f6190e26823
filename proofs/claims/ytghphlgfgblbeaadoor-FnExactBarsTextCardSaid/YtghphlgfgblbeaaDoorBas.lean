/- What all texts of a seat share: tables of functions that are met in place. No conditions. -/
import Derived.Test.YtghphlgfgblbeaaDoorProg
import Derived.Test.YtghphlgfgblbeaaDoorSx
import Derived.IntWalk
set_option linter.unusedSimpArgs false
set_option linter.unusedVariables false
namespace Go.Proofs.YtghphlgfgblbeaaDoor
open Go.Sx Go.RowKit

theorem mixed : Tryd.prog.follows .mixedOrders = true := by kernel_rfl

abbrev U0 : Nat → LM := fun _ => .unroll 0

def lookI : List (FuncId × Func × (Nat → LM)) → FuncId → Option (Func × (Nat → LM))
  | [], _ => none
  | (f, x) :: r, u => if f = u then some x else lookI r u

def InlsOk (P : Program) : List (FuncId × Func × (Nat → LM)) → Prop
  | [] => True
  | (f, fn, _) :: r => (P.funcs[f]? = some fn ∧ (fn.name == "runtime.NumGoroutine") = false) ∧ InlsOk P r

theorem InlsOk.ok {P : Program} : ∀ {L : List (FuncId × Func × (Nat → LM))}, InlsOk P L → InlOk P (lookI L)
  | [], _, f, fn, Λ, h => by simp [lookI] at h
  | (g, gn, gl) :: r, h, f, fn, Λ, hl => by
    unfold lookI at hl
    split at hl
    · rename_i e
      simp only [Option.some.injEq, Prod.mk.injEq] at hl
      obtain ⟨rfl, _⟩ := hl
      subst e; exact h.1
    · exact InlsOk.ok h.2 f fn Λ hl

theorem fnOk {f : FuncId} {fn : Func} (h : Tryd.prog.funcs[f]? = some fn) (h2 : (fn.name == "runtime.NumGoroutine") = false) (h3 : fn.body.isNone = false) : FnOk Tryd.prog f := ⟨fn, h, h2, h3⟩

theorem run_len {β : List Nat} {ks : List EK} {n : Nat} {l : List Int} {v : Value} (h : LVR β (.a (.agg [.run ks n l])) v) : l.length = n := by
  obtain ⟨_, _, _, _, _, h, _⟩ := h
  exact h.1

end Go.Proofs.YtghphlgfgblbeaaDoor
