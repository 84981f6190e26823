/- What the listed variable holds: the handle of the type error. No conditions. -/
import Derived.Test.YtmjincdnhmkmhaaDoorTt
import Derived.Test.YtmjincdnhmkmhaaDoorRows
import Derived.LaidHandle
import Derived.LaidLaws
import Derived.JoinedOf
set_option linter.unusedSimpArgs false
set_option linter.unusedVariables false
namespace Go.Proofs.YtmjincdnhmkmhaaDoor
open Go.Sx Go.RowKit

def lst : List (String × DataW Unit) := [("errors.errorType", Rows.laid_errors_errorType)]
theorem lh_et : Tryd.prog.globalNamed "errors.errorType" = some 0 := by kernel_rfl
theorem lh_rt : (Tryd.prog.cutTypes.find? (·.1 == "internal/reflectlite.rtype")).map (·.2) = some 93 := by kernel_rfl
theorem lh_one : ((List.range 139).filter fun t => Tryd.prog.rowNamed t [101, 114, 114, 111, 114]) = [43] := by kernel_rfl
theorem lh_size : Tryd.prog.types.size = 139 := by kernel_rfl

theorem handle_of_laid {W : World} (h : laidMetH Tryd.prog lst W) : GOk TT (Base.pl W) := by
  have h' : laidMet Tryd.prog [] W ∧ handlesMet Tryd.prog lst W := h
  obtain ⟨name, u, ty, e1, e2, e3, e4, e5⟩ := h'.2 _ (List.mem_singleton.2 rfl)
  have en : name = [101, 114, 114, 111, 114] := (Option.some.inj e1).symm
  subst en
  obtain rfl := Option.some.inj (lh_rt.symm.trans e2)
  have hm : ty ∈ (List.range 139).filter fun t => Tryd.prog.rowNamed t [101, 114, 114, 111, 114] := List.mem_filter.2 ⟨List.mem_range.2 (by rw [← lh_size]; exact e3), e4⟩
  rw [lh_one] at hm
  obtain rfl := List.mem_singleton.1 hm
  have hh : typeHandle Tryd.prog 43 = .pointer (some ⟨1, 43, none⟩) := by kernel_rfl
  rw [hh] at e5
  have e5 : W.var? Tryd.prog "errors.errorType" = some #[.iface 93 (.agg #[.pointer (some ⟨1, 43, none⟩)])] := e5
  have e6 : ∃ t fr, W.heap[0]? = some (.cells #[.iface 93 (.agg #[.pointer (some ⟨1, 43, none⟩)])] t fr) := by
    simp only [World.var?, lh_et, Option.bind_some] at e5
    split at e5
    · rename_i cs t fr hc
      simp only [Option.some.injEq] at e5
      subst e5
      exact ⟨t, fr, hc⟩
    · cases e5
  obtain ⟨t, fr, e6⟩ := e6
  intro g v hg u hu
  have hu : Below W.heap.size W u := hu
  have hg : gvT g = some v := hg
  unfold gvT at hg
  split at hg
  · rename_i e
    cases e
    obtain rfl := Option.some.inj hg
    first
      | exact ⟨t, fr, (hu.block _ (Array.getElem?_eq_some_iff.1 e6).1).trans e6⟩
      | exact ⟨t, fr, _, (hu.block _ (Array.getElem?_eq_some_iff.1 e6).1).trans e6, rfl, fun h => by cases h⟩
      | exact ⟨t, fr, _, (hu.block _ (Array.getElem?_eq_some_iff.1 e6).1).trans e6, rfl, (fun h => by cases h), (fun l h => by cases h)⟩
  · cases hg

/-- A world that meets the condition: the settled one, the variable's cell laid. -/
noncomputable def laidWorld (os : Os) : World :=
  let w0 := World.holding Tryd.prog os ⟨#[], #[], []⟩
  { w0 with heap := w0.heap.modify 0 fun
      | .cells _ t frozen => .cells #[.iface 93 (.agg #[.pointer (some ⟨1, 43, none⟩)])] t frozen
      | o => o }
theorem laidWorld_met (os : Os) (args : Array Value) : laidMetH Tryd.prog lst ((laidWorld os).forCall (fun _ _ => 0) ⟨#[], args, []⟩).memory :=
  laidMetH_of_parts ⟨[], rfl, List.nodup_nil, fun _ _ h => by cases h⟩ (by kernel_rfl)

end Go.Proofs.YtmjincdnhmkmhaaDoor
