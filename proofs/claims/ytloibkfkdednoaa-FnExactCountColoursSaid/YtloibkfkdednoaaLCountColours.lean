/- The law of CountColours: the result is always true. No conditions beyond the ranges of the kinds. -/
import Derived.Test.YtloibkfkdednoaaPic9
namespace Go.Proofs.Ytloibkfkdednoaa
open Go.Sx Go.RowKit

set_option maxRecDepth 100000 in
theorem law_CountColours (w0 h0 : Int) (l0 : List Int) (r0 : Rg w0 h0 l0) : Fex true TT (inlN true TT (ctrOf ECnt) (lookI IL) 3) (ctrOf ECnt) U0 Try.f7 [pic w0 h0 l0] [] (fun lv _ => leL lv (.a (.c .tt))) := by
  refine Go.Sx.by_eq (q := True ∧ True ∧ True ∧ True ∧ Go.Proofs.Ytloibkfkdednoaa.Rg w0 h0 l0 ∧ True ∧ True ∧ True ∧ True ∧ True ∧ True ∧ True ∧ True ∧ Go.Proofs.Ytloibkfkdednoaa.Rg w0 h0 l0 ∧ True ∧ True ∧ True ∧ True ∧ True ∧ True ∧ True ∧ True ∧ True ∧ True ∧ True ∧ ((!Decidable.decide ((if Go.Proofs.Ytloibkfkdednoaa.okE9 w0 h0 l0 = (0 : Int) then Go.Proofs.Ytloibkfkdednoaa.cl w0 h0 l0 (144 : Nat) else List.replicate (16 : Nat) (0 : Int)) = if Go.Proofs.Ytloibkfkdednoaa.okE9 w0 h0 l0 = (0 : Int) then Go.Proofs.Ytloibkfkdednoaa.cl w0 h0 l0 (144 : Nat) else List.replicate (16 : Nat) (0 : Int))) = Bool.false → True ∧ True ∧ True ∧ True ∧ ((Go.Proofs.Ytloibkfkdednoaa.okE9 w0 h0 l0 != Go.Proofs.Ytloibkfkdednoaa.okE9 w0 h0 l0) = Bool.true → True ∧ Go.Sx.Cel.ff = Go.Sx.Cel.tt) ∧ ((Go.Proofs.Ytloibkfkdednoaa.okE9 w0 h0 l0 != Go.Proofs.Ytloibkfkdednoaa.okE9 w0 h0 l0) = Bool.false → True ∧ True)) ∧ ((!Decidable.decide ((if Go.Proofs.Ytloibkfkdednoaa.okE9 w0 h0 l0 = (0 : Int) then Go.Proofs.Ytloibkfkdednoaa.cl w0 h0 l0 (144 : Nat) else List.replicate (16 : Nat) (0 : Int)) = if Go.Proofs.Ytloibkfkdednoaa.okE9 w0 h0 l0 = (0 : Int) then Go.Proofs.Ytloibkfkdednoaa.cl w0 h0 l0 (144 : Nat) else List.replicate (16 : Nat) (0 : Int))) = !Bool.false → True ∧ True ∧ Go.Sx.Cel.ff = Go.Sx.Cel.tt)) (by kernel_rfl) ?_
  simp [r0]

end Go.Proofs.Ytloibkfkdednoaa
