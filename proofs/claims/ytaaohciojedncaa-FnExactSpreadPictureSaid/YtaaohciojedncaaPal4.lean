/- NearestTone: both sides. No conditions beyond the ranges of the kinds. -/
import Derived.Test.YtaaohciojedncaaPal3
set_option linter.unusedSimpArgs false
set_option linter.unusedVariables false
namespace Go.Proofs.Ytaaohciojedncaa
open Go.Sx Go.RowKit

noncomputable def Ep4 : List (FuncId × Entry) := Ep3
theorem Ep4_ok : EntriesOk Try.prog TT Ep4 := Ep3_ok
noncomputable abbrev Cp4 : Ctr := ctrOfM Ep4 Mp3
theorem Cp4_ok : CtrOk Try.prog TT Cp4 := ctrOfM_ok Ep4_ok Mp3_ok

end Go.Proofs.Ytaaohciojedncaa
