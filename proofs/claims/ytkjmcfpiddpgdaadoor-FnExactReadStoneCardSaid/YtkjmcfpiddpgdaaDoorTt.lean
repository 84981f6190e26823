/- What types there are in a seat without package-level variables. No conditions. -/
import Derived.Test.YtkjmcfpiddpgdaaDoorSto1d
set_option linter.unusedSimpArgs false
set_option linter.unusedVariables false
namespace Go.Proofs.YtkjmcfpiddpgdaaDoor

end Go.Proofs.YtkjmcfpiddpgdaaDoor
