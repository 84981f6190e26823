/- What the listed variables hold: tables of numbers that nothing here reads. No conditions. -/
import Derived.Test.YtkgdkfilhlbcaaaDoorTt
import Derived.Test.YtkgdkfilhlbcaaaDoorRows
set_option linter.unusedSimpArgs false
set_option linter.unusedVariables false
namespace Go.Proofs.YtkgdkfilhlbcaaaDoor
open Go.Sx Go.RowKit

def lst : List (String × DataW Unit) := [("unicode/utf8.acceptRanges", Rows.laid_unicode_utf8_acceptRanges), ("unicode/utf8.first", Rows.laid_unicode_utf8_first)]
theorem laid_gok {W : World} (_ : laidMet Tryd.prog lst W) : GOk TT (Base.pl W) := noG

end Go.Proofs.YtkgdkfilhlbcaaaDoor
