/- Marks of records of any kinds: an annotation. -/
import Derived.Test.YtmjincdnhmkmhaaDoorRec
set_option linter.unusedSimpArgs false
set_option linter.unusedVariables false
namespace Go.Proofs.YtmjincdnhmkmhaaDoor
open Go.Sx Go.RowKit

def lmMkA (s : Nat) (ks : List EK) : LAnn := { ι := Nat × List Int, inv := fun st x => ((x.1 : Int) ≤ slN st 0 ∨ x.1 = 0) ∧ x.2.length = slM st 0, slots := fun st x => [(1, .a (.c (.int .i64 (slotI st 1 + (x.1 * s : Nat))))), (5, .a (.c (.int .i64 x.1)))], blks := fun st x => slB st 0 [.run ks (slM st 0) x.2], μ := fun st x => (slN st 0).toNat - x.1 }

end Go.Proofs.YtmjincdnhmkmhaaDoor
