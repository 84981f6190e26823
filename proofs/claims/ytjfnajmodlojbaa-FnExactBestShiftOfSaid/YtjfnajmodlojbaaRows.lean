/-
  No cell of these rows narrows 'for every input' (looked for: loops, veiled, ifaces, maps, wideKeys, modest, calm, conditions, laid).
  DERIVED. THE GIVEN ROWS OF THIS SEAT. 12 by the template 'for every input the law returns true; each argument reads behind the call as it read before'; 0 by the template 'total and deterministic' (their statements: YtjfnajmodlojbaaTotals.lean).
  GIVEN WITH THE SEED: the statements are not yours to turn. If you find one false, say at which input.
  Laid BY PROGRAM, IN A SANDBOX (cutbox-rows.mjs): the forced cells as the released guide's own fill.sh prints them over the translation 89d24ccf8abe796e… (all of the seat's roots in one cut). By AI agents, Wed Nov 11 2026. No macro, syntax, notation, axiom, sorry.
-/
import Derived.Test.YtjfnajmodlojbaaChecked
import GoSem.Claim
import GoSem.ClaimJoined
import GoSem.ClaimMapViews
import Derived.JoinedTies
import Derived.KernelRfl
namespace Go.Proofs.Ytjfnajmodlojbaa
/- THE CELL 'sum', in the pinned program and in every row, IS THE sha256 OF THE DUMP (.gsa) THAT YtjfnajmodlojbaaProg.lean LOADS. Nothing in Lean hashes anything: it is a label: what it is worth is what the hold of that sum in a sandbox is worth. -/
noncomputable def Try.pinned : Pinned := { name := "ytjfnajmodlojbaa", sum := "89d24ccf8abe796ef69246a7f446213c4efde9149d27f47b1be71a16ded8057a", checked := Try.checked }
namespace Rows
def none {H : Type} : Left H := { results := [], args := [] }

/-- 'laws.FnExactWrongStones': WHATEVER THE INPUT: true; the input reads as it did. -/
def fnExactWrongStonesSpec : ChangeSpec := { name := "fnExactWrongStones", fn := fun _ => fun
  | [d1, d2] => { results := [.lit (.bool true)], args := [d1, d2] }
  | _ => none }
def fnExactWrongStonesRow : OpenClaim := { program := "ytjfnajmodlojbaa", sum := "89d24ccf8abe796ef69246a7f446213c4efde9149d27f47b1be71a16ded8057a", func := "loop.example/g01322/laws.FnExactWrongStones", spec := "fnExactWrongStones", unfollowed := true, recurses := true, plainKeys := false, apart := false }
def FnExactWrongStonesSaid : Prop := fnExactWrongStonesRow.holds Try.pinned (OpenSpec.ofChange fnExactWrongStonesSpec)

/-- ITS FALSE NEIGHBOUR: 'it returns false'. Refute it at one input. -/
def fnExactWrongStonesWrong : ChangeSpec := { name := "fnExactWrongStones", fn := fun _ => fun
  | [d1, d2] => { results := [.lit (.bool false)], args := [d1, d2] }
  | _ => none }
def FnExactWrongStonesWrongFalsely : Prop := fnExactWrongStonesRow.holds Try.pinned (OpenSpec.ofChange fnExactWrongStonesWrong)

/-- 'laws.FnExactBestShiftOf': WHATEVER THE INPUT: true; the input reads as it did. -/
def fnExactBestShiftOfSpec : ChangeSpec := { name := "fnExactBestShiftOf", fn := fun _ => fun
  | [d1, d2] => { results := [.lit (.bool true)], args := [d1, d2] }
  | _ => none }
def fnExactBestShiftOfRow : OpenClaim := { program := "ytjfnajmodlojbaa", sum := "89d24ccf8abe796ef69246a7f446213c4efde9149d27f47b1be71a16ded8057a", func := "loop.example/g01322/laws.FnExactBestShiftOf", spec := "fnExactBestShiftOf", unfollowed := true, recurses := true, plainKeys := false, apart := false }
def FnExactBestShiftOfSaid : Prop := fnExactBestShiftOfRow.holds Try.pinned (OpenSpec.ofChange fnExactBestShiftOfSpec)

/-- ITS FALSE NEIGHBOUR: 'it returns false'. Refute it at one input. -/
def fnExactBestShiftOfWrong : ChangeSpec := { name := "fnExactBestShiftOf", fn := fun _ => fun
  | [d1, d2] => { results := [.lit (.bool false)], args := [d1, d2] }
  | _ => none }
def FnExactBestShiftOfWrongFalsely : Prop := fnExactBestShiftOfRow.holds Try.pinned (OpenSpec.ofChange fnExactBestShiftOfWrong)

/-- 'laws.FnExactFillByPeriods': WHATEVER THE INPUT: true; the input reads as it did. -/
def fnExactFillByPeriodsSpec : ChangeSpec := { name := "fnExactFillByPeriods", fn := fun _ => fun
  | [d1, d2, d3] => { results := [.lit (.bool true)], args := [d1, d2, d3] }
  | _ => none }
def fnExactFillByPeriodsRow : OpenClaim := { program := "ytjfnajmodlojbaa", sum := "89d24ccf8abe796ef69246a7f446213c4efde9149d27f47b1be71a16ded8057a", func := "loop.example/g01322/laws.FnExactFillByPeriods", spec := "fnExactFillByPeriods", unfollowed := true, recurses := true, plainKeys := false, apart := false }
def FnExactFillByPeriodsSaid : Prop := fnExactFillByPeriodsRow.holds Try.pinned (OpenSpec.ofChange fnExactFillByPeriodsSpec)

/-- ITS FALSE NEIGHBOUR: 'it returns false'. Refute it at one input. -/
def fnExactFillByPeriodsWrong : ChangeSpec := { name := "fnExactFillByPeriods", fn := fun _ => fun
  | [d1, d2, d3] => { results := [.lit (.bool false)], args := [d1, d2, d3] }
  | _ => none }
def FnExactFillByPeriodsWrongFalsely : Prop := fnExactFillByPeriodsRow.holds Try.pinned (OpenSpec.ofChange fnExactFillByPeriodsWrong)

/-- 'laws.FnExactFillRound': WHATEVER THE INPUT: true; the input reads as it did. -/
def fnExactFillRoundSpec : ChangeSpec := { name := "fnExactFillRound", fn := fun _ => fun
  | [d] => { results := [.lit (.bool true)], args := [d] }
  | _ => none }
def fnExactFillRoundRow : OpenClaim := { program := "ytjfnajmodlojbaa", sum := "89d24ccf8abe796ef69246a7f446213c4efde9149d27f47b1be71a16ded8057a", func := "loop.example/g01322/laws.FnExactFillRound", spec := "fnExactFillRound", unfollowed := true, recurses := true, plainKeys := false, apart := false }
def FnExactFillRoundSaid : Prop := fnExactFillRoundRow.holds Try.pinned (OpenSpec.ofChange fnExactFillRoundSpec)

/-- ITS FALSE NEIGHBOUR: 'it returns false'. Refute it at one input. -/
def fnExactFillRoundWrong : ChangeSpec := { name := "fnExactFillRound", fn := fun _ => fun
  | [d] => { results := [.lit (.bool false)], args := [d] }
  | _ => none }
def FnExactFillRoundWrongFalsely : Prop := fnExactFillRoundRow.holds Try.pinned (OpenSpec.ofChange fnExactFillRoundWrong)

/-- 'laws.FnExactFillByNeighbours': WHATEVER THE INPUT: true; the input reads as it did. -/
def fnExactFillByNeighboursSpec : ChangeSpec := { name := "fnExactFillByNeighbours", fn := fun _ => fun
  | [d1, d2] => { results := [.lit (.bool true)], args := [d1, d2] }
  | _ => none }
def fnExactFillByNeighboursRow : OpenClaim := { program := "ytjfnajmodlojbaa", sum := "89d24ccf8abe796ef69246a7f446213c4efde9149d27f47b1be71a16ded8057a", func := "loop.example/g01322/laws.FnExactFillByNeighbours", spec := "fnExactFillByNeighbours", unfollowed := true, recurses := true, plainKeys := false, apart := false }
def FnExactFillByNeighboursSaid : Prop := fnExactFillByNeighboursRow.holds Try.pinned (OpenSpec.ofChange fnExactFillByNeighboursSpec)

/-- ITS FALSE NEIGHBOUR: 'it returns false'. Refute it at one input. -/
def fnExactFillByNeighboursWrong : ChangeSpec := { name := "fnExactFillByNeighbours", fn := fun _ => fun
  | [d1, d2] => { results := [.lit (.bool false)], args := [d1, d2] }
  | _ => none }
def FnExactFillByNeighboursWrongFalsely : Prop := fnExactFillByNeighboursRow.holds Try.pinned (OpenSpec.ofChange fnExactFillByNeighboursWrong)

/-- 'laws.FnExactVoteOf': WHATEVER THE INPUT: true; the input reads as it did. -/
def fnExactVoteOfSpec : ChangeSpec := { name := "fnExactVoteOf", fn := fun _ => fun
  | [d] => { results := [.lit (.bool true)], args := [d] }
  | _ => none }
def fnExactVoteOfRow : OpenClaim := { program := "ytjfnajmodlojbaa", sum := "89d24ccf8abe796ef69246a7f446213c4efde9149d27f47b1be71a16ded8057a", func := "loop.example/g01322/laws.FnExactVoteOf", spec := "fnExactVoteOf", unfollowed := true, recurses := true, plainKeys := false, apart := false }
def FnExactVoteOfSaid : Prop := fnExactVoteOfRow.holds Try.pinned (OpenSpec.ofChange fnExactVoteOfSpec)

/-- ITS FALSE NEIGHBOUR: 'it returns false'. Refute it at one input. -/
def fnExactVoteOfWrong : ChangeSpec := { name := "fnExactVoteOf", fn := fun _ => fun
  | [d] => { results := [.lit (.bool false)], args := [d] }
  | _ => none }
def FnExactVoteOfWrongFalsely : Prop := fnExactVoteOfRow.holds Try.pinned (OpenSpec.ofChange fnExactVoteOfWrong)

/-- 'laws.FnExactNearestOf': WHATEVER THE INPUT: true; the input reads as it did. -/
def fnExactNearestOfSpec : ChangeSpec := { name := "fnExactNearestOf", fn := fun _ => fun
  | [d1, d2] => { results := [.lit (.bool true)], args := [d1, d2] }
  | _ => none }
def fnExactNearestOfRow : OpenClaim := { program := "ytjfnajmodlojbaa", sum := "89d24ccf8abe796ef69246a7f446213c4efde9149d27f47b1be71a16ded8057a", func := "loop.example/g01322/laws.FnExactNearestOf", spec := "fnExactNearestOf", unfollowed := true, recurses := true, plainKeys := false, apart := false }
def FnExactNearestOfSaid : Prop := fnExactNearestOfRow.holds Try.pinned (OpenSpec.ofChange fnExactNearestOfSpec)

/-- ITS FALSE NEIGHBOUR: 'it returns false'. Refute it at one input. -/
def fnExactNearestOfWrong : ChangeSpec := { name := "fnExactNearestOf", fn := fun _ => fun
  | [d1, d2] => { results := [.lit (.bool false)], args := [d1, d2] }
  | _ => none }
def FnExactNearestOfWrongFalsely : Prop := fnExactNearestOfRow.holds Try.pinned (OpenSpec.ofChange fnExactNearestOfWrong)

/-- 'laws.FnExactLostCells': WHATEVER THE INPUT: true; the input reads as it did. -/
def fnExactLostCellsSpec : ChangeSpec := { name := "fnExactLostCells", fn := fun _ => fun
  | [d] => { results := [.lit (.bool true)], args := [d] }
  | _ => none }
def fnExactLostCellsRow : OpenClaim := { program := "ytjfnajmodlojbaa", sum := "89d24ccf8abe796ef69246a7f446213c4efde9149d27f47b1be71a16ded8057a", func := "loop.example/g01322/laws.FnExactLostCells", spec := "fnExactLostCells", unfollowed := true, recurses := true, plainKeys := false, apart := false }
def FnExactLostCellsSaid : Prop := fnExactLostCellsRow.holds Try.pinned (OpenSpec.ofChange fnExactLostCellsSpec)

/-- ITS FALSE NEIGHBOUR: 'it returns false'. Refute it at one input. -/
def fnExactLostCellsWrong : ChangeSpec := { name := "fnExactLostCells", fn := fun _ => fun
  | [d] => { results := [.lit (.bool false)], args := [d] }
  | _ => none }
def FnExactLostCellsWrongFalsely : Prop := fnExactLostCellsRow.holds Try.pinned (OpenSpec.ofChange fnExactLostCellsWrong)

/-- 'laws.FnExactPartnerOf': WHATEVER THE INPUT: true; the input reads as it did. -/
def fnExactPartnerOfSpec : ChangeSpec := { name := "fnExactPartnerOf", fn := fun _ => fun
  | [d1, d2, d3] => { results := [.lit (.bool true)], args := [d1, d2, d3] }
  | _ => none }
def fnExactPartnerOfRow : OpenClaim := { program := "ytjfnajmodlojbaa", sum := "89d24ccf8abe796ef69246a7f446213c4efde9149d27f47b1be71a16ded8057a", func := "loop.example/g01322/laws.FnExactPartnerOf", spec := "fnExactPartnerOf", unfollowed := true, recurses := true, plainKeys := false, apart := false }
def FnExactPartnerOfSaid : Prop := fnExactPartnerOfRow.holds Try.pinned (OpenSpec.ofChange fnExactPartnerOfSpec)

/-- ITS FALSE NEIGHBOUR: 'it returns false'. Refute it at one input. -/
def fnExactPartnerOfWrong : ChangeSpec := { name := "fnExactPartnerOf", fn := fun _ => fun
  | [d1, d2, d3] => { results := [.lit (.bool false)], args := [d1, d2, d3] }
  | _ => none }
def FnExactPartnerOfWrongFalsely : Prop := fnExactPartnerOfRow.holds Try.pinned (OpenSpec.ofChange fnExactPartnerOfWrong)

/-- 'laws.FnExactFillFrom': WHATEVER THE INPUT: true; the input reads as it did. -/
def fnExactFillFromSpec : ChangeSpec := { name := "fnExactFillFrom", fn := fun _ => fun
  | [d1, d2] => { results := [.lit (.bool true)], args := [d1, d2] }
  | _ => none }
def fnExactFillFromRow : OpenClaim := { program := "ytjfnajmodlojbaa", sum := "89d24ccf8abe796ef69246a7f446213c4efde9149d27f47b1be71a16ded8057a", func := "loop.example/g01322/laws.FnExactFillFrom", spec := "fnExactFillFrom", unfollowed := true, recurses := true, plainKeys := false, apart := false }
def FnExactFillFromSaid : Prop := fnExactFillFromRow.holds Try.pinned (OpenSpec.ofChange fnExactFillFromSpec)

/-- ITS FALSE NEIGHBOUR: 'it returns false'. Refute it at one input. -/
def fnExactFillFromWrong : ChangeSpec := { name := "fnExactFillFrom", fn := fun _ => fun
  | [d1, d2] => { results := [.lit (.bool false)], args := [d1, d2] }
  | _ => none }
def FnExactFillFromWrongFalsely : Prop := fnExactFillFromRow.holds Try.pinned (OpenSpec.ofChange fnExactFillFromWrong)

/-- 'laws.FnExactAgreement': WHATEVER THE INPUT: true; the input reads as it did. -/
def fnExactAgreementSpec : ChangeSpec := { name := "fnExactAgreement", fn := fun _ => fun
  | [d1, d2] => { results := [.lit (.bool true)], args := [d1, d2] }
  | _ => none }
def fnExactAgreementRow : OpenClaim := { program := "ytjfnajmodlojbaa", sum := "89d24ccf8abe796ef69246a7f446213c4efde9149d27f47b1be71a16ded8057a", func := "loop.example/g01322/laws.FnExactAgreement", spec := "fnExactAgreement", unfollowed := true, recurses := true, plainKeys := false, apart := false }
def FnExactAgreementSaid : Prop := fnExactAgreementRow.holds Try.pinned (OpenSpec.ofChange fnExactAgreementSpec)

/-- ITS FALSE NEIGHBOUR: 'it returns false'. Refute it at one input. -/
def fnExactAgreementWrong : ChangeSpec := { name := "fnExactAgreement", fn := fun _ => fun
  | [d1, d2] => { results := [.lit (.bool false)], args := [d1, d2] }
  | _ => none }
def FnExactAgreementWrongFalsely : Prop := fnExactAgreementRow.holds Try.pinned (OpenSpec.ofChange fnExactAgreementWrong)

/-- 'laws.FnExactClashesUnder': WHATEVER THE INPUT: true; the input reads as it did. -/
def fnExactClashesUnderSpec : ChangeSpec := { name := "fnExactClashesUnder", fn := fun _ => fun
  | [d1, d2] => { results := [.lit (.bool true)], args := [d1, d2] }
  | _ => none }
def fnExactClashesUnderRow : OpenClaim := { program := "ytjfnajmodlojbaa", sum := "89d24ccf8abe796ef69246a7f446213c4efde9149d27f47b1be71a16ded8057a", func := "loop.example/g01322/laws.FnExactClashesUnder", spec := "fnExactClashesUnder", unfollowed := true, recurses := true, plainKeys := false, apart := false }
def FnExactClashesUnderSaid : Prop := fnExactClashesUnderRow.holds Try.pinned (OpenSpec.ofChange fnExactClashesUnderSpec)

/-- ITS FALSE NEIGHBOUR: 'it returns false'. Refute it at one input. -/
def fnExactClashesUnderWrong : ChangeSpec := { name := "fnExactClashesUnder", fn := fun _ => fun
  | [d1, d2] => { results := [.lit (.bool false)], args := [d1, d2] }
  | _ => none }
def FnExactClashesUnderWrongFalsely : Prop := fnExactClashesUnderRow.holds Try.pinned (OpenSpec.ofChange fnExactClashesUnderWrong)

/- THE SECOND FORM. 'bulk': how many values and letters a reading holds, each counted each time it is reached (what is shared counts as often as it is met; a slice's spare places count too). A statement '..UptoSaid' is the law's where the arguments, and the package variables that the reading takes, are together of bulk at most 1048576: NARROWER than '..Said'. Prove '..Said' where nothing that the law and all that it calls make is longer than what came in: it says more and counts as full. Else prove '..UptoSaid'. A law counts once. -/
mutual
def uptoBulk {H : Type} : DataW H → Nat
  | .lit (.string bytes) => bytes.length + 1
  | .lit _ => 1
  | .nil => 1
  | .ptr d => uptoBulk d + 1
  | .slice elems spare => uptoBulkAll elems + uptoBulkAll spare + 1
  | .agg parts => uptoBulkAll parts + 1
  | .iface _ d => uptoBulk d + 1
  | .map entries => uptoBulkEntries entries + 1
  | .held _ => 1
def uptoBulkAll {H : Type} : List (DataW H) → Nat
  | [] => 0
  | d :: r => uptoBulk d + uptoBulkAll r
def uptoBulkEntries {H : Type} : List (Lit × DataW H) → Nat
  | [] => 0
  | x :: r => uptoBulkEntry x + uptoBulkEntries r
def uptoBulkEntry {H : Type} : Lit × DataW H → Nat
  | (.string bytes, d) => bytes.length + uptoBulk d + 1
  | (_, d) => uptoBulk d + 1
 end
def uptoSmall : (H : Type) → List (DataW H) → Bool := fun _ ds => decide (uptoBulkAll ds ≤ 1048576)
def OpenSpec.upto (s : _root_.Go.ChangeSpec) : _root_.Go.OpenSpec := { _root_.Go.OpenSpec.ofChange s with cond := some uptoSmall }

/-- 'laws.FnExactWrongStones', WHERE WHAT IT READS IS OF BULK AT MOST 1048576: true; the input reads as it did. -/
def fnExactWrongStonesUptoRow : OpenClaim := { program := "ytjfnajmodlojbaa", sum := "89d24ccf8abe796ef69246a7f446213c4efde9149d27f47b1be71a16ded8057a", func := "loop.example/g01322/laws.FnExactWrongStones", spec := "fnExactWrongStones", unfollowed := true, recurses := true, plainKeys := false, apart := false, narrowed := true }
def FnExactWrongStonesUptoSaid : Prop := fnExactWrongStonesUptoRow.holds Try.pinned (OpenSpec.upto fnExactWrongStonesSpec)

/-- 'laws.FnExactBestShiftOf', WHERE WHAT IT READS IS OF BULK AT MOST 1048576: true; the input reads as it did. -/
def fnExactBestShiftOfUptoRow : OpenClaim := { program := "ytjfnajmodlojbaa", sum := "89d24ccf8abe796ef69246a7f446213c4efde9149d27f47b1be71a16ded8057a", func := "loop.example/g01322/laws.FnExactBestShiftOf", spec := "fnExactBestShiftOf", unfollowed := true, recurses := true, plainKeys := false, apart := false, narrowed := true }
def FnExactBestShiftOfUptoSaid : Prop := fnExactBestShiftOfUptoRow.holds Try.pinned (OpenSpec.upto fnExactBestShiftOfSpec)

/-- 'laws.FnExactFillByPeriods', WHERE WHAT IT READS IS OF BULK AT MOST 1048576: true; the input reads as it did. -/
def fnExactFillByPeriodsUptoRow : OpenClaim := { program := "ytjfnajmodlojbaa", sum := "89d24ccf8abe796ef69246a7f446213c4efde9149d27f47b1be71a16ded8057a", func := "loop.example/g01322/laws.FnExactFillByPeriods", spec := "fnExactFillByPeriods", unfollowed := true, recurses := true, plainKeys := false, apart := false, narrowed := true }
def FnExactFillByPeriodsUptoSaid : Prop := fnExactFillByPeriodsUptoRow.holds Try.pinned (OpenSpec.upto fnExactFillByPeriodsSpec)

/-- 'laws.FnExactFillRound', WHERE WHAT IT READS IS OF BULK AT MOST 1048576: true; the input reads as it did. -/
def fnExactFillRoundUptoRow : OpenClaim := { program := "ytjfnajmodlojbaa", sum := "89d24ccf8abe796ef69246a7f446213c4efde9149d27f47b1be71a16ded8057a", func := "loop.example/g01322/laws.FnExactFillRound", spec := "fnExactFillRound", unfollowed := true, recurses := true, plainKeys := false, apart := false, narrowed := true }
def FnExactFillRoundUptoSaid : Prop := fnExactFillRoundUptoRow.holds Try.pinned (OpenSpec.upto fnExactFillRoundSpec)

/-- 'laws.FnExactFillByNeighbours', WHERE WHAT IT READS IS OF BULK AT MOST 1048576: true; the input reads as it did. -/
def fnExactFillByNeighboursUptoRow : OpenClaim := { program := "ytjfnajmodlojbaa", sum := "89d24ccf8abe796ef69246a7f446213c4efde9149d27f47b1be71a16ded8057a", func := "loop.example/g01322/laws.FnExactFillByNeighbours", spec := "fnExactFillByNeighbours", unfollowed := true, recurses := true, plainKeys := false, apart := false, narrowed := true }
def FnExactFillByNeighboursUptoSaid : Prop := fnExactFillByNeighboursUptoRow.holds Try.pinned (OpenSpec.upto fnExactFillByNeighboursSpec)

/-- 'laws.FnExactVoteOf', WHERE WHAT IT READS IS OF BULK AT MOST 1048576: true; the input reads as it did. -/
def fnExactVoteOfUptoRow : OpenClaim := { program := "ytjfnajmodlojbaa", sum := "89d24ccf8abe796ef69246a7f446213c4efde9149d27f47b1be71a16ded8057a", func := "loop.example/g01322/laws.FnExactVoteOf", spec := "fnExactVoteOf", unfollowed := true, recurses := true, plainKeys := false, apart := false, narrowed := true }
def FnExactVoteOfUptoSaid : Prop := fnExactVoteOfUptoRow.holds Try.pinned (OpenSpec.upto fnExactVoteOfSpec)

/-- 'laws.FnExactNearestOf', WHERE WHAT IT READS IS OF BULK AT MOST 1048576: true; the input reads as it did. -/
def fnExactNearestOfUptoRow : OpenClaim := { program := "ytjfnajmodlojbaa", sum := "89d24ccf8abe796ef69246a7f446213c4efde9149d27f47b1be71a16ded8057a", func := "loop.example/g01322/laws.FnExactNearestOf", spec := "fnExactNearestOf", unfollowed := true, recurses := true, plainKeys := false, apart := false, narrowed := true }
def FnExactNearestOfUptoSaid : Prop := fnExactNearestOfUptoRow.holds Try.pinned (OpenSpec.upto fnExactNearestOfSpec)

/-- 'laws.FnExactLostCells', WHERE WHAT IT READS IS OF BULK AT MOST 1048576: true; the input reads as it did. -/
def fnExactLostCellsUptoRow : OpenClaim := { program := "ytjfnajmodlojbaa", sum := "89d24ccf8abe796ef69246a7f446213c4efde9149d27f47b1be71a16ded8057a", func := "loop.example/g01322/laws.FnExactLostCells", spec := "fnExactLostCells", unfollowed := true, recurses := true, plainKeys := false, apart := false, narrowed := true }
def FnExactLostCellsUptoSaid : Prop := fnExactLostCellsUptoRow.holds Try.pinned (OpenSpec.upto fnExactLostCellsSpec)

/-- 'laws.FnExactPartnerOf', WHERE WHAT IT READS IS OF BULK AT MOST 1048576: true; the input reads as it did. -/
def fnExactPartnerOfUptoRow : OpenClaim := { program := "ytjfnajmodlojbaa", sum := "89d24ccf8abe796ef69246a7f446213c4efde9149d27f47b1be71a16ded8057a", func := "loop.example/g01322/laws.FnExactPartnerOf", spec := "fnExactPartnerOf", unfollowed := true, recurses := true, plainKeys := false, apart := false, narrowed := true }
def FnExactPartnerOfUptoSaid : Prop := fnExactPartnerOfUptoRow.holds Try.pinned (OpenSpec.upto fnExactPartnerOfSpec)

/-- 'laws.FnExactFillFrom', WHERE WHAT IT READS IS OF BULK AT MOST 1048576: true; the input reads as it did. -/
def fnExactFillFromUptoRow : OpenClaim := { program := "ytjfnajmodlojbaa", sum := "89d24ccf8abe796ef69246a7f446213c4efde9149d27f47b1be71a16ded8057a", func := "loop.example/g01322/laws.FnExactFillFrom", spec := "fnExactFillFrom", unfollowed := true, recurses := true, plainKeys := false, apart := false, narrowed := true }
def FnExactFillFromUptoSaid : Prop := fnExactFillFromUptoRow.holds Try.pinned (OpenSpec.upto fnExactFillFromSpec)

/-- 'laws.FnExactAgreement', WHERE WHAT IT READS IS OF BULK AT MOST 1048576: true; the input reads as it did. -/
def fnExactAgreementUptoRow : OpenClaim := { program := "ytjfnajmodlojbaa", sum := "89d24ccf8abe796ef69246a7f446213c4efde9149d27f47b1be71a16ded8057a", func := "loop.example/g01322/laws.FnExactAgreement", spec := "fnExactAgreement", unfollowed := true, recurses := true, plainKeys := false, apart := false, narrowed := true }
def FnExactAgreementUptoSaid : Prop := fnExactAgreementUptoRow.holds Try.pinned (OpenSpec.upto fnExactAgreementSpec)

/-- 'laws.FnExactClashesUnder', WHERE WHAT IT READS IS OF BULK AT MOST 1048576: true; the input reads as it did. -/
def fnExactClashesUnderUptoRow : OpenClaim := { program := "ytjfnajmodlojbaa", sum := "89d24ccf8abe796ef69246a7f446213c4efde9149d27f47b1be71a16ded8057a", func := "loop.example/g01322/laws.FnExactClashesUnder", spec := "fnExactClashesUnder", unfollowed := true, recurses := true, plainKeys := false, apart := false, narrowed := true }
def FnExactClashesUnderUptoSaid : Prop := fnExactClashesUnderUptoRow.holds Try.pinned (OpenSpec.upto fnExactClashesUnderSpec)

end Rows
end Go.Proofs.Ytjfnajmodlojbaa
