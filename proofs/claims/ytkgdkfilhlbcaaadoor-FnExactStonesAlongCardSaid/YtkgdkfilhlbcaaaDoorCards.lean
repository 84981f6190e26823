/-
  DERIVED. GIVEN WITH THE SEED: THE CARDS: each row of YtkgdkfilhlbcaaaDoorRows.lean that lists a variable, with what it lists TIED to the program's text (the seventh form; the later family's looks); each row that meets fmt, with fmt's text TOLD by the authors' own Lean function (tested against real Go, not proved from fmt's source: count such statements apart). THE CARD IS WHAT COUNTS. Prove the row's statement (the work); the ties are given (YtkgdkfilhlbcaaaDoorTie.lean); close each card by the builder's one call (the guide's Derived/Test/ToyasCard.lean, 'card_holds'). Laid BY PROGRAM, IN A SANDBOX (cutbox-door.mjs). By AI agents, Wed Nov 11 2026. No macro, syntax, notation, axiom, sorry.
-/
import Derived.Test.YtkgdkfilhlbcaaaDoorRows
import GoSem.ClaimSeven
namespace Go.Proofs.YtkgdkfilhlbcaaaDoor
namespace Rows

/-- THE TIED CARD OF 'laws.FnExactTurnsOf'. -/
def fnExactTurnsOfCard : Claim7 := { stood := { row := fnExactTurnsOfRow, standIns := [], harness := (true, "dfda9583156ea64e2a2d7a00b6215346b3ebab2cbcf6dfcd84cbcf5bb05a2284"), looks := false }, kinds := [], alts := [], laidByText := true, laidKinds := [.data, .pinned], laidTests := true, laidLooks := .later }
def FnExactTurnsOfCardSaid : Prop := Claim7.holds Tryd.pinned (.plain (OpenSpec.ofChange fnExactTurnsOfSpec)) fnExactTurnsOfCard

/-- THE TIED CARD OF 'laws.FnExactStonesAlong'. -/
def fnExactStonesAlongCard : Claim7 := { stood := { row := fnExactStonesAlongRow, standIns := [], harness := (true, "dfda9583156ea64e2a2d7a00b6215346b3ebab2cbcf6dfcd84cbcf5bb05a2284"), looks := false }, kinds := [], alts := [], laidByText := true, laidKinds := [.data, .pinned], laidTests := true, laidLooks := .later }
def FnExactStonesAlongCardSaid : Prop := Claim7.holds Tryd.pinned (.plain (OpenSpec.ofChange fnExactStonesAlongSpec)) fnExactStonesAlongCard

/-- THE SECOND FORM's CARD OF 'laws.FnExactTurnsOf'. -/
def fnExactTurnsOfUptoCard : Claim7 := { stood := { row := fnExactTurnsOfUptoRow, standIns := [], harness := (true, "dfda9583156ea64e2a2d7a00b6215346b3ebab2cbcf6dfcd84cbcf5bb05a2284"), looks := false }, kinds := [], alts := [], laidByText := true, laidKinds := [.data, .pinned], laidTests := true, laidLooks := .later }
def FnExactTurnsOfUptoCardSaid : Prop := Claim7.holds Tryd.pinned (.plain (OpenSpec.upto fnExactTurnsOfSpec)) fnExactTurnsOfUptoCard

/-- THE SECOND FORM's CARD OF 'laws.FnExactStonesAlong'. -/
def fnExactStonesAlongUptoCard : Claim7 := { stood := { row := fnExactStonesAlongUptoRow, standIns := [], harness := (true, "dfda9583156ea64e2a2d7a00b6215346b3ebab2cbcf6dfcd84cbcf5bb05a2284"), looks := false }, kinds := [], alts := [], laidByText := true, laidKinds := [.data, .pinned], laidTests := true, laidLooks := .later }
def FnExactStonesAlongUptoCardSaid : Prop := Claim7.holds Tryd.pinned (.plain (OpenSpec.upto fnExactStonesAlongSpec)) fnExactStonesAlongUptoCard
end Rows
end Go.Proofs.YtkgdkfilhlbcaaaDoor
