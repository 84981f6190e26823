/-
  DERIVED. GIVEN WITH THE SEED: THE CARDS: each row of YtkfcedkenhpnlaaDoorRows.lean that lists a variable, with what it lists TIED to the program's text (the seventh form; the later family's looks); each row that meets fmt, with fmt's text TOLD by the authors' own Lean function (tested against real Go, not proved from fmt's source: count such statements apart). THE CARD IS WHAT COUNTS. Prove the row's statement (the work); the ties are given (YtkfcedkenhpnlaaDoorTie.lean); close each card by the builder's one call (the guide's Derived/Test/ToyasCard.lean, 'card_holds'). Laid BY PROGRAM, IN A SANDBOX (cutbox-door.mjs). By AI agents, Wed Nov 11 2026. No macro, syntax, notation, axiom, sorry.
-/
import Derived.Test.YtkfcedkenhpnlaaDoorRows
import GoSem.ClaimSeven
namespace Go.Proofs.YtkfcedkenhpnlaaDoor
namespace Rows

/-- THE TIED CARD OF 'laws.FnExactStoneText'. -/
def fnExactStoneTextCard : Claim7 := { stood := { row := fnExactStoneTextRow, standIns := [], harness := (true, "9a2530ba7797989daac7c7b5fd1334d728c1e82b47810b8ae31f8b5ef90557d7"), looks := false }, kinds := [], alts := [], laidByText := true, laidKinds := [.data, .data, .data, .sentinel, .sentinel, .sentinel], laidTests := true, laidLooks := .later }
def FnExactStoneTextCardSaid : Prop := Claim7.holds Tryd.pinned (.plain (OpenSpec.ofChange fnExactStoneTextSpec)) fnExactStoneTextCard

/-- THE SECOND FORM's CARD OF 'laws.FnExactStoneText'. -/
def fnExactStoneTextUptoCard : Claim7 := { stood := { row := fnExactStoneTextUptoRow, standIns := [], harness := (true, "9a2530ba7797989daac7c7b5fd1334d728c1e82b47810b8ae31f8b5ef90557d7"), looks := false }, kinds := [], alts := [], laidByText := true, laidKinds := [.data, .data, .data, .sentinel, .sentinel, .sentinel], laidTests := true, laidLooks := .later }
def FnExactStoneTextUptoCardSaid : Prop := Claim7.holds Tryd.pinned (.plain (OpenSpec.upto fnExactStoneTextSpec)) fnExactStoneTextUptoCard
end Rows
end Go.Proofs.YtkfcedkenhpnlaaDoor
