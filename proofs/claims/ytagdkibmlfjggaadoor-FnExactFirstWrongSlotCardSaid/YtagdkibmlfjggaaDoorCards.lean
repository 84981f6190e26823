/-
  DERIVED. GIVEN WITH THE SEED: THE CARDS: each row of YtagdkibmlfjggaaDoorRows.lean that lists a variable, with what it lists TIED to the program's text (the seventh form; the later family's looks); each row that meets fmt, with fmt's text TOLD by the authors' own Lean function (tested against real Go, not proved from fmt's source: count such statements apart). THE CARD IS WHAT COUNTS. Prove the row's statement (the work); the ties are given (YtagdkibmlfjggaaDoorTie.lean); close each card by the builder's one call (the guide's Derived/Test/ToyasCard.lean, 'card_holds'). Laid BY PROGRAM, IN A SANDBOX (cutbox-door.mjs). By AI agents, Wed Nov 11 2026. No macro, syntax, notation, axiom, sorry.
-/
import Derived.Test.YtagdkibmlfjggaaDoorRows
import GoSem.ClaimSeven
namespace Go.Proofs.YtagdkibmlfjggaaDoor
namespace Rows

/-- THE TIED CARD OF 'laws.FnExactOrderOf'. -/
def fnExactOrderOfCard : Claim7 := { stood := { row := fnExactOrderOfRow, standIns := [], harness := (true, "deac73db00f46d315bc15bdc2eb215db65887adf9a248e0c143bedc5460a3d55"), looks := true }, kinds := [], alts := [], laidByText := true, laidKinds := [.handle], laidTests := true, laidLooks := .later }
def FnExactOrderOfCardSaid : Prop := Claim7.holds Tryd.pinned (.plain (OpenSpec.ofChange fnExactOrderOfSpec)) fnExactOrderOfCard

/-- THE TIED CARD OF 'laws.FnExactBeforeAll'. -/
def fnExactBeforeAllCard : Claim7 := { stood := { row := fnExactBeforeAllRow, standIns := [], harness := (true, "deac73db00f46d315bc15bdc2eb215db65887adf9a248e0c143bedc5460a3d55"), looks := true }, kinds := [], alts := [], laidByText := true, laidKinds := [.handle], laidTests := true, laidLooks := .later }
def FnExactBeforeAllCardSaid : Prop := Claim7.holds Tryd.pinned (.plain (OpenSpec.ofChange fnExactBeforeAllSpec)) fnExactBeforeAllCard

/-- THE TIED CARD OF 'laws.FnExactEarliestOf'. -/
def fnExactEarliestOfCard : Claim7 := { stood := { row := fnExactEarliestOfRow, standIns := [], harness := (true, "deac73db00f46d315bc15bdc2eb215db65887adf9a248e0c143bedc5460a3d55"), looks := true }, kinds := [], alts := [], laidByText := true, laidKinds := [.handle], laidTests := true, laidLooks := .later }
def FnExactEarliestOfCardSaid : Prop := Claim7.holds Tryd.pinned (.plain (OpenSpec.ofChange fnExactEarliestOfSpec)) fnExactEarliestOfCard

/-- THE TIED CARD OF 'laws.FnExactLongestChain'. -/
def fnExactLongestChainCard : Claim7 := { stood := { row := fnExactLongestChainRow, standIns := [], harness := (true, "deac73db00f46d315bc15bdc2eb215db65887adf9a248e0c143bedc5460a3d55"), looks := true }, kinds := [], alts := [], laidByText := true, laidKinds := [.handle], laidTests := true, laidLooks := .later }
def FnExactLongestChainCardSaid : Prop := Claim7.holds Tryd.pinned (.plain (OpenSpec.ofChange fnExactLongestChainSpec)) fnExactLongestChainCard

/-- THE TIED CARD OF 'laws.FnExactLatestOf'. -/
def fnExactLatestOfCard : Claim7 := { stood := { row := fnExactLatestOfRow, standIns := [], harness := (true, "deac73db00f46d315bc15bdc2eb215db65887adf9a248e0c143bedc5460a3d55"), looks := true }, kinds := [], alts := [], laidByText := true, laidKinds := [.handle], laidTests := true, laidLooks := .later }
def FnExactLatestOfCardSaid : Prop := Claim7.holds Tryd.pinned (.plain (OpenSpec.ofChange fnExactLatestOfSpec)) fnExactLatestOfCard

/-- THE TIED CARD OF 'laws.FnExactBoundFor'. -/
def fnExactBoundForCard : Claim7 := { stood := { row := fnExactBoundForRow, standIns := [], harness := (true, "deac73db00f46d315bc15bdc2eb215db65887adf9a248e0c143bedc5460a3d55"), looks := true }, kinds := [], alts := [], laidByText := true, laidKinds := [.handle], laidTests := true, laidLooks := .later }
def FnExactBoundForCardSaid : Prop := Claim7.holds Tryd.pinned (.plain (OpenSpec.ofChange fnExactBoundForSpec)) fnExactBoundForCard

/-- THE TIED CARD OF 'laws.FnExactPlanInOrder'. -/
def fnExactPlanInOrderCard : Claim7 := { stood := { row := fnExactPlanInOrderRow, standIns := [], harness := (true, "deac73db00f46d315bc15bdc2eb215db65887adf9a248e0c143bedc5460a3d55"), looks := true }, kinds := [], alts := [], laidByText := true, laidKinds := [.handle], laidTests := true, laidLooks := .later }
def FnExactPlanInOrderCardSaid : Prop := Claim7.holds Tryd.pinned (.plain (OpenSpec.ofChange fnExactPlanInOrderSpec)) fnExactPlanInOrderCard

/-- THE TIED CARD OF 'laws.FnExactLengthOfPlan'. -/
def fnExactLengthOfPlanCard : Claim7 := { stood := { row := fnExactLengthOfPlanRow, standIns := [], harness := (true, "deac73db00f46d315bc15bdc2eb215db65887adf9a248e0c143bedc5460a3d55"), looks := true }, kinds := [], alts := [], laidByText := true, laidKinds := [.handle], laidTests := true, laidLooks := .later }
def FnExactLengthOfPlanCardSaid : Prop := Claim7.holds Tryd.pinned (.plain (OpenSpec.ofChange fnExactLengthOfPlanSpec)) fnExactLengthOfPlanCard

/-- THE TIED CARD OF 'laws.FnExactFirstWrongSlot'. -/
def fnExactFirstWrongSlotCard : Claim7 := { stood := { row := fnExactFirstWrongSlotRow, standIns := [], harness := (true, "deac73db00f46d315bc15bdc2eb215db65887adf9a248e0c143bedc5460a3d55"), looks := true }, kinds := [], alts := [], laidByText := true, laidKinds := [.handle], laidTests := true, laidLooks := .later }
def FnExactFirstWrongSlotCardSaid : Prop := Claim7.holds Tryd.pinned (.plain (OpenSpec.ofChange fnExactFirstWrongSlotSpec)) fnExactFirstWrongSlotCard

/-- THE TIED CARD OF 'laws.FnExactIdleDays'. -/
def fnExactIdleDaysCard : Claim7 := { stood := { row := fnExactIdleDaysRow, standIns := [], harness := (true, "deac73db00f46d315bc15bdc2eb215db65887adf9a248e0c143bedc5460a3d55"), looks := true }, kinds := [], alts := [], laidByText := true, laidKinds := [.handle], laidTests := true, laidLooks := .later }
def FnExactIdleDaysCardSaid : Prop := Claim7.holds Tryd.pinned (.plain (OpenSpec.ofChange fnExactIdleDaysSpec)) fnExactIdleDaysCard

/-- THE SECOND FORM's CARD OF 'laws.FnExactOrderOf'. -/
def fnExactOrderOfUptoCard : Claim7 := { stood := { row := fnExactOrderOfUptoRow, standIns := [], harness := (true, "deac73db00f46d315bc15bdc2eb215db65887adf9a248e0c143bedc5460a3d55"), looks := true }, kinds := [], alts := [], laidByText := true, laidKinds := [.handle], laidTests := true, laidLooks := .later }
def FnExactOrderOfUptoCardSaid : Prop := Claim7.holds Tryd.pinned (.plain (OpenSpec.upto fnExactOrderOfSpec)) fnExactOrderOfUptoCard

/-- THE SECOND FORM's CARD OF 'laws.FnExactBeforeAll'. -/
def fnExactBeforeAllUptoCard : Claim7 := { stood := { row := fnExactBeforeAllUptoRow, standIns := [], harness := (true, "deac73db00f46d315bc15bdc2eb215db65887adf9a248e0c143bedc5460a3d55"), looks := true }, kinds := [], alts := [], laidByText := true, laidKinds := [.handle], laidTests := true, laidLooks := .later }
def FnExactBeforeAllUptoCardSaid : Prop := Claim7.holds Tryd.pinned (.plain (OpenSpec.upto fnExactBeforeAllSpec)) fnExactBeforeAllUptoCard

/-- THE SECOND FORM's CARD OF 'laws.FnExactEarliestOf'. -/
def fnExactEarliestOfUptoCard : Claim7 := { stood := { row := fnExactEarliestOfUptoRow, standIns := [], harness := (true, "deac73db00f46d315bc15bdc2eb215db65887adf9a248e0c143bedc5460a3d55"), looks := true }, kinds := [], alts := [], laidByText := true, laidKinds := [.handle], laidTests := true, laidLooks := .later }
def FnExactEarliestOfUptoCardSaid : Prop := Claim7.holds Tryd.pinned (.plain (OpenSpec.upto fnExactEarliestOfSpec)) fnExactEarliestOfUptoCard

/-- THE SECOND FORM's CARD OF 'laws.FnExactLongestChain'. -/
def fnExactLongestChainUptoCard : Claim7 := { stood := { row := fnExactLongestChainUptoRow, standIns := [], harness := (true, "deac73db00f46d315bc15bdc2eb215db65887adf9a248e0c143bedc5460a3d55"), looks := true }, kinds := [], alts := [], laidByText := true, laidKinds := [.handle], laidTests := true, laidLooks := .later }
def FnExactLongestChainUptoCardSaid : Prop := Claim7.holds Tryd.pinned (.plain (OpenSpec.upto fnExactLongestChainSpec)) fnExactLongestChainUptoCard

/-- THE SECOND FORM's CARD OF 'laws.FnExactLatestOf'. -/
def fnExactLatestOfUptoCard : Claim7 := { stood := { row := fnExactLatestOfUptoRow, standIns := [], harness := (true, "deac73db00f46d315bc15bdc2eb215db65887adf9a248e0c143bedc5460a3d55"), looks := true }, kinds := [], alts := [], laidByText := true, laidKinds := [.handle], laidTests := true, laidLooks := .later }
def FnExactLatestOfUptoCardSaid : Prop := Claim7.holds Tryd.pinned (.plain (OpenSpec.upto fnExactLatestOfSpec)) fnExactLatestOfUptoCard

/-- THE SECOND FORM's CARD OF 'laws.FnExactBoundFor'. -/
def fnExactBoundForUptoCard : Claim7 := { stood := { row := fnExactBoundForUptoRow, standIns := [], harness := (true, "deac73db00f46d315bc15bdc2eb215db65887adf9a248e0c143bedc5460a3d55"), looks := true }, kinds := [], alts := [], laidByText := true, laidKinds := [.handle], laidTests := true, laidLooks := .later }
def FnExactBoundForUptoCardSaid : Prop := Claim7.holds Tryd.pinned (.plain (OpenSpec.upto fnExactBoundForSpec)) fnExactBoundForUptoCard

/-- THE SECOND FORM's CARD OF 'laws.FnExactPlanInOrder'. -/
def fnExactPlanInOrderUptoCard : Claim7 := { stood := { row := fnExactPlanInOrderUptoRow, standIns := [], harness := (true, "deac73db00f46d315bc15bdc2eb215db65887adf9a248e0c143bedc5460a3d55"), looks := true }, kinds := [], alts := [], laidByText := true, laidKinds := [.handle], laidTests := true, laidLooks := .later }
def FnExactPlanInOrderUptoCardSaid : Prop := Claim7.holds Tryd.pinned (.plain (OpenSpec.upto fnExactPlanInOrderSpec)) fnExactPlanInOrderUptoCard

/-- THE SECOND FORM's CARD OF 'laws.FnExactLengthOfPlan'. -/
def fnExactLengthOfPlanUptoCard : Claim7 := { stood := { row := fnExactLengthOfPlanUptoRow, standIns := [], harness := (true, "deac73db00f46d315bc15bdc2eb215db65887adf9a248e0c143bedc5460a3d55"), looks := true }, kinds := [], alts := [], laidByText := true, laidKinds := [.handle], laidTests := true, laidLooks := .later }
def FnExactLengthOfPlanUptoCardSaid : Prop := Claim7.holds Tryd.pinned (.plain (OpenSpec.upto fnExactLengthOfPlanSpec)) fnExactLengthOfPlanUptoCard

/-- THE SECOND FORM's CARD OF 'laws.FnExactFirstWrongSlot'. -/
def fnExactFirstWrongSlotUptoCard : Claim7 := { stood := { row := fnExactFirstWrongSlotUptoRow, standIns := [], harness := (true, "deac73db00f46d315bc15bdc2eb215db65887adf9a248e0c143bedc5460a3d55"), looks := true }, kinds := [], alts := [], laidByText := true, laidKinds := [.handle], laidTests := true, laidLooks := .later }
def FnExactFirstWrongSlotUptoCardSaid : Prop := Claim7.holds Tryd.pinned (.plain (OpenSpec.upto fnExactFirstWrongSlotSpec)) fnExactFirstWrongSlotUptoCard

/-- THE SECOND FORM's CARD OF 'laws.FnExactIdleDays'. -/
def fnExactIdleDaysUptoCard : Claim7 := { stood := { row := fnExactIdleDaysUptoRow, standIns := [], harness := (true, "deac73db00f46d315bc15bdc2eb215db65887adf9a248e0c143bedc5460a3d55"), looks := true }, kinds := [], alts := [], laidByText := true, laidKinds := [.handle], laidTests := true, laidLooks := .later }
def FnExactIdleDaysUptoCardSaid : Prop := Claim7.holds Tryd.pinned (.plain (OpenSpec.upto fnExactIdleDaysSpec)) fnExactIdleDaysUptoCard
end Rows
end Go.Proofs.YtagdkibmlfjggaaDoor
