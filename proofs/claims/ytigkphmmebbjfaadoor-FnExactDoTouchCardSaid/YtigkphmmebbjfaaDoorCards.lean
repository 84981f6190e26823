/-
  DERIVED. GIVEN WITH THE SEED: THE CARDS: each row of YtigkphmmebbjfaaDoorRows.lean that lists a variable, with what it lists TIED to the program's text (the seventh form; the later family's looks); each row that meets fmt, with fmt's text TOLD by the authors' own Lean function (tested against real Go, not proved from fmt's source: count such statements apart). THE CARD IS WHAT COUNTS. Prove the row's statement (the work); the ties are given (YtigkphmmebbjfaaDoorTie.lean); close each card by the builder's one call (the guide's Derived/Test/ToyasCard.lean, 'card_holds'). Laid BY PROGRAM, IN A SANDBOX (cutbox-door.mjs). By AI agents, Wed Nov 11 2026. No macro, syntax, notation, axiom, sorry.
-/
import Derived.Test.YtigkphmmebbjfaaDoorRows
import GoSem.ClaimSeven
namespace Go.Proofs.YtigkphmmebbjfaaDoor
namespace Rows

/-- THE TIED CARD OF 'laws.FnExactWhereIs'. -/
def fnExactWhereIsCard : Claim7 := { stood := { row := fnExactWhereIsRow, standIns := [], harness := (true, "7bf87275aa330dce729c06c564b8ebe33a23a8d072e7284bcb80349ec69345fb"), looks := true }, kinds := [], alts := [], laidByText := true, laidKinds := [.sentinel, .sentinel, .sentinel], laidTests := true, laidLooks := .later }
def FnExactWhereIsCardSaid : Prop := Claim7.holds Tryd.pinned (.plain (OpenSpec.ofChange fnExactWhereIsSpec)) fnExactWhereIsCard

/-- THE TIED CARD OF 'laws.FnExactFirstStone'. -/
def fnExactFirstStoneCard : Claim7 := { stood := { row := fnExactFirstStoneRow, standIns := [], harness := (true, "7bf87275aa330dce729c06c564b8ebe33a23a8d072e7284bcb80349ec69345fb"), looks := true }, kinds := [], alts := [], laidByText := true, laidKinds := [.sentinel, .sentinel, .sentinel], laidTests := true, laidLooks := .later }
def FnExactFirstStoneCardSaid : Prop := Claim7.holds Tryd.pinned (.plain (OpenSpec.ofChange fnExactFirstStoneSpec)) fnExactFirstStoneCard

/-- THE TIED CARD OF 'laws.FnExactMoveStone'. -/
def fnExactMoveStoneCard : Claim7 := { stood := { row := fnExactMoveStoneRow, standIns := [], harness := (true, "7bf87275aa330dce729c06c564b8ebe33a23a8d072e7284bcb80349ec69345fb"), looks := true }, kinds := [], alts := [], laidByText := true, laidKinds := [.sentinel, .sentinel, .sentinel], laidTests := true, laidLooks := .later }
def FnExactMoveStoneCardSaid : Prop := Claim7.holds Tryd.pinned (.plain (OpenSpec.ofChange fnExactMoveStoneSpec)) fnExactMoveStoneCard

/-- THE TIED CARD OF 'laws.FnExactTurnStone'. -/
def fnExactTurnStoneCard : Claim7 := { stood := { row := fnExactTurnStoneRow, standIns := [], harness := (true, "7bf87275aa330dce729c06c564b8ebe33a23a8d072e7284bcb80349ec69345fb"), looks := true }, kinds := [], alts := [], laidByText := true, laidKinds := [.sentinel, .sentinel, .sentinel], laidTests := true, laidLooks := .later }
def FnExactTurnStoneCardSaid : Prop := Claim7.holds Tryd.pinned (.plain (OpenSpec.ofChange fnExactTurnStoneSpec)) fnExactTurnStoneCard

/-- THE TIED CARD OF 'laws.FnExactMirrorStone'. -/
def fnExactMirrorStoneCard : Claim7 := { stood := { row := fnExactMirrorStoneRow, standIns := [], harness := (true, "7bf87275aa330dce729c06c564b8ebe33a23a8d072e7284bcb80349ec69345fb"), looks := true }, kinds := [], alts := [], laidByText := true, laidKinds := [.sentinel, .sentinel, .sentinel], laidTests := true, laidLooks := .later }
def FnExactMirrorStoneCardSaid : Prop := Claim7.holds Tryd.pinned (.plain (OpenSpec.ofChange fnExactMirrorStoneSpec)) fnExactMirrorStoneCard

/-- THE TIED CARD OF 'laws.FnExactDoOverlap'. -/
def fnExactDoOverlapCard : Claim7 := { stood := { row := fnExactDoOverlapRow, standIns := [], harness := (true, "7bf87275aa330dce729c06c564b8ebe33a23a8d072e7284bcb80349ec69345fb"), looks := true }, kinds := [], alts := [], laidByText := true, laidKinds := [.sentinel, .sentinel, .sentinel], laidTests := true, laidLooks := .later }
def FnExactDoOverlapCardSaid : Prop := Claim7.holds Tryd.pinned (.plain (OpenSpec.ofChange fnExactDoOverlapSpec)) fnExactDoOverlapCard

/-- THE TIED CARD OF 'laws.FnExactDoTouch'. -/
def fnExactDoTouchCard : Claim7 := { stood := { row := fnExactDoTouchRow, standIns := [], harness := (true, "7bf87275aa330dce729c06c564b8ebe33a23a8d072e7284bcb80349ec69345fb"), looks := true }, kinds := [], alts := [], laidByText := true, laidKinds := [.sentinel, .sentinel, .sentinel], laidTests := true, laidLooks := .later }
def FnExactDoTouchCardSaid : Prop := Claim7.holds Tryd.pinned (.plain (OpenSpec.ofChange fnExactDoTouchSpec)) fnExactDoTouchCard

/-- THE TIED CARD OF 'laws.FnExactSplitStone'. -/
def fnExactSplitStoneCard : Claim7 := { stood := { row := fnExactSplitStoneRow, standIns := [], harness := (true, "7bf87275aa330dce729c06c564b8ebe33a23a8d072e7284bcb80349ec69345fb"), looks := true }, kinds := [], alts := [], laidByText := true, laidKinds := [.sentinel, .sentinel, .sentinel], laidTests := true, laidLooks := .later }
def FnExactSplitStoneCardSaid : Prop := Claim7.holds Tryd.pinned (.plain (OpenSpec.ofChange fnExactSplitStoneSpec)) fnExactSplitStoneCard

/-- THE TIED CARD OF 'laws.FnExactBoxOf'. -/
def fnExactBoxOfCard : Claim7 := { stood := { row := fnExactBoxOfRow, standIns := [], harness := (true, "7bf87275aa330dce729c06c564b8ebe33a23a8d072e7284bcb80349ec69345fb"), looks := true }, kinds := [], alts := [], laidByText := true, laidKinds := [.sentinel, .sentinel, .sentinel], laidTests := true, laidLooks := .later }
def FnExactBoxOfCardSaid : Prop := Claim7.holds Tryd.pinned (.plain (OpenSpec.ofChange fnExactBoxOfSpec)) fnExactBoxOfCard

/-- THE TIED CARD OF 'laws.FnExactAreaTwice'. -/
def fnExactAreaTwiceCard : Claim7 := { stood := { row := fnExactAreaTwiceRow, standIns := [], harness := (true, "7bf87275aa330dce729c06c564b8ebe33a23a8d072e7284bcb80349ec69345fb"), looks := true }, kinds := [], alts := [], laidByText := true, laidKinds := [.sentinel, .sentinel, .sentinel], laidTests := true, laidLooks := .later }
def FnExactAreaTwiceCardSaid : Prop := Claim7.holds Tryd.pinned (.plain (OpenSpec.ofChange fnExactAreaTwiceSpec)) fnExactAreaTwiceCard

/-- THE TIED CARD OF 'laws.FnExactSeamSquare'. -/
def fnExactSeamSquareCard : Claim7 := { stood := { row := fnExactSeamSquareRow, standIns := [], harness := (true, "7bf87275aa330dce729c06c564b8ebe33a23a8d072e7284bcb80349ec69345fb"), looks := true }, kinds := [], alts := [], laidByText := true, laidKinds := [.sentinel, .sentinel, .sentinel], laidTests := true, laidLooks := .later }
def FnExactSeamSquareCardSaid : Prop := Claim7.holds Tryd.pinned (.plain (OpenSpec.ofChange fnExactSeamSquareSpec)) fnExactSeamSquareCard

/-- THE TIED CARD OF 'laws.FnExactJoinStones'. -/
def fnExactJoinStonesCard : Claim7 := { stood := { row := fnExactJoinStonesRow, standIns := [], harness := (true, "7bf87275aa330dce729c06c564b8ebe33a23a8d072e7284bcb80349ec69345fb"), looks := true }, kinds := [], alts := [], laidByText := true, laidKinds := [.sentinel, .sentinel, .sentinel], laidTests := true, laidLooks := .later }
def FnExactJoinStonesCardSaid : Prop := Claim7.holds Tryd.pinned (.plain (OpenSpec.ofChange fnExactJoinStonesSpec)) fnExactJoinStonesCard

/-- THE SECOND FORM's CARD OF 'laws.FnExactWhereIs'. -/
def fnExactWhereIsUptoCard : Claim7 := { stood := { row := fnExactWhereIsUptoRow, standIns := [], harness := (true, "7bf87275aa330dce729c06c564b8ebe33a23a8d072e7284bcb80349ec69345fb"), looks := true }, kinds := [], alts := [], laidByText := true, laidKinds := [.sentinel, .sentinel, .sentinel], laidTests := true, laidLooks := .later }
def FnExactWhereIsUptoCardSaid : Prop := Claim7.holds Tryd.pinned (.plain (OpenSpec.upto fnExactWhereIsSpec)) fnExactWhereIsUptoCard

/-- THE SECOND FORM's CARD OF 'laws.FnExactFirstStone'. -/
def fnExactFirstStoneUptoCard : Claim7 := { stood := { row := fnExactFirstStoneUptoRow, standIns := [], harness := (true, "7bf87275aa330dce729c06c564b8ebe33a23a8d072e7284bcb80349ec69345fb"), looks := true }, kinds := [], alts := [], laidByText := true, laidKinds := [.sentinel, .sentinel, .sentinel], laidTests := true, laidLooks := .later }
def FnExactFirstStoneUptoCardSaid : Prop := Claim7.holds Tryd.pinned (.plain (OpenSpec.upto fnExactFirstStoneSpec)) fnExactFirstStoneUptoCard

/-- THE SECOND FORM's CARD OF 'laws.FnExactMoveStone'. -/
def fnExactMoveStoneUptoCard : Claim7 := { stood := { row := fnExactMoveStoneUptoRow, standIns := [], harness := (true, "7bf87275aa330dce729c06c564b8ebe33a23a8d072e7284bcb80349ec69345fb"), looks := true }, kinds := [], alts := [], laidByText := true, laidKinds := [.sentinel, .sentinel, .sentinel], laidTests := true, laidLooks := .later }
def FnExactMoveStoneUptoCardSaid : Prop := Claim7.holds Tryd.pinned (.plain (OpenSpec.upto fnExactMoveStoneSpec)) fnExactMoveStoneUptoCard

/-- THE SECOND FORM's CARD OF 'laws.FnExactTurnStone'. -/
def fnExactTurnStoneUptoCard : Claim7 := { stood := { row := fnExactTurnStoneUptoRow, standIns := [], harness := (true, "7bf87275aa330dce729c06c564b8ebe33a23a8d072e7284bcb80349ec69345fb"), looks := true }, kinds := [], alts := [], laidByText := true, laidKinds := [.sentinel, .sentinel, .sentinel], laidTests := true, laidLooks := .later }
def FnExactTurnStoneUptoCardSaid : Prop := Claim7.holds Tryd.pinned (.plain (OpenSpec.upto fnExactTurnStoneSpec)) fnExactTurnStoneUptoCard

/-- THE SECOND FORM's CARD OF 'laws.FnExactMirrorStone'. -/
def fnExactMirrorStoneUptoCard : Claim7 := { stood := { row := fnExactMirrorStoneUptoRow, standIns := [], harness := (true, "7bf87275aa330dce729c06c564b8ebe33a23a8d072e7284bcb80349ec69345fb"), looks := true }, kinds := [], alts := [], laidByText := true, laidKinds := [.sentinel, .sentinel, .sentinel], laidTests := true, laidLooks := .later }
def FnExactMirrorStoneUptoCardSaid : Prop := Claim7.holds Tryd.pinned (.plain (OpenSpec.upto fnExactMirrorStoneSpec)) fnExactMirrorStoneUptoCard

/-- THE SECOND FORM's CARD OF 'laws.FnExactDoOverlap'. -/
def fnExactDoOverlapUptoCard : Claim7 := { stood := { row := fnExactDoOverlapUptoRow, standIns := [], harness := (true, "7bf87275aa330dce729c06c564b8ebe33a23a8d072e7284bcb80349ec69345fb"), looks := true }, kinds := [], alts := [], laidByText := true, laidKinds := [.sentinel, .sentinel, .sentinel], laidTests := true, laidLooks := .later }
def FnExactDoOverlapUptoCardSaid : Prop := Claim7.holds Tryd.pinned (.plain (OpenSpec.upto fnExactDoOverlapSpec)) fnExactDoOverlapUptoCard

/-- THE SECOND FORM's CARD OF 'laws.FnExactDoTouch'. -/
def fnExactDoTouchUptoCard : Claim7 := { stood := { row := fnExactDoTouchUptoRow, standIns := [], harness := (true, "7bf87275aa330dce729c06c564b8ebe33a23a8d072e7284bcb80349ec69345fb"), looks := true }, kinds := [], alts := [], laidByText := true, laidKinds := [.sentinel, .sentinel, .sentinel], laidTests := true, laidLooks := .later }
def FnExactDoTouchUptoCardSaid : Prop := Claim7.holds Tryd.pinned (.plain (OpenSpec.upto fnExactDoTouchSpec)) fnExactDoTouchUptoCard

/-- THE SECOND FORM's CARD OF 'laws.FnExactSplitStone'. -/
def fnExactSplitStoneUptoCard : Claim7 := { stood := { row := fnExactSplitStoneUptoRow, standIns := [], harness := (true, "7bf87275aa330dce729c06c564b8ebe33a23a8d072e7284bcb80349ec69345fb"), looks := true }, kinds := [], alts := [], laidByText := true, laidKinds := [.sentinel, .sentinel, .sentinel], laidTests := true, laidLooks := .later }
def FnExactSplitStoneUptoCardSaid : Prop := Claim7.holds Tryd.pinned (.plain (OpenSpec.upto fnExactSplitStoneSpec)) fnExactSplitStoneUptoCard

/-- THE SECOND FORM's CARD OF 'laws.FnExactBoxOf'. -/
def fnExactBoxOfUptoCard : Claim7 := { stood := { row := fnExactBoxOfUptoRow, standIns := [], harness := (true, "7bf87275aa330dce729c06c564b8ebe33a23a8d072e7284bcb80349ec69345fb"), looks := true }, kinds := [], alts := [], laidByText := true, laidKinds := [.sentinel, .sentinel, .sentinel], laidTests := true, laidLooks := .later }
def FnExactBoxOfUptoCardSaid : Prop := Claim7.holds Tryd.pinned (.plain (OpenSpec.upto fnExactBoxOfSpec)) fnExactBoxOfUptoCard

/-- THE SECOND FORM's CARD OF 'laws.FnExactAreaTwice'. -/
def fnExactAreaTwiceUptoCard : Claim7 := { stood := { row := fnExactAreaTwiceUptoRow, standIns := [], harness := (true, "7bf87275aa330dce729c06c564b8ebe33a23a8d072e7284bcb80349ec69345fb"), looks := true }, kinds := [], alts := [], laidByText := true, laidKinds := [.sentinel, .sentinel, .sentinel], laidTests := true, laidLooks := .later }
def FnExactAreaTwiceUptoCardSaid : Prop := Claim7.holds Tryd.pinned (.plain (OpenSpec.upto fnExactAreaTwiceSpec)) fnExactAreaTwiceUptoCard

/-- THE SECOND FORM's CARD OF 'laws.FnExactSeamSquare'. -/
def fnExactSeamSquareUptoCard : Claim7 := { stood := { row := fnExactSeamSquareUptoRow, standIns := [], harness := (true, "7bf87275aa330dce729c06c564b8ebe33a23a8d072e7284bcb80349ec69345fb"), looks := true }, kinds := [], alts := [], laidByText := true, laidKinds := [.sentinel, .sentinel, .sentinel], laidTests := true, laidLooks := .later }
def FnExactSeamSquareUptoCardSaid : Prop := Claim7.holds Tryd.pinned (.plain (OpenSpec.upto fnExactSeamSquareSpec)) fnExactSeamSquareUptoCard

/-- THE SECOND FORM's CARD OF 'laws.FnExactJoinStones'. -/
def fnExactJoinStonesUptoCard : Claim7 := { stood := { row := fnExactJoinStonesUptoRow, standIns := [], harness := (true, "7bf87275aa330dce729c06c564b8ebe33a23a8d072e7284bcb80349ec69345fb"), looks := true }, kinds := [], alts := [], laidByText := true, laidKinds := [.sentinel, .sentinel, .sentinel], laidTests := true, laidLooks := .later }
def FnExactJoinStonesUptoCardSaid : Prop := Claim7.holds Tryd.pinned (.plain (OpenSpec.upto fnExactJoinStonesSpec)) fnExactJoinStonesUptoCard
end Rows
end Go.Proofs.YtigkphmmebbjfaaDoor
