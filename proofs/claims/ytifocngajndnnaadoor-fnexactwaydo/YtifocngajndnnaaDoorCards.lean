/-
  DERIVED. GIVEN WITH THE SEED: THE CARDS: each row of YtifocngajndnnaaDoorRows.lean that lists a variable, with what it lists TIED to the program's text (the seventh form; the later family's looks); each row that meets fmt, with fmt's text TOLD by the authors' own Lean function (tested against real Go, not proved from fmt's source: count such statements apart). THE CARD IS WHAT COUNTS. Prove the row's statement (the work); the ties are given (YtifocngajndnnaaDoorTie.lean); close each card by the builder's one call (the guide's Derived/Test/ToyasCard.lean, 'card_holds'). Laid BY PROGRAM, IN A SANDBOX (cutbox-door.mjs). By AI agents, Wed Nov 11 2026. No macro, syntax, notation, axiom, sorry.
-/
import Derived.Test.YtifocngajndnnaaDoorRows
import GoSem.ClaimSeven
namespace Go.Proofs.YtifocngajndnnaaDoor
namespace Rows

/-- THE TIED CARD OF 'laws.FnExactWayMay'. -/
def fnExactWayMayCard : Claim7 := { stood := { row := fnExactWayMayRow, standIns := [], harness := (true, "fdd82948ee8fda1eb785fa68252fa089e9ac082ce7396d39e7edf0eb58262804"), looks := true }, kinds := [], alts := [], laidByText := true, laidKinds := [.data, .data], laidTests := true, laidLooks := .later }
def FnExactWayMayCardSaid : Prop := Claim7.holds Tryd.pinned (.plain (OpenSpec.ofChange fnExactWayMaySpec)) fnExactWayMayCard

/-- THE TIED CARD OF 'laws.FnExactWayDo'. -/
def fnExactWayDoCard : Claim7 := { stood := { row := fnExactWayDoRow, standIns := [], harness := (true, "fdd82948ee8fda1eb785fa68252fa089e9ac082ce7396d39e7edf0eb58262804"), looks := true }, kinds := [], alts := [], laidByText := true, laidKinds := [.data, .data], laidTests := true, laidLooks := .later }
def FnExactWayDoCardSaid : Prop := Claim7.holds Tryd.pinned (.plain (OpenSpec.ofChange fnExactWayDoSpec)) fnExactWayDoCard

/-- THE TIED CARD OF 'laws.FnExactWayNext'. -/
def fnExactWayNextCard : Claim7 := { stood := { row := fnExactWayNextRow, standIns := [], harness := (true, "fdd82948ee8fda1eb785fa68252fa089e9ac082ce7396d39e7edf0eb58262804"), looks := true }, kinds := [], alts := [], laidByText := true, laidKinds := [.data, .data], laidTests := true, laidLooks := .later }
def FnExactWayNextCardSaid : Prop := Claim7.holds Tryd.pinned (.plain (OpenSpec.ofChange fnExactWayNextSpec)) fnExactWayNextCard

/-- THE TIED CARD OF 'laws.FnHas'. -/
def fnHasCard : Claim7 := { stood := { row := fnHasRow, standIns := [], harness := (true, "fdd82948ee8fda1eb785fa68252fa089e9ac082ce7396d39e7edf0eb58262804"), looks := true }, kinds := [], alts := [], laidByText := true, laidKinds := [.data, .data], laidTests := true, laidLooks := .later }
def FnHasCardSaid : Prop := Claim7.holds Tryd.pinned (.plain (OpenSpec.ofChange fnHasSpec)) fnHasCard

/-- THE TIED CARD OF 'laws.FnGot'. -/
def fnGotCard : Claim7 := { stood := { row := fnGotRow, standIns := [], harness := (true, "fdd82948ee8fda1eb785fa68252fa089e9ac082ce7396d39e7edf0eb58262804"), looks := true }, kinds := [], alts := [], laidByText := true, laidKinds := [.data, .data], laidTests := true, laidLooks := .later }
def FnGotCardSaid : Prop := Claim7.holds Tryd.pinned (.plain (OpenSpec.ofChange fnGotSpec)) fnGotCard

/-- THE TIED CARD OF 'laws.FnSettled'. -/
def fnSettledCard : Claim7 := { stood := { row := fnSettledRow, standIns := [], harness := (true, "fdd82948ee8fda1eb785fa68252fa089e9ac082ce7396d39e7edf0eb58262804"), looks := true }, kinds := [], alts := [], laidByText := true, laidKinds := [.data, .data], laidTests := true, laidLooks := .later }
def FnSettledCardSaid : Prop := Claim7.holds Tryd.pinned (.plain (OpenSpec.ofChange fnSettledSpec)) fnSettledCard

/-- THE TIED CARD OF 'laws.FnLive'. -/
def fnLiveCard : Claim7 := { stood := { row := fnLiveRow, standIns := [], harness := (true, "fdd82948ee8fda1eb785fa68252fa089e9ac082ce7396d39e7edf0eb58262804"), looks := true }, kinds := [], alts := [], laidByText := true, laidKinds := [.data, .data], laidTests := true, laidLooks := .later }
def FnLiveCardSaid : Prop := Claim7.holds Tryd.pinned (.plain (OpenSpec.ofChange fnLiveSpec)) fnLiveCard

/-- THE TIED CARD OF 'laws.FnStateForm'. -/
def fnStateFormCard : Claim7 := { stood := { row := fnStateFormRow, standIns := [], harness := (true, "fdd82948ee8fda1eb785fa68252fa089e9ac082ce7396d39e7edf0eb58262804"), looks := true }, kinds := [], alts := [], laidByText := true, laidKinds := [.data, .data], laidTests := true, laidLooks := .later }
def FnStateFormCardSaid : Prop := Claim7.holds Tryd.pinned (.plain (OpenSpec.ofChange fnStateFormSpec)) fnStateFormCard

/-- THE TIED CARD OF 'laws.FnStateLess'. -/
def fnStateLessCard : Claim7 := { stood := { row := fnStateLessRow, standIns := [], harness := (true, "fdd82948ee8fda1eb785fa68252fa089e9ac082ce7396d39e7edf0eb58262804"), looks := true }, kinds := [], alts := [], laidByText := true, laidKinds := [.data, .data], laidTests := true, laidLooks := .later }
def FnStateLessCardSaid : Prop := Claim7.holds Tryd.pinned (.plain (OpenSpec.ofChange fnStateLessSpec)) fnStateLessCard

/-- THE SECOND FORM's CARD OF 'laws.FnExactWayMay'. -/
def fnExactWayMayUptoCard : Claim7 := { stood := { row := fnExactWayMayUptoRow, standIns := [], harness := (true, "fdd82948ee8fda1eb785fa68252fa089e9ac082ce7396d39e7edf0eb58262804"), looks := true }, kinds := [], alts := [], laidByText := true, laidKinds := [.data, .data], laidTests := true, laidLooks := .later }
def FnExactWayMayUptoCardSaid : Prop := Claim7.holds Tryd.pinned (.plain (OpenSpec.upto fnExactWayMaySpec)) fnExactWayMayUptoCard

/-- THE SECOND FORM's CARD OF 'laws.FnExactWayDo'. -/
def fnExactWayDoUptoCard : Claim7 := { stood := { row := fnExactWayDoUptoRow, standIns := [], harness := (true, "fdd82948ee8fda1eb785fa68252fa089e9ac082ce7396d39e7edf0eb58262804"), looks := true }, kinds := [], alts := [], laidByText := true, laidKinds := [.data, .data], laidTests := true, laidLooks := .later }
def FnExactWayDoUptoCardSaid : Prop := Claim7.holds Tryd.pinned (.plain (OpenSpec.upto fnExactWayDoSpec)) fnExactWayDoUptoCard

/-- THE SECOND FORM's CARD OF 'laws.FnExactWayNext'. -/
def fnExactWayNextUptoCard : Claim7 := { stood := { row := fnExactWayNextUptoRow, standIns := [], harness := (true, "fdd82948ee8fda1eb785fa68252fa089e9ac082ce7396d39e7edf0eb58262804"), looks := true }, kinds := [], alts := [], laidByText := true, laidKinds := [.data, .data], laidTests := true, laidLooks := .later }
def FnExactWayNextUptoCardSaid : Prop := Claim7.holds Tryd.pinned (.plain (OpenSpec.upto fnExactWayNextSpec)) fnExactWayNextUptoCard

/-- THE SECOND FORM's CARD OF 'laws.FnHas'. -/
def fnHasUptoCard : Claim7 := { stood := { row := fnHasUptoRow, standIns := [], harness := (true, "fdd82948ee8fda1eb785fa68252fa089e9ac082ce7396d39e7edf0eb58262804"), looks := true }, kinds := [], alts := [], laidByText := true, laidKinds := [.data, .data], laidTests := true, laidLooks := .later }
def FnHasUptoCardSaid : Prop := Claim7.holds Tryd.pinned (.plain (OpenSpec.upto fnHasSpec)) fnHasUptoCard

/-- THE SECOND FORM's CARD OF 'laws.FnGot'. -/
def fnGotUptoCard : Claim7 := { stood := { row := fnGotUptoRow, standIns := [], harness := (true, "fdd82948ee8fda1eb785fa68252fa089e9ac082ce7396d39e7edf0eb58262804"), looks := true }, kinds := [], alts := [], laidByText := true, laidKinds := [.data, .data], laidTests := true, laidLooks := .later }
def FnGotUptoCardSaid : Prop := Claim7.holds Tryd.pinned (.plain (OpenSpec.upto fnGotSpec)) fnGotUptoCard

/-- THE SECOND FORM's CARD OF 'laws.FnSettled'. -/
def fnSettledUptoCard : Claim7 := { stood := { row := fnSettledUptoRow, standIns := [], harness := (true, "fdd82948ee8fda1eb785fa68252fa089e9ac082ce7396d39e7edf0eb58262804"), looks := true }, kinds := [], alts := [], laidByText := true, laidKinds := [.data, .data], laidTests := true, laidLooks := .later }
def FnSettledUptoCardSaid : Prop := Claim7.holds Tryd.pinned (.plain (OpenSpec.upto fnSettledSpec)) fnSettledUptoCard

/-- THE SECOND FORM's CARD OF 'laws.FnLive'. -/
def fnLiveUptoCard : Claim7 := { stood := { row := fnLiveUptoRow, standIns := [], harness := (true, "fdd82948ee8fda1eb785fa68252fa089e9ac082ce7396d39e7edf0eb58262804"), looks := true }, kinds := [], alts := [], laidByText := true, laidKinds := [.data, .data], laidTests := true, laidLooks := .later }
def FnLiveUptoCardSaid : Prop := Claim7.holds Tryd.pinned (.plain (OpenSpec.upto fnLiveSpec)) fnLiveUptoCard

/-- THE SECOND FORM's CARD OF 'laws.FnStateForm'. -/
def fnStateFormUptoCard : Claim7 := { stood := { row := fnStateFormUptoRow, standIns := [], harness := (true, "fdd82948ee8fda1eb785fa68252fa089e9ac082ce7396d39e7edf0eb58262804"), looks := true }, kinds := [], alts := [], laidByText := true, laidKinds := [.data, .data], laidTests := true, laidLooks := .later }
def FnStateFormUptoCardSaid : Prop := Claim7.holds Tryd.pinned (.plain (OpenSpec.upto fnStateFormSpec)) fnStateFormUptoCard

/-- THE SECOND FORM's CARD OF 'laws.FnStateLess'. -/
def fnStateLessUptoCard : Claim7 := { stood := { row := fnStateLessUptoRow, standIns := [], harness := (true, "fdd82948ee8fda1eb785fa68252fa089e9ac082ce7396d39e7edf0eb58262804"), looks := true }, kinds := [], alts := [], laidByText := true, laidKinds := [.data, .data], laidTests := true, laidLooks := .later }
def FnStateLessUptoCardSaid : Prop := Claim7.holds Tryd.pinned (.plain (OpenSpec.upto fnStateLessSpec)) fnStateLessUptoCard
end Rows
end Go.Proofs.YtifocngajndnnaaDoor
