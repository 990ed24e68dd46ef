/-
  DERIVED. GIVEN WITH THE SEED: THE CARDS: each row of YtedmkbiamjpdaaaDoorRows.lean that lists a variable, with what it lists TIED to the program's text (the seventh form; the later family's looks); each row that meets fmt, with fmt's text TOLD by the authors' own Lean function (tested against real Go, not proved from fmt's source: count such statements apart). THE CARD IS WHAT COUNTS. Prove the row's statement (the work); the ties are given (YtedmkbiamjpdaaaDoorTie.lean); close each card by the builder's one call (the guide's Derived/Test/ToyasCard.lean, 'card_holds'). Laid BY PROGRAM, IN A SANDBOX (cutbox-door.mjs). By AI agents, Wed Nov 11 2026. No macro, syntax, notation, axiom, sorry.
-/
import Derived.Test.YtedmkbiamjpdaaaDoorRows
import GoSem.ClaimSeven
namespace Go.Proofs.YtedmkbiamjpdaaaDoor
namespace Rows

/-- THE TIED CARD OF 'laws.FnExactStateOk'. -/
def fnExactStateOkCard : Claim7 := { stood := { row := fnExactStateOkRow, standIns := [], harness := (true, "02cee5d9d16b921159698af7575dbc6aa0ad83f3d4e4d61ea4662ef4f89fb40f"), looks := true }, kinds := [], alts := [], laidByText := true, laidKinds := [.data, .data], laidTests := true, laidLooks := .later }
def FnExactStateOkCardSaid : Prop := Claim7.holds Tryd.pinned (.plain (OpenSpec.ofChange fnExactStateOkSpec)) fnExactStateOkCard

/-- THE TIED CARD OF 'laws.FnExactStateHas'. -/
def fnExactStateHasCard : Claim7 := { stood := { row := fnExactStateHasRow, standIns := [], harness := (true, "02cee5d9d16b921159698af7575dbc6aa0ad83f3d4e4d61ea4662ef4f89fb40f"), looks := true }, kinds := [], alts := [], laidByText := true, laidKinds := [.data, .data], laidTests := true, laidLooks := .later }
def FnExactStateHasCardSaid : Prop := Claim7.holds Tryd.pinned (.plain (OpenSpec.ofChange fnExactStateHasSpec)) fnExactStateHasCard

/-- THE TIED CARD OF 'laws.FnExactStateGot'. -/
def fnExactStateGotCard : Claim7 := { stood := { row := fnExactStateGotRow, standIns := [], harness := (true, "02cee5d9d16b921159698af7575dbc6aa0ad83f3d4e4d61ea4662ef4f89fb40f"), looks := true }, kinds := [], alts := [], laidByText := true, laidKinds := [.data, .data], laidTests := true, laidLooks := .later }
def FnExactStateGotCardSaid : Prop := Claim7.holds Tryd.pinned (.plain (OpenSpec.ofChange fnExactStateGotSpec)) fnExactStateGotCard

/-- THE TIED CARD OF 'laws.FnExactStateSettled'. -/
def fnExactStateSettledCard : Claim7 := { stood := { row := fnExactStateSettledRow, standIns := [], harness := (true, "02cee5d9d16b921159698af7575dbc6aa0ad83f3d4e4d61ea4662ef4f89fb40f"), looks := true }, kinds := [], alts := [], laidByText := true, laidKinds := [.data, .data], laidTests := true, laidLooks := .later }
def FnExactStateSettledCardSaid : Prop := Claim7.holds Tryd.pinned (.plain (OpenSpec.ofChange fnExactStateSettledSpec)) fnExactStateSettledCard

/-- THE TIED CARD OF 'laws.FnExactStateLive'. -/
def fnExactStateLiveCard : Claim7 := { stood := { row := fnExactStateLiveRow, standIns := [], harness := (true, "02cee5d9d16b921159698af7575dbc6aa0ad83f3d4e4d61ea4662ef4f89fb40f"), looks := true }, kinds := [], alts := [], laidByText := true, laidKinds := [.data, .data], laidTests := true, laidLooks := .later }
def FnExactStateLiveCardSaid : Prop := Claim7.holds Tryd.pinned (.plain (OpenSpec.ofChange fnExactStateLiveSpec)) fnExactStateLiveCard

/-- THE TIED CARD OF 'laws.FnHas'. -/
def fnHasCard : Claim7 := { stood := { row := fnHasRow, standIns := [], harness := (true, "02cee5d9d16b921159698af7575dbc6aa0ad83f3d4e4d61ea4662ef4f89fb40f"), looks := true }, kinds := [], alts := [], laidByText := true, laidKinds := [.data, .data], laidTests := true, laidLooks := .later }
def FnHasCardSaid : Prop := Claim7.holds Tryd.pinned (.plain (OpenSpec.ofChange fnHasSpec)) fnHasCard

/-- THE TIED CARD OF 'laws.FnGot'. -/
def fnGotCard : Claim7 := { stood := { row := fnGotRow, standIns := [], harness := (true, "02cee5d9d16b921159698af7575dbc6aa0ad83f3d4e4d61ea4662ef4f89fb40f"), looks := true }, kinds := [], alts := [], laidByText := true, laidKinds := [.data, .data], laidTests := true, laidLooks := .later }
def FnGotCardSaid : Prop := Claim7.holds Tryd.pinned (.plain (OpenSpec.ofChange fnGotSpec)) fnGotCard

/-- THE TIED CARD OF 'laws.FnSettled'. -/
def fnSettledCard : Claim7 := { stood := { row := fnSettledRow, standIns := [], harness := (true, "02cee5d9d16b921159698af7575dbc6aa0ad83f3d4e4d61ea4662ef4f89fb40f"), looks := true }, kinds := [], alts := [], laidByText := true, laidKinds := [.data, .data], laidTests := true, laidLooks := .later }
def FnSettledCardSaid : Prop := Claim7.holds Tryd.pinned (.plain (OpenSpec.ofChange fnSettledSpec)) fnSettledCard

/-- THE SECOND FORM's CARD OF 'laws.FnExactStateOk'. -/
def fnExactStateOkUptoCard : Claim7 := { stood := { row := fnExactStateOkUptoRow, standIns := [], harness := (true, "02cee5d9d16b921159698af7575dbc6aa0ad83f3d4e4d61ea4662ef4f89fb40f"), looks := true }, kinds := [], alts := [], laidByText := true, laidKinds := [.data, .data], laidTests := true, laidLooks := .later }
def FnExactStateOkUptoCardSaid : Prop := Claim7.holds Tryd.pinned (.plain (OpenSpec.upto fnExactStateOkSpec)) fnExactStateOkUptoCard

/-- THE SECOND FORM's CARD OF 'laws.FnExactStateHas'. -/
def fnExactStateHasUptoCard : Claim7 := { stood := { row := fnExactStateHasUptoRow, standIns := [], harness := (true, "02cee5d9d16b921159698af7575dbc6aa0ad83f3d4e4d61ea4662ef4f89fb40f"), looks := true }, kinds := [], alts := [], laidByText := true, laidKinds := [.data, .data], laidTests := true, laidLooks := .later }
def FnExactStateHasUptoCardSaid : Prop := Claim7.holds Tryd.pinned (.plain (OpenSpec.upto fnExactStateHasSpec)) fnExactStateHasUptoCard

/-- THE SECOND FORM's CARD OF 'laws.FnExactStateGot'. -/
def fnExactStateGotUptoCard : Claim7 := { stood := { row := fnExactStateGotUptoRow, standIns := [], harness := (true, "02cee5d9d16b921159698af7575dbc6aa0ad83f3d4e4d61ea4662ef4f89fb40f"), looks := true }, kinds := [], alts := [], laidByText := true, laidKinds := [.data, .data], laidTests := true, laidLooks := .later }
def FnExactStateGotUptoCardSaid : Prop := Claim7.holds Tryd.pinned (.plain (OpenSpec.upto fnExactStateGotSpec)) fnExactStateGotUptoCard

/-- THE SECOND FORM's CARD OF 'laws.FnExactStateSettled'. -/
def fnExactStateSettledUptoCard : Claim7 := { stood := { row := fnExactStateSettledUptoRow, standIns := [], harness := (true, "02cee5d9d16b921159698af7575dbc6aa0ad83f3d4e4d61ea4662ef4f89fb40f"), looks := true }, kinds := [], alts := [], laidByText := true, laidKinds := [.data, .data], laidTests := true, laidLooks := .later }
def FnExactStateSettledUptoCardSaid : Prop := Claim7.holds Tryd.pinned (.plain (OpenSpec.upto fnExactStateSettledSpec)) fnExactStateSettledUptoCard

/-- THE SECOND FORM's CARD OF 'laws.FnExactStateLive'. -/
def fnExactStateLiveUptoCard : Claim7 := { stood := { row := fnExactStateLiveUptoRow, standIns := [], harness := (true, "02cee5d9d16b921159698af7575dbc6aa0ad83f3d4e4d61ea4662ef4f89fb40f"), looks := true }, kinds := [], alts := [], laidByText := true, laidKinds := [.data, .data], laidTests := true, laidLooks := .later }
def FnExactStateLiveUptoCardSaid : Prop := Claim7.holds Tryd.pinned (.plain (OpenSpec.upto fnExactStateLiveSpec)) fnExactStateLiveUptoCard

/-- THE SECOND FORM's CARD OF 'laws.FnHas'. -/
def fnHasUptoCard : Claim7 := { stood := { row := fnHasUptoRow, standIns := [], harness := (true, "02cee5d9d16b921159698af7575dbc6aa0ad83f3d4e4d61ea4662ef4f89fb40f"), looks := true }, kinds := [], alts := [], laidByText := true, laidKinds := [.data, .data], laidTests := true, laidLooks := .later }
def FnHasUptoCardSaid : Prop := Claim7.holds Tryd.pinned (.plain (OpenSpec.upto fnHasSpec)) fnHasUptoCard

/-- THE SECOND FORM's CARD OF 'laws.FnGot'. -/
def fnGotUptoCard : Claim7 := { stood := { row := fnGotUptoRow, standIns := [], harness := (true, "02cee5d9d16b921159698af7575dbc6aa0ad83f3d4e4d61ea4662ef4f89fb40f"), looks := true }, kinds := [], alts := [], laidByText := true, laidKinds := [.data, .data], laidTests := true, laidLooks := .later }
def FnGotUptoCardSaid : Prop := Claim7.holds Tryd.pinned (.plain (OpenSpec.upto fnGotSpec)) fnGotUptoCard

/-- THE SECOND FORM's CARD OF 'laws.FnSettled'. -/
def fnSettledUptoCard : Claim7 := { stood := { row := fnSettledUptoRow, standIns := [], harness := (true, "02cee5d9d16b921159698af7575dbc6aa0ad83f3d4e4d61ea4662ef4f89fb40f"), looks := true }, kinds := [], alts := [], laidByText := true, laidKinds := [.data, .data], laidTests := true, laidLooks := .later }
def FnSettledUptoCardSaid : Prop := Claim7.holds Tryd.pinned (.plain (OpenSpec.upto fnSettledSpec)) fnSettledUptoCard
end Rows
end Go.Proofs.YtedmkbiamjpdaaaDoor
