/-
  DERIVED. GIVEN WITH THE SEED: THE CARDS: each row of YtjbllfnfnkghgaaDoorRows.lean that lists a variable, with what it lists TIED to the program's text (the seventh form; the later family's looks); each row that meets fmt, with fmt's text TOLD by the authors' own Lean function (tested against real Go, not proved from fmt's source: count such statements apart). THE CARD IS WHAT COUNTS. Prove the row's statement (the work); the ties are given (YtjbllfnfnkghgaaDoorTie.lean); close each card by the builder's one call (the guide's Derived/Test/ToyasCard.lean, 'card_holds'). Laid BY PROGRAM, IN A SANDBOX (cutbox-door.mjs). By AI agents, Wed Nov 11 2026. No macro, syntax, notation, axiom, sorry.
-/
import Derived.Test.YtjbllfnfnkghgaaDoorRows
import GoSem.ClaimSeven
namespace Go.Proofs.YtjbllfnfnkghgaaDoor
namespace Rows

/-- THE TIED CARD OF 'laws.FnPacketBack'. -/
def fnPacketBackCard : Claim7 := { stood := { row := fnPacketBackRow, standIns := [], harness := (true, "70160ed484c0c0c478ea4e9987287081a924c97035dd7a65e3a12b99b8e02026"), looks := true }, kinds := [], alts := [], laidByText := true, laidKinds := [.data, .data, .data, .data, .sentinel, .sentinel, .sentinel, .data, .data, .pinned], laidTests := true, laidLooks := .later }
def FnPacketBackCardSaid : Prop := Claim7.holds Tryd.pinned (.plain (OpenSpec.ofChange fnPacketBackSpec)) fnPacketBackCard

/-- THE TIED CARD OF 'laws.FnPacketStrict'. -/
def fnPacketStrictCard : Claim7 := { stood := { row := fnPacketStrictRow, standIns := [], harness := (true, "70160ed484c0c0c478ea4e9987287081a924c97035dd7a65e3a12b99b8e02026"), looks := true }, kinds := [], alts := [], laidByText := true, laidKinds := [.data, .data, .data, .data, .sentinel, .sentinel, .sentinel, .data, .data, .pinned], laidTests := true, laidLooks := .later }
def FnPacketStrictCardSaid : Prop := Claim7.holds Tryd.pinned (.plain (OpenSpec.ofChange fnPacketStrictSpec)) fnPacketStrictCard

/-- THE TIED CARD OF 'laws.FnPacketOne'. -/
def fnPacketOneCard : Claim7 := { stood := { row := fnPacketOneRow, standIns := [], harness := (true, "70160ed484c0c0c478ea4e9987287081a924c97035dd7a65e3a12b99b8e02026"), looks := true }, kinds := [], alts := [], laidByText := true, laidKinds := [.data, .data, .data, .data, .data], laidTests := true, laidLooks := .later }
def FnPacketOneCardSaid : Prop := Claim7.holds Tryd.pinned (.plain (OpenSpec.ofChange fnPacketOneSpec)) fnPacketOneCard

/-- THE TIED CARD OF 'laws.FnPacketForm'. -/
def fnPacketFormCard : Claim7 := { stood := { row := fnPacketFormRow, standIns := [], harness := (true, "70160ed484c0c0c478ea4e9987287081a924c97035dd7a65e3a12b99b8e02026"), looks := true }, kinds := [], alts := [], laidByText := true, laidKinds := [.data, .data], laidTests := true, laidLooks := .later }
def FnPacketFormCardSaid : Prop := Claim7.holds Tryd.pinned (.plain (OpenSpec.ofChange fnPacketFormSpec)) fnPacketFormCard

/-- THE TIED CARD OF 'laws.FnPacketCut'. -/
def fnPacketCutCard : Claim7 := { stood := { row := fnPacketCutRow, standIns := [], harness := (true, "70160ed484c0c0c478ea4e9987287081a924c97035dd7a65e3a12b99b8e02026"), looks := true }, kinds := [], alts := [], laidByText := true, laidKinds := [.data, .data, .data, .data, .sentinel, .sentinel, .sentinel, .data, .data, .pinned], laidTests := true, laidLooks := .later }
def FnPacketCutCardSaid : Prop := Claim7.holds Tryd.pinned (.plain (OpenSpec.ofChange fnPacketCutSpec)) fnPacketCutCard

/-- THE TIED CARD OF 'laws.FnPacketUser'. -/
def fnPacketUserCard : Claim7 := { stood := { row := fnPacketUserRow, standIns := [], harness := (true, "70160ed484c0c0c478ea4e9987287081a924c97035dd7a65e3a12b99b8e02026"), looks := true }, kinds := [], alts := [], laidByText := true, laidKinds := [.data, .data], laidTests := true, laidLooks := .later }
def FnPacketUserCardSaid : Prop := Claim7.holds Tryd.pinned (.plain (OpenSpec.ofChange fnPacketUserSpec)) fnPacketUserCard

/-- THE TIED CARD OF 'laws.FnExactPacketOk'. -/
def fnExactPacketOkCard : Claim7 := { stood := { row := fnExactPacketOkRow, standIns := [], harness := (true, "70160ed484c0c0c478ea4e9987287081a924c97035dd7a65e3a12b99b8e02026"), looks := true }, kinds := [], alts := [], laidByText := true, laidKinds := [.data, .data], laidTests := true, laidLooks := .later }
def FnExactPacketOkCardSaid : Prop := Claim7.holds Tryd.pinned (.plain (OpenSpec.ofChange fnExactPacketOkSpec)) fnExactPacketOkCard

/-- THE TIED CARD OF 'laws.FnExactPacketText'. -/
def fnExactPacketTextCard : Claim7 := { stood := { row := fnExactPacketTextRow, standIns := [], harness := (true, "70160ed484c0c0c478ea4e9987287081a924c97035dd7a65e3a12b99b8e02026"), looks := true }, kinds := [], alts := [], laidByText := true, laidKinds := [.data, .data, .data, .data, .data], laidTests := true, laidLooks := .later }
def FnExactPacketTextCardSaid : Prop := Claim7.holds Tryd.pinned (.plain (OpenSpec.ofChange fnExactPacketTextSpec)) fnExactPacketTextCard

/-- THE TIED CARD OF 'laws.FnExactPacketRead'. -/
def fnExactPacketReadCard : Claim7 := { stood := { row := fnExactPacketReadRow, standIns := [], harness := (true, "70160ed484c0c0c478ea4e9987287081a924c97035dd7a65e3a12b99b8e02026"), looks := true }, kinds := [], alts := [], laidByText := true, laidKinds := [.data, .data, .data, .data, .sentinel, .sentinel, .sentinel, .data, .data, .pinned], laidTests := true, laidLooks := .later }
def FnExactPacketReadCardSaid : Prop := Claim7.holds Tryd.pinned (.plain (OpenSpec.ofChange fnExactPacketReadSpec)) fnExactPacketReadCard

/-- THE SECOND FORM's CARD OF 'laws.FnPacketBack'. -/
def fnPacketBackUptoCard : Claim7 := { stood := { row := fnPacketBackUptoRow, standIns := [], harness := (true, "70160ed484c0c0c478ea4e9987287081a924c97035dd7a65e3a12b99b8e02026"), looks := true }, kinds := [], alts := [], laidByText := true, laidKinds := [.data, .data, .data, .data, .sentinel, .sentinel, .sentinel, .data, .data, .pinned], laidTests := true, laidLooks := .later }
def FnPacketBackUptoCardSaid : Prop := Claim7.holds Tryd.pinned (.plain (OpenSpec.upto fnPacketBackSpec)) fnPacketBackUptoCard

/-- THE SECOND FORM's CARD OF 'laws.FnPacketStrict'. -/
def fnPacketStrictUptoCard : Claim7 := { stood := { row := fnPacketStrictUptoRow, standIns := [], harness := (true, "70160ed484c0c0c478ea4e9987287081a924c97035dd7a65e3a12b99b8e02026"), looks := true }, kinds := [], alts := [], laidByText := true, laidKinds := [.data, .data, .data, .data, .sentinel, .sentinel, .sentinel, .data, .data, .pinned], laidTests := true, laidLooks := .later }
def FnPacketStrictUptoCardSaid : Prop := Claim7.holds Tryd.pinned (.plain (OpenSpec.upto fnPacketStrictSpec)) fnPacketStrictUptoCard

/-- THE SECOND FORM's CARD OF 'laws.FnPacketOne'. -/
def fnPacketOneUptoCard : Claim7 := { stood := { row := fnPacketOneUptoRow, standIns := [], harness := (true, "70160ed484c0c0c478ea4e9987287081a924c97035dd7a65e3a12b99b8e02026"), looks := true }, kinds := [], alts := [], laidByText := true, laidKinds := [.data, .data, .data, .data, .data], laidTests := true, laidLooks := .later }
def FnPacketOneUptoCardSaid : Prop := Claim7.holds Tryd.pinned (.plain (OpenSpec.upto fnPacketOneSpec)) fnPacketOneUptoCard

/-- THE SECOND FORM's CARD OF 'laws.FnPacketForm'. -/
def fnPacketFormUptoCard : Claim7 := { stood := { row := fnPacketFormUptoRow, standIns := [], harness := (true, "70160ed484c0c0c478ea4e9987287081a924c97035dd7a65e3a12b99b8e02026"), looks := true }, kinds := [], alts := [], laidByText := true, laidKinds := [.data, .data], laidTests := true, laidLooks := .later }
def FnPacketFormUptoCardSaid : Prop := Claim7.holds Tryd.pinned (.plain (OpenSpec.upto fnPacketFormSpec)) fnPacketFormUptoCard

/-- THE SECOND FORM's CARD OF 'laws.FnPacketCut'. -/
def fnPacketCutUptoCard : Claim7 := { stood := { row := fnPacketCutUptoRow, standIns := [], harness := (true, "70160ed484c0c0c478ea4e9987287081a924c97035dd7a65e3a12b99b8e02026"), looks := true }, kinds := [], alts := [], laidByText := true, laidKinds := [.data, .data, .data, .data, .sentinel, .sentinel, .sentinel, .data, .data, .pinned], laidTests := true, laidLooks := .later }
def FnPacketCutUptoCardSaid : Prop := Claim7.holds Tryd.pinned (.plain (OpenSpec.upto fnPacketCutSpec)) fnPacketCutUptoCard

/-- THE SECOND FORM's CARD OF 'laws.FnPacketUser'. -/
def fnPacketUserUptoCard : Claim7 := { stood := { row := fnPacketUserUptoRow, standIns := [], harness := (true, "70160ed484c0c0c478ea4e9987287081a924c97035dd7a65e3a12b99b8e02026"), looks := true }, kinds := [], alts := [], laidByText := true, laidKinds := [.data, .data], laidTests := true, laidLooks := .later }
def FnPacketUserUptoCardSaid : Prop := Claim7.holds Tryd.pinned (.plain (OpenSpec.upto fnPacketUserSpec)) fnPacketUserUptoCard

/-- THE SECOND FORM's CARD OF 'laws.FnExactPacketOk'. -/
def fnExactPacketOkUptoCard : Claim7 := { stood := { row := fnExactPacketOkUptoRow, standIns := [], harness := (true, "70160ed484c0c0c478ea4e9987287081a924c97035dd7a65e3a12b99b8e02026"), looks := true }, kinds := [], alts := [], laidByText := true, laidKinds := [.data, .data], laidTests := true, laidLooks := .later }
def FnExactPacketOkUptoCardSaid : Prop := Claim7.holds Tryd.pinned (.plain (OpenSpec.upto fnExactPacketOkSpec)) fnExactPacketOkUptoCard

/-- THE SECOND FORM's CARD OF 'laws.FnExactPacketText'. -/
def fnExactPacketTextUptoCard : Claim7 := { stood := { row := fnExactPacketTextUptoRow, standIns := [], harness := (true, "70160ed484c0c0c478ea4e9987287081a924c97035dd7a65e3a12b99b8e02026"), looks := true }, kinds := [], alts := [], laidByText := true, laidKinds := [.data, .data, .data, .data, .data], laidTests := true, laidLooks := .later }
def FnExactPacketTextUptoCardSaid : Prop := Claim7.holds Tryd.pinned (.plain (OpenSpec.upto fnExactPacketTextSpec)) fnExactPacketTextUptoCard

/-- THE SECOND FORM's CARD OF 'laws.FnExactPacketRead'. -/
def fnExactPacketReadUptoCard : Claim7 := { stood := { row := fnExactPacketReadUptoRow, standIns := [], harness := (true, "70160ed484c0c0c478ea4e9987287081a924c97035dd7a65e3a12b99b8e02026"), looks := true }, kinds := [], alts := [], laidByText := true, laidKinds := [.data, .data, .data, .data, .sentinel, .sentinel, .sentinel, .data, .data, .pinned], laidTests := true, laidLooks := .later }
def FnExactPacketReadUptoCardSaid : Prop := Claim7.holds Tryd.pinned (.plain (OpenSpec.upto fnExactPacketReadSpec)) fnExactPacketReadUptoCard
end Rows
end Go.Proofs.YtjbllfnfnkghgaaDoor
