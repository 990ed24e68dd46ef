/-
  DERIVED. GIVEN WITH THE SEED: THE CARDS: each row of YtcnbephpadmboaaGreatDoorRows.lean that lists a variable, with what it lists TIED to the program's text (the seventh form; the later family's looks); each row that meets fmt, with fmt's text TOLD by the authors' own Lean function (tested against real Go, not proved from fmt's source: count such statements apart). THE CARD IS WHAT COUNTS. Prove the row's statement (the work); the ties are given (YtcnbephpadmboaaGreatDoorTie.lean); close each card by the builder's one call (the guide's Derived/Test/ToyasCard.lean, 'card_holds'). Laid BY PROGRAM, IN A SANDBOX (cutbox-door.mjs). By AI agents, Wed Nov 11 2026. No macro, syntax, notation, axiom, sorry.
-/
import Derived.Test.YtcnbephpadmboaaGreatDoorRows
import GoSem.ClaimSeven
namespace Go.Proofs.YtcnbephpadmboaaGreatDoor
namespace Rows

/-- THE TIED CARD OF 'laws.FnExactRelayGet'. -/
def fnExactRelayGetCard : Claim7 := { stood := { row := fnExactRelayGetRow, standIns := [], harness := (true, "8b889d22a0e93431a4785a78b2a38d1c2963ec8b94cbebe22fedcf201e1e5ae4"), looks := true }, kinds := [], alts := [], laidByText := true, laidKinds := [.data, .data], laidTests := true, laidLooks := .later }
def FnExactRelayGetCardSaid : Prop := Claim7.holds Tryz.pinned (.plain (OpenSpec.ofChange fnExactRelayGetSpec)) fnExactRelayGetCard

/-- THE TIED CARD OF 'laws.FnExactRelayTell'. -/
def fnExactRelayTellCard : Claim7 := { stood := { row := fnExactRelayTellRow, standIns := [], harness := (true, "8b889d22a0e93431a4785a78b2a38d1c2963ec8b94cbebe22fedcf201e1e5ae4"), looks := true }, kinds := [], alts := [], laidByText := true, laidKinds := [.data, .data], laidTests := true, laidLooks := .later }
def FnExactRelayTellCardSaid : Prop := Claim7.holds Tryz.pinned (.plain (OpenSpec.ofChange fnExactRelayTellSpec)) fnExactRelayTellCard

/-- THE TIED CARD OF 'laws.FnExactRelayLate'. -/
def fnExactRelayLateCard : Claim7 := { stood := { row := fnExactRelayLateRow, standIns := [], harness := (true, "8b889d22a0e93431a4785a78b2a38d1c2963ec8b94cbebe22fedcf201e1e5ae4"), looks := true }, kinds := [], alts := [], laidByText := true, laidKinds := [.data, .data], laidTests := true, laidLooks := .later }
def FnExactRelayLateCardSaid : Prop := Claim7.holds Tryz.pinned (.plain (OpenSpec.ofChange fnExactRelayLateSpec)) fnExactRelayLateCard

/-- THE TIED CARD OF 'laws.FnExactRelayStep'. -/
def fnExactRelayStepCard : Claim7 := { stood := { row := fnExactRelayStepRow, standIns := [], harness := (true, "8b889d22a0e93431a4785a78b2a38d1c2963ec8b94cbebe22fedcf201e1e5ae4"), looks := true }, kinds := [], alts := [], laidByText := true, laidKinds := [.data, .data], laidTests := true, laidLooks := .later }
def FnExactRelayStepCardSaid : Prop := Claim7.holds Tryz.pinned (.plain (OpenSpec.ofChange fnExactRelayStepSpec)) fnExactRelayStepCard

/-- THE SECOND FORM's CARD OF 'laws.FnExactRelayGet'. -/
def fnExactRelayGetUptoCard : Claim7 := { stood := { row := fnExactRelayGetUptoRow, standIns := [], harness := (true, "8b889d22a0e93431a4785a78b2a38d1c2963ec8b94cbebe22fedcf201e1e5ae4"), looks := true }, kinds := [], alts := [], laidByText := true, laidKinds := [.data, .data], laidTests := true, laidLooks := .later }
def FnExactRelayGetUptoCardSaid : Prop := Claim7.holds Tryz.pinned (.plain (OpenSpec.upto fnExactRelayGetSpec)) fnExactRelayGetUptoCard

/-- THE SECOND FORM's CARD OF 'laws.FnExactRelayTell'. -/
def fnExactRelayTellUptoCard : Claim7 := { stood := { row := fnExactRelayTellUptoRow, standIns := [], harness := (true, "8b889d22a0e93431a4785a78b2a38d1c2963ec8b94cbebe22fedcf201e1e5ae4"), looks := true }, kinds := [], alts := [], laidByText := true, laidKinds := [.data, .data], laidTests := true, laidLooks := .later }
def FnExactRelayTellUptoCardSaid : Prop := Claim7.holds Tryz.pinned (.plain (OpenSpec.upto fnExactRelayTellSpec)) fnExactRelayTellUptoCard

/-- THE SECOND FORM's CARD OF 'laws.FnExactRelayLate'. -/
def fnExactRelayLateUptoCard : Claim7 := { stood := { row := fnExactRelayLateUptoRow, standIns := [], harness := (true, "8b889d22a0e93431a4785a78b2a38d1c2963ec8b94cbebe22fedcf201e1e5ae4"), looks := true }, kinds := [], alts := [], laidByText := true, laidKinds := [.data, .data], laidTests := true, laidLooks := .later }
def FnExactRelayLateUptoCardSaid : Prop := Claim7.holds Tryz.pinned (.plain (OpenSpec.upto fnExactRelayLateSpec)) fnExactRelayLateUptoCard

/-- THE SECOND FORM's CARD OF 'laws.FnExactRelayStep'. -/
def fnExactRelayStepUptoCard : Claim7 := { stood := { row := fnExactRelayStepUptoRow, standIns := [], harness := (true, "8b889d22a0e93431a4785a78b2a38d1c2963ec8b94cbebe22fedcf201e1e5ae4"), looks := true }, kinds := [], alts := [], laidByText := true, laidKinds := [.data, .data], laidTests := true, laidLooks := .later }
def FnExactRelayStepUptoCardSaid : Prop := Claim7.holds Tryz.pinned (.plain (OpenSpec.upto fnExactRelayStepSpec)) fnExactRelayStepUptoCard
end Rows
end Go.Proofs.YtcnbephpadmboaaGreatDoor
