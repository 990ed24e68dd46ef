/-
  NARROWER THAN 'FOR EVERY INPUT', by the rows' own cells (each row's printed sentence says how): FnExactRelayGet: laid · FnExactRelayTell: laid · FnExactRelayLate: laid · FnExactRelayStep: laid.
  DERIVED. THE GIVEN ROWS OF THIS SEAT. 4 by the template 'for every input the law returns true; each argument reads behind the call as it read before'; 0 by the template 'total and deterministic' (their statements: YtcnbephpadmboaaGreatDoorTotals.lean).
  GIVEN WITH THE SEED: the statements are not yours to turn. If you find one false, say at which input.
  Laid BY PROGRAM, IN A SANDBOX (cutbox-rows.mjs): the forced cells as the released guide's own fill.sh prints them over the translation aba4f0e884ad505b… (all of the seat's roots in one cut). By AI agents, Wed Nov 11 2026. No macro, syntax, notation, axiom, sorry.
-/
import Derived.Test.YtcnbephpadmboaaGreatDoorChecked
import GoSem.Claim
import GoSem.ClaimJoined
import GoSem.ClaimMapViews
import Derived.JoinedTies
import Derived.KernelRfl
namespace Go.Proofs.YtcnbephpadmboaaGreatDoor
/- THE CELL 'sum', in the pinned program and in every row, IS THE sha256 OF THE DUMP (.gsa) THAT YtcnbephpadmboaaGreatDoorProg.lean LOADS. Nothing in Lean hashes anything: it is a label: what it is worth is what the hold of that sum in a sandbox is worth. -/
noncomputable def Tryz.pinned : Pinned := { name := "ytcnbephpadmboaagreatdoor", sum := "aba4f0e884ad505b47f8df2c256259e9f73505b44e090d8e203f49bef8a77afe", checked := Tryz.checked }
namespace Rows
def none {H : Type} : Left H := { results := [], args := [] }

/- WHAT THE LISTED PACKAGE-LEVEL VARIABLES READ AS WHEN THE CALL BEGINS. Each datum BY PROGRAM (the guide's laid-datum.mjs) off the statement by which the dump's own 'gosem.cut.vars' lays the variable. In a bare row this is a premise. The card (YtcnbephpadmboaaGreatDoorCards.lean) ties it to the program's text. -/
def laid_loop_example_hawser_impl_packetLows {H : Type} : DataW H := .agg [.lit (.int .i64 1), .lit (.int .i64 1), .lit (.int .i64 1), .lit (.int .i64 0), .lit (.int .i64 1), .lit (.int .i64 1), .lit (.int .i64 1)]
def laid_loop_example_hawser_impl_packetHighs {H : Type} : DataW H := .agg [.lit (.int .i64 8), .lit (.int .i64 2), .lit (.int .i64 3), .lit (.int .i64 3), .lit (.int .i64 9), .lit (.int .i64 90), .lit (.int .i64 9)]

/-- 'laws.FnExactRelayGet': WHATEVER THE INPUT: true; the input reads as it did. -/
def fnExactRelayGetSpec : ChangeSpec := { name := "fnExactRelayGet", vars := ["loop.example/hawser/impl.packetLows", "loop.example/hawser/impl.packetHighs"], fn := fun _ => fun
  | [d1, d2, d3, g1, g2] => { results := [.lit (.bool true)], args := [d1, d2, d3], vars := [g1, g2] }
  | _ => none }
def fnExactRelayGetRow : OpenClaim := { program := "ytcnbephpadmboaagreatdoor", sum := "aba4f0e884ad505b47f8df2c256259e9f73505b44e090d8e203f49bef8a77afe", func := "loop.example/hawser/laws.FnExactRelayGet", spec := "fnExactRelayGet", unfollowed := true, recurses := true, named := ["loop.example/hawser/impl.packetLows", "loop.example/hawser/impl.packetHighs"], apart := false, laid := [("loop.example/hawser/impl.packetLows", laid_loop_example_hawser_impl_packetLows), ("loop.example/hawser/impl.packetHighs", laid_loop_example_hawser_impl_packetHighs)] }
def FnExactRelayGetSaid : Prop := fnExactRelayGetRow.holds Tryz.pinned (OpenSpec.ofChange fnExactRelayGetSpec)

/-- ITS FALSE NEIGHBOUR: 'it returns false'. Refute it at one input. -/
def fnExactRelayGetWrong : ChangeSpec := { name := "fnExactRelayGet", vars := ["loop.example/hawser/impl.packetLows", "loop.example/hawser/impl.packetHighs"], fn := fun _ => fun
  | [d1, d2, d3, g1, g2] => { results := [.lit (.bool false)], args := [d1, d2, d3], vars := [g1, g2] }
  | _ => none }
def FnExactRelayGetWrongFalsely : Prop := fnExactRelayGetRow.holds Tryz.pinned (OpenSpec.ofChange fnExactRelayGetWrong)

/-- 'laws.FnExactRelayTell': WHATEVER THE INPUT: true; the input reads as it did. -/
def fnExactRelayTellSpec : ChangeSpec := { name := "fnExactRelayTell", vars := ["loop.example/hawser/impl.packetLows", "loop.example/hawser/impl.packetHighs"], fn := fun _ => fun
  | [d1, d2, d3, g1, g2] => { results := [.lit (.bool true)], args := [d1, d2, d3], vars := [g1, g2] }
  | _ => none }
def fnExactRelayTellRow : OpenClaim := { program := "ytcnbephpadmboaagreatdoor", sum := "aba4f0e884ad505b47f8df2c256259e9f73505b44e090d8e203f49bef8a77afe", func := "loop.example/hawser/laws.FnExactRelayTell", spec := "fnExactRelayTell", unfollowed := true, recurses := true, named := ["loop.example/hawser/impl.packetLows", "loop.example/hawser/impl.packetHighs"], apart := false, laid := [("loop.example/hawser/impl.packetLows", laid_loop_example_hawser_impl_packetLows), ("loop.example/hawser/impl.packetHighs", laid_loop_example_hawser_impl_packetHighs)] }
def FnExactRelayTellSaid : Prop := fnExactRelayTellRow.holds Tryz.pinned (OpenSpec.ofChange fnExactRelayTellSpec)

/-- ITS FALSE NEIGHBOUR: 'it returns false'. Refute it at one input. -/
def fnExactRelayTellWrong : ChangeSpec := { name := "fnExactRelayTell", vars := ["loop.example/hawser/impl.packetLows", "loop.example/hawser/impl.packetHighs"], fn := fun _ => fun
  | [d1, d2, d3, g1, g2] => { results := [.lit (.bool false)], args := [d1, d2, d3], vars := [g1, g2] }
  | _ => none }
def FnExactRelayTellWrongFalsely : Prop := fnExactRelayTellRow.holds Tryz.pinned (OpenSpec.ofChange fnExactRelayTellWrong)

/-- 'laws.FnExactRelayLate': WHATEVER THE INPUT: true; the input reads as it did. -/
def fnExactRelayLateSpec : ChangeSpec := { name := "fnExactRelayLate", vars := ["loop.example/hawser/impl.packetLows", "loop.example/hawser/impl.packetHighs"], fn := fun _ => fun
  | [d1, d2, d3, d4, g1, g2] => { results := [.lit (.bool true)], args := [d1, d2, d3, d4], vars := [g1, g2] }
  | _ => none }
def fnExactRelayLateRow : OpenClaim := { program := "ytcnbephpadmboaagreatdoor", sum := "aba4f0e884ad505b47f8df2c256259e9f73505b44e090d8e203f49bef8a77afe", func := "loop.example/hawser/laws.FnExactRelayLate", spec := "fnExactRelayLate", unfollowed := true, recurses := true, named := ["loop.example/hawser/impl.packetLows", "loop.example/hawser/impl.packetHighs"], apart := false, laid := [("loop.example/hawser/impl.packetLows", laid_loop_example_hawser_impl_packetLows), ("loop.example/hawser/impl.packetHighs", laid_loop_example_hawser_impl_packetHighs)] }
def FnExactRelayLateSaid : Prop := fnExactRelayLateRow.holds Tryz.pinned (OpenSpec.ofChange fnExactRelayLateSpec)

/-- ITS FALSE NEIGHBOUR: 'it returns false'. Refute it at one input. -/
def fnExactRelayLateWrong : ChangeSpec := { name := "fnExactRelayLate", vars := ["loop.example/hawser/impl.packetLows", "loop.example/hawser/impl.packetHighs"], fn := fun _ => fun
  | [d1, d2, d3, d4, g1, g2] => { results := [.lit (.bool false)], args := [d1, d2, d3, d4], vars := [g1, g2] }
  | _ => none }
def FnExactRelayLateWrongFalsely : Prop := fnExactRelayLateRow.holds Tryz.pinned (OpenSpec.ofChange fnExactRelayLateWrong)

/-- 'laws.FnExactRelayStep': WHATEVER THE INPUT: true; the input reads as it did. -/
def fnExactRelayStepSpec : ChangeSpec := { name := "fnExactRelayStep", vars := ["loop.example/hawser/impl.packetLows", "loop.example/hawser/impl.packetHighs"], fn := fun _ => fun
  | [d1, d2, d3, g1, g2] => { results := [.lit (.bool true)], args := [d1, d2, d3], vars := [g1, g2] }
  | _ => none }
def fnExactRelayStepRow : OpenClaim := { program := "ytcnbephpadmboaagreatdoor", sum := "aba4f0e884ad505b47f8df2c256259e9f73505b44e090d8e203f49bef8a77afe", func := "loop.example/hawser/laws.FnExactRelayStep", spec := "fnExactRelayStep", unfollowed := true, recurses := true, named := ["loop.example/hawser/impl.packetLows", "loop.example/hawser/impl.packetHighs"], apart := false, laid := [("loop.example/hawser/impl.packetLows", laid_loop_example_hawser_impl_packetLows), ("loop.example/hawser/impl.packetHighs", laid_loop_example_hawser_impl_packetHighs)] }
def FnExactRelayStepSaid : Prop := fnExactRelayStepRow.holds Tryz.pinned (OpenSpec.ofChange fnExactRelayStepSpec)

/-- ITS FALSE NEIGHBOUR: 'it returns false'. Refute it at one input. -/
def fnExactRelayStepWrong : ChangeSpec := { name := "fnExactRelayStep", vars := ["loop.example/hawser/impl.packetLows", "loop.example/hawser/impl.packetHighs"], fn := fun _ => fun
  | [d1, d2, d3, g1, g2] => { results := [.lit (.bool false)], args := [d1, d2, d3], vars := [g1, g2] }
  | _ => none }
def FnExactRelayStepWrongFalsely : Prop := fnExactRelayStepRow.holds Tryz.pinned (OpenSpec.ofChange fnExactRelayStepWrong)

/- THE SECOND FORM. 'bulk': how many values and letters a reading holds, each counted each time it is reached (what is shared counts as often as it is met; a slice's spare places count too). A statement '..UptoSaid' is the law's where the arguments, and the package variables that the reading takes, are together of bulk at most 1048576: NARROWER than '..Said'. Prove '..Said' where nothing that the law and all that it calls make is longer than what came in: it says more and counts as full. Else prove '..UptoSaid'. A law counts once. -/
mutual
def uptoBulk {H : Type} : DataW H → Nat
  | .lit (.string bytes) => bytes.length + 1
  | .lit _ => 1
  | .nil => 1
  | .ptr d => uptoBulk d + 1
  | .slice elems spare => uptoBulkAll elems + uptoBulkAll spare + 1
  | .agg parts => uptoBulkAll parts + 1
  | .iface _ d => uptoBulk d + 1
  | .map entries => uptoBulkEntries entries + 1
  | .held _ => 1
def uptoBulkAll {H : Type} : List (DataW H) → Nat
  | [] => 0
  | d :: r => uptoBulk d + uptoBulkAll r
def uptoBulkEntries {H : Type} : List (Lit × DataW H) → Nat
  | [] => 0
  | x :: r => uptoBulkEntry x + uptoBulkEntries r
def uptoBulkEntry {H : Type} : Lit × DataW H → Nat
  | (.string bytes, d) => bytes.length + uptoBulk d + 1
  | (_, d) => uptoBulk d + 1
 end
def uptoSmall : (H : Type) → List (DataW H) → Bool := fun _ ds => decide (uptoBulkAll ds ≤ 1048576)
def OpenSpec.upto (s : _root_.Go.ChangeSpec) : _root_.Go.OpenSpec := { _root_.Go.OpenSpec.ofChange s with cond := some uptoSmall }

/-- 'laws.FnExactRelayGet', WHERE WHAT IT READS IS OF BULK AT MOST 1048576: true; the input reads as it did. -/
def fnExactRelayGetUptoRow : OpenClaim := { program := "ytcnbephpadmboaagreatdoor", sum := "aba4f0e884ad505b47f8df2c256259e9f73505b44e090d8e203f49bef8a77afe", func := "loop.example/hawser/laws.FnExactRelayGet", spec := "fnExactRelayGet", unfollowed := true, recurses := true, named := ["loop.example/hawser/impl.packetLows", "loop.example/hawser/impl.packetHighs"], apart := false, laid := [("loop.example/hawser/impl.packetLows", laid_loop_example_hawser_impl_packetLows), ("loop.example/hawser/impl.packetHighs", laid_loop_example_hawser_impl_packetHighs)], narrowed := true }
def FnExactRelayGetUptoSaid : Prop := fnExactRelayGetUptoRow.holds Tryz.pinned (OpenSpec.upto fnExactRelayGetSpec)

/-- 'laws.FnExactRelayTell', WHERE WHAT IT READS IS OF BULK AT MOST 1048576: true; the input reads as it did. -/
def fnExactRelayTellUptoRow : OpenClaim := { program := "ytcnbephpadmboaagreatdoor", sum := "aba4f0e884ad505b47f8df2c256259e9f73505b44e090d8e203f49bef8a77afe", func := "loop.example/hawser/laws.FnExactRelayTell", spec := "fnExactRelayTell", unfollowed := true, recurses := true, named := ["loop.example/hawser/impl.packetLows", "loop.example/hawser/impl.packetHighs"], apart := false, laid := [("loop.example/hawser/impl.packetLows", laid_loop_example_hawser_impl_packetLows), ("loop.example/hawser/impl.packetHighs", laid_loop_example_hawser_impl_packetHighs)], narrowed := true }
def FnExactRelayTellUptoSaid : Prop := fnExactRelayTellUptoRow.holds Tryz.pinned (OpenSpec.upto fnExactRelayTellSpec)

/-- 'laws.FnExactRelayLate', WHERE WHAT IT READS IS OF BULK AT MOST 1048576: true; the input reads as it did. -/
def fnExactRelayLateUptoRow : OpenClaim := { program := "ytcnbephpadmboaagreatdoor", sum := "aba4f0e884ad505b47f8df2c256259e9f73505b44e090d8e203f49bef8a77afe", func := "loop.example/hawser/laws.FnExactRelayLate", spec := "fnExactRelayLate", unfollowed := true, recurses := true, named := ["loop.example/hawser/impl.packetLows", "loop.example/hawser/impl.packetHighs"], apart := false, laid := [("loop.example/hawser/impl.packetLows", laid_loop_example_hawser_impl_packetLows), ("loop.example/hawser/impl.packetHighs", laid_loop_example_hawser_impl_packetHighs)], narrowed := true }
def FnExactRelayLateUptoSaid : Prop := fnExactRelayLateUptoRow.holds Tryz.pinned (OpenSpec.upto fnExactRelayLateSpec)

/-- 'laws.FnExactRelayStep', WHERE WHAT IT READS IS OF BULK AT MOST 1048576: true; the input reads as it did. -/
def fnExactRelayStepUptoRow : OpenClaim := { program := "ytcnbephpadmboaagreatdoor", sum := "aba4f0e884ad505b47f8df2c256259e9f73505b44e090d8e203f49bef8a77afe", func := "loop.example/hawser/laws.FnExactRelayStep", spec := "fnExactRelayStep", unfollowed := true, recurses := true, named := ["loop.example/hawser/impl.packetLows", "loop.example/hawser/impl.packetHighs"], apart := false, laid := [("loop.example/hawser/impl.packetLows", laid_loop_example_hawser_impl_packetLows), ("loop.example/hawser/impl.packetHighs", laid_loop_example_hawser_impl_packetHighs)], narrowed := true }
def FnExactRelayStepUptoSaid : Prop := fnExactRelayStepUptoRow.holds Tryz.pinned (OpenSpec.upto fnExactRelayStepSpec)

end Rows
end Go.Proofs.YtcnbephpadmboaaGreatDoor
