/-
  NARROWER THAN 'FOR EVERY INPUT', by the rows' own cells (each row's printed sentence says how): FnExactChainOk: laid · FnExactChainBlock: laid · FnExactChainSend: laid · FnExactChainAt: laid · FnExactChainNext: laid · FnHas: laid · FnGot: laid · FnSettled: laid · FnStateSeq: laid · FnWayBoth: laid · FnNext: laid.
  DERIVED. THE GIVEN ROWS OF THIS SEAT. 11 by the template 'for every input the law returns true; each argument reads behind the call as it read before'; 0 by the template 'total and deterministic' (their statements: YtbgpclicflafaaaDoorTotals.lean).
  GIVEN WITH THE SEED: the statements are not yours to turn. If you find one false, say at which input.
  Laid BY PROGRAM, IN A SANDBOX (cutbox-rows.mjs): the forced cells as the released guide's own fill.sh prints them over the translation f894a32b6be2a8e4… (all of the seat's roots in one cut). By AI agents, Wed Nov 11 2026. No macro, syntax, notation, axiom, sorry.
-/
import Derived.Test.YtbgpclicflafaaaDoorChecked
import GoSem.Claim
import GoSem.ClaimJoined
import GoSem.ClaimMapViews
import Derived.JoinedTies
import Derived.KernelRfl
namespace Go.Proofs.YtbgpclicflafaaaDoor
/- THE CELL 'sum', in the pinned program and in every row, IS THE sha256 OF THE DUMP (.gsa) THAT YtbgpclicflafaaaDoorProg.lean LOADS. Nothing in Lean hashes anything: it is a label: what it is worth is what the hold of that sum in a sandbox is worth. -/
noncomputable def Tryd.pinned : Pinned := { name := "ytbgpclicflafaaadoor", sum := "f894a32b6be2a8e4fb8596597e31967dd367118b7e1fee744db33f0f9c53cd8b", checked := Tryd.checked }
namespace Rows
def none {H : Type} : Left H := { results := [], args := [] }

/- WHAT THE LISTED PACKAGE-LEVEL VARIABLES READ AS WHEN THE CALL BEGINS. Each datum BY PROGRAM (the guide's laid-datum.mjs) off the statement by which the dump's own 'gosem.cut.vars' lays the variable. In a bare row this is a premise. The card (YtbgpclicflafaaaDoorCards.lean) ties it to the program's text. -/
def laid_loop_example_hawser_impl_packetLows {H : Type} : DataW H := .agg [.lit (.int .i64 1), .lit (.int .i64 1), .lit (.int .i64 1), .lit (.int .i64 0), .lit (.int .i64 1), .lit (.int .i64 1), .lit (.int .i64 1)]
def laid_loop_example_hawser_impl_packetHighs {H : Type} : DataW H := .agg [.lit (.int .i64 8), .lit (.int .i64 2), .lit (.int .i64 3), .lit (.int .i64 3), .lit (.int .i64 9), .lit (.int .i64 90), .lit (.int .i64 9)]

/-- 'laws.FnExactChainOk': WHATEVER THE INPUT: true; the input reads as it did. -/
def fnExactChainOkSpec : ChangeSpec := { name := "fnExactChainOk", vars := ["loop.example/hawser/impl.packetLows", "loop.example/hawser/impl.packetHighs"], fn := fun _ => fun
  | [d, g1, g2] => { results := [.lit (.bool true)], args := [d], vars := [g1, g2] }
  | _ => none }
def fnExactChainOkRow : OpenClaim := { program := "ytbgpclicflafaaadoor", sum := "f894a32b6be2a8e4fb8596597e31967dd367118b7e1fee744db33f0f9c53cd8b", func := "loop.example/hawser/laws.FnExactChainOk", spec := "fnExactChainOk", named := ["loop.example/hawser/impl.packetLows", "loop.example/hawser/impl.packetHighs"], apart := false, laid := [("loop.example/hawser/impl.packetLows", laid_loop_example_hawser_impl_packetLows), ("loop.example/hawser/impl.packetHighs", laid_loop_example_hawser_impl_packetHighs)] }
def FnExactChainOkSaid : Prop := fnExactChainOkRow.holds Tryd.pinned (OpenSpec.ofChange fnExactChainOkSpec)

/-- ITS FALSE NEIGHBOUR: 'it returns false'. Refute it at one input. -/
def fnExactChainOkWrong : ChangeSpec := { name := "fnExactChainOk", vars := ["loop.example/hawser/impl.packetLows", "loop.example/hawser/impl.packetHighs"], fn := fun _ => fun
  | [d, g1, g2] => { results := [.lit (.bool false)], args := [d], vars := [g1, g2] }
  | _ => none }
def FnExactChainOkWrongFalsely : Prop := fnExactChainOkRow.holds Tryd.pinned (OpenSpec.ofChange fnExactChainOkWrong)

/-- 'laws.FnExactChainBlock': WHATEVER THE INPUT: true; the input reads as it did. -/
def fnExactChainBlockSpec : ChangeSpec := { name := "fnExactChainBlock", vars := ["loop.example/hawser/impl.packetLows", "loop.example/hawser/impl.packetHighs"], fn := fun _ => fun
  | [d, g1, g2] => { results := [.lit (.bool true)], args := [d], vars := [g1, g2] }
  | _ => none }
def fnExactChainBlockRow : OpenClaim := { program := "ytbgpclicflafaaadoor", sum := "f894a32b6be2a8e4fb8596597e31967dd367118b7e1fee744db33f0f9c53cd8b", func := "loop.example/hawser/laws.FnExactChainBlock", spec := "fnExactChainBlock", named := ["loop.example/hawser/impl.packetLows", "loop.example/hawser/impl.packetHighs"], apart := false, laid := [("loop.example/hawser/impl.packetLows", laid_loop_example_hawser_impl_packetLows), ("loop.example/hawser/impl.packetHighs", laid_loop_example_hawser_impl_packetHighs)] }
def FnExactChainBlockSaid : Prop := fnExactChainBlockRow.holds Tryd.pinned (OpenSpec.ofChange fnExactChainBlockSpec)

/-- ITS FALSE NEIGHBOUR: 'it returns false'. Refute it at one input. -/
def fnExactChainBlockWrong : ChangeSpec := { name := "fnExactChainBlock", vars := ["loop.example/hawser/impl.packetLows", "loop.example/hawser/impl.packetHighs"], fn := fun _ => fun
  | [d, g1, g2] => { results := [.lit (.bool false)], args := [d], vars := [g1, g2] }
  | _ => none }
def FnExactChainBlockWrongFalsely : Prop := fnExactChainBlockRow.holds Tryd.pinned (OpenSpec.ofChange fnExactChainBlockWrong)

/-- 'laws.FnExactChainSend': WHATEVER THE INPUT: true; the input reads as it did. -/
def fnExactChainSendSpec : ChangeSpec := { name := "fnExactChainSend", vars := ["loop.example/hawser/impl.packetLows", "loop.example/hawser/impl.packetHighs"], fn := fun _ => fun
  | [d1, d2, d3, d4, d5, d6, g1, g2] => { results := [.lit (.bool true)], args := [d1, d2, d3, d4, d5, d6], vars := [g1, g2] }
  | _ => none }
def fnExactChainSendRow : OpenClaim := { program := "ytbgpclicflafaaadoor", sum := "f894a32b6be2a8e4fb8596597e31967dd367118b7e1fee744db33f0f9c53cd8b", func := "loop.example/hawser/laws.FnExactChainSend", spec := "fnExactChainSend", unfollowed := true, recurses := true, named := ["loop.example/hawser/impl.packetLows", "loop.example/hawser/impl.packetHighs"], apart := false, laid := [("loop.example/hawser/impl.packetLows", laid_loop_example_hawser_impl_packetLows), ("loop.example/hawser/impl.packetHighs", laid_loop_example_hawser_impl_packetHighs)] }
def FnExactChainSendSaid : Prop := fnExactChainSendRow.holds Tryd.pinned (OpenSpec.ofChange fnExactChainSendSpec)

/-- ITS FALSE NEIGHBOUR: 'it returns false'. Refute it at one input. -/
def fnExactChainSendWrong : ChangeSpec := { name := "fnExactChainSend", vars := ["loop.example/hawser/impl.packetLows", "loop.example/hawser/impl.packetHighs"], fn := fun _ => fun
  | [d1, d2, d3, d4, d5, d6, g1, g2] => { results := [.lit (.bool false)], args := [d1, d2, d3, d4, d5, d6], vars := [g1, g2] }
  | _ => none }
def FnExactChainSendWrongFalsely : Prop := fnExactChainSendRow.holds Tryd.pinned (OpenSpec.ofChange fnExactChainSendWrong)

/-- 'laws.FnExactChainAt': WHATEVER THE INPUT: true; the input reads as it did. -/
def fnExactChainAtSpec : ChangeSpec := { name := "fnExactChainAt", vars := ["loop.example/hawser/impl.packetLows", "loop.example/hawser/impl.packetHighs"], fn := fun _ => fun
  | [d1, d2, g1, g2] => { results := [.lit (.bool true)], args := [d1, d2], vars := [g1, g2] }
  | _ => none }
def fnExactChainAtRow : OpenClaim := { program := "ytbgpclicflafaaadoor", sum := "f894a32b6be2a8e4fb8596597e31967dd367118b7e1fee744db33f0f9c53cd8b", func := "loop.example/hawser/laws.FnExactChainAt", spec := "fnExactChainAt", named := ["loop.example/hawser/impl.packetLows", "loop.example/hawser/impl.packetHighs"], apart := false, laid := [("loop.example/hawser/impl.packetLows", laid_loop_example_hawser_impl_packetLows), ("loop.example/hawser/impl.packetHighs", laid_loop_example_hawser_impl_packetHighs)] }
def FnExactChainAtSaid : Prop := fnExactChainAtRow.holds Tryd.pinned (OpenSpec.ofChange fnExactChainAtSpec)

/-- ITS FALSE NEIGHBOUR: 'it returns false'. Refute it at one input. -/
def fnExactChainAtWrong : ChangeSpec := { name := "fnExactChainAt", vars := ["loop.example/hawser/impl.packetLows", "loop.example/hawser/impl.packetHighs"], fn := fun _ => fun
  | [d1, d2, g1, g2] => { results := [.lit (.bool false)], args := [d1, d2], vars := [g1, g2] }
  | _ => none }
def FnExactChainAtWrongFalsely : Prop := fnExactChainAtRow.holds Tryd.pinned (OpenSpec.ofChange fnExactChainAtWrong)

/-- 'laws.FnExactChainNext': WHATEVER THE INPUT: true; the input reads as it did. -/
def fnExactChainNextSpec : ChangeSpec := { name := "fnExactChainNext", vars := ["loop.example/hawser/impl.packetLows", "loop.example/hawser/impl.packetHighs"], fn := fun _ => fun
  | [d, g1, g2] => { results := [.lit (.bool true)], args := [d], vars := [g1, g2] }
  | _ => none }
def fnExactChainNextRow : OpenClaim := { program := "ytbgpclicflafaaadoor", sum := "f894a32b6be2a8e4fb8596597e31967dd367118b7e1fee744db33f0f9c53cd8b", func := "loop.example/hawser/laws.FnExactChainNext", spec := "fnExactChainNext", named := ["loop.example/hawser/impl.packetLows", "loop.example/hawser/impl.packetHighs"], apart := false, laid := [("loop.example/hawser/impl.packetLows", laid_loop_example_hawser_impl_packetLows), ("loop.example/hawser/impl.packetHighs", laid_loop_example_hawser_impl_packetHighs)] }
def FnExactChainNextSaid : Prop := fnExactChainNextRow.holds Tryd.pinned (OpenSpec.ofChange fnExactChainNextSpec)

/-- ITS FALSE NEIGHBOUR: 'it returns false'. Refute it at one input. -/
def fnExactChainNextWrong : ChangeSpec := { name := "fnExactChainNext", vars := ["loop.example/hawser/impl.packetLows", "loop.example/hawser/impl.packetHighs"], fn := fun _ => fun
  | [d, g1, g2] => { results := [.lit (.bool false)], args := [d], vars := [g1, g2] }
  | _ => none }
def FnExactChainNextWrongFalsely : Prop := fnExactChainNextRow.holds Tryd.pinned (OpenSpec.ofChange fnExactChainNextWrong)

/-- 'laws.FnHas': WHATEVER THE INPUT: true; the input reads as it did. -/
def fnHasSpec : ChangeSpec := { name := "fnHas", vars := ["loop.example/hawser/impl.packetLows", "loop.example/hawser/impl.packetHighs"], fn := fun _ => fun
  | [d1, d2, g1, g2] => { results := [.lit (.bool true)], args := [d1, d2], vars := [g1, g2] }
  | _ => none }
def fnHasRow : OpenClaim := { program := "ytbgpclicflafaaadoor", sum := "f894a32b6be2a8e4fb8596597e31967dd367118b7e1fee744db33f0f9c53cd8b", func := "loop.example/hawser/laws.FnHas", spec := "fnHas", unfollowed := true, recurses := true, named := ["loop.example/hawser/impl.packetLows", "loop.example/hawser/impl.packetHighs"], apart := false, laid := [("loop.example/hawser/impl.packetLows", laid_loop_example_hawser_impl_packetLows), ("loop.example/hawser/impl.packetHighs", laid_loop_example_hawser_impl_packetHighs)] }
def FnHasSaid : Prop := fnHasRow.holds Tryd.pinned (OpenSpec.ofChange fnHasSpec)

/-- ITS FALSE NEIGHBOUR: 'it returns false'. Refute it at one input. -/
def fnHasWrong : ChangeSpec := { name := "fnHas", vars := ["loop.example/hawser/impl.packetLows", "loop.example/hawser/impl.packetHighs"], fn := fun _ => fun
  | [d1, d2, g1, g2] => { results := [.lit (.bool false)], args := [d1, d2], vars := [g1, g2] }
  | _ => none }
def FnHasWrongFalsely : Prop := fnHasRow.holds Tryd.pinned (OpenSpec.ofChange fnHasWrong)

/-- 'laws.FnGot': WHATEVER THE INPUT: true; the input reads as it did. -/
def fnGotSpec : ChangeSpec := { name := "fnGot", vars := ["loop.example/hawser/impl.packetLows", "loop.example/hawser/impl.packetHighs"], fn := fun _ => fun
  | [d, g1, g2] => { results := [.lit (.bool true)], args := [d], vars := [g1, g2] }
  | _ => none }
def fnGotRow : OpenClaim := { program := "ytbgpclicflafaaadoor", sum := "f894a32b6be2a8e4fb8596597e31967dd367118b7e1fee744db33f0f9c53cd8b", func := "loop.example/hawser/laws.FnGot", spec := "fnGot", named := ["loop.example/hawser/impl.packetLows", "loop.example/hawser/impl.packetHighs"], apart := false, laid := [("loop.example/hawser/impl.packetLows", laid_loop_example_hawser_impl_packetLows), ("loop.example/hawser/impl.packetHighs", laid_loop_example_hawser_impl_packetHighs)] }
def FnGotSaid : Prop := fnGotRow.holds Tryd.pinned (OpenSpec.ofChange fnGotSpec)

/-- ITS FALSE NEIGHBOUR: 'it returns false'. Refute it at one input. -/
def fnGotWrong : ChangeSpec := { name := "fnGot", vars := ["loop.example/hawser/impl.packetLows", "loop.example/hawser/impl.packetHighs"], fn := fun _ => fun
  | [d, g1, g2] => { results := [.lit (.bool false)], args := [d], vars := [g1, g2] }
  | _ => none }
def FnGotWrongFalsely : Prop := fnGotRow.holds Tryd.pinned (OpenSpec.ofChange fnGotWrong)

/-- 'laws.FnSettled': WHATEVER THE INPUT: true; the input reads as it did. -/
def fnSettledSpec : ChangeSpec := { name := "fnSettled", vars := ["loop.example/hawser/impl.packetLows", "loop.example/hawser/impl.packetHighs"], fn := fun _ => fun
  | [d, g1, g2] => { results := [.lit (.bool true)], args := [d], vars := [g1, g2] }
  | _ => none }
def fnSettledRow : OpenClaim := { program := "ytbgpclicflafaaadoor", sum := "f894a32b6be2a8e4fb8596597e31967dd367118b7e1fee744db33f0f9c53cd8b", func := "loop.example/hawser/laws.FnSettled", spec := "fnSettled", unfollowed := true, recurses := true, named := ["loop.example/hawser/impl.packetLows", "loop.example/hawser/impl.packetHighs"], apart := false, laid := [("loop.example/hawser/impl.packetLows", laid_loop_example_hawser_impl_packetLows), ("loop.example/hawser/impl.packetHighs", laid_loop_example_hawser_impl_packetHighs)] }
def FnSettledSaid : Prop := fnSettledRow.holds Tryd.pinned (OpenSpec.ofChange fnSettledSpec)

/-- ITS FALSE NEIGHBOUR: 'it returns false'. Refute it at one input. -/
def fnSettledWrong : ChangeSpec := { name := "fnSettled", vars := ["loop.example/hawser/impl.packetLows", "loop.example/hawser/impl.packetHighs"], fn := fun _ => fun
  | [d, g1, g2] => { results := [.lit (.bool false)], args := [d], vars := [g1, g2] }
  | _ => none }
def FnSettledWrongFalsely : Prop := fnSettledRow.holds Tryd.pinned (OpenSpec.ofChange fnSettledWrong)

/-- 'laws.FnStateSeq': WHATEVER THE INPUT: true; the input reads as it did. -/
def fnStateSeqSpec : ChangeSpec := { name := "fnStateSeq", vars := ["loop.example/hawser/impl.packetLows", "loop.example/hawser/impl.packetHighs"], fn := fun _ => fun
  | [d1, d2, g1, g2] => { results := [.lit (.bool true)], args := [d1, d2], vars := [g1, g2] }
  | _ => none }
def fnStateSeqRow : OpenClaim := { program := "ytbgpclicflafaaadoor", sum := "f894a32b6be2a8e4fb8596597e31967dd367118b7e1fee744db33f0f9c53cd8b", func := "loop.example/hawser/laws.FnStateSeq", spec := "fnStateSeq", unfollowed := true, recurses := true, named := ["loop.example/hawser/impl.packetLows", "loop.example/hawser/impl.packetHighs"], apart := false, laid := [("loop.example/hawser/impl.packetLows", laid_loop_example_hawser_impl_packetLows), ("loop.example/hawser/impl.packetHighs", laid_loop_example_hawser_impl_packetHighs)] }
def FnStateSeqSaid : Prop := fnStateSeqRow.holds Tryd.pinned (OpenSpec.ofChange fnStateSeqSpec)

/-- ITS FALSE NEIGHBOUR: 'it returns false'. Refute it at one input. -/
def fnStateSeqWrong : ChangeSpec := { name := "fnStateSeq", vars := ["loop.example/hawser/impl.packetLows", "loop.example/hawser/impl.packetHighs"], fn := fun _ => fun
  | [d1, d2, g1, g2] => { results := [.lit (.bool false)], args := [d1, d2], vars := [g1, g2] }
  | _ => none }
def FnStateSeqWrongFalsely : Prop := fnStateSeqRow.holds Tryd.pinned (OpenSpec.ofChange fnStateSeqWrong)

/-- 'laws.FnWayBoth': WHATEVER THE INPUT: true; the input reads as it did. -/
def fnWayBothSpec : ChangeSpec := { name := "fnWayBoth", vars := ["loop.example/hawser/impl.packetLows", "loop.example/hawser/impl.packetHighs"], fn := fun _ => fun
  | [d, g1, g2] => { results := [.lit (.bool true)], args := [d], vars := [g1, g2] }
  | _ => none }
def fnWayBothRow : OpenClaim := { program := "ytbgpclicflafaaadoor", sum := "f894a32b6be2a8e4fb8596597e31967dd367118b7e1fee744db33f0f9c53cd8b", func := "loop.example/hawser/laws.FnWayBoth", spec := "fnWayBoth", unfollowed := true, recurses := true, named := ["loop.example/hawser/impl.packetLows", "loop.example/hawser/impl.packetHighs"], apart := false, laid := [("loop.example/hawser/impl.packetLows", laid_loop_example_hawser_impl_packetLows), ("loop.example/hawser/impl.packetHighs", laid_loop_example_hawser_impl_packetHighs)] }
def FnWayBothSaid : Prop := fnWayBothRow.holds Tryd.pinned (OpenSpec.ofChange fnWayBothSpec)

/-- ITS FALSE NEIGHBOUR: 'it returns false'. Refute it at one input. -/
def fnWayBothWrong : ChangeSpec := { name := "fnWayBoth", vars := ["loop.example/hawser/impl.packetLows", "loop.example/hawser/impl.packetHighs"], fn := fun _ => fun
  | [d, g1, g2] => { results := [.lit (.bool false)], args := [d], vars := [g1, g2] }
  | _ => none }
def FnWayBothWrongFalsely : Prop := fnWayBothRow.holds Tryd.pinned (OpenSpec.ofChange fnWayBothWrong)

/-- 'laws.FnNext': WHATEVER THE INPUT: true; the input reads as it did. -/
def fnNextSpec : ChangeSpec := { name := "fnNext", vars := ["loop.example/hawser/impl.packetLows", "loop.example/hawser/impl.packetHighs"], fn := fun _ => fun
  | [d, g1, g2] => { results := [.lit (.bool true)], args := [d], vars := [g1, g2] }
  | _ => none }
def fnNextRow : OpenClaim := { program := "ytbgpclicflafaaadoor", sum := "f894a32b6be2a8e4fb8596597e31967dd367118b7e1fee744db33f0f9c53cd8b", func := "loop.example/hawser/laws.FnNext", spec := "fnNext", named := ["loop.example/hawser/impl.packetLows", "loop.example/hawser/impl.packetHighs"], apart := false, laid := [("loop.example/hawser/impl.packetLows", laid_loop_example_hawser_impl_packetLows), ("loop.example/hawser/impl.packetHighs", laid_loop_example_hawser_impl_packetHighs)] }
def FnNextSaid : Prop := fnNextRow.holds Tryd.pinned (OpenSpec.ofChange fnNextSpec)

/-- ITS FALSE NEIGHBOUR: 'it returns false'. Refute it at one input. -/
def fnNextWrong : ChangeSpec := { name := "fnNext", vars := ["loop.example/hawser/impl.packetLows", "loop.example/hawser/impl.packetHighs"], fn := fun _ => fun
  | [d, g1, g2] => { results := [.lit (.bool false)], args := [d], vars := [g1, g2] }
  | _ => none }
def FnNextWrongFalsely : Prop := fnNextRow.holds Tryd.pinned (OpenSpec.ofChange fnNextWrong)

/- THE SECOND FORM. 'bulk': how many values and letters a reading holds, each counted each time it is reached (what is shared counts as often as it is met; a slice's spare places count too). A statement '..UptoSaid' is the law's where the arguments, and the package variables that the reading takes, are together of bulk at most 1048576: NARROWER than '..Said'. Prove '..Said' where nothing that the law and all that it calls make is longer than what came in: it says more and counts as full. Else prove '..UptoSaid'. A law counts once. -/
mutual
def uptoBulk {H : Type} : DataW H → Nat
  | .lit (.string bytes) => bytes.length + 1
  | .lit _ => 1
  | .nil => 1
  | .ptr d => uptoBulk d + 1
  | .slice elems spare => uptoBulkAll elems + uptoBulkAll spare + 1
  | .agg parts => uptoBulkAll parts + 1
  | .iface _ d => uptoBulk d + 1
  | .map entries => uptoBulkEntries entries + 1
  | .held _ => 1
def uptoBulkAll {H : Type} : List (DataW H) → Nat
  | [] => 0
  | d :: r => uptoBulk d + uptoBulkAll r
def uptoBulkEntries {H : Type} : List (Lit × DataW H) → Nat
  | [] => 0
  | x :: r => uptoBulkEntry x + uptoBulkEntries r
def uptoBulkEntry {H : Type} : Lit × DataW H → Nat
  | (.string bytes, d) => bytes.length + uptoBulk d + 1
  | (_, d) => uptoBulk d + 1
 end
def uptoSmall : (H : Type) → List (DataW H) → Bool := fun _ ds => decide (uptoBulkAll ds ≤ 1048576)
def OpenSpec.upto (s : _root_.Go.ChangeSpec) : _root_.Go.OpenSpec := { _root_.Go.OpenSpec.ofChange s with cond := some uptoSmall }

/-- 'laws.FnExactChainOk', WHERE WHAT IT READS IS OF BULK AT MOST 1048576: true; the input reads as it did. -/
def fnExactChainOkUptoRow : OpenClaim := { program := "ytbgpclicflafaaadoor", sum := "f894a32b6be2a8e4fb8596597e31967dd367118b7e1fee744db33f0f9c53cd8b", func := "loop.example/hawser/laws.FnExactChainOk", spec := "fnExactChainOk", named := ["loop.example/hawser/impl.packetLows", "loop.example/hawser/impl.packetHighs"], apart := false, laid := [("loop.example/hawser/impl.packetLows", laid_loop_example_hawser_impl_packetLows), ("loop.example/hawser/impl.packetHighs", laid_loop_example_hawser_impl_packetHighs)], narrowed := true }
def FnExactChainOkUptoSaid : Prop := fnExactChainOkUptoRow.holds Tryd.pinned (OpenSpec.upto fnExactChainOkSpec)

/-- 'laws.FnExactChainBlock', WHERE WHAT IT READS IS OF BULK AT MOST 1048576: true; the input reads as it did. -/
def fnExactChainBlockUptoRow : OpenClaim := { program := "ytbgpclicflafaaadoor", sum := "f894a32b6be2a8e4fb8596597e31967dd367118b7e1fee744db33f0f9c53cd8b", func := "loop.example/hawser/laws.FnExactChainBlock", spec := "fnExactChainBlock", named := ["loop.example/hawser/impl.packetLows", "loop.example/hawser/impl.packetHighs"], apart := false, laid := [("loop.example/hawser/impl.packetLows", laid_loop_example_hawser_impl_packetLows), ("loop.example/hawser/impl.packetHighs", laid_loop_example_hawser_impl_packetHighs)], narrowed := true }
def FnExactChainBlockUptoSaid : Prop := fnExactChainBlockUptoRow.holds Tryd.pinned (OpenSpec.upto fnExactChainBlockSpec)

/-- 'laws.FnExactChainSend', WHERE WHAT IT READS IS OF BULK AT MOST 1048576: true; the input reads as it did. -/
def fnExactChainSendUptoRow : OpenClaim := { program := "ytbgpclicflafaaadoor", sum := "f894a32b6be2a8e4fb8596597e31967dd367118b7e1fee744db33f0f9c53cd8b", func := "loop.example/hawser/laws.FnExactChainSend", spec := "fnExactChainSend", unfollowed := true, recurses := true, named := ["loop.example/hawser/impl.packetLows", "loop.example/hawser/impl.packetHighs"], apart := false, laid := [("loop.example/hawser/impl.packetLows", laid_loop_example_hawser_impl_packetLows), ("loop.example/hawser/impl.packetHighs", laid_loop_example_hawser_impl_packetHighs)], narrowed := true }
def FnExactChainSendUptoSaid : Prop := fnExactChainSendUptoRow.holds Tryd.pinned (OpenSpec.upto fnExactChainSendSpec)

/-- 'laws.FnExactChainAt', WHERE WHAT IT READS IS OF BULK AT MOST 1048576: true; the input reads as it did. -/
def fnExactChainAtUptoRow : OpenClaim := { program := "ytbgpclicflafaaadoor", sum := "f894a32b6be2a8e4fb8596597e31967dd367118b7e1fee744db33f0f9c53cd8b", func := "loop.example/hawser/laws.FnExactChainAt", spec := "fnExactChainAt", named := ["loop.example/hawser/impl.packetLows", "loop.example/hawser/impl.packetHighs"], apart := false, laid := [("loop.example/hawser/impl.packetLows", laid_loop_example_hawser_impl_packetLows), ("loop.example/hawser/impl.packetHighs", laid_loop_example_hawser_impl_packetHighs)], narrowed := true }
def FnExactChainAtUptoSaid : Prop := fnExactChainAtUptoRow.holds Tryd.pinned (OpenSpec.upto fnExactChainAtSpec)

/-- 'laws.FnExactChainNext', WHERE WHAT IT READS IS OF BULK AT MOST 1048576: true; the input reads as it did. -/
def fnExactChainNextUptoRow : OpenClaim := { program := "ytbgpclicflafaaadoor", sum := "f894a32b6be2a8e4fb8596597e31967dd367118b7e1fee744db33f0f9c53cd8b", func := "loop.example/hawser/laws.FnExactChainNext", spec := "fnExactChainNext", named := ["loop.example/hawser/impl.packetLows", "loop.example/hawser/impl.packetHighs"], apart := false, laid := [("loop.example/hawser/impl.packetLows", laid_loop_example_hawser_impl_packetLows), ("loop.example/hawser/impl.packetHighs", laid_loop_example_hawser_impl_packetHighs)], narrowed := true }
def FnExactChainNextUptoSaid : Prop := fnExactChainNextUptoRow.holds Tryd.pinned (OpenSpec.upto fnExactChainNextSpec)

/-- 'laws.FnHas', WHERE WHAT IT READS IS OF BULK AT MOST 1048576: true; the input reads as it did. -/
def fnHasUptoRow : OpenClaim := { program := "ytbgpclicflafaaadoor", sum := "f894a32b6be2a8e4fb8596597e31967dd367118b7e1fee744db33f0f9c53cd8b", func := "loop.example/hawser/laws.FnHas", spec := "fnHas", unfollowed := true, recurses := true, named := ["loop.example/hawser/impl.packetLows", "loop.example/hawser/impl.packetHighs"], apart := false, laid := [("loop.example/hawser/impl.packetLows", laid_loop_example_hawser_impl_packetLows), ("loop.example/hawser/impl.packetHighs", laid_loop_example_hawser_impl_packetHighs)], narrowed := true }
def FnHasUptoSaid : Prop := fnHasUptoRow.holds Tryd.pinned (OpenSpec.upto fnHasSpec)

/-- 'laws.FnGot', WHERE WHAT IT READS IS OF BULK AT MOST 1048576: true; the input reads as it did. -/
def fnGotUptoRow : OpenClaim := { program := "ytbgpclicflafaaadoor", sum := "f894a32b6be2a8e4fb8596597e31967dd367118b7e1fee744db33f0f9c53cd8b", func := "loop.example/hawser/laws.FnGot", spec := "fnGot", named := ["loop.example/hawser/impl.packetLows", "loop.example/hawser/impl.packetHighs"], apart := false, laid := [("loop.example/hawser/impl.packetLows", laid_loop_example_hawser_impl_packetLows), ("loop.example/hawser/impl.packetHighs", laid_loop_example_hawser_impl_packetHighs)], narrowed := true }
def FnGotUptoSaid : Prop := fnGotUptoRow.holds Tryd.pinned (OpenSpec.upto fnGotSpec)

/-- 'laws.FnSettled', WHERE WHAT IT READS IS OF BULK AT MOST 1048576: true; the input reads as it did. -/
def fnSettledUptoRow : OpenClaim := { program := "ytbgpclicflafaaadoor", sum := "f894a32b6be2a8e4fb8596597e31967dd367118b7e1fee744db33f0f9c53cd8b", func := "loop.example/hawser/laws.FnSettled", spec := "fnSettled", unfollowed := true, recurses := true, named := ["loop.example/hawser/impl.packetLows", "loop.example/hawser/impl.packetHighs"], apart := false, laid := [("loop.example/hawser/impl.packetLows", laid_loop_example_hawser_impl_packetLows), ("loop.example/hawser/impl.packetHighs", laid_loop_example_hawser_impl_packetHighs)], narrowed := true }
def FnSettledUptoSaid : Prop := fnSettledUptoRow.holds Tryd.pinned (OpenSpec.upto fnSettledSpec)

/-- 'laws.FnStateSeq', WHERE WHAT IT READS IS OF BULK AT MOST 1048576: true; the input reads as it did. -/
def fnStateSeqUptoRow : OpenClaim := { program := "ytbgpclicflafaaadoor", sum := "f894a32b6be2a8e4fb8596597e31967dd367118b7e1fee744db33f0f9c53cd8b", func := "loop.example/hawser/laws.FnStateSeq", spec := "fnStateSeq", unfollowed := true, recurses := true, named := ["loop.example/hawser/impl.packetLows", "loop.example/hawser/impl.packetHighs"], apart := false, laid := [("loop.example/hawser/impl.packetLows", laid_loop_example_hawser_impl_packetLows), ("loop.example/hawser/impl.packetHighs", laid_loop_example_hawser_impl_packetHighs)], narrowed := true }
def FnStateSeqUptoSaid : Prop := fnStateSeqUptoRow.holds Tryd.pinned (OpenSpec.upto fnStateSeqSpec)

/-- 'laws.FnWayBoth', WHERE WHAT IT READS IS OF BULK AT MOST 1048576: true; the input reads as it did. -/
def fnWayBothUptoRow : OpenClaim := { program := "ytbgpclicflafaaadoor", sum := "f894a32b6be2a8e4fb8596597e31967dd367118b7e1fee744db33f0f9c53cd8b", func := "loop.example/hawser/laws.FnWayBoth", spec := "fnWayBoth", unfollowed := true, recurses := true, named := ["loop.example/hawser/impl.packetLows", "loop.example/hawser/impl.packetHighs"], apart := false, laid := [("loop.example/hawser/impl.packetLows", laid_loop_example_hawser_impl_packetLows), ("loop.example/hawser/impl.packetHighs", laid_loop_example_hawser_impl_packetHighs)], narrowed := true }
def FnWayBothUptoSaid : Prop := fnWayBothUptoRow.holds Tryd.pinned (OpenSpec.upto fnWayBothSpec)

/-- 'laws.FnNext', WHERE WHAT IT READS IS OF BULK AT MOST 1048576: true; the input reads as it did. -/
def fnNextUptoRow : OpenClaim := { program := "ytbgpclicflafaaadoor", sum := "f894a32b6be2a8e4fb8596597e31967dd367118b7e1fee744db33f0f9c53cd8b", func := "loop.example/hawser/laws.FnNext", spec := "fnNext", named := ["loop.example/hawser/impl.packetLows", "loop.example/hawser/impl.packetHighs"], apart := false, laid := [("loop.example/hawser/impl.packetLows", laid_loop_example_hawser_impl_packetLows), ("loop.example/hawser/impl.packetHighs", laid_loop_example_hawser_impl_packetHighs)], narrowed := true }
def FnNextUptoSaid : Prop := fnNextUptoRow.holds Tryd.pinned (OpenSpec.upto fnNextSpec)

end Rows
end Go.Proofs.YtbgpclicflafaaaDoor
