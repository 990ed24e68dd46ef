/-
  NARROWER THAN 'FOR EVERY INPUT', by the rows' own cells (each row's printed sentence says how): FnHas: laid · FnGot: laid · FnSettled: laid · FnLive: laid · FnStateForm: laid · FnStateLess: laid · FnStateSeq: laid · FnStateGot2: laid · FnWayOpen: laid · FnWayFresh: laid · FnWayNext: laid · FnWayBoth: laid.
  DERIVED. THE GIVEN ROWS OF THIS SEAT. 12 by the template 'for every input the law returns true; each argument reads behind the call as it read before'; 0 by the template 'total and deterministic' (their statements: YtjcbeihoeanhaaaDoorTotals.lean).
  GIVEN WITH THE SEED: the statements are not yours to turn. If you find one false, say at which input.
  Laid BY PROGRAM, IN A SANDBOX (cutbox-rows.mjs): the forced cells as the released guide's own fill.sh prints them over the translation dc520ec737ea247a… (all of the seat's roots in one cut). By AI agents, Wed Nov 11 2026. No macro, syntax, notation, axiom, sorry.
-/
import Derived.Test.YtjcbeihoeanhaaaDoorChecked
import GoSem.Claim
import GoSem.ClaimJoined
import GoSem.ClaimMapViews
import Derived.JoinedTies
import Derived.KernelRfl
namespace Go.Proofs.YtjcbeihoeanhaaaDoor
/- THE CELL 'sum', in the pinned program and in every row, IS THE sha256 OF THE DUMP (.gsa) THAT YtjcbeihoeanhaaaDoorProg.lean LOADS. Nothing in Lean hashes anything: it is a label: what it is worth is what the hold of that sum in a sandbox is worth. -/
noncomputable def Tryd.pinned : Pinned := { name := "ytjcbeihoeanhaaadoor", sum := "dc520ec737ea247a203933a3ab966f011bd2f4f74ed95d52312611491f7c87f6", checked := Tryd.checked }
namespace Rows
def none {H : Type} : Left H := { results := [], args := [] }

/- WHAT THE LISTED PACKAGE-LEVEL VARIABLES READ AS WHEN THE CALL BEGINS. Each datum BY PROGRAM (the guide's laid-datum.mjs) off the statement by which the dump's own 'gosem.cut.vars' lays the variable. In a bare row this is a premise. The card (YtjcbeihoeanhaaaDoorCards.lean) ties it to the program's text. -/
def laid_loop_example_hawser_impl_packetLows {H : Type} : DataW H := .agg [.lit (.int .i64 1), .lit (.int .i64 1), .lit (.int .i64 1), .lit (.int .i64 0), .lit (.int .i64 1), .lit (.int .i64 1), .lit (.int .i64 1)]
def laid_loop_example_hawser_impl_packetHighs {H : Type} : DataW H := .agg [.lit (.int .i64 8), .lit (.int .i64 2), .lit (.int .i64 3), .lit (.int .i64 3), .lit (.int .i64 9), .lit (.int .i64 90), .lit (.int .i64 9)]

/-- 'laws.FnHas': WHATEVER THE INPUT: true; the input reads as it did. -/
def fnHasSpec : ChangeSpec := { name := "fnHas", vars := ["loop.example/hawser/impl.packetLows", "loop.example/hawser/impl.packetHighs"], fn := fun _ => fun
  | [d1, d2, g1, g2] => { results := [.lit (.bool true)], args := [d1, d2], vars := [g1, g2] }
  | _ => none }
def fnHasRow : OpenClaim := { program := "ytjcbeihoeanhaaadoor", sum := "dc520ec737ea247a203933a3ab966f011bd2f4f74ed95d52312611491f7c87f6", func := "loop.example/hawser/laws.FnHas", spec := "fnHas", unfollowed := true, recurses := true, named := ["loop.example/hawser/impl.packetLows", "loop.example/hawser/impl.packetHighs"], apart := false, laid := [("loop.example/hawser/impl.packetLows", laid_loop_example_hawser_impl_packetLows), ("loop.example/hawser/impl.packetHighs", laid_loop_example_hawser_impl_packetHighs)] }
def FnHasSaid : Prop := fnHasRow.holds Tryd.pinned (OpenSpec.ofChange fnHasSpec)

/-- ITS FALSE NEIGHBOUR: 'it returns false'. Refute it at one input. -/
def fnHasWrong : ChangeSpec := { name := "fnHas", vars := ["loop.example/hawser/impl.packetLows", "loop.example/hawser/impl.packetHighs"], fn := fun _ => fun
  | [d1, d2, g1, g2] => { results := [.lit (.bool false)], args := [d1, d2], vars := [g1, g2] }
  | _ => none }
def FnHasWrongFalsely : Prop := fnHasRow.holds Tryd.pinned (OpenSpec.ofChange fnHasWrong)

/-- 'laws.FnGot': WHATEVER THE INPUT: true; the input reads as it did. -/
def fnGotSpec : ChangeSpec := { name := "fnGot", vars := ["loop.example/hawser/impl.packetLows", "loop.example/hawser/impl.packetHighs"], fn := fun _ => fun
  | [d, g1, g2] => { results := [.lit (.bool true)], args := [d], vars := [g1, g2] }
  | _ => none }
def fnGotRow : OpenClaim := { program := "ytjcbeihoeanhaaadoor", sum := "dc520ec737ea247a203933a3ab966f011bd2f4f74ed95d52312611491f7c87f6", func := "loop.example/hawser/laws.FnGot", spec := "fnGot", named := ["loop.example/hawser/impl.packetLows", "loop.example/hawser/impl.packetHighs"], apart := false, laid := [("loop.example/hawser/impl.packetLows", laid_loop_example_hawser_impl_packetLows), ("loop.example/hawser/impl.packetHighs", laid_loop_example_hawser_impl_packetHighs)] }
def FnGotSaid : Prop := fnGotRow.holds Tryd.pinned (OpenSpec.ofChange fnGotSpec)

/-- ITS FALSE NEIGHBOUR: 'it returns false'. Refute it at one input. -/
def fnGotWrong : ChangeSpec := { name := "fnGot", vars := ["loop.example/hawser/impl.packetLows", "loop.example/hawser/impl.packetHighs"], fn := fun _ => fun
  | [d, g1, g2] => { results := [.lit (.bool false)], args := [d], vars := [g1, g2] }
  | _ => none }
def FnGotWrongFalsely : Prop := fnGotRow.holds Tryd.pinned (OpenSpec.ofChange fnGotWrong)

/-- 'laws.FnSettled': WHATEVER THE INPUT: true; the input reads as it did. -/
def fnSettledSpec : ChangeSpec := { name := "fnSettled", vars := ["loop.example/hawser/impl.packetLows", "loop.example/hawser/impl.packetHighs"], fn := fun _ => fun
  | [d, g1, g2] => { results := [.lit (.bool true)], args := [d], vars := [g1, g2] }
  | _ => none }
def fnSettledRow : OpenClaim := { program := "ytjcbeihoeanhaaadoor", sum := "dc520ec737ea247a203933a3ab966f011bd2f4f74ed95d52312611491f7c87f6", func := "loop.example/hawser/laws.FnSettled", spec := "fnSettled", unfollowed := true, recurses := true, named := ["loop.example/hawser/impl.packetLows", "loop.example/hawser/impl.packetHighs"], apart := false, laid := [("loop.example/hawser/impl.packetLows", laid_loop_example_hawser_impl_packetLows), ("loop.example/hawser/impl.packetHighs", laid_loop_example_hawser_impl_packetHighs)] }
def FnSettledSaid : Prop := fnSettledRow.holds Tryd.pinned (OpenSpec.ofChange fnSettledSpec)

/-- ITS FALSE NEIGHBOUR: 'it returns false'. Refute it at one input. -/
def fnSettledWrong : ChangeSpec := { name := "fnSettled", vars := ["loop.example/hawser/impl.packetLows", "loop.example/hawser/impl.packetHighs"], fn := fun _ => fun
  | [d, g1, g2] => { results := [.lit (.bool false)], args := [d], vars := [g1, g2] }
  | _ => none }
def FnSettledWrongFalsely : Prop := fnSettledRow.holds Tryd.pinned (OpenSpec.ofChange fnSettledWrong)

/-- 'laws.FnLive': WHATEVER THE INPUT: true; the input reads as it did. -/
def fnLiveSpec : ChangeSpec := { name := "fnLive", vars := ["loop.example/hawser/impl.packetLows", "loop.example/hawser/impl.packetHighs"], fn := fun _ => fun
  | [d, g1, g2] => { results := [.lit (.bool true)], args := [d], vars := [g1, g2] }
  | _ => none }
def fnLiveRow : OpenClaim := { program := "ytjcbeihoeanhaaadoor", sum := "dc520ec737ea247a203933a3ab966f011bd2f4f74ed95d52312611491f7c87f6", func := "loop.example/hawser/laws.FnLive", spec := "fnLive", unfollowed := true, recurses := true, named := ["loop.example/hawser/impl.packetLows", "loop.example/hawser/impl.packetHighs"], apart := false, laid := [("loop.example/hawser/impl.packetLows", laid_loop_example_hawser_impl_packetLows), ("loop.example/hawser/impl.packetHighs", laid_loop_example_hawser_impl_packetHighs)] }
def FnLiveSaid : Prop := fnLiveRow.holds Tryd.pinned (OpenSpec.ofChange fnLiveSpec)

/-- ITS FALSE NEIGHBOUR: 'it returns false'. Refute it at one input. -/
def fnLiveWrong : ChangeSpec := { name := "fnLive", vars := ["loop.example/hawser/impl.packetLows", "loop.example/hawser/impl.packetHighs"], fn := fun _ => fun
  | [d, g1, g2] => { results := [.lit (.bool false)], args := [d], vars := [g1, g2] }
  | _ => none }
def FnLiveWrongFalsely : Prop := fnLiveRow.holds Tryd.pinned (OpenSpec.ofChange fnLiveWrong)

/-- 'laws.FnStateForm': WHATEVER THE INPUT: true; the input reads as it did. -/
def fnStateFormSpec : ChangeSpec := { name := "fnStateForm", vars := ["loop.example/hawser/impl.packetLows", "loop.example/hawser/impl.packetHighs"], fn := fun _ => fun
  | [d, g1, g2] => { results := [.lit (.bool true)], args := [d], vars := [g1, g2] }
  | _ => none }
def fnStateFormRow : OpenClaim := { program := "ytjcbeihoeanhaaadoor", sum := "dc520ec737ea247a203933a3ab966f011bd2f4f74ed95d52312611491f7c87f6", func := "loop.example/hawser/laws.FnStateForm", spec := "fnStateForm", named := ["loop.example/hawser/impl.packetLows", "loop.example/hawser/impl.packetHighs"], apart := false, laid := [("loop.example/hawser/impl.packetLows", laid_loop_example_hawser_impl_packetLows), ("loop.example/hawser/impl.packetHighs", laid_loop_example_hawser_impl_packetHighs)] }
def FnStateFormSaid : Prop := fnStateFormRow.holds Tryd.pinned (OpenSpec.ofChange fnStateFormSpec)

/-- ITS FALSE NEIGHBOUR: 'it returns false'. Refute it at one input. -/
def fnStateFormWrong : ChangeSpec := { name := "fnStateForm", vars := ["loop.example/hawser/impl.packetLows", "loop.example/hawser/impl.packetHighs"], fn := fun _ => fun
  | [d, g1, g2] => { results := [.lit (.bool false)], args := [d], vars := [g1, g2] }
  | _ => none }
def FnStateFormWrongFalsely : Prop := fnStateFormRow.holds Tryd.pinned (OpenSpec.ofChange fnStateFormWrong)

/-- 'laws.FnStateLess': WHATEVER THE INPUT: true; the input reads as it did. -/
def fnStateLessSpec : ChangeSpec := { name := "fnStateLess", vars := ["loop.example/hawser/impl.packetLows", "loop.example/hawser/impl.packetHighs"], fn := fun _ => fun
  | [d, g1, g2] => { results := [.lit (.bool true)], args := [d], vars := [g1, g2] }
  | _ => none }
def fnStateLessRow : OpenClaim := { program := "ytjcbeihoeanhaaadoor", sum := "dc520ec737ea247a203933a3ab966f011bd2f4f74ed95d52312611491f7c87f6", func := "loop.example/hawser/laws.FnStateLess", spec := "fnStateLess", named := ["loop.example/hawser/impl.packetLows", "loop.example/hawser/impl.packetHighs"], apart := false, laid := [("loop.example/hawser/impl.packetLows", laid_loop_example_hawser_impl_packetLows), ("loop.example/hawser/impl.packetHighs", laid_loop_example_hawser_impl_packetHighs)] }
def FnStateLessSaid : Prop := fnStateLessRow.holds Tryd.pinned (OpenSpec.ofChange fnStateLessSpec)

/-- ITS FALSE NEIGHBOUR: 'it returns false'. Refute it at one input. -/
def fnStateLessWrong : ChangeSpec := { name := "fnStateLess", vars := ["loop.example/hawser/impl.packetLows", "loop.example/hawser/impl.packetHighs"], fn := fun _ => fun
  | [d, g1, g2] => { results := [.lit (.bool false)], args := [d], vars := [g1, g2] }
  | _ => none }
def FnStateLessWrongFalsely : Prop := fnStateLessRow.holds Tryd.pinned (OpenSpec.ofChange fnStateLessWrong)

/-- 'laws.FnStateSeq': WHATEVER THE INPUT: true; the input reads as it did. -/
def fnStateSeqSpec : ChangeSpec := { name := "fnStateSeq", vars := ["loop.example/hawser/impl.packetLows", "loop.example/hawser/impl.packetHighs"], fn := fun _ => fun
  | [d1, d2, g1, g2] => { results := [.lit (.bool true)], args := [d1, d2], vars := [g1, g2] }
  | _ => none }
def fnStateSeqRow : OpenClaim := { program := "ytjcbeihoeanhaaadoor", sum := "dc520ec737ea247a203933a3ab966f011bd2f4f74ed95d52312611491f7c87f6", func := "loop.example/hawser/laws.FnStateSeq", spec := "fnStateSeq", unfollowed := true, recurses := true, named := ["loop.example/hawser/impl.packetLows", "loop.example/hawser/impl.packetHighs"], apart := false, laid := [("loop.example/hawser/impl.packetLows", laid_loop_example_hawser_impl_packetLows), ("loop.example/hawser/impl.packetHighs", laid_loop_example_hawser_impl_packetHighs)] }
def FnStateSeqSaid : Prop := fnStateSeqRow.holds Tryd.pinned (OpenSpec.ofChange fnStateSeqSpec)

/-- ITS FALSE NEIGHBOUR: 'it returns false'. Refute it at one input. -/
def fnStateSeqWrong : ChangeSpec := { name := "fnStateSeq", vars := ["loop.example/hawser/impl.packetLows", "loop.example/hawser/impl.packetHighs"], fn := fun _ => fun
  | [d1, d2, g1, g2] => { results := [.lit (.bool false)], args := [d1, d2], vars := [g1, g2] }
  | _ => none }
def FnStateSeqWrongFalsely : Prop := fnStateSeqRow.holds Tryd.pinned (OpenSpec.ofChange fnStateSeqWrong)

/-- 'laws.FnStateGot2': WHATEVER THE INPUT: true; the input reads as it did. -/
def fnStateGot2Spec : ChangeSpec := { name := "fnStateGot2", vars := ["loop.example/hawser/impl.packetLows", "loop.example/hawser/impl.packetHighs"], fn := fun _ => fun
  | [d1, d2, g1, g2] => { results := [.lit (.bool true)], args := [d1, d2], vars := [g1, g2] }
  | _ => none }
def fnStateGot2Row : OpenClaim := { program := "ytjcbeihoeanhaaadoor", sum := "dc520ec737ea247a203933a3ab966f011bd2f4f74ed95d52312611491f7c87f6", func := "loop.example/hawser/laws.FnStateGot2", spec := "fnStateGot2", named := ["loop.example/hawser/impl.packetLows", "loop.example/hawser/impl.packetHighs"], apart := false, laid := [("loop.example/hawser/impl.packetLows", laid_loop_example_hawser_impl_packetLows), ("loop.example/hawser/impl.packetHighs", laid_loop_example_hawser_impl_packetHighs)] }
def FnStateGot2Said : Prop := fnStateGot2Row.holds Tryd.pinned (OpenSpec.ofChange fnStateGot2Spec)

/-- ITS FALSE NEIGHBOUR: 'it returns false'. Refute it at one input. -/
def fnStateGot2Wrong : ChangeSpec := { name := "fnStateGot2", vars := ["loop.example/hawser/impl.packetLows", "loop.example/hawser/impl.packetHighs"], fn := fun _ => fun
  | [d1, d2, g1, g2] => { results := [.lit (.bool false)], args := [d1, d2], vars := [g1, g2] }
  | _ => none }
def FnStateGot2WrongFalsely : Prop := fnStateGot2Row.holds Tryd.pinned (OpenSpec.ofChange fnStateGot2Wrong)

/-- 'laws.FnWayOpen': WHATEVER THE INPUT: true; the input reads as it did. -/
def fnWayOpenSpec : ChangeSpec := { name := "fnWayOpen", vars := ["loop.example/hawser/impl.packetLows", "loop.example/hawser/impl.packetHighs"], fn := fun _ => fun
  | [d, g1, g2] => { results := [.lit (.bool true)], args := [d], vars := [g1, g2] }
  | _ => none }
def fnWayOpenRow : OpenClaim := { program := "ytjcbeihoeanhaaadoor", sum := "dc520ec737ea247a203933a3ab966f011bd2f4f74ed95d52312611491f7c87f6", func := "loop.example/hawser/laws.FnWayOpen", spec := "fnWayOpen", unfollowed := true, recurses := true, named := ["loop.example/hawser/impl.packetLows", "loop.example/hawser/impl.packetHighs"], apart := false, laid := [("loop.example/hawser/impl.packetLows", laid_loop_example_hawser_impl_packetLows), ("loop.example/hawser/impl.packetHighs", laid_loop_example_hawser_impl_packetHighs)] }
def FnWayOpenSaid : Prop := fnWayOpenRow.holds Tryd.pinned (OpenSpec.ofChange fnWayOpenSpec)

/-- ITS FALSE NEIGHBOUR: 'it returns false'. Refute it at one input. -/
def fnWayOpenWrong : ChangeSpec := { name := "fnWayOpen", vars := ["loop.example/hawser/impl.packetLows", "loop.example/hawser/impl.packetHighs"], fn := fun _ => fun
  | [d, g1, g2] => { results := [.lit (.bool false)], args := [d], vars := [g1, g2] }
  | _ => none }
def FnWayOpenWrongFalsely : Prop := fnWayOpenRow.holds Tryd.pinned (OpenSpec.ofChange fnWayOpenWrong)

/-- 'laws.FnWayFresh': WHATEVER THE INPUT: true; the input reads as it did. -/
def fnWayFreshSpec : ChangeSpec := { name := "fnWayFresh", vars := ["loop.example/hawser/impl.packetLows", "loop.example/hawser/impl.packetHighs"], fn := fun _ => fun
  | [d, g1, g2] => { results := [.lit (.bool true)], args := [d], vars := [g1, g2] }
  | _ => none }
def fnWayFreshRow : OpenClaim := { program := "ytjcbeihoeanhaaadoor", sum := "dc520ec737ea247a203933a3ab966f011bd2f4f74ed95d52312611491f7c87f6", func := "loop.example/hawser/laws.FnWayFresh", spec := "fnWayFresh", unfollowed := true, recurses := true, named := ["loop.example/hawser/impl.packetLows", "loop.example/hawser/impl.packetHighs"], apart := false, laid := [("loop.example/hawser/impl.packetLows", laid_loop_example_hawser_impl_packetLows), ("loop.example/hawser/impl.packetHighs", laid_loop_example_hawser_impl_packetHighs)] }
def FnWayFreshSaid : Prop := fnWayFreshRow.holds Tryd.pinned (OpenSpec.ofChange fnWayFreshSpec)

/-- ITS FALSE NEIGHBOUR: 'it returns false'. Refute it at one input. -/
def fnWayFreshWrong : ChangeSpec := { name := "fnWayFresh", vars := ["loop.example/hawser/impl.packetLows", "loop.example/hawser/impl.packetHighs"], fn := fun _ => fun
  | [d, g1, g2] => { results := [.lit (.bool false)], args := [d], vars := [g1, g2] }
  | _ => none }
def FnWayFreshWrongFalsely : Prop := fnWayFreshRow.holds Tryd.pinned (OpenSpec.ofChange fnWayFreshWrong)

/-- 'laws.FnWayNext': WHATEVER THE INPUT: true; the input reads as it did. -/
def fnWayNextSpec : ChangeSpec := { name := "fnWayNext", vars := ["loop.example/hawser/impl.packetLows", "loop.example/hawser/impl.packetHighs"], fn := fun _ => fun
  | [d, g1, g2] => { results := [.lit (.bool true)], args := [d], vars := [g1, g2] }
  | _ => none }
def fnWayNextRow : OpenClaim := { program := "ytjcbeihoeanhaaadoor", sum := "dc520ec737ea247a203933a3ab966f011bd2f4f74ed95d52312611491f7c87f6", func := "loop.example/hawser/laws.FnWayNext", spec := "fnWayNext", unfollowed := true, recurses := true, named := ["loop.example/hawser/impl.packetLows", "loop.example/hawser/impl.packetHighs"], apart := false, laid := [("loop.example/hawser/impl.packetLows", laid_loop_example_hawser_impl_packetLows), ("loop.example/hawser/impl.packetHighs", laid_loop_example_hawser_impl_packetHighs)] }
def FnWayNextSaid : Prop := fnWayNextRow.holds Tryd.pinned (OpenSpec.ofChange fnWayNextSpec)

/-- ITS FALSE NEIGHBOUR: 'it returns false'. Refute it at one input. -/
def fnWayNextWrong : ChangeSpec := { name := "fnWayNext", vars := ["loop.example/hawser/impl.packetLows", "loop.example/hawser/impl.packetHighs"], fn := fun _ => fun
  | [d, g1, g2] => { results := [.lit (.bool false)], args := [d], vars := [g1, g2] }
  | _ => none }
def FnWayNextWrongFalsely : Prop := fnWayNextRow.holds Tryd.pinned (OpenSpec.ofChange fnWayNextWrong)

/-- 'laws.FnWayBoth': WHATEVER THE INPUT: true; the input reads as it did. -/
def fnWayBothSpec : ChangeSpec := { name := "fnWayBoth", vars := ["loop.example/hawser/impl.packetLows", "loop.example/hawser/impl.packetHighs"], fn := fun _ => fun
  | [d, g1, g2] => { results := [.lit (.bool true)], args := [d], vars := [g1, g2] }
  | _ => none }
def fnWayBothRow : OpenClaim := { program := "ytjcbeihoeanhaaadoor", sum := "dc520ec737ea247a203933a3ab966f011bd2f4f74ed95d52312611491f7c87f6", func := "loop.example/hawser/laws.FnWayBoth", spec := "fnWayBoth", unfollowed := true, recurses := true, named := ["loop.example/hawser/impl.packetLows", "loop.example/hawser/impl.packetHighs"], apart := false, laid := [("loop.example/hawser/impl.packetLows", laid_loop_example_hawser_impl_packetLows), ("loop.example/hawser/impl.packetHighs", laid_loop_example_hawser_impl_packetHighs)] }
def FnWayBothSaid : Prop := fnWayBothRow.holds Tryd.pinned (OpenSpec.ofChange fnWayBothSpec)

/-- ITS FALSE NEIGHBOUR: 'it returns false'. Refute it at one input. -/
def fnWayBothWrong : ChangeSpec := { name := "fnWayBoth", vars := ["loop.example/hawser/impl.packetLows", "loop.example/hawser/impl.packetHighs"], fn := fun _ => fun
  | [d, g1, g2] => { results := [.lit (.bool false)], args := [d], vars := [g1, g2] }
  | _ => none }
def FnWayBothWrongFalsely : Prop := fnWayBothRow.holds Tryd.pinned (OpenSpec.ofChange fnWayBothWrong)

/- THE SECOND FORM. 'bulk': how many values and letters a reading holds, each counted each time it is reached (what is shared counts as often as it is met; a slice's spare places count too). A statement '..UptoSaid' is the law's where the arguments, and the package variables that the reading takes, are together of bulk at most 1048576: NARROWER than '..Said'. Prove '..Said' where nothing that the law and all that it calls make is longer than what came in: it says more and counts as full. Else prove '..UptoSaid'. A law counts once. -/
mutual
def uptoBulk {H : Type} : DataW H → Nat
  | .lit (.string bytes) => bytes.length + 1
  | .lit _ => 1
  | .nil => 1
  | .ptr d => uptoBulk d + 1
  | .slice elems spare => uptoBulkAll elems + uptoBulkAll spare + 1
  | .agg parts => uptoBulkAll parts + 1
  | .iface _ d => uptoBulk d + 1
  | .map entries => uptoBulkEntries entries + 1
  | .held _ => 1
def uptoBulkAll {H : Type} : List (DataW H) → Nat
  | [] => 0
  | d :: r => uptoBulk d + uptoBulkAll r
def uptoBulkEntries {H : Type} : List (Lit × DataW H) → Nat
  | [] => 0
  | x :: r => uptoBulkEntry x + uptoBulkEntries r
def uptoBulkEntry {H : Type} : Lit × DataW H → Nat
  | (.string bytes, d) => bytes.length + uptoBulk d + 1
  | (_, d) => uptoBulk d + 1
 end
def uptoSmall : (H : Type) → List (DataW H) → Bool := fun _ ds => decide (uptoBulkAll ds ≤ 1048576)
def OpenSpec.upto (s : _root_.Go.ChangeSpec) : _root_.Go.OpenSpec := { _root_.Go.OpenSpec.ofChange s with cond := some uptoSmall }

/-- 'laws.FnHas', WHERE WHAT IT READS IS OF BULK AT MOST 1048576: true; the input reads as it did. -/
def fnHasUptoRow : OpenClaim := { program := "ytjcbeihoeanhaaadoor", sum := "dc520ec737ea247a203933a3ab966f011bd2f4f74ed95d52312611491f7c87f6", func := "loop.example/hawser/laws.FnHas", spec := "fnHas", unfollowed := true, recurses := true, named := ["loop.example/hawser/impl.packetLows", "loop.example/hawser/impl.packetHighs"], apart := false, laid := [("loop.example/hawser/impl.packetLows", laid_loop_example_hawser_impl_packetLows), ("loop.example/hawser/impl.packetHighs", laid_loop_example_hawser_impl_packetHighs)], narrowed := true }
def FnHasUptoSaid : Prop := fnHasUptoRow.holds Tryd.pinned (OpenSpec.upto fnHasSpec)

/-- 'laws.FnGot', WHERE WHAT IT READS IS OF BULK AT MOST 1048576: true; the input reads as it did. -/
def fnGotUptoRow : OpenClaim := { program := "ytjcbeihoeanhaaadoor", sum := "dc520ec737ea247a203933a3ab966f011bd2f4f74ed95d52312611491f7c87f6", func := "loop.example/hawser/laws.FnGot", spec := "fnGot", named := ["loop.example/hawser/impl.packetLows", "loop.example/hawser/impl.packetHighs"], apart := false, laid := [("loop.example/hawser/impl.packetLows", laid_loop_example_hawser_impl_packetLows), ("loop.example/hawser/impl.packetHighs", laid_loop_example_hawser_impl_packetHighs)], narrowed := true }
def FnGotUptoSaid : Prop := fnGotUptoRow.holds Tryd.pinned (OpenSpec.upto fnGotSpec)

/-- 'laws.FnSettled', WHERE WHAT IT READS IS OF BULK AT MOST 1048576: true; the input reads as it did. -/
def fnSettledUptoRow : OpenClaim := { program := "ytjcbeihoeanhaaadoor", sum := "dc520ec737ea247a203933a3ab966f011bd2f4f74ed95d52312611491f7c87f6", func := "loop.example/hawser/laws.FnSettled", spec := "fnSettled", unfollowed := true, recurses := true, named := ["loop.example/hawser/impl.packetLows", "loop.example/hawser/impl.packetHighs"], apart := false, laid := [("loop.example/hawser/impl.packetLows", laid_loop_example_hawser_impl_packetLows), ("loop.example/hawser/impl.packetHighs", laid_loop_example_hawser_impl_packetHighs)], narrowed := true }
def FnSettledUptoSaid : Prop := fnSettledUptoRow.holds Tryd.pinned (OpenSpec.upto fnSettledSpec)

/-- 'laws.FnLive', WHERE WHAT IT READS IS OF BULK AT MOST 1048576: true; the input reads as it did. -/
def fnLiveUptoRow : OpenClaim := { program := "ytjcbeihoeanhaaadoor", sum := "dc520ec737ea247a203933a3ab966f011bd2f4f74ed95d52312611491f7c87f6", func := "loop.example/hawser/laws.FnLive", spec := "fnLive", unfollowed := true, recurses := true, named := ["loop.example/hawser/impl.packetLows", "loop.example/hawser/impl.packetHighs"], apart := false, laid := [("loop.example/hawser/impl.packetLows", laid_loop_example_hawser_impl_packetLows), ("loop.example/hawser/impl.packetHighs", laid_loop_example_hawser_impl_packetHighs)], narrowed := true }
def FnLiveUptoSaid : Prop := fnLiveUptoRow.holds Tryd.pinned (OpenSpec.upto fnLiveSpec)

/-- 'laws.FnStateForm', WHERE WHAT IT READS IS OF BULK AT MOST 1048576: true; the input reads as it did. -/
def fnStateFormUptoRow : OpenClaim := { program := "ytjcbeihoeanhaaadoor", sum := "dc520ec737ea247a203933a3ab966f011bd2f4f74ed95d52312611491f7c87f6", func := "loop.example/hawser/laws.FnStateForm", spec := "fnStateForm", named := ["loop.example/hawser/impl.packetLows", "loop.example/hawser/impl.packetHighs"], apart := false, laid := [("loop.example/hawser/impl.packetLows", laid_loop_example_hawser_impl_packetLows), ("loop.example/hawser/impl.packetHighs", laid_loop_example_hawser_impl_packetHighs)], narrowed := true }
def FnStateFormUptoSaid : Prop := fnStateFormUptoRow.holds Tryd.pinned (OpenSpec.upto fnStateFormSpec)

/-- 'laws.FnStateLess', WHERE WHAT IT READS IS OF BULK AT MOST 1048576: true; the input reads as it did. -/
def fnStateLessUptoRow : OpenClaim := { program := "ytjcbeihoeanhaaadoor", sum := "dc520ec737ea247a203933a3ab966f011bd2f4f74ed95d52312611491f7c87f6", func := "loop.example/hawser/laws.FnStateLess", spec := "fnStateLess", named := ["loop.example/hawser/impl.packetLows", "loop.example/hawser/impl.packetHighs"], apart := false, laid := [("loop.example/hawser/impl.packetLows", laid_loop_example_hawser_impl_packetLows), ("loop.example/hawser/impl.packetHighs", laid_loop_example_hawser_impl_packetHighs)], narrowed := true }
def FnStateLessUptoSaid : Prop := fnStateLessUptoRow.holds Tryd.pinned (OpenSpec.upto fnStateLessSpec)

/-- 'laws.FnStateSeq', WHERE WHAT IT READS IS OF BULK AT MOST 1048576: true; the input reads as it did. -/
def fnStateSeqUptoRow : OpenClaim := { program := "ytjcbeihoeanhaaadoor", sum := "dc520ec737ea247a203933a3ab966f011bd2f4f74ed95d52312611491f7c87f6", func := "loop.example/hawser/laws.FnStateSeq", spec := "fnStateSeq", unfollowed := true, recurses := true, named := ["loop.example/hawser/impl.packetLows", "loop.example/hawser/impl.packetHighs"], apart := false, laid := [("loop.example/hawser/impl.packetLows", laid_loop_example_hawser_impl_packetLows), ("loop.example/hawser/impl.packetHighs", laid_loop_example_hawser_impl_packetHighs)], narrowed := true }
def FnStateSeqUptoSaid : Prop := fnStateSeqUptoRow.holds Tryd.pinned (OpenSpec.upto fnStateSeqSpec)

/-- 'laws.FnStateGot2', WHERE WHAT IT READS IS OF BULK AT MOST 1048576: true; the input reads as it did. -/
def fnStateGot2UptoRow : OpenClaim := { program := "ytjcbeihoeanhaaadoor", sum := "dc520ec737ea247a203933a3ab966f011bd2f4f74ed95d52312611491f7c87f6", func := "loop.example/hawser/laws.FnStateGot2", spec := "fnStateGot2", named := ["loop.example/hawser/impl.packetLows", "loop.example/hawser/impl.packetHighs"], apart := false, laid := [("loop.example/hawser/impl.packetLows", laid_loop_example_hawser_impl_packetLows), ("loop.example/hawser/impl.packetHighs", laid_loop_example_hawser_impl_packetHighs)], narrowed := true }
def FnStateGot2UptoSaid : Prop := fnStateGot2UptoRow.holds Tryd.pinned (OpenSpec.upto fnStateGot2Spec)

/-- 'laws.FnWayOpen', WHERE WHAT IT READS IS OF BULK AT MOST 1048576: true; the input reads as it did. -/
def fnWayOpenUptoRow : OpenClaim := { program := "ytjcbeihoeanhaaadoor", sum := "dc520ec737ea247a203933a3ab966f011bd2f4f74ed95d52312611491f7c87f6", func := "loop.example/hawser/laws.FnWayOpen", spec := "fnWayOpen", unfollowed := true, recurses := true, named := ["loop.example/hawser/impl.packetLows", "loop.example/hawser/impl.packetHighs"], apart := false, laid := [("loop.example/hawser/impl.packetLows", laid_loop_example_hawser_impl_packetLows), ("loop.example/hawser/impl.packetHighs", laid_loop_example_hawser_impl_packetHighs)], narrowed := true }
def FnWayOpenUptoSaid : Prop := fnWayOpenUptoRow.holds Tryd.pinned (OpenSpec.upto fnWayOpenSpec)

/-- 'laws.FnWayFresh', WHERE WHAT IT READS IS OF BULK AT MOST 1048576: true; the input reads as it did. -/
def fnWayFreshUptoRow : OpenClaim := { program := "ytjcbeihoeanhaaadoor", sum := "dc520ec737ea247a203933a3ab966f011bd2f4f74ed95d52312611491f7c87f6", func := "loop.example/hawser/laws.FnWayFresh", spec := "fnWayFresh", unfollowed := true, recurses := true, named := ["loop.example/hawser/impl.packetLows", "loop.example/hawser/impl.packetHighs"], apart := false, laid := [("loop.example/hawser/impl.packetLows", laid_loop_example_hawser_impl_packetLows), ("loop.example/hawser/impl.packetHighs", laid_loop_example_hawser_impl_packetHighs)], narrowed := true }
def FnWayFreshUptoSaid : Prop := fnWayFreshUptoRow.holds Tryd.pinned (OpenSpec.upto fnWayFreshSpec)

/-- 'laws.FnWayNext', WHERE WHAT IT READS IS OF BULK AT MOST 1048576: true; the input reads as it did. -/
def fnWayNextUptoRow : OpenClaim := { program := "ytjcbeihoeanhaaadoor", sum := "dc520ec737ea247a203933a3ab966f011bd2f4f74ed95d52312611491f7c87f6", func := "loop.example/hawser/laws.FnWayNext", spec := "fnWayNext", unfollowed := true, recurses := true, named := ["loop.example/hawser/impl.packetLows", "loop.example/hawser/impl.packetHighs"], apart := false, laid := [("loop.example/hawser/impl.packetLows", laid_loop_example_hawser_impl_packetLows), ("loop.example/hawser/impl.packetHighs", laid_loop_example_hawser_impl_packetHighs)], narrowed := true }
def FnWayNextUptoSaid : Prop := fnWayNextUptoRow.holds Tryd.pinned (OpenSpec.upto fnWayNextSpec)

/-- 'laws.FnWayBoth', WHERE WHAT IT READS IS OF BULK AT MOST 1048576: true; the input reads as it did. -/
def fnWayBothUptoRow : OpenClaim := { program := "ytjcbeihoeanhaaadoor", sum := "dc520ec737ea247a203933a3ab966f011bd2f4f74ed95d52312611491f7c87f6", func := "loop.example/hawser/laws.FnWayBoth", spec := "fnWayBoth", unfollowed := true, recurses := true, named := ["loop.example/hawser/impl.packetLows", "loop.example/hawser/impl.packetHighs"], apart := false, laid := [("loop.example/hawser/impl.packetLows", laid_loop_example_hawser_impl_packetLows), ("loop.example/hawser/impl.packetHighs", laid_loop_example_hawser_impl_packetHighs)], narrowed := true }
def FnWayBothUptoSaid : Prop := fnWayBothUptoRow.holds Tryd.pinned (OpenSpec.upto fnWayBothSpec)

end Rows
end Go.Proofs.YtjcbeihoeanhaaaDoor
