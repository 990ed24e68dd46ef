/-
  NARROWER THAN 'FOR EVERY INPUT', by the rows' own cells (each row's printed sentence says how): FnExactStateOk: laid · FnExactStateHas: laid · FnExactStateGot: laid · FnExactStateSettled: laid · FnExactStateLive: laid · FnHas: laid · FnGot: laid · FnSettled: laid.
  DERIVED. THE GIVEN ROWS OF THIS SEAT. 8 by the template 'for every input the law returns true; each argument reads behind the call as it read before'; 0 by the template 'total and deterministic' (their statements: YtedmkbiamjpdaaaDoorTotals.lean).
  GIVEN WITH THE SEED: the statements are not yours to turn. If you find one false, say at which input.
  Laid BY PROGRAM, IN A SANDBOX (cutbox-rows.mjs): the forced cells as the released guide's own fill.sh prints them over the translation a4458cbb23dcb06d… (all of the seat's roots in one cut). By AI agents, Wed Nov 11 2026. No macro, syntax, notation, axiom, sorry.
-/
import Derived.Test.YtedmkbiamjpdaaaDoorChecked
import GoSem.Claim
import GoSem.ClaimJoined
import GoSem.ClaimMapViews
import Derived.JoinedTies
import Derived.KernelRfl
namespace Go.Proofs.YtedmkbiamjpdaaaDoor
/- THE CELL 'sum', in the pinned program and in every row, IS THE sha256 OF THE DUMP (.gsa) THAT YtedmkbiamjpdaaaDoorProg.lean LOADS. Nothing in Lean hashes anything: it is a label: what it is worth is what the hold of that sum in a sandbox is worth. -/
noncomputable def Tryd.pinned : Pinned := { name := "ytedmkbiamjpdaaadoor", sum := "a4458cbb23dcb06da7b40645c1d70f1b8fba2f69e2fb6ec5ccb8a67bc0371282", checked := Tryd.checked }
namespace Rows
def none {H : Type} : Left H := { results := [], args := [] }

/- WHAT THE LISTED PACKAGE-LEVEL VARIABLES READ AS WHEN THE CALL BEGINS. Each datum BY PROGRAM (the guide's laid-datum.mjs) off the statement by which the dump's own 'gosem.cut.vars' lays the variable. In a bare row this is a premise. The card (YtedmkbiamjpdaaaDoorCards.lean) ties it to the program's text. -/
def laid_loop_example_hawser_impl_packetLows {H : Type} : DataW H := .agg [.lit (.int .i64 1), .lit (.int .i64 1), .lit (.int .i64 1), .lit (.int .i64 0), .lit (.int .i64 1), .lit (.int .i64 1), .lit (.int .i64 1)]
def laid_loop_example_hawser_impl_packetHighs {H : Type} : DataW H := .agg [.lit (.int .i64 8), .lit (.int .i64 2), .lit (.int .i64 3), .lit (.int .i64 3), .lit (.int .i64 9), .lit (.int .i64 90), .lit (.int .i64 9)]

/-- 'laws.FnExactStateOk': WHATEVER THE INPUT: true; the input reads as it did. -/
def fnExactStateOkSpec : ChangeSpec := { name := "fnExactStateOk", vars := ["loop.example/hawser/impl.packetLows", "loop.example/hawser/impl.packetHighs"], fn := fun _ => fun
  | [d, g1, g2] => { results := [.lit (.bool true)], args := [d], vars := [g1, g2] }
  | _ => none }
def fnExactStateOkRow : OpenClaim := { program := "ytedmkbiamjpdaaadoor", sum := "a4458cbb23dcb06da7b40645c1d70f1b8fba2f69e2fb6ec5ccb8a67bc0371282", func := "loop.example/hawser/laws.FnExactStateOk", spec := "fnExactStateOk", named := ["loop.example/hawser/impl.packetLows", "loop.example/hawser/impl.packetHighs"], apart := false, laid := [("loop.example/hawser/impl.packetLows", laid_loop_example_hawser_impl_packetLows), ("loop.example/hawser/impl.packetHighs", laid_loop_example_hawser_impl_packetHighs)] }
def FnExactStateOkSaid : Prop := fnExactStateOkRow.holds Tryd.pinned (OpenSpec.ofChange fnExactStateOkSpec)

/-- ITS FALSE NEIGHBOUR: 'it returns false'. Refute it at one input. -/
def fnExactStateOkWrong : ChangeSpec := { name := "fnExactStateOk", vars := ["loop.example/hawser/impl.packetLows", "loop.example/hawser/impl.packetHighs"], fn := fun _ => fun
  | [d, g1, g2] => { results := [.lit (.bool false)], args := [d], vars := [g1, g2] }
  | _ => none }
def FnExactStateOkWrongFalsely : Prop := fnExactStateOkRow.holds Tryd.pinned (OpenSpec.ofChange fnExactStateOkWrong)

/-- 'laws.FnExactStateHas': WHATEVER THE INPUT: true; the input reads as it did. -/
def fnExactStateHasSpec : ChangeSpec := { name := "fnExactStateHas", vars := ["loop.example/hawser/impl.packetLows", "loop.example/hawser/impl.packetHighs"], fn := fun _ => fun
  | [d1, d2, g1, g2] => { results := [.lit (.bool true)], args := [d1, d2], vars := [g1, g2] }
  | _ => none }
def fnExactStateHasRow : OpenClaim := { program := "ytedmkbiamjpdaaadoor", sum := "a4458cbb23dcb06da7b40645c1d70f1b8fba2f69e2fb6ec5ccb8a67bc0371282", func := "loop.example/hawser/laws.FnExactStateHas", spec := "fnExactStateHas", unfollowed := true, recurses := true, named := ["loop.example/hawser/impl.packetLows", "loop.example/hawser/impl.packetHighs"], apart := false, laid := [("loop.example/hawser/impl.packetLows", laid_loop_example_hawser_impl_packetLows), ("loop.example/hawser/impl.packetHighs", laid_loop_example_hawser_impl_packetHighs)] }
def FnExactStateHasSaid : Prop := fnExactStateHasRow.holds Tryd.pinned (OpenSpec.ofChange fnExactStateHasSpec)

/-- ITS FALSE NEIGHBOUR: 'it returns false'. Refute it at one input. -/
def fnExactStateHasWrong : ChangeSpec := { name := "fnExactStateHas", vars := ["loop.example/hawser/impl.packetLows", "loop.example/hawser/impl.packetHighs"], fn := fun _ => fun
  | [d1, d2, g1, g2] => { results := [.lit (.bool false)], args := [d1, d2], vars := [g1, g2] }
  | _ => none }
def FnExactStateHasWrongFalsely : Prop := fnExactStateHasRow.holds Tryd.pinned (OpenSpec.ofChange fnExactStateHasWrong)

/-- 'laws.FnExactStateGot': WHATEVER THE INPUT: true; the input reads as it did. -/
def fnExactStateGotSpec : ChangeSpec := { name := "fnExactStateGot", vars := ["loop.example/hawser/impl.packetLows", "loop.example/hawser/impl.packetHighs"], fn := fun _ => fun
  | [d1, d2, g1, g2] => { results := [.lit (.bool true)], args := [d1, d2], vars := [g1, g2] }
  | _ => none }
def fnExactStateGotRow : OpenClaim := { program := "ytedmkbiamjpdaaadoor", sum := "a4458cbb23dcb06da7b40645c1d70f1b8fba2f69e2fb6ec5ccb8a67bc0371282", func := "loop.example/hawser/laws.FnExactStateGot", spec := "fnExactStateGot", named := ["loop.example/hawser/impl.packetLows", "loop.example/hawser/impl.packetHighs"], apart := false, laid := [("loop.example/hawser/impl.packetLows", laid_loop_example_hawser_impl_packetLows), ("loop.example/hawser/impl.packetHighs", laid_loop_example_hawser_impl_packetHighs)] }
def FnExactStateGotSaid : Prop := fnExactStateGotRow.holds Tryd.pinned (OpenSpec.ofChange fnExactStateGotSpec)

/-- ITS FALSE NEIGHBOUR: 'it returns false'. Refute it at one input. -/
def fnExactStateGotWrong : ChangeSpec := { name := "fnExactStateGot", vars := ["loop.example/hawser/impl.packetLows", "loop.example/hawser/impl.packetHighs"], fn := fun _ => fun
  | [d1, d2, g1, g2] => { results := [.lit (.bool false)], args := [d1, d2], vars := [g1, g2] }
  | _ => none }
def FnExactStateGotWrongFalsely : Prop := fnExactStateGotRow.holds Tryd.pinned (OpenSpec.ofChange fnExactStateGotWrong)

/-- 'laws.FnExactStateSettled': WHATEVER THE INPUT: true; the input reads as it did. -/
def fnExactStateSettledSpec : ChangeSpec := { name := "fnExactStateSettled", vars := ["loop.example/hawser/impl.packetLows", "loop.example/hawser/impl.packetHighs"], fn := fun _ => fun
  | [d1, d2, g1, g2] => { results := [.lit (.bool true)], args := [d1, d2], vars := [g1, g2] }
  | _ => none }
def fnExactStateSettledRow : OpenClaim := { program := "ytedmkbiamjpdaaadoor", sum := "a4458cbb23dcb06da7b40645c1d70f1b8fba2f69e2fb6ec5ccb8a67bc0371282", func := "loop.example/hawser/laws.FnExactStateSettled", spec := "fnExactStateSettled", named := ["loop.example/hawser/impl.packetLows", "loop.example/hawser/impl.packetHighs"], apart := false, laid := [("loop.example/hawser/impl.packetLows", laid_loop_example_hawser_impl_packetLows), ("loop.example/hawser/impl.packetHighs", laid_loop_example_hawser_impl_packetHighs)] }
def FnExactStateSettledSaid : Prop := fnExactStateSettledRow.holds Tryd.pinned (OpenSpec.ofChange fnExactStateSettledSpec)

/-- ITS FALSE NEIGHBOUR: 'it returns false'. Refute it at one input. -/
def fnExactStateSettledWrong : ChangeSpec := { name := "fnExactStateSettled", vars := ["loop.example/hawser/impl.packetLows", "loop.example/hawser/impl.packetHighs"], fn := fun _ => fun
  | [d1, d2, g1, g2] => { results := [.lit (.bool false)], args := [d1, d2], vars := [g1, g2] }
  | _ => none }
def FnExactStateSettledWrongFalsely : Prop := fnExactStateSettledRow.holds Tryd.pinned (OpenSpec.ofChange fnExactStateSettledWrong)

/-- 'laws.FnExactStateLive': WHATEVER THE INPUT: true; the input reads as it did. -/
def fnExactStateLiveSpec : ChangeSpec := { name := "fnExactStateLive", vars := ["loop.example/hawser/impl.packetLows", "loop.example/hawser/impl.packetHighs"], fn := fun _ => fun
  | [d, g1, g2] => { results := [.lit (.bool true)], args := [d], vars := [g1, g2] }
  | _ => none }
def fnExactStateLiveRow : OpenClaim := { program := "ytedmkbiamjpdaaadoor", sum := "a4458cbb23dcb06da7b40645c1d70f1b8fba2f69e2fb6ec5ccb8a67bc0371282", func := "loop.example/hawser/laws.FnExactStateLive", spec := "fnExactStateLive", unfollowed := true, recurses := true, named := ["loop.example/hawser/impl.packetLows", "loop.example/hawser/impl.packetHighs"], apart := false, laid := [("loop.example/hawser/impl.packetLows", laid_loop_example_hawser_impl_packetLows), ("loop.example/hawser/impl.packetHighs", laid_loop_example_hawser_impl_packetHighs)] }
def FnExactStateLiveSaid : Prop := fnExactStateLiveRow.holds Tryd.pinned (OpenSpec.ofChange fnExactStateLiveSpec)

/-- ITS FALSE NEIGHBOUR: 'it returns false'. Refute it at one input. -/
def fnExactStateLiveWrong : ChangeSpec := { name := "fnExactStateLive", vars := ["loop.example/hawser/impl.packetLows", "loop.example/hawser/impl.packetHighs"], fn := fun _ => fun
  | [d, g1, g2] => { results := [.lit (.bool false)], args := [d], vars := [g1, g2] }
  | _ => none }
def FnExactStateLiveWrongFalsely : Prop := fnExactStateLiveRow.holds Tryd.pinned (OpenSpec.ofChange fnExactStateLiveWrong)

/-- 'laws.FnHas': WHATEVER THE INPUT: true; the input reads as it did. -/
def fnHasSpec : ChangeSpec := { name := "fnHas", vars := ["loop.example/hawser/impl.packetLows", "loop.example/hawser/impl.packetHighs"], fn := fun _ => fun
  | [d1, d2, g1, g2] => { results := [.lit (.bool true)], args := [d1, d2], vars := [g1, g2] }
  | _ => none }
def fnHasRow : OpenClaim := { program := "ytedmkbiamjpdaaadoor", sum := "a4458cbb23dcb06da7b40645c1d70f1b8fba2f69e2fb6ec5ccb8a67bc0371282", func := "loop.example/hawser/laws.FnHas", spec := "fnHas", unfollowed := true, recurses := true, named := ["loop.example/hawser/impl.packetLows", "loop.example/hawser/impl.packetHighs"], apart := false, laid := [("loop.example/hawser/impl.packetLows", laid_loop_example_hawser_impl_packetLows), ("loop.example/hawser/impl.packetHighs", laid_loop_example_hawser_impl_packetHighs)] }
def FnHasSaid : Prop := fnHasRow.holds Tryd.pinned (OpenSpec.ofChange fnHasSpec)

/-- ITS FALSE NEIGHBOUR: 'it returns false'. Refute it at one input. -/
def fnHasWrong : ChangeSpec := { name := "fnHas", vars := ["loop.example/hawser/impl.packetLows", "loop.example/hawser/impl.packetHighs"], fn := fun _ => fun
  | [d1, d2, g1, g2] => { results := [.lit (.bool false)], args := [d1, d2], vars := [g1, g2] }
  | _ => none }
def FnHasWrongFalsely : Prop := fnHasRow.holds Tryd.pinned (OpenSpec.ofChange fnHasWrong)

/-- 'laws.FnGot': WHATEVER THE INPUT: true; the input reads as it did. -/
def fnGotSpec : ChangeSpec := { name := "fnGot", vars := ["loop.example/hawser/impl.packetLows", "loop.example/hawser/impl.packetHighs"], fn := fun _ => fun
  | [d, g1, g2] => { results := [.lit (.bool true)], args := [d], vars := [g1, g2] }
  | _ => none }
def fnGotRow : OpenClaim := { program := "ytedmkbiamjpdaaadoor", sum := "a4458cbb23dcb06da7b40645c1d70f1b8fba2f69e2fb6ec5ccb8a67bc0371282", func := "loop.example/hawser/laws.FnGot", spec := "fnGot", named := ["loop.example/hawser/impl.packetLows", "loop.example/hawser/impl.packetHighs"], apart := false, laid := [("loop.example/hawser/impl.packetLows", laid_loop_example_hawser_impl_packetLows), ("loop.example/hawser/impl.packetHighs", laid_loop_example_hawser_impl_packetHighs)] }
def FnGotSaid : Prop := fnGotRow.holds Tryd.pinned (OpenSpec.ofChange fnGotSpec)

/-- ITS FALSE NEIGHBOUR: 'it returns false'. Refute it at one input. -/
def fnGotWrong : ChangeSpec := { name := "fnGot", vars := ["loop.example/hawser/impl.packetLows", "loop.example/hawser/impl.packetHighs"], fn := fun _ => fun
  | [d, g1, g2] => { results := [.lit (.bool false)], args := [d], vars := [g1, g2] }
  | _ => none }
def FnGotWrongFalsely : Prop := fnGotRow.holds Tryd.pinned (OpenSpec.ofChange fnGotWrong)

/-- 'laws.FnSettled': WHATEVER THE INPUT: true; the input reads as it did. -/
def fnSettledSpec : ChangeSpec := { name := "fnSettled", vars := ["loop.example/hawser/impl.packetLows", "loop.example/hawser/impl.packetHighs"], fn := fun _ => fun
  | [d, g1, g2] => { results := [.lit (.bool true)], args := [d], vars := [g1, g2] }
  | _ => none }
def fnSettledRow : OpenClaim := { program := "ytedmkbiamjpdaaadoor", sum := "a4458cbb23dcb06da7b40645c1d70f1b8fba2f69e2fb6ec5ccb8a67bc0371282", func := "loop.example/hawser/laws.FnSettled", spec := "fnSettled", unfollowed := true, recurses := true, named := ["loop.example/hawser/impl.packetLows", "loop.example/hawser/impl.packetHighs"], apart := false, laid := [("loop.example/hawser/impl.packetLows", laid_loop_example_hawser_impl_packetLows), ("loop.example/hawser/impl.packetHighs", laid_loop_example_hawser_impl_packetHighs)] }
def FnSettledSaid : Prop := fnSettledRow.holds Tryd.pinned (OpenSpec.ofChange fnSettledSpec)

/-- ITS FALSE NEIGHBOUR: 'it returns false'. Refute it at one input. -/
def fnSettledWrong : ChangeSpec := { name := "fnSettled", vars := ["loop.example/hawser/impl.packetLows", "loop.example/hawser/impl.packetHighs"], fn := fun _ => fun
  | [d, g1, g2] => { results := [.lit (.bool false)], args := [d], vars := [g1, g2] }
  | _ => none }
def FnSettledWrongFalsely : Prop := fnSettledRow.holds Tryd.pinned (OpenSpec.ofChange fnSettledWrong)

/- THE SECOND FORM. 'bulk': how many values and letters a reading holds, each counted each time it is reached (what is shared counts as often as it is met; a slice's spare places count too). A statement '..UptoSaid' is the law's where the arguments, and the package variables that the reading takes, are together of bulk at most 1048576: NARROWER than '..Said'. Prove '..Said' where nothing that the law and all that it calls make is longer than what came in: it says more and counts as full. Else prove '..UptoSaid'. A law counts once. -/
mutual
def uptoBulk {H : Type} : DataW H → Nat
  | .lit (.string bytes) => bytes.length + 1
  | .lit _ => 1
  | .nil => 1
  | .ptr d => uptoBulk d + 1
  | .slice elems spare => uptoBulkAll elems + uptoBulkAll spare + 1
  | .agg parts => uptoBulkAll parts + 1
  | .iface _ d => uptoBulk d + 1
  | .map entries => uptoBulkEntries entries + 1
  | .held _ => 1
def uptoBulkAll {H : Type} : List (DataW H) → Nat
  | [] => 0
  | d :: r => uptoBulk d + uptoBulkAll r
def uptoBulkEntries {H : Type} : List (Lit × DataW H) → Nat
  | [] => 0
  | x :: r => uptoBulkEntry x + uptoBulkEntries r
def uptoBulkEntry {H : Type} : Lit × DataW H → Nat
  | (.string bytes, d) => bytes.length + uptoBulk d + 1
  | (_, d) => uptoBulk d + 1
 end
def uptoSmall : (H : Type) → List (DataW H) → Bool := fun _ ds => decide (uptoBulkAll ds ≤ 1048576)
def OpenSpec.upto (s : _root_.Go.ChangeSpec) : _root_.Go.OpenSpec := { _root_.Go.OpenSpec.ofChange s with cond := some uptoSmall }

/-- 'laws.FnExactStateOk', WHERE WHAT IT READS IS OF BULK AT MOST 1048576: true; the input reads as it did. -/
def fnExactStateOkUptoRow : OpenClaim := { program := "ytedmkbiamjpdaaadoor", sum := "a4458cbb23dcb06da7b40645c1d70f1b8fba2f69e2fb6ec5ccb8a67bc0371282", func := "loop.example/hawser/laws.FnExactStateOk", spec := "fnExactStateOk", named := ["loop.example/hawser/impl.packetLows", "loop.example/hawser/impl.packetHighs"], apart := false, laid := [("loop.example/hawser/impl.packetLows", laid_loop_example_hawser_impl_packetLows), ("loop.example/hawser/impl.packetHighs", laid_loop_example_hawser_impl_packetHighs)], narrowed := true }
def FnExactStateOkUptoSaid : Prop := fnExactStateOkUptoRow.holds Tryd.pinned (OpenSpec.upto fnExactStateOkSpec)

/-- 'laws.FnExactStateHas', WHERE WHAT IT READS IS OF BULK AT MOST 1048576: true; the input reads as it did. -/
def fnExactStateHasUptoRow : OpenClaim := { program := "ytedmkbiamjpdaaadoor", sum := "a4458cbb23dcb06da7b40645c1d70f1b8fba2f69e2fb6ec5ccb8a67bc0371282", func := "loop.example/hawser/laws.FnExactStateHas", spec := "fnExactStateHas", unfollowed := true, recurses := true, named := ["loop.example/hawser/impl.packetLows", "loop.example/hawser/impl.packetHighs"], apart := false, laid := [("loop.example/hawser/impl.packetLows", laid_loop_example_hawser_impl_packetLows), ("loop.example/hawser/impl.packetHighs", laid_loop_example_hawser_impl_packetHighs)], narrowed := true }
def FnExactStateHasUptoSaid : Prop := fnExactStateHasUptoRow.holds Tryd.pinned (OpenSpec.upto fnExactStateHasSpec)

/-- 'laws.FnExactStateGot', WHERE WHAT IT READS IS OF BULK AT MOST 1048576: true; the input reads as it did. -/
def fnExactStateGotUptoRow : OpenClaim := { program := "ytedmkbiamjpdaaadoor", sum := "a4458cbb23dcb06da7b40645c1d70f1b8fba2f69e2fb6ec5ccb8a67bc0371282", func := "loop.example/hawser/laws.FnExactStateGot", spec := "fnExactStateGot", named := ["loop.example/hawser/impl.packetLows", "loop.example/hawser/impl.packetHighs"], apart := false, laid := [("loop.example/hawser/impl.packetLows", laid_loop_example_hawser_impl_packetLows), ("loop.example/hawser/impl.packetHighs", laid_loop_example_hawser_impl_packetHighs)], narrowed := true }
def FnExactStateGotUptoSaid : Prop := fnExactStateGotUptoRow.holds Tryd.pinned (OpenSpec.upto fnExactStateGotSpec)

/-- 'laws.FnExactStateSettled', WHERE WHAT IT READS IS OF BULK AT MOST 1048576: true; the input reads as it did. -/
def fnExactStateSettledUptoRow : OpenClaim := { program := "ytedmkbiamjpdaaadoor", sum := "a4458cbb23dcb06da7b40645c1d70f1b8fba2f69e2fb6ec5ccb8a67bc0371282", func := "loop.example/hawser/laws.FnExactStateSettled", spec := "fnExactStateSettled", named := ["loop.example/hawser/impl.packetLows", "loop.example/hawser/impl.packetHighs"], apart := false, laid := [("loop.example/hawser/impl.packetLows", laid_loop_example_hawser_impl_packetLows), ("loop.example/hawser/impl.packetHighs", laid_loop_example_hawser_impl_packetHighs)], narrowed := true }
def FnExactStateSettledUptoSaid : Prop := fnExactStateSettledUptoRow.holds Tryd.pinned (OpenSpec.upto fnExactStateSettledSpec)

/-- 'laws.FnExactStateLive', WHERE WHAT IT READS IS OF BULK AT MOST 1048576: true; the input reads as it did. -/
def fnExactStateLiveUptoRow : OpenClaim := { program := "ytedmkbiamjpdaaadoor", sum := "a4458cbb23dcb06da7b40645c1d70f1b8fba2f69e2fb6ec5ccb8a67bc0371282", func := "loop.example/hawser/laws.FnExactStateLive", spec := "fnExactStateLive", unfollowed := true, recurses := true, named := ["loop.example/hawser/impl.packetLows", "loop.example/hawser/impl.packetHighs"], apart := false, laid := [("loop.example/hawser/impl.packetLows", laid_loop_example_hawser_impl_packetLows), ("loop.example/hawser/impl.packetHighs", laid_loop_example_hawser_impl_packetHighs)], narrowed := true }
def FnExactStateLiveUptoSaid : Prop := fnExactStateLiveUptoRow.holds Tryd.pinned (OpenSpec.upto fnExactStateLiveSpec)

/-- 'laws.FnHas', WHERE WHAT IT READS IS OF BULK AT MOST 1048576: true; the input reads as it did. -/
def fnHasUptoRow : OpenClaim := { program := "ytedmkbiamjpdaaadoor", sum := "a4458cbb23dcb06da7b40645c1d70f1b8fba2f69e2fb6ec5ccb8a67bc0371282", func := "loop.example/hawser/laws.FnHas", spec := "fnHas", unfollowed := true, recurses := true, named := ["loop.example/hawser/impl.packetLows", "loop.example/hawser/impl.packetHighs"], apart := false, laid := [("loop.example/hawser/impl.packetLows", laid_loop_example_hawser_impl_packetLows), ("loop.example/hawser/impl.packetHighs", laid_loop_example_hawser_impl_packetHighs)], narrowed := true }
def FnHasUptoSaid : Prop := fnHasUptoRow.holds Tryd.pinned (OpenSpec.upto fnHasSpec)

/-- 'laws.FnGot', WHERE WHAT IT READS IS OF BULK AT MOST 1048576: true; the input reads as it did. -/
def fnGotUptoRow : OpenClaim := { program := "ytedmkbiamjpdaaadoor", sum := "a4458cbb23dcb06da7b40645c1d70f1b8fba2f69e2fb6ec5ccb8a67bc0371282", func := "loop.example/hawser/laws.FnGot", spec := "fnGot", named := ["loop.example/hawser/impl.packetLows", "loop.example/hawser/impl.packetHighs"], apart := false, laid := [("loop.example/hawser/impl.packetLows", laid_loop_example_hawser_impl_packetLows), ("loop.example/hawser/impl.packetHighs", laid_loop_example_hawser_impl_packetHighs)], narrowed := true }
def FnGotUptoSaid : Prop := fnGotUptoRow.holds Tryd.pinned (OpenSpec.upto fnGotSpec)

/-- 'laws.FnSettled', WHERE WHAT IT READS IS OF BULK AT MOST 1048576: true; the input reads as it did. -/
def fnSettledUptoRow : OpenClaim := { program := "ytedmkbiamjpdaaadoor", sum := "a4458cbb23dcb06da7b40645c1d70f1b8fba2f69e2fb6ec5ccb8a67bc0371282", func := "loop.example/hawser/laws.FnSettled", spec := "fnSettled", unfollowed := true, recurses := true, named := ["loop.example/hawser/impl.packetLows", "loop.example/hawser/impl.packetHighs"], apart := false, laid := [("loop.example/hawser/impl.packetLows", laid_loop_example_hawser_impl_packetLows), ("loop.example/hawser/impl.packetHighs", laid_loop_example_hawser_impl_packetHighs)], narrowed := true }
def FnSettledUptoSaid : Prop := fnSettledUptoRow.holds Tryd.pinned (OpenSpec.upto fnSettledSpec)

end Rows
end Go.Proofs.YtedmkbiamjpdaaaDoor
