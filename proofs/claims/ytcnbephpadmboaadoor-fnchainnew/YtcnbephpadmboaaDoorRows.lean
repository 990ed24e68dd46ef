/-
  NARROWER THAN 'FOR EVERY INPUT', by the rows' own cells (each row's printed sentence says how): FnHas: laid · FnGot: laid · FnSettled: laid · FnStateSeq: laid · FnLive: laid · FnNext: laid · FnStateForm: laid · FnChainNew: laid.
  DERIVED. THE GIVEN ROWS OF THIS SEAT. 8 by the template 'for every input the law returns true; each argument reads behind the call as it read before'; 0 by the template 'total and deterministic' (their statements: YtcnbephpadmboaaDoorTotals.lean).
  GIVEN WITH THE SEED: the statements are not yours to turn. If you find one false, say at which input.
  Laid BY PROGRAM, IN A SANDBOX (cutbox-rows.mjs): the forced cells as the released guide's own fill.sh prints them over the translation 07d9118102e3003d… (all of the seat's roots in one cut). By AI agents, Wed Nov 11 2026. No macro, syntax, notation, axiom, sorry.
-/
import Derived.Test.YtcnbephpadmboaaDoorChecked
import GoSem.Claim
import GoSem.ClaimJoined
import GoSem.ClaimMapViews
import Derived.JoinedTies
import Derived.KernelRfl
namespace Go.Proofs.YtcnbephpadmboaaDoor
/- THE CELL 'sum', in the pinned program and in every row, IS THE sha256 OF THE DUMP (.gsa) THAT YtcnbephpadmboaaDoorProg.lean LOADS. Nothing in Lean hashes anything: it is a label: what it is worth is what the hold of that sum in a sandbox is worth. -/
noncomputable def Tryd.pinned : Pinned := { name := "ytcnbephpadmboaadoor", sum := "07d9118102e3003dc09e2e7cff8d77b47bea66e367ed609adf2b7216208e589f", checked := Tryd.checked }
namespace Rows
def none {H : Type} : Left H := { results := [], args := [] }

/- WHAT THE LISTED PACKAGE-LEVEL VARIABLES READ AS WHEN THE CALL BEGINS. Each datum BY PROGRAM (the guide's laid-datum.mjs) off the statement by which the dump's own 'gosem.cut.vars' lays the variable. In a bare row this is a premise. The card (YtcnbephpadmboaaDoorCards.lean) ties it to the program's text. -/
def laid_loop_example_hawser_impl_packetLows {H : Type} : DataW H := .agg [.lit (.int .i64 1), .lit (.int .i64 1), .lit (.int .i64 1), .lit (.int .i64 0), .lit (.int .i64 1), .lit (.int .i64 1), .lit (.int .i64 1)]
def laid_loop_example_hawser_impl_packetHighs {H : Type} : DataW H := .agg [.lit (.int .i64 8), .lit (.int .i64 2), .lit (.int .i64 3), .lit (.int .i64 3), .lit (.int .i64 9), .lit (.int .i64 90), .lit (.int .i64 9)]

/-- 'laws.FnHas': WHATEVER THE INPUT: true; the input reads as it did. -/
def fnHasSpec : ChangeSpec := { name := "fnHas", vars := ["loop.example/hawser/impl.packetLows", "loop.example/hawser/impl.packetHighs"], fn := fun _ => fun
  | [d1, d2, g1, g2] => { results := [.lit (.bool true)], args := [d1, d2], vars := [g1, g2] }
  | _ => none }
def fnHasRow : OpenClaim := { program := "ytcnbephpadmboaadoor", sum := "07d9118102e3003dc09e2e7cff8d77b47bea66e367ed609adf2b7216208e589f", func := "loop.example/hawser/laws.FnHas", spec := "fnHas", unfollowed := true, recurses := true, named := ["loop.example/hawser/impl.packetLows", "loop.example/hawser/impl.packetHighs"], apart := false, laid := [("loop.example/hawser/impl.packetLows", laid_loop_example_hawser_impl_packetLows), ("loop.example/hawser/impl.packetHighs", laid_loop_example_hawser_impl_packetHighs)] }
def FnHasSaid : Prop := fnHasRow.holds Tryd.pinned (OpenSpec.ofChange fnHasSpec)

/-- ITS FALSE NEIGHBOUR: 'it returns false'. Refute it at one input. -/
def fnHasWrong : ChangeSpec := { name := "fnHas", vars := ["loop.example/hawser/impl.packetLows", "loop.example/hawser/impl.packetHighs"], fn := fun _ => fun
  | [d1, d2, g1, g2] => { results := [.lit (.bool false)], args := [d1, d2], vars := [g1, g2] }
  | _ => none }
def FnHasWrongFalsely : Prop := fnHasRow.holds Tryd.pinned (OpenSpec.ofChange fnHasWrong)

/-- 'laws.FnGot': WHATEVER THE INPUT: true; the input reads as it did. -/
def fnGotSpec : ChangeSpec := { name := "fnGot", vars := ["loop.example/hawser/impl.packetLows", "loop.example/hawser/impl.packetHighs"], fn := fun _ => fun
  | [d, g1, g2] => { results := [.lit (.bool true)], args := [d], vars := [g1, g2] }
  | _ => none }
def fnGotRow : OpenClaim := { program := "ytcnbephpadmboaadoor", sum := "07d9118102e3003dc09e2e7cff8d77b47bea66e367ed609adf2b7216208e589f", func := "loop.example/hawser/laws.FnGot", spec := "fnGot", named := ["loop.example/hawser/impl.packetLows", "loop.example/hawser/impl.packetHighs"], apart := false, laid := [("loop.example/hawser/impl.packetLows", laid_loop_example_hawser_impl_packetLows), ("loop.example/hawser/impl.packetHighs", laid_loop_example_hawser_impl_packetHighs)] }
def FnGotSaid : Prop := fnGotRow.holds Tryd.pinned (OpenSpec.ofChange fnGotSpec)

/-- ITS FALSE NEIGHBOUR: 'it returns false'. Refute it at one input. -/
def fnGotWrong : ChangeSpec := { name := "fnGot", vars := ["loop.example/hawser/impl.packetLows", "loop.example/hawser/impl.packetHighs"], fn := fun _ => fun
  | [d, g1, g2] => { results := [.lit (.bool false)], args := [d], vars := [g1, g2] }
  | _ => none }
def FnGotWrongFalsely : Prop := fnGotRow.holds Tryd.pinned (OpenSpec.ofChange fnGotWrong)

/-- 'laws.FnSettled': WHATEVER THE INPUT: true; the input reads as it did. -/
def fnSettledSpec : ChangeSpec := { name := "fnSettled", vars := ["loop.example/hawser/impl.packetLows", "loop.example/hawser/impl.packetHighs"], fn := fun _ => fun
  | [d, g1, g2] => { results := [.lit (.bool true)], args := [d], vars := [g1, g2] }
  | _ => none }
def fnSettledRow : OpenClaim := { program := "ytcnbephpadmboaadoor", sum := "07d9118102e3003dc09e2e7cff8d77b47bea66e367ed609adf2b7216208e589f", func := "loop.example/hawser/laws.FnSettled", spec := "fnSettled", unfollowed := true, recurses := true, named := ["loop.example/hawser/impl.packetLows", "loop.example/hawser/impl.packetHighs"], apart := false, laid := [("loop.example/hawser/impl.packetLows", laid_loop_example_hawser_impl_packetLows), ("loop.example/hawser/impl.packetHighs", laid_loop_example_hawser_impl_packetHighs)] }
def FnSettledSaid : Prop := fnSettledRow.holds Tryd.pinned (OpenSpec.ofChange fnSettledSpec)

/-- ITS FALSE NEIGHBOUR: 'it returns false'. Refute it at one input. -/
def fnSettledWrong : ChangeSpec := { name := "fnSettled", vars := ["loop.example/hawser/impl.packetLows", "loop.example/hawser/impl.packetHighs"], fn := fun _ => fun
  | [d, g1, g2] => { results := [.lit (.bool false)], args := [d], vars := [g1, g2] }
  | _ => none }
def FnSettledWrongFalsely : Prop := fnSettledRow.holds Tryd.pinned (OpenSpec.ofChange fnSettledWrong)

/-- 'laws.FnStateSeq': WHATEVER THE INPUT: true; the input reads as it did. -/
def fnStateSeqSpec : ChangeSpec := { name := "fnStateSeq", vars := ["loop.example/hawser/impl.packetLows", "loop.example/hawser/impl.packetHighs"], fn := fun _ => fun
  | [d1, d2, g1, g2] => { results := [.lit (.bool true)], args := [d1, d2], vars := [g1, g2] }
  | _ => none }
def fnStateSeqRow : OpenClaim := { program := "ytcnbephpadmboaadoor", sum := "07d9118102e3003dc09e2e7cff8d77b47bea66e367ed609adf2b7216208e589f", func := "loop.example/hawser/laws.FnStateSeq", spec := "fnStateSeq", unfollowed := true, recurses := true, named := ["loop.example/hawser/impl.packetLows", "loop.example/hawser/impl.packetHighs"], apart := false, laid := [("loop.example/hawser/impl.packetLows", laid_loop_example_hawser_impl_packetLows), ("loop.example/hawser/impl.packetHighs", laid_loop_example_hawser_impl_packetHighs)] }
def FnStateSeqSaid : Prop := fnStateSeqRow.holds Tryd.pinned (OpenSpec.ofChange fnStateSeqSpec)

/-- ITS FALSE NEIGHBOUR: 'it returns false'. Refute it at one input. -/
def fnStateSeqWrong : ChangeSpec := { name := "fnStateSeq", vars := ["loop.example/hawser/impl.packetLows", "loop.example/hawser/impl.packetHighs"], fn := fun _ => fun
  | [d1, d2, g1, g2] => { results := [.lit (.bool false)], args := [d1, d2], vars := [g1, g2] }
  | _ => none }
def FnStateSeqWrongFalsely : Prop := fnStateSeqRow.holds Tryd.pinned (OpenSpec.ofChange fnStateSeqWrong)

/-- 'laws.FnLive': WHATEVER THE INPUT: true; the input reads as it did. -/
def fnLiveSpec : ChangeSpec := { name := "fnLive", vars := ["loop.example/hawser/impl.packetLows", "loop.example/hawser/impl.packetHighs"], fn := fun _ => fun
  | [d, g1, g2] => { results := [.lit (.bool true)], args := [d], vars := [g1, g2] }
  | _ => none }
def fnLiveRow : OpenClaim := { program := "ytcnbephpadmboaadoor", sum := "07d9118102e3003dc09e2e7cff8d77b47bea66e367ed609adf2b7216208e589f", func := "loop.example/hawser/laws.FnLive", spec := "fnLive", unfollowed := true, recurses := true, named := ["loop.example/hawser/impl.packetLows", "loop.example/hawser/impl.packetHighs"], apart := false, laid := [("loop.example/hawser/impl.packetLows", laid_loop_example_hawser_impl_packetLows), ("loop.example/hawser/impl.packetHighs", laid_loop_example_hawser_impl_packetHighs)] }
def FnLiveSaid : Prop := fnLiveRow.holds Tryd.pinned (OpenSpec.ofChange fnLiveSpec)

/-- ITS FALSE NEIGHBOUR: 'it returns false'. Refute it at one input. -/
def fnLiveWrong : ChangeSpec := { name := "fnLive", vars := ["loop.example/hawser/impl.packetLows", "loop.example/hawser/impl.packetHighs"], fn := fun _ => fun
  | [d, g1, g2] => { results := [.lit (.bool false)], args := [d], vars := [g1, g2] }
  | _ => none }
def FnLiveWrongFalsely : Prop := fnLiveRow.holds Tryd.pinned (OpenSpec.ofChange fnLiveWrong)

/-- 'laws.FnNext': WHATEVER THE INPUT: true; the input reads as it did. -/
def fnNextSpec : ChangeSpec := { name := "fnNext", vars := ["loop.example/hawser/impl.packetLows", "loop.example/hawser/impl.packetHighs"], fn := fun _ => fun
  | [d, g1, g2] => { results := [.lit (.bool true)], args := [d], vars := [g1, g2] }
  | _ => none }
def fnNextRow : OpenClaim := { program := "ytcnbephpadmboaadoor", sum := "07d9118102e3003dc09e2e7cff8d77b47bea66e367ed609adf2b7216208e589f", func := "loop.example/hawser/laws.FnNext", spec := "fnNext", named := ["loop.example/hawser/impl.packetLows", "loop.example/hawser/impl.packetHighs"], apart := false, laid := [("loop.example/hawser/impl.packetLows", laid_loop_example_hawser_impl_packetLows), ("loop.example/hawser/impl.packetHighs", laid_loop_example_hawser_impl_packetHighs)] }
def FnNextSaid : Prop := fnNextRow.holds Tryd.pinned (OpenSpec.ofChange fnNextSpec)

/-- ITS FALSE NEIGHBOUR: 'it returns false'. Refute it at one input. -/
def fnNextWrong : ChangeSpec := { name := "fnNext", vars := ["loop.example/hawser/impl.packetLows", "loop.example/hawser/impl.packetHighs"], fn := fun _ => fun
  | [d, g1, g2] => { results := [.lit (.bool false)], args := [d], vars := [g1, g2] }
  | _ => none }
def FnNextWrongFalsely : Prop := fnNextRow.holds Tryd.pinned (OpenSpec.ofChange fnNextWrong)

/-- 'laws.FnStateForm': WHATEVER THE INPUT: true; the input reads as it did. -/
def fnStateFormSpec : ChangeSpec := { name := "fnStateForm", vars := ["loop.example/hawser/impl.packetLows", "loop.example/hawser/impl.packetHighs"], fn := fun _ => fun
  | [d, g1, g2] => { results := [.lit (.bool true)], args := [d], vars := [g1, g2] }
  | _ => none }
def fnStateFormRow : OpenClaim := { program := "ytcnbephpadmboaadoor", sum := "07d9118102e3003dc09e2e7cff8d77b47bea66e367ed609adf2b7216208e589f", func := "loop.example/hawser/laws.FnStateForm", spec := "fnStateForm", named := ["loop.example/hawser/impl.packetLows", "loop.example/hawser/impl.packetHighs"], apart := false, laid := [("loop.example/hawser/impl.packetLows", laid_loop_example_hawser_impl_packetLows), ("loop.example/hawser/impl.packetHighs", laid_loop_example_hawser_impl_packetHighs)] }
def FnStateFormSaid : Prop := fnStateFormRow.holds Tryd.pinned (OpenSpec.ofChange fnStateFormSpec)

/-- ITS FALSE NEIGHBOUR: 'it returns false'. Refute it at one input. -/
def fnStateFormWrong : ChangeSpec := { name := "fnStateForm", vars := ["loop.example/hawser/impl.packetLows", "loop.example/hawser/impl.packetHighs"], fn := fun _ => fun
  | [d, g1, g2] => { results := [.lit (.bool false)], args := [d], vars := [g1, g2] }
  | _ => none }
def FnStateFormWrongFalsely : Prop := fnStateFormRow.holds Tryd.pinned (OpenSpec.ofChange fnStateFormWrong)

/-- 'laws.FnChainNew': WHATEVER THE INPUT: true; the input reads as it did. -/
def fnChainNewSpec : ChangeSpec := { name := "fnChainNew", vars := ["loop.example/hawser/impl.packetLows", "loop.example/hawser/impl.packetHighs"], fn := fun _ => fun
  | [d, g1, g2] => { results := [.lit (.bool true)], args := [d], vars := [g1, g2] }
  | _ => none }
def fnChainNewRow : OpenClaim := { program := "ytcnbephpadmboaadoor", sum := "07d9118102e3003dc09e2e7cff8d77b47bea66e367ed609adf2b7216208e589f", func := "loop.example/hawser/laws.FnChainNew", spec := "fnChainNew", named := ["loop.example/hawser/impl.packetLows", "loop.example/hawser/impl.packetHighs"], apart := false, laid := [("loop.example/hawser/impl.packetLows", laid_loop_example_hawser_impl_packetLows), ("loop.example/hawser/impl.packetHighs", laid_loop_example_hawser_impl_packetHighs)] }
def FnChainNewSaid : Prop := fnChainNewRow.holds Tryd.pinned (OpenSpec.ofChange fnChainNewSpec)

/-- ITS FALSE NEIGHBOUR: 'it returns false'. Refute it at one input. -/
def fnChainNewWrong : ChangeSpec := { name := "fnChainNew", vars := ["loop.example/hawser/impl.packetLows", "loop.example/hawser/impl.packetHighs"], fn := fun _ => fun
  | [d, g1, g2] => { results := [.lit (.bool false)], args := [d], vars := [g1, g2] }
  | _ => none }
def FnChainNewWrongFalsely : Prop := fnChainNewRow.holds Tryd.pinned (OpenSpec.ofChange fnChainNewWrong)

/- THE SECOND FORM. 'bulk': how many values and letters a reading holds, each counted each time it is reached (what is shared counts as often as it is met; a slice's spare places count too). A statement '..UptoSaid' is the law's where the arguments, and the package variables that the reading takes, are together of bulk at most 1048576: NARROWER than '..Said'. Prove '..Said' where nothing that the law and all that it calls make is longer than what came in: it says more and counts as full. Else prove '..UptoSaid'. A law counts once. -/
mutual
def uptoBulk {H : Type} : DataW H → Nat
  | .lit (.string bytes) => bytes.length + 1
  | .lit _ => 1
  | .nil => 1
  | .ptr d => uptoBulk d + 1
  | .slice elems spare => uptoBulkAll elems + uptoBulkAll spare + 1
  | .agg parts => uptoBulkAll parts + 1
  | .iface _ d => uptoBulk d + 1
  | .map entries => uptoBulkEntries entries + 1
  | .held _ => 1
def uptoBulkAll {H : Type} : List (DataW H) → Nat
  | [] => 0
  | d :: r => uptoBulk d + uptoBulkAll r
def uptoBulkEntries {H : Type} : List (Lit × DataW H) → Nat
  | [] => 0
  | x :: r => uptoBulkEntry x + uptoBulkEntries r
def uptoBulkEntry {H : Type} : Lit × DataW H → Nat
  | (.string bytes, d) => bytes.length + uptoBulk d + 1
  | (_, d) => uptoBulk d + 1
 end
def uptoSmall : (H : Type) → List (DataW H) → Bool := fun _ ds => decide (uptoBulkAll ds ≤ 1048576)
def OpenSpec.upto (s : _root_.Go.ChangeSpec) : _root_.Go.OpenSpec := { _root_.Go.OpenSpec.ofChange s with cond := some uptoSmall }

/-- 'laws.FnHas', WHERE WHAT IT READS IS OF BULK AT MOST 1048576: true; the input reads as it did. -/
def fnHasUptoRow : OpenClaim := { program := "ytcnbephpadmboaadoor", sum := "07d9118102e3003dc09e2e7cff8d77b47bea66e367ed609adf2b7216208e589f", func := "loop.example/hawser/laws.FnHas", spec := "fnHas", unfollowed := true, recurses := true, named := ["loop.example/hawser/impl.packetLows", "loop.example/hawser/impl.packetHighs"], apart := false, laid := [("loop.example/hawser/impl.packetLows", laid_loop_example_hawser_impl_packetLows), ("loop.example/hawser/impl.packetHighs", laid_loop_example_hawser_impl_packetHighs)], narrowed := true }
def FnHasUptoSaid : Prop := fnHasUptoRow.holds Tryd.pinned (OpenSpec.upto fnHasSpec)

/-- 'laws.FnGot', WHERE WHAT IT READS IS OF BULK AT MOST 1048576: true; the input reads as it did. -/
def fnGotUptoRow : OpenClaim := { program := "ytcnbephpadmboaadoor", sum := "07d9118102e3003dc09e2e7cff8d77b47bea66e367ed609adf2b7216208e589f", func := "loop.example/hawser/laws.FnGot", spec := "fnGot", named := ["loop.example/hawser/impl.packetLows", "loop.example/hawser/impl.packetHighs"], apart := false, laid := [("loop.example/hawser/impl.packetLows", laid_loop_example_hawser_impl_packetLows), ("loop.example/hawser/impl.packetHighs", laid_loop_example_hawser_impl_packetHighs)], narrowed := true }
def FnGotUptoSaid : Prop := fnGotUptoRow.holds Tryd.pinned (OpenSpec.upto fnGotSpec)

/-- 'laws.FnSettled', WHERE WHAT IT READS IS OF BULK AT MOST 1048576: true; the input reads as it did. -/
def fnSettledUptoRow : OpenClaim := { program := "ytcnbephpadmboaadoor", sum := "07d9118102e3003dc09e2e7cff8d77b47bea66e367ed609adf2b7216208e589f", func := "loop.example/hawser/laws.FnSettled", spec := "fnSettled", unfollowed := true, recurses := true, named := ["loop.example/hawser/impl.packetLows", "loop.example/hawser/impl.packetHighs"], apart := false, laid := [("loop.example/hawser/impl.packetLows", laid_loop_example_hawser_impl_packetLows), ("loop.example/hawser/impl.packetHighs", laid_loop_example_hawser_impl_packetHighs)], narrowed := true }
def FnSettledUptoSaid : Prop := fnSettledUptoRow.holds Tryd.pinned (OpenSpec.upto fnSettledSpec)

/-- 'laws.FnStateSeq', WHERE WHAT IT READS IS OF BULK AT MOST 1048576: true; the input reads as it did. -/
def fnStateSeqUptoRow : OpenClaim := { program := "ytcnbephpadmboaadoor", sum := "07d9118102e3003dc09e2e7cff8d77b47bea66e367ed609adf2b7216208e589f", func := "loop.example/hawser/laws.FnStateSeq", spec := "fnStateSeq", unfollowed := true, recurses := true, named := ["loop.example/hawser/impl.packetLows", "loop.example/hawser/impl.packetHighs"], apart := false, laid := [("loop.example/hawser/impl.packetLows", laid_loop_example_hawser_impl_packetLows), ("loop.example/hawser/impl.packetHighs", laid_loop_example_hawser_impl_packetHighs)], narrowed := true }
def FnStateSeqUptoSaid : Prop := fnStateSeqUptoRow.holds Tryd.pinned (OpenSpec.upto fnStateSeqSpec)

/-- 'laws.FnLive', WHERE WHAT IT READS IS OF BULK AT MOST 1048576: true; the input reads as it did. -/
def fnLiveUptoRow : OpenClaim := { program := "ytcnbephpadmboaadoor", sum := "07d9118102e3003dc09e2e7cff8d77b47bea66e367ed609adf2b7216208e589f", func := "loop.example/hawser/laws.FnLive", spec := "fnLive", unfollowed := true, recurses := true, named := ["loop.example/hawser/impl.packetLows", "loop.example/hawser/impl.packetHighs"], apart := false, laid := [("loop.example/hawser/impl.packetLows", laid_loop_example_hawser_impl_packetLows), ("loop.example/hawser/impl.packetHighs", laid_loop_example_hawser_impl_packetHighs)], narrowed := true }
def FnLiveUptoSaid : Prop := fnLiveUptoRow.holds Tryd.pinned (OpenSpec.upto fnLiveSpec)

/-- 'laws.FnNext', WHERE WHAT IT READS IS OF BULK AT MOST 1048576: true; the input reads as it did. -/
def fnNextUptoRow : OpenClaim := { program := "ytcnbephpadmboaadoor", sum := "07d9118102e3003dc09e2e7cff8d77b47bea66e367ed609adf2b7216208e589f", func := "loop.example/hawser/laws.FnNext", spec := "fnNext", named := ["loop.example/hawser/impl.packetLows", "loop.example/hawser/impl.packetHighs"], apart := false, laid := [("loop.example/hawser/impl.packetLows", laid_loop_example_hawser_impl_packetLows), ("loop.example/hawser/impl.packetHighs", laid_loop_example_hawser_impl_packetHighs)], narrowed := true }
def FnNextUptoSaid : Prop := fnNextUptoRow.holds Tryd.pinned (OpenSpec.upto fnNextSpec)

/-- 'laws.FnStateForm', WHERE WHAT IT READS IS OF BULK AT MOST 1048576: true; the input reads as it did. -/
def fnStateFormUptoRow : OpenClaim := { program := "ytcnbephpadmboaadoor", sum := "07d9118102e3003dc09e2e7cff8d77b47bea66e367ed609adf2b7216208e589f", func := "loop.example/hawser/laws.FnStateForm", spec := "fnStateForm", named := ["loop.example/hawser/impl.packetLows", "loop.example/hawser/impl.packetHighs"], apart := false, laid := [("loop.example/hawser/impl.packetLows", laid_loop_example_hawser_impl_packetLows), ("loop.example/hawser/impl.packetHighs", laid_loop_example_hawser_impl_packetHighs)], narrowed := true }
def FnStateFormUptoSaid : Prop := fnStateFormUptoRow.holds Tryd.pinned (OpenSpec.upto fnStateFormSpec)

/-- 'laws.FnChainNew', WHERE WHAT IT READS IS OF BULK AT MOST 1048576: true; the input reads as it did. -/
def fnChainNewUptoRow : OpenClaim := { program := "ytcnbephpadmboaadoor", sum := "07d9118102e3003dc09e2e7cff8d77b47bea66e367ed609adf2b7216208e589f", func := "loop.example/hawser/laws.FnChainNew", spec := "fnChainNew", named := ["loop.example/hawser/impl.packetLows", "loop.example/hawser/impl.packetHighs"], apart := false, laid := [("loop.example/hawser/impl.packetLows", laid_loop_example_hawser_impl_packetLows), ("loop.example/hawser/impl.packetHighs", laid_loop_example_hawser_impl_packetHighs)], narrowed := true }
def FnChainNewUptoSaid : Prop := fnChainNewUptoRow.holds Tryd.pinned (OpenSpec.upto fnChainNewSpec)

end Rows
end Go.Proofs.YtcnbephpadmboaaDoor
