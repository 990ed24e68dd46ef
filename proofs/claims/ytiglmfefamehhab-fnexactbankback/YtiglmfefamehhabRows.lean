/-
  No cell of these rows narrows 'for every input' (looked for: loops, veiled, ifaces, maps, wideKeys, modest, calm, conditions, laid).
  DERIVED. THE GIVEN ROWS OF THIS SEAT. 3 by the template 'for every input the law returns true; each argument reads behind the call as it read before'; 0 by the template 'total and deterministic' (their statements: YtiglmfefamehhabTotals.lean).
  GIVEN WITH THE SEED: the statements are not yours to turn. If you find one false, say at which input.
  Laid BY PROGRAM, IN A SANDBOX (cutbox-rows.mjs): the forced cells as the released guide's own fill.sh prints them over the translation bb16995e34b0c93f… (all of the seat's roots in one cut). By AI agents, Wed Nov 11 2026. No macro, syntax, notation, axiom, sorry.
-/
import Derived.Test.YtiglmfefamehhabChecked
import GoSem.Claim
import GoSem.ClaimJoined
import GoSem.ClaimMapViews
import Derived.JoinedTies
import Derived.KernelRfl
namespace Go.Proofs.Ytiglmfefamehhab
/- THE CELL 'sum', in the pinned program and in every row, IS THE sha256 OF THE DUMP (.gsa) THAT YtiglmfefamehhabProg.lean LOADS. Nothing in Lean hashes anything: it is a label: what it is worth is what the hold of that sum in a sandbox is worth. -/
noncomputable def Try.pinned : Pinned := { name := "ytiglmfefamehhab", sum := "bb16995e34b0c93f2b5767b17319da8bb1c107d92ac1fc70ed4311fce31d6878", checked := Try.checked }
namespace Rows
def none {H : Type} : Left H := { results := [], args := [] }

/-- 'laws.FnExactBankAway': WHATEVER THE INPUT: true; the input reads as it did. -/
def fnExactBankAwaySpec : ChangeSpec := { name := "fnExactBankAway", fn := fun _ => fun
  | [d1, d2, d3, d4] => { results := [.lit (.bool true)], args := [d1, d2, d3, d4] }
  | _ => none }
def fnExactBankAwayRow : OpenClaim := { program := "ytiglmfefamehhab", sum := "bb16995e34b0c93f2b5767b17319da8bb1c107d92ac1fc70ed4311fce31d6878", func := "loop.example/hawser/laws.FnExactBankAway", spec := "fnExactBankAway", unfollowed := true, recurses := true, apart := false }
def FnExactBankAwaySaid : Prop := fnExactBankAwayRow.holds Try.pinned (OpenSpec.ofChange fnExactBankAwaySpec)

/-- ITS FALSE NEIGHBOUR: 'it returns false'. Refute it at one input. -/
def fnExactBankAwayWrong : ChangeSpec := { name := "fnExactBankAway", fn := fun _ => fun
  | [d1, d2, d3, d4] => { results := [.lit (.bool false)], args := [d1, d2, d3, d4] }
  | _ => none }
def FnExactBankAwayWrongFalsely : Prop := fnExactBankAwayRow.holds Try.pinned (OpenSpec.ofChange fnExactBankAwayWrong)

/-- 'laws.FnExactBankBack': WHATEVER THE INPUT: true; the input reads as it did. -/
def fnExactBankBackSpec : ChangeSpec := { name := "fnExactBankBack", fn := fun _ => fun
  | [d1, d2, d3, d4] => { results := [.lit (.bool true)], args := [d1, d2, d3, d4] }
  | _ => none }
def fnExactBankBackRow : OpenClaim := { program := "ytiglmfefamehhab", sum := "bb16995e34b0c93f2b5767b17319da8bb1c107d92ac1fc70ed4311fce31d6878", func := "loop.example/hawser/laws.FnExactBankBack", spec := "fnExactBankBack", unfollowed := true, recurses := true, apart := false }
def FnExactBankBackSaid : Prop := fnExactBankBackRow.holds Try.pinned (OpenSpec.ofChange fnExactBankBackSpec)

/-- ITS FALSE NEIGHBOUR: 'it returns false'. Refute it at one input. -/
def fnExactBankBackWrong : ChangeSpec := { name := "fnExactBankBack", fn := fun _ => fun
  | [d1, d2, d3, d4] => { results := [.lit (.bool false)], args := [d1, d2, d3, d4] }
  | _ => none }
def FnExactBankBackWrongFalsely : Prop := fnExactBankBackRow.holds Try.pinned (OpenSpec.ofChange fnExactBankBackWrong)

/-- 'laws.FnExactBankAll': WHATEVER THE INPUT: true; the input reads as it did. -/
def fnExactBankAllSpec : ChangeSpec := { name := "fnExactBankAll", fn := fun _ => fun
  | [d] => { results := [.lit (.bool true)], args := [d] }
  | _ => none }
def fnExactBankAllRow : OpenClaim := { program := "ytiglmfefamehhab", sum := "bb16995e34b0c93f2b5767b17319da8bb1c107d92ac1fc70ed4311fce31d6878", func := "loop.example/hawser/laws.FnExactBankAll", spec := "fnExactBankAll", apart := false }
def FnExactBankAllSaid : Prop := fnExactBankAllRow.holds Try.pinned (OpenSpec.ofChange fnExactBankAllSpec)

/-- ITS FALSE NEIGHBOUR: 'it returns false'. Refute it at one input. -/
def fnExactBankAllWrong : ChangeSpec := { name := "fnExactBankAll", fn := fun _ => fun
  | [d] => { results := [.lit (.bool false)], args := [d] }
  | _ => none }
def FnExactBankAllWrongFalsely : Prop := fnExactBankAllRow.holds Try.pinned (OpenSpec.ofChange fnExactBankAllWrong)

/- THE SECOND FORM. 'bulk': how many values and letters a reading holds, each counted each time it is reached (what is shared counts as often as it is met; a slice's spare places count too). A statement '..UptoSaid' is the law's where the arguments, and the package variables that the reading takes, are together of bulk at most 1048576: NARROWER than '..Said'. Prove '..Said' where nothing that the law and all that it calls make is longer than what came in: it says more and counts as full. Else prove '..UptoSaid'. A law counts once. -/
mutual
def uptoBulk {H : Type} : DataW H → Nat
  | .lit (.string bytes) => bytes.length + 1
  | .lit _ => 1
  | .nil => 1
  | .ptr d => uptoBulk d + 1
  | .slice elems spare => uptoBulkAll elems + uptoBulkAll spare + 1
  | .agg parts => uptoBulkAll parts + 1
  | .iface _ d => uptoBulk d + 1
  | .map entries => uptoBulkEntries entries + 1
  | .held _ => 1
def uptoBulkAll {H : Type} : List (DataW H) → Nat
  | [] => 0
  | d :: r => uptoBulk d + uptoBulkAll r
def uptoBulkEntries {H : Type} : List (Lit × DataW H) → Nat
  | [] => 0
  | x :: r => uptoBulkEntry x + uptoBulkEntries r
def uptoBulkEntry {H : Type} : Lit × DataW H → Nat
  | (.string bytes, d) => bytes.length + uptoBulk d + 1
  | (_, d) => uptoBulk d + 1
 end
def uptoSmall : (H : Type) → List (DataW H) → Bool := fun _ ds => decide (uptoBulkAll ds ≤ 1048576)
def OpenSpec.upto (s : _root_.Go.ChangeSpec) : _root_.Go.OpenSpec := { _root_.Go.OpenSpec.ofChange s with cond := some uptoSmall }

/-- 'laws.FnExactBankAway', WHERE WHAT IT READS IS OF BULK AT MOST 1048576: true; the input reads as it did. -/
def fnExactBankAwayUptoRow : OpenClaim := { program := "ytiglmfefamehhab", sum := "bb16995e34b0c93f2b5767b17319da8bb1c107d92ac1fc70ed4311fce31d6878", func := "loop.example/hawser/laws.FnExactBankAway", spec := "fnExactBankAway", unfollowed := true, recurses := true, apart := false, narrowed := true }
def FnExactBankAwayUptoSaid : Prop := fnExactBankAwayUptoRow.holds Try.pinned (OpenSpec.upto fnExactBankAwaySpec)

/-- 'laws.FnExactBankBack', WHERE WHAT IT READS IS OF BULK AT MOST 1048576: true; the input reads as it did. -/
def fnExactBankBackUptoRow : OpenClaim := { program := "ytiglmfefamehhab", sum := "bb16995e34b0c93f2b5767b17319da8bb1c107d92ac1fc70ed4311fce31d6878", func := "loop.example/hawser/laws.FnExactBankBack", spec := "fnExactBankBack", unfollowed := true, recurses := true, apart := false, narrowed := true }
def FnExactBankBackUptoSaid : Prop := fnExactBankBackUptoRow.holds Try.pinned (OpenSpec.upto fnExactBankBackSpec)

/-- 'laws.FnExactBankAll', WHERE WHAT IT READS IS OF BULK AT MOST 1048576: true; the input reads as it did. -/
def fnExactBankAllUptoRow : OpenClaim := { program := "ytiglmfefamehhab", sum := "bb16995e34b0c93f2b5767b17319da8bb1c107d92ac1fc70ed4311fce31d6878", func := "loop.example/hawser/laws.FnExactBankAll", spec := "fnExactBankAll", apart := false, narrowed := true }
def FnExactBankAllUptoSaid : Prop := fnExactBankAllUptoRow.holds Try.pinned (OpenSpec.upto fnExactBankAllSpec)

end Rows
end Go.Proofs.Ytiglmfefamehhab
