/-
  No cell of these rows narrows 'for every input' (looked for: loops, veiled, ifaces, maps, wideKeys, modest, calm, conditions, laid).
  DERIVED. THE GIVEN ROWS OF THIS SEAT. 7 by the template 'for every input the law returns true; each argument reads behind the call as it read before'; 0 by the template 'total and deterministic' (their statements: YtjbllfnfnkghgabTotals.lean).
  GIVEN WITH THE SEED: the statements are not yours to turn. If you find one false, say at which input.
  Laid BY PROGRAM, IN A SANDBOX (cutbox-rows.mjs): the forced cells as the released guide's own fill.sh prints them over the translation 9e82c2e3a3120c17… (all of the seat's roots in one cut). By AI agents, Wed Nov 11 2026. No macro, syntax, notation, axiom, sorry.
-/
import Derived.Test.YtjbllfnfnkghgabChecked
import GoSem.Claim
import GoSem.ClaimJoined
import GoSem.ClaimMapViews
import Derived.JoinedTies
import Derived.KernelRfl
namespace Go.Proofs.Ytjbllfnfnkghgab
/- THE CELL 'sum', in the pinned program and in every row, IS THE sha256 OF THE DUMP (.gsa) THAT YtjbllfnfnkghgabProg.lean LOADS. Nothing in Lean hashes anything: it is a label: what it is worth is what the hold of that sum in a sandbox is worth. -/
noncomputable def Try.pinned : Pinned := { name := "ytjbllfnfnkghgab", sum := "9e82c2e3a3120c173409e08e59d1d76e5def1898903de404c2243055ac3309ee", checked := Try.checked }
namespace Rows
def none {H : Type} : Left H := { results := [], args := [] }

/-- 'laws.FnBankSum': WHATEVER THE INPUT: true; the input reads as it did. -/
def fnBankSumSpec : ChangeSpec := { name := "fnBankSum", fn := fun _ => fun
  | [d] => { results := [.lit (.bool true)], args := [d] }
  | _ => none }
def fnBankSumRow : OpenClaim := { program := "ytjbllfnfnkghgab", sum := "9e82c2e3a3120c173409e08e59d1d76e5def1898903de404c2243055ac3309ee", func := "loop.example/hawser/laws.FnBankSum", spec := "fnBankSum", apart := false }
def FnBankSumSaid : Prop := fnBankSumRow.holds Try.pinned (OpenSpec.ofChange fnBankSumSpec)

/-- ITS FALSE NEIGHBOUR: 'it returns false'. Refute it at one input. -/
def fnBankSumWrong : ChangeSpec := { name := "fnBankSum", fn := fun _ => fun
  | [d] => { results := [.lit (.bool false)], args := [d] }
  | _ => none }
def FnBankSumWrongFalsely : Prop := fnBankSumRow.holds Try.pinned (OpenSpec.ofChange fnBankSumWrong)

/-- 'laws.FnMove': WHATEVER THE INPUT: true; the input reads as it did. -/
def fnMoveSpec : ChangeSpec := { name := "fnMove", fn := fun _ => fun
  | [d] => { results := [.lit (.bool true)], args := [d] }
  | _ => none }
def fnMoveRow : OpenClaim := { program := "ytjbllfnfnkghgab", sum := "9e82c2e3a3120c173409e08e59d1d76e5def1898903de404c2243055ac3309ee", func := "loop.example/hawser/laws.FnMove", spec := "fnMove", unfollowed := true, recurses := true, apart := false }
def FnMoveSaid : Prop := fnMoveRow.holds Try.pinned (OpenSpec.ofChange fnMoveSpec)

/-- ITS FALSE NEIGHBOUR: 'it returns false'. Refute it at one input. -/
def fnMoveWrong : ChangeSpec := { name := "fnMove", fn := fun _ => fun
  | [d] => { results := [.lit (.bool false)], args := [d] }
  | _ => none }
def FnMoveWrongFalsely : Prop := fnMoveRow.holds Try.pinned (OpenSpec.ofChange fnMoveWrong)

/-- 'laws.FnMoveBack': WHATEVER THE INPUT: true; the input reads as it did. -/
def fnMoveBackSpec : ChangeSpec := { name := "fnMoveBack", fn := fun _ => fun
  | [d1, d2] => { results := [.lit (.bool true)], args := [d1, d2] }
  | _ => none }
def fnMoveBackRow : OpenClaim := { program := "ytjbllfnfnkghgab", sum := "9e82c2e3a3120c173409e08e59d1d76e5def1898903de404c2243055ac3309ee", func := "loop.example/hawser/laws.FnMoveBack", spec := "fnMoveBack", unfollowed := true, recurses := true, apart := false }
def FnMoveBackSaid : Prop := fnMoveBackRow.holds Try.pinned (OpenSpec.ofChange fnMoveBackSpec)

/-- ITS FALSE NEIGHBOUR: 'it returns false'. Refute it at one input. -/
def fnMoveBackWrong : ChangeSpec := { name := "fnMoveBack", fn := fun _ => fun
  | [d1, d2] => { results := [.lit (.bool false)], args := [d1, d2] }
  | _ => none }
def FnMoveBackWrongFalsely : Prop := fnMoveBackRow.holds Try.pinned (OpenSpec.ofChange fnMoveBackWrong)

/-- 'laws.FnAway': WHATEVER THE INPUT: true; the input reads as it did. -/
def fnAwaySpec : ChangeSpec := { name := "fnAway", fn := fun _ => fun
  | [d] => { results := [.lit (.bool true)], args := [d] }
  | _ => none }
def fnAwayRow : OpenClaim := { program := "ytjbllfnfnkghgab", sum := "9e82c2e3a3120c173409e08e59d1d76e5def1898903de404c2243055ac3309ee", func := "loop.example/hawser/laws.FnAway", spec := "fnAway", unfollowed := true, recurses := true, apart := false }
def FnAwaySaid : Prop := fnAwayRow.holds Try.pinned (OpenSpec.ofChange fnAwaySpec)

/-- ITS FALSE NEIGHBOUR: 'it returns false'. Refute it at one input. -/
def fnAwayWrong : ChangeSpec := { name := "fnAway", fn := fun _ => fun
  | [d] => { results := [.lit (.bool false)], args := [d] }
  | _ => none }
def FnAwayWrongFalsely : Prop := fnAwayRow.holds Try.pinned (OpenSpec.ofChange fnAwayWrong)

/-- 'laws.FnBack': WHATEVER THE INPUT: true; the input reads as it did. -/
def fnBackSpec : ChangeSpec := { name := "fnBack", fn := fun _ => fun
  | [d] => { results := [.lit (.bool true)], args := [d] }
  | _ => none }
def fnBackRow : OpenClaim := { program := "ytjbllfnfnkghgab", sum := "9e82c2e3a3120c173409e08e59d1d76e5def1898903de404c2243055ac3309ee", func := "loop.example/hawser/laws.FnBack", spec := "fnBack", unfollowed := true, recurses := true, apart := false }
def FnBackSaid : Prop := fnBackRow.holds Try.pinned (OpenSpec.ofChange fnBackSpec)

/-- ITS FALSE NEIGHBOUR: 'it returns false'. Refute it at one input. -/
def fnBackWrong : ChangeSpec := { name := "fnBack", fn := fun _ => fun
  | [d] => { results := [.lit (.bool false)], args := [d] }
  | _ => none }
def FnBackWrongFalsely : Prop := fnBackRow.holds Try.pinned (OpenSpec.ofChange fnBackWrong)

/-- 'laws.FnBankBad': WHATEVER THE INPUT: true; the input reads as it did. -/
def fnBankBadSpec : ChangeSpec := { name := "fnBankBad", fn := fun _ => fun
  | [d1, d2] => { results := [.lit (.bool true)], args := [d1, d2] }
  | _ => none }
def fnBankBadRow : OpenClaim := { program := "ytjbllfnfnkghgab", sum := "9e82c2e3a3120c173409e08e59d1d76e5def1898903de404c2243055ac3309ee", func := "loop.example/hawser/laws.FnBankBad", spec := "fnBankBad", apart := false }
def FnBankBadSaid : Prop := fnBankBadRow.holds Try.pinned (OpenSpec.ofChange fnBankBadSpec)

/-- ITS FALSE NEIGHBOUR: 'it returns false'. Refute it at one input. -/
def fnBankBadWrong : ChangeSpec := { name := "fnBankBad", fn := fun _ => fun
  | [d1, d2] => { results := [.lit (.bool false)], args := [d1, d2] }
  | _ => none }
def FnBankBadWrongFalsely : Prop := fnBankBadRow.holds Try.pinned (OpenSpec.ofChange fnBankBadWrong)

/-- 'laws.FnAwayTwo': WHATEVER THE INPUT: true; the input reads as it did. -/
def fnAwayTwoSpec : ChangeSpec := { name := "fnAwayTwo", fn := fun _ => fun
  | [d1, d2] => { results := [.lit (.bool true)], args := [d1, d2] }
  | _ => none }
def fnAwayTwoRow : OpenClaim := { program := "ytjbllfnfnkghgab", sum := "9e82c2e3a3120c173409e08e59d1d76e5def1898903de404c2243055ac3309ee", func := "loop.example/hawser/laws.FnAwayTwo", spec := "fnAwayTwo", unfollowed := true, recurses := true, apart := false }
def FnAwayTwoSaid : Prop := fnAwayTwoRow.holds Try.pinned (OpenSpec.ofChange fnAwayTwoSpec)

/-- ITS FALSE NEIGHBOUR: 'it returns false'. Refute it at one input. -/
def fnAwayTwoWrong : ChangeSpec := { name := "fnAwayTwo", fn := fun _ => fun
  | [d1, d2] => { results := [.lit (.bool false)], args := [d1, d2] }
  | _ => none }
def FnAwayTwoWrongFalsely : Prop := fnAwayTwoRow.holds Try.pinned (OpenSpec.ofChange fnAwayTwoWrong)

/- THE SECOND FORM. 'bulk': how many values and letters a reading holds, each counted each time it is reached (what is shared counts as often as it is met; a slice's spare places count too). A statement '..UptoSaid' is the law's where the arguments, and the package variables that the reading takes, are together of bulk at most 1048576: NARROWER than '..Said'. Prove '..Said' where nothing that the law and all that it calls make is longer than what came in: it says more and counts as full. Else prove '..UptoSaid'. A law counts once. -/
mutual
def uptoBulk {H : Type} : DataW H → Nat
  | .lit (.string bytes) => bytes.length + 1
  | .lit _ => 1
  | .nil => 1
  | .ptr d => uptoBulk d + 1
  | .slice elems spare => uptoBulkAll elems + uptoBulkAll spare + 1
  | .agg parts => uptoBulkAll parts + 1
  | .iface _ d => uptoBulk d + 1
  | .map entries => uptoBulkEntries entries + 1
  | .held _ => 1
def uptoBulkAll {H : Type} : List (DataW H) → Nat
  | [] => 0
  | d :: r => uptoBulk d + uptoBulkAll r
def uptoBulkEntries {H : Type} : List (Lit × DataW H) → Nat
  | [] => 0
  | x :: r => uptoBulkEntry x + uptoBulkEntries r
def uptoBulkEntry {H : Type} : Lit × DataW H → Nat
  | (.string bytes, d) => bytes.length + uptoBulk d + 1
  | (_, d) => uptoBulk d + 1
 end
def uptoSmall : (H : Type) → List (DataW H) → Bool := fun _ ds => decide (uptoBulkAll ds ≤ 1048576)
def OpenSpec.upto (s : _root_.Go.ChangeSpec) : _root_.Go.OpenSpec := { _root_.Go.OpenSpec.ofChange s with cond := some uptoSmall }

/-- 'laws.FnBankSum', WHERE WHAT IT READS IS OF BULK AT MOST 1048576: true; the input reads as it did. -/
def fnBankSumUptoRow : OpenClaim := { program := "ytjbllfnfnkghgab", sum := "9e82c2e3a3120c173409e08e59d1d76e5def1898903de404c2243055ac3309ee", func := "loop.example/hawser/laws.FnBankSum", spec := "fnBankSum", apart := false, narrowed := true }
def FnBankSumUptoSaid : Prop := fnBankSumUptoRow.holds Try.pinned (OpenSpec.upto fnBankSumSpec)

/-- 'laws.FnMove', WHERE WHAT IT READS IS OF BULK AT MOST 1048576: true; the input reads as it did. -/
def fnMoveUptoRow : OpenClaim := { program := "ytjbllfnfnkghgab", sum := "9e82c2e3a3120c173409e08e59d1d76e5def1898903de404c2243055ac3309ee", func := "loop.example/hawser/laws.FnMove", spec := "fnMove", unfollowed := true, recurses := true, apart := false, narrowed := true }
def FnMoveUptoSaid : Prop := fnMoveUptoRow.holds Try.pinned (OpenSpec.upto fnMoveSpec)

/-- 'laws.FnMoveBack', WHERE WHAT IT READS IS OF BULK AT MOST 1048576: true; the input reads as it did. -/
def fnMoveBackUptoRow : OpenClaim := { program := "ytjbllfnfnkghgab", sum := "9e82c2e3a3120c173409e08e59d1d76e5def1898903de404c2243055ac3309ee", func := "loop.example/hawser/laws.FnMoveBack", spec := "fnMoveBack", unfollowed := true, recurses := true, apart := false, narrowed := true }
def FnMoveBackUptoSaid : Prop := fnMoveBackUptoRow.holds Try.pinned (OpenSpec.upto fnMoveBackSpec)

/-- 'laws.FnAway', WHERE WHAT IT READS IS OF BULK AT MOST 1048576: true; the input reads as it did. -/
def fnAwayUptoRow : OpenClaim := { program := "ytjbllfnfnkghgab", sum := "9e82c2e3a3120c173409e08e59d1d76e5def1898903de404c2243055ac3309ee", func := "loop.example/hawser/laws.FnAway", spec := "fnAway", unfollowed := true, recurses := true, apart := false, narrowed := true }
def FnAwayUptoSaid : Prop := fnAwayUptoRow.holds Try.pinned (OpenSpec.upto fnAwaySpec)

/-- 'laws.FnBack', WHERE WHAT IT READS IS OF BULK AT MOST 1048576: true; the input reads as it did. -/
def fnBackUptoRow : OpenClaim := { program := "ytjbllfnfnkghgab", sum := "9e82c2e3a3120c173409e08e59d1d76e5def1898903de404c2243055ac3309ee", func := "loop.example/hawser/laws.FnBack", spec := "fnBack", unfollowed := true, recurses := true, apart := false, narrowed := true }
def FnBackUptoSaid : Prop := fnBackUptoRow.holds Try.pinned (OpenSpec.upto fnBackSpec)

/-- 'laws.FnBankBad', WHERE WHAT IT READS IS OF BULK AT MOST 1048576: true; the input reads as it did. -/
def fnBankBadUptoRow : OpenClaim := { program := "ytjbllfnfnkghgab", sum := "9e82c2e3a3120c173409e08e59d1d76e5def1898903de404c2243055ac3309ee", func := "loop.example/hawser/laws.FnBankBad", spec := "fnBankBad", apart := false, narrowed := true }
def FnBankBadUptoSaid : Prop := fnBankBadUptoRow.holds Try.pinned (OpenSpec.upto fnBankBadSpec)

/-- 'laws.FnAwayTwo', WHERE WHAT IT READS IS OF BULK AT MOST 1048576: true; the input reads as it did. -/
def fnAwayTwoUptoRow : OpenClaim := { program := "ytjbllfnfnkghgab", sum := "9e82c2e3a3120c173409e08e59d1d76e5def1898903de404c2243055ac3309ee", func := "loop.example/hawser/laws.FnAwayTwo", spec := "fnAwayTwo", unfollowed := true, recurses := true, apart := false, narrowed := true }
def FnAwayTwoUptoSaid : Prop := fnAwayTwoUptoRow.holds Try.pinned (OpenSpec.upto fnAwayTwoSpec)

end Rows
end Go.Proofs.Ytjbllfnfnkghgab
