/- Banks as lists and as values in memory. -/
import Derived.Test.YtifocngajndnnaaDoorBank
import Derived.Laws.MakeOwn
import Derived.Deep.OwnRows
set_option linter.unusedVariables false
set_option linter.unusedSimpArgs false
namespace Go.Proofs.YtifocngajndnnaaDoor
open Go.RowKit

theorem info_int : (Tryd.prog.info? 3).map (fun i => (i.zero, i.size, i.bytes)) = some (some (.int .i64 0), 1, 8) := by kernel_rfl

/-- What a bank holds. -/
structure BankL where
  own : List Int
  notes : List Int
  locked : Int

/-- The value v is the bank b in memory of the call's own, from block lo on; its two rows lie in blocks of their own. -/
def BankAt (w : World) (lo : Nat) (v : Value) (b : BankL) : Prop :=
  ∃ A1 n1 c1 A2 n2 c2, v = .agg #[.slice A1 n1 c1, .slice A2 n2 c2, .int .i64 b.locked] ∧ Row w lo A1 n1 b.own ∧ Row w lo A2 n2 b.notes ∧
    (∀ i, blk A1 n1 i → ¬ blk A2 n2 i) ∧ n1 ≤ c1 ∧ n2 ≤ c2 ∧ c1 ≤ maxLen ∧ c2 ≤ maxLen

def RetBank (w : World) (b : BankL) (e : Ending) (w' : World) : Prop := ∃ v, e = .returned v ∧ BankAt w' w.heap.size v b ∧ Keeps noBlk w w'

def newL : BankL := ⟨[10, 10, 10], [0, 0, 0], 0⟩

theorem ints3 (a b c : Int) : ∀ (j : Nat) (x : Int), [a, b, c][j]? = some x → #[Value.int .i64 a, Value.int .i64 b, Value.int .i64 c][j]? = some (Value.int .i64 x) := by
  intro j x h
  match j, h with
  | 0, h => simp at h; subst h; rfl
  | 1, h => simp at h; subst h; rfl
  | 2, h => simp at h; subst h; rfl

theorem made_ints (n : Nat) : ∀ (j : Nat) (x : Int), (List.replicate n (0 : Int))[j]? = some x → (madeCells #[Value.int .i64 0] n)[j]? = some (Value.int .i64 x) := by
  intro j x h
  rw [List.getElem?_replicate] at h
  split at h
  · injection h with h
    subst h
    simp [madeCells, *, Nat.mod_one]
  · cases h

def tens (k : Nat) : List Int := (List.replicate k (10 : Int) ++ [0, 0, 0]).take 3
theorem tens_step (k : Nat) (h : k < 3) : (tens k).set k 10 = tens (k + 1) := by
  match k, h with
  | 0, _ => rfl
  | 1, _ => rfl
  | 2, _ => rfl

end Go.Proofs.YtifocngajndnnaaDoor
