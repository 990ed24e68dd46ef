/- markIntS and heldIntS of the laws: a row is marked with k, k+1, ..; a marked row is told. -/
import Derived.Test.YtedmkbiamjpdaabProg
import Derived.Test.YtedmkbiamjpdaabMem
import Derived.Tactics
import Derived.Tactics2
import Derived.KernelRfl
import Derived.Outline
set_option linter.unusedVariables false
set_option linter.unusedSimpArgs false
namespace Go.Proofs.Ytedmkbiamjpdaab
open Go.RowKit

/-- k, k+1, .., n of them. -/
def iota (k : Int) (n : Nat) : List Int := (List.range n).map fun (i : Nat) => k + (i : Int)
theorem iota_length (k : Int) (n : Nat) : (iota k n).length = n := by simp [iota]
theorem iota_getD (k : Int) (n i : Nat) (h : i < n) : (iota k n).getD i 0 = k + i := by simp [iota, List.getD_eq_getElem?_getD, h]

/-- The first i of a row are marked. -/
def marked (k : Int) (i : Nat) (xs : List Int) : List Int := iota k i ++ xs.drop i
theorem marked_zero (k : Int) (xs : List Int) : marked k 0 xs = xs := by simp [marked, iota]
theorem marked_step (k : Int) (i : Nat) (xs : List Int) (h : i < xs.length) : (marked k i xs).set i (k + i) = marked k (i + 1) xs := by
  apply List.ext_getElem?
  intro j
  simp only [marked, iota]
  rw [List.getElem?_set]
  by_cases hj : i = j
  · subst hj
    rw [if_pos rfl, if_pos (by simp; omega), List.getElem?_append_left (by simp)]
    simp
  · rw [if_neg hj]
    by_cases hlt : j < i
    · rw [List.getElem?_append_left (by simpa using hlt), List.getElem?_append_left (by simp; omega)]
      simp [hlt, Nat.lt_succ_of_lt hlt]
    · rw [List.getElem?_append_right (by simp; omega), List.getElem?_append_right (by simp; omega)]
      simp only [List.length_map, List.length_range, List.getElem?_drop]
      congr 1
      omega
theorem marked_all (k : Int) (n : Nat) (xs : List Int) (h : xs.length = n) : marked k n xs = iota k n := by
  simp [marked, List.drop_of_length_le (Nat.le_of_eq h)]

def RetMark (w : World) (lo : Nat) (A : Option Addr) (n : Nat) (k : Int) (e : Ending) (w' : World) : Prop :=
  e = .returned (.int .i64 (k + n)) ∧ Row w' lo A n (iota k n) ∧ Keeps (blk A n) w w'

end Go.Proofs.Ytedmkbiamjpdaab
