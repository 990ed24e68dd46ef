/- markIntS and heldIntS of the laws: a row is marked with k, k+1, ..; a marked row is told. -/
import Derived.Test.YtifocngajndnnaaDoorProg
import Derived.Test.YtifocngajndnnaaDoorMem
import Derived.Tactics
import Derived.Tactics2
import Derived.KernelRfl
import Derived.Outline
set_option linter.unusedVariables false
set_option linter.unusedSimpArgs false
namespace Go.Proofs.YtifocngajndnnaaDoor
open Go.RowKit

/-- k, k+1, .., n of them. -/
def iota (k : Int) (n : Nat) : List Int := (List.range n).map fun (i : Nat) => k + (i : Int)
theorem iota_length (k : Int) (n : Nat) : (iota k n).length = n := by simp [iota]
theorem iota_getD (k : Int) (n i : Nat) (h : i < n) : (iota k n).getD i 0 = k + i := by simp [iota, List.getD_eq_getElem?_getD, h]

/-- The first i of a row are marked. -/
def marked (k : Int) (i : Nat) (xs : List Int) : List Int := iota k i ++ xs.drop i
theorem marked_zero (k : Int) (xs : List Int) : marked k 0 xs = xs := by simp [marked, iota]
theorem marked_step (k : Int) (i : Nat) (xs : List Int) (h : i < xs.length) : (marked k i xs).set i (k + i) = marked k (i + 1) xs := by
  apply List.ext_getElem?
  intro j
  simp only [marked, iota]
  rw [List.getElem?_set]
  by_cases hj : i = j
  · subst hj
    rw [if_pos rfl, if_pos (by simp; omega), List.getElem?_append_left (by simp)]
    simp
  · rw [if_neg hj]
    by_cases hlt : j < i
    · rw [List.getElem?_append_left (by simpa using hlt), List.getElem?_append_left (by simp; omega)]
      simp [hlt, Nat.lt_succ_of_lt hlt]
    · rw [List.getElem?_append_right (by simp; omega), List.getElem?_append_right (by simp; omega)]
      simp only [List.length_map, List.length_range, List.getElem?_drop]
      congr 1
      omega
theorem marked_all (k : Int) (n : Nat) (xs : List Int) (h : xs.length = n) : marked k n xs = iota k n := by
  simp [marked, List.drop_of_length_le (Nat.le_of_eq h)]

def RetMark (w : World) (lo : Nat) (A : Option Addr) (n : Nat) (k : Int) (e : Ending) (w' : World) : Prop :=
  e = .returned (.int .i64 (k + n)) ∧ Row w' lo A n (iota k n) ∧ Keeps (blk A n) w w'

set_option maxHeartbeats 400000 in
theorem markIntS_any (A : Option Addr) (n c lo : Nat) (k : Int) (xs : List Int) (w : World) (ha : Row w lo A n xs) (hk0 : 0 ≤ k) (hk : k + n ≤ 1000000000) :
    Calls Tryd.prog 24 #[.slice A n c, .int .i64 k] w (RetMark w lo A n k) := by
  have hxl := Lib.hid ha.1.1
  have HA := Lib.hid ha
  clear ha
  go_enter Tryd.func24, Tryd.ntmps24
  go_wp2
  go_loopw [1, 5] (fun kk i wr => ∃ j : Nat, j ≤ n ∧ i = .int .i64 j ∧ kk = .int .i64 (k + j) ∧ Row wr lo A n (marked k j xs) ∧ Keeps (blk A n) w wr) (fun _ i _ => n - (intOf i).toNat)
  case atStart => exact ⟨0, Nat.zero_le _, rfl, by simp, by rw [marked_zero]; exact HA.out, Keeps.refl _ _⟩
  case round =>
    obtain ⟨j, hj, rfl, rfl, hr, hkp⟩ := hrel
    by_cases hlt : j < n
    · obtain ⟨b1, o1, rfl, _, _, hc1, hf1⟩ := hr.at_ hlt
      have Hr := Lib.hid hr
      have Hkp := Lib.hid hkp
      clear hr hkp
      go_wp2
      go_roundw
      case rel => exact ⟨j + 1, by omega, by go_num, by go_num, by rw [← marked_step k j xs (by rw [hxl.out]; exact hlt)]; exact Hr.out.set_ hlt _, Hkp.out.setCell (p := ⟨b1, o1 + j, none⟩) (.inr ⟨by omega, ⟨b1, o1, none⟩, rfl, rfl⟩) _⟩
      case measure => simp [intOf]; omega
    · obtain rfl : n = j := by omega
      go_wp2
      go_ret
      exact ⟨rfl, by rw [← marked_all k n xs hxl.out]; exact hr, hkp⟩

set_option maxHeartbeats 400000 in
theorem heldIntS_any (A : Option Addr) (n c : Nat) (k : Int) (w : World) (ha : Ints w A n (iota k n)) (hk0 : 0 ≤ k) (hk : k + n ≤ 1000000000) :
    Calls Tryd.prog 25 #[.slice A n c, .int .i64 k] w fun e w' => e = .returned (.int .i64 (k + n)) ∧ w = w' := by
  go_enter Tryd.func25, Tryd.ntmps25
  go_wp2
  go_loopw [1, 5] (fun kk i wr => ∃ j : Nat, j ≤ n ∧ i = .int .i64 j ∧ kk = .int .i64 (k + j) ∧ wr = w) (fun _ i _ => n - (intOf i).toNat)
  case atStart => exact ⟨0, Nat.zero_le _, rfl, by simp, rfl⟩
  case round =>
    obtain ⟨j, hj, rfl, rfl, rfl⟩ := hrel
    by_cases hlt : j < n
    · obtain ⟨b1, o1, rfl, _, hc1⟩ := ha.at_ hlt
      rw [iota_getD k n j hlt] at hc1
      clear ha
      have hne : (k + (j : Int) != k + (j : Int)) = false := by simp
      go_wp2
      go_roundw
      case rel => exact ⟨j + 1, by omega, by go_num, by go_num, trivial⟩
      case measure => simp [intOf]; omega
    · obtain rfl : n = j := by omega
      go_wp2
      go_ret
      exact ⟨rfl, rfl⟩
end Go.Proofs.YtifocngajndnnaaDoor
