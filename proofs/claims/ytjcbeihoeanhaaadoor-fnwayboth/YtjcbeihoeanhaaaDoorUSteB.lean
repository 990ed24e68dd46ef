/- The frame of laws over drawn bytes, beside laid tables. Plain facts of states that the laws of stage 3 go by. Nothing here speaks of the program's text. lwAmong: whether a number is among such. -/
import Derived.Test.YtjcbeihoeanhaaaDoorUStFB
import Derived.Test.YtjcbeihoeanhaaaDoorUPlAB
import Derived.Test.YtjcbeihoeanhaaaDoorUOwnB
set_option maxRecDepth 100000
set_option maxHeartbeats 1000000
set_option linter.unusedVariables false
set_option linter.unusedSimpArgs false
/-! StFB -/
namespace Go.Proofs.YtjcbeihoeanhaaaDoor
open Go.RowKit Go.ChangeShapes Go.WideShapes Go.ChangeAt Go.Joins
theorem cellsByte : Tryd.prog.cellsOf 5 = 1 := by kernel_rfl
theorem bytes_of_trod {H : Type} {enc : TypeId × Value → H} {W : World} {base : Nat} {spare : Nat → Bool} {held : Bool} {A : Option Addr} {n c : Nat} {d : DataW H} {p : List MemPlace}
  (h0 : DataW.Trod enc Tryd.prog W base spare held 22 (.slice A n c) d p) :
  ∃ zs, Bytes W A n zs ∧ n ≤ c ∧ c ≤ maxLen := by
 obtain ⟨fuel, h⟩ := h0
 rcases open_ints Tryd.underlying22 Tryd.underlying5 cellsByte h with ⟨hcs, _⟩ | ⟨a, len, cap, zs, hcs, _, hl, hm, hz, _, hcell, hwz⟩
 ·simp [Value.cells] at hcs
  obtain ⟨rfl, rfl, rfl⟩ := hcs; exact ⟨[], ⟨rfl, by simp, fun h => absurd h (by omega)⟩, Nat.le_refl _, Nat.zero_le _⟩
 ·simp [Value.cells] at hcs
  obtain ⟨rfl, rfl, rfl⟩ := hcs
  have hle : n ≤ zs.length := by rw [hz]; split <;> omega
  refine ⟨zs.take n, ⟨by simp; omega, fun z hz => ?_, fun hn => ?_⟩, hl, hm⟩
  ·have := bounds_u8 (hwz z (List.mem_of_mem_take hz))
   omega
  ·obtain ⟨b, off, spot⟩ := a
   have hc := hcell 0 (by omega)
   have hspot : spot = none := by simpa [Addr.add] using World.cell?_spot hc
   subst hspot; refine ⟨b, off, rfl, World.block_lt_of_cell? W _ (by simpa [Addr.add] using hc), fun j x hx => ?_⟩
   have hj : j < n := by
    have := (List.getElem?_eq_some_iff.1 hx).1; simp at this
    omega
   have h1 := hcell j (by omega); rw [List.getElem?_take_of_lt hj] at hx; rw [List.getD_eq_getElem?_getD, hx] at h1
   by_cases h0 : j = 0
   ·subst h0
    simpa [Addr.add] using h1
   ·simpa [Addr.add, h0] using h1
open Go.RowKit

end Go.Proofs.YtjcbeihoeanhaaaDoor
