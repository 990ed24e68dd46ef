/- Slices of ints of a call's own, as a result. Nothing here speaks of the program but its int type. -/
import Derived.Test.YtifocngajndnnaaDoorSFates
import Derived.Laws.OwnMore
import Derived.Test.YtifocngajndnnaaDoorGh
set_option linter.unusedVariables false
set_option linter.unusedSimpArgs false
namespace Go.Proofs.YtifocngajndnnaaDoor
open Go.RowKit

theorem info_int' : (Tryd.prog.info? 3).map (fun i => (i.zero, i.size, i.bytes)) = some (some (.int .i64 0), 1, 8) := by kernel_rfl
theorem ownsRow_less {w : World} {base base' : Nat} {e : TypeId} {size : Nat} {v : Value} {n : Nat} {xs : List Value} (h : w.ownsRow base e size v n xs) (hb : base' ≤ base) : w.ownsRow base' e size v n xs := by
  obtain ⟨hl, h2⟩ := h
  rcases h2 with h0 | ⟨g, cap, cur, hv, h1, r⟩
  · exact ⟨hl, .inl h0⟩
  · exact ⟨hl, .inr ⟨g, cap, cur, hv, Nat.le_trans hb h1, r⟩⟩
/-- A row of ints that the call made. -/
theorem Row.of_own {w : World} {lo n : Nat} {e : TypeId} {v : Value} {xs : List Int} (h : w.ownsRow lo e 1 v n (vIs xs)) :
    ∃ A cap, v = .slice A n cap ∧ Row w lo A n xs ∧ n ≤ maxLen := by
  obtain ⟨hl, h2⟩ := h
  rw [vIs_length] at hl
  rcases h2 with ⟨h0, hn⟩ | ⟨g, cap, cur, rfl, hb, hg, hc, hm, hs, ht⟩
  · obtain rfl : n = 0 := by simp_all
    obtain rfl : xs = [] := List.length_eq_zero_iff.1 (by omega)
    exact ⟨none, 0, h0, Row.nil _ _ _, Nat.zero_le _⟩
  · have hbx : Box w g e cur := hg
    have hcell : ∀ (j : Nat) (x : Int), xs[j]? = some x → w.cell? ⟨g, 0 + j, none⟩ = some (.int .i64 x) := by
      intro j x hx
      rw [Nat.zero_add, hbx.cell j]
      have hj : j < n := by
        have := (List.getElem?_eq_some_iff.1 hx).1
        omega
      have : (cur.toList.take (n * 1))[j]? = (vIs xs)[j]? := by rw [ht]
      rw [List.getElem?_take_of_lt (by omega)] at this
      simp only [vIs, List.getElem?_map, hx, Option.map_some] at this
      simpa using this
    exact ⟨some ⟨g, 0, none⟩, cap, rfl, ⟨⟨by omega, fun _ => ⟨g, 0, rfl, hbx.lt, hcell⟩⟩, fun _ => ⟨g, 0, rfl, hb, fun j _ => by rw [Nat.zero_add]; exact hbx.frozen j⟩⟩, by omega⟩
/-- The call hands back a slice of its own with the ints xs. -/
def RetOwn (w : World) (xs : List Int) (e : Ending) (w' : World) : Prop :=
  ∃ v, e = .returned v ∧ w'.ownsRow w.heap.size 3 1 v xs.length (vIs xs) ∧ Keeps noBlk w w'
end Go.Proofs.YtifocngajndnnaaDoor
