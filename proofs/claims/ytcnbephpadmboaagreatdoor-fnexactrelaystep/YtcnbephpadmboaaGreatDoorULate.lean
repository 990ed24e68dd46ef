/- l13Settle of the model: a packet of a chain is settled, and given back, or not. l13Late, l13Tell of the model. l13Tell of the model. l13Pay of the model: who gets a packet is paid. -/
import Derived.Test.YtcnbephpadmboaaGreatDoorUGMi
import Derived.Deep.RegionHeld3
set_option linter.unusedVariables false
set_option linter.unusedSimpArgs false
/-! GSettle -/
namespace Go.Proofs.YtcnbephpadmboaaGreatDoor
open Go.RowKit

/-- Row k of a list of bools is set: the row in memory. -/
theorem Rw.setB {G : Nat → Nat} {r : Nat} {w : World} {e : TypeId} {g c k : Nat} {xs : List Bool} (h : Rw G r w e 1 (.slice (some ⟨g, 0, none⟩) xs.length c) xs.length (vBs xs)) (hk : k < xs.length) (y : Bool) :
    Rw G r (w.setCell ⟨g, k, none⟩ (.bool y)) e 1 (.slice (some ⟨g, 0, none⟩) (xs.set k y).length c) (xs.set k y).length (vBs (xs.set k y)) := by
  refine ⟨?_, fun b hb => h.2 b (by simpa [Value.ownBlock] using hb)⟩
  obtain ⟨hl, h2⟩ := h.1
  rcases h2 with ⟨h0, _⟩ | ⟨g', cap', cur, hv, hb, hg, hc, hm, hs, ht⟩
  · cases h0
  · cases hv
    have hB : Box w g e cur := hg
    have hB2 := hB.set_ k (.bool y)
    refine ⟨by simp [vBs_length], .inr ⟨g, c, _, by rw [List.length_set], hb, hB2, by rw [List.length_set]; exact hc, hm, by simpa using hs, ?_⟩⟩
    rw [List.length_set]
    apply List.ext_getElem?
    intro j
    have hj0 : (cur.toList.take (xs.length * 1))[j]? = (vBs xs)[j]? := by rw [ht]
    rw [List.getElem?_take] at hj0 ⊢
    simp only [vBs, List.getElem?_map, List.getElem?_set, Array.toList_setIfInBounds, Nat.mul_one] at hj0 ⊢
    by_cases hjk : k = j
    · subst hjk
      have hks : k < cur.size := by omega
      simp [hk, hks]
    · rw [if_neg hjk, if_neg hjk]
      exact hj0
/-- The state's rows, one of them turned. -/
theorem Rw.at_ {G : Nat → Nat} {r : Nat} {w : World} {e : TypeId} {sz n c : Nat} {A : Option Addr} {xs : List Value} (h : Rw G r w e sz (.slice A n c) n xs) (hn : 0 < n) :
    ∃ g, A = some ⟨g, 0, none⟩ ∧ g < w.heap.size ∧ G g = r := by
  obtain ⟨_, h1, h2⟩ := owns_cells h.1
  cases A with
  | none => have := (h1 rfl).1; omega
  | some a =>
    obtain ⟨g, rfl, hg, _⟩ := h2 a rfl
    exact ⟨g, rfl, hg, h.2 g rfl⟩
end Go.Proofs.YtcnbephpadmboaaGreatDoor

/-! GLate -/
namespace Go.Proofs.YtcnbephpadmboaaGreatDoor
open Go.RowKit

def RetLate (G : Nat → Nat) (i : Nat) (w : World) (c : ChM) (o : Bool) (e : Ending) (w' : World) : Prop :=
  ∃ G' : Nat → Nat, e = .returned (.tuple #[c.val, .bool o]) ∧ (∀ b, b < w.heap.size → G' b = G b) ∧ ChR G' i w' c ∧ Keeps (Mt G i) w w'
end Go.Proofs.YtcnbephpadmboaaGreatDoor

/-! GTell -/
namespace Go.Proofs.YtcnbephpadmboaaGreatDoor
open Go.RowKit

end Go.Proofs.YtcnbephpadmboaaGreatDoor

/-! GPay -/
namespace Go.Proofs.YtcnbephpadmboaaGreatDoor
open Go.RowKit

end Go.Proofs.YtcnbephpadmboaaGreatDoor
