/- One store into a state of the call's own; settle() of the program. refund() of the program. -/
import Derived.Test.YtcnbephpadmboaaGreatDoorCxY
import Derived.Test.YtcnbephpadmboaaGreatDoorUCxB
import Derived.Test.YtcnbephpadmboaaGreatDoorIAB
set_option linter.unusedVariables false
set_option linter.unusedSimpArgs false
/-! RyB -/
namespace Go.Proofs.YtcnbephpadmboaaGreatDoor
open Go.RowKit

theorem StOwn.got_ {w : World} {lo k : Nat} {x : StL} {A1 A2 A3 A4 : Option Addr} (h : StOwn w lo x A1 A2 A3 A4) (hk : k < x.got.length) (v : Int) :
    ∃ b off, A4 = some ⟨b, off, none⟩ ∧ lo ≤ b ∧ b < w.heap.size ∧ w.cell? ⟨b, off + k, none⟩ = some (.int .i64 (x.got.getD k 0)) ∧ w.frozen? ⟨b, off + k, none⟩ = false ∧ StOwn (w.setCell ⟨b, off + k, none⟩ (.int .i64 v)) lo { x with got := x.got.set k v } A1 A2 A3 A4 := by
  obtain ⟨s1, s2, s3, ⟨h1, h2, h3, h4⟩, q1, q2, q3, e1, e2, e3⟩ := h
  obtain ⟨b, off, rfl, hl, hb, hc, hf⟩ := h4.at_ hk
  have hbk : blk (some ⟨b, off, none⟩) x.got.length b := ⟨by omega, _, rfl, rfl⟩
  have new : Row (w.setCell ⟨b, off + k, none⟩ (.int .i64 v)) s3 (some ⟨b, off, none⟩) (x.got.set k v).length (x.got.set k v) := by
    rw [List.length_set]
    exact h4.set_ hk v
  exact ⟨b, off, rfl, by omega, hb, hc, hf, s1, s2, s3, ⟨h1.far (fun h => by have h5 : _ := q1 b h; omega) _, h2.far (fun h => by have h5 : _ := q2 b h; omega) _, h3.far (fun h => by have h5 : _ := q3 b h; omega) _, new⟩, q1, q2, q3, e1, e2, e3⟩
end Go.Proofs.YtcnbephpadmboaaGreatDoor

/-! RyC -/
namespace Go.Proofs.YtcnbephpadmboaaGreatDoor
open Go.RowKit

def refB (b : BankL) (k f m : Int) : BankL := if backOk b k f m = true then backed b k f m else b
def RetRef (w : World) (c : ChM) (P : Option Addr) (b : BankL) (x : StL) (e : Ending) (w' : World) : Prop :=
  ∃ (s : BkM) (t : StM), e = .returned (lkV { c with bk := s, st := t } P) ∧ s.b = b ∧ t.x = x ∧ Ints w' s.A1 s.b.own.length s.b.own ∧ Ints w' s.A2 s.b.notes.length s.b.notes ∧ t.At w' ∧ (∀ b, (blk s.A1 s.b.own.length b ∨ blk s.A2 s.b.notes.length b) → w.heap.size ≤ b ∨ blk c.bk.A1 c.bk.b.own.length b ∨ blk c.bk.A2 c.bk.b.notes.length b) ∧ (∀ b, t.bl b → w.heap.size ≤ b) ∧ Keeps noBlk w w'
theorem retB2_no' {w w' : World} {b : BankL} {e : Ending} (h : RetB2 w false b e w') : e = .returned (.tuple #[noBank, .bool false]) ∧ Keeps noBlk w w' := by
  rcases h with ⟨h, _⟩ | ⟨_, h⟩
  · cases h
  · exact h
theorem retB2_yes' {w w' : World} {b : BankL} {e : Ending} (h : RetB2 w true b e w') :
    ∃ x1 y1 x2 y2, e = .returned (.tuple #[.agg #[.slice x1 b.own.length y1, .slice x2 b.notes.length y2, .int .i64 b.locked], .bool true]) ∧ Ints w' x1 b.own.length b.own ∧ Ints w' x2 b.notes.length b.notes ∧ (∀ i, (blk x1 b.own.length i ∨ blk x2 b.notes.length i) → w.heap.size ≤ i) ∧ Keeps noBlk w w' := by
  rcases h with ⟨_, h⟩ | ⟨h, _⟩
  · obtain ⟨v, rfl, ⟨x1, n1, y1, x2, n2, y2, rfl, h1, h2, _⟩, hk⟩ := h
    obtain rfl := h1.1.1
    obtain rfl := h2.1.1
    exact ⟨x1, y1, x2, y2, rfl, h1.1, h2.1, fun i hi => by rcases hi with hi | hi; exact h1.ge hi; exact h2.ge hi, hk⟩
  · cases h
end Go.Proofs.YtcnbephpadmboaaGreatDoor
