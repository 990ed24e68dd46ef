/- A channel state in plain words, and when it is ok. Nothing here speaks of the program's text but the limits of the document. No condition. -/
import Derived.Test.YtifocngajndnnaaDoorStM
import Derived.Test.YtifocngajndnnaaDoorPk0
set_option linter.unusedVariables false
set_option linter.unusedSimpArgs false
namespace Go.Proofs.YtifocngajndnnaaDoor
open Go.RowKit

def Pk.val (p : Pk) : Value := .agg #[.int .i64 p.s, .int .i64 p.k, .int .i64 p.f, .int .i64 p.t, .int .i64 p.m, .int .i64 p.u, .int .i64 p.v]
def Pk.ok (p : Pk) : Bool := pkB p.s p.k p.f p.t p.m p.u p.v
structure StL where
  way : Int
  ver : Int
  want : Int
  sent : List Pk
  live : List Bool
  back : List Bool
  got : List Int
/-- The packet at place i is ok, numbered and of no later version. -/
def pkAt (ver : Int) (i : Nat) (p : Pk) : Prop := p.ok = true ∧ p.s = (i : Int) + 1 ∧ p.v ≤ ver
instance (ver : Int) (i : Nat) (p : Pk) : Decidable (pkAt ver i p) := by unfold pkAt; infer_instance
def WayOk (way ver want : Int) : Prop := (1 ≤ ver ∧ ver ≤ 9) ∧ (0 ≤ way ∧ way ≤ 4) ∧ (way = 4 → want = ver + 1 ∧ want ≤ 9) ∧ (way ≠ 4 → want = 0)
instance (way ver want : Int) : Decidable (WayOk way ver want) := by unfold WayOk; infer_instance
def SentOk (ver : Int) (ps : List Pk) : Prop := ∀ i, i < ps.length → pkAt ver i (ps.getD i pk0)
instance (ver : Int) (ps : List Pk) : Decidable (SentOk ver ps) := by unfold SentOk; infer_instance
def FateOk (n : Nat) (live back : List Bool) : Prop := live.length = n ∧ back.length = n ∧ ∀ i, i < n → ¬ (live.getD i false = true ∧ back.getD i false = true)
instance (n : Nat) (live back : List Bool) : Decidable (FateOk n live back) := by unfold FateOk; infer_instance
def GotOk (got : List Int) : Prop := got.length = 8 ∧ ∀ i, i < 8 → in2 (got.getD i 0) 0 2 = true
instance (got : List Int) : Decidable (GotOk got) := by unfold GotOk; infer_instance
def StOk (x : StL) : Prop := WayOk x.way x.ver x.want ∧ SentOk x.ver x.sent ∧ FateOk x.sent.length x.live x.back ∧ GotOk x.got
instance (x : StL) : Decidable (StOk x) := by unfold StOk; infer_instance
def stB (x : StL) : Bool := decide (StOk x)
theorem SentOk.small {ver : Int} {ps : List Pk} (h : SentOk ver ps) : ps.length ≤ 8 := by
  rcases Nat.lt_or_ge 8 ps.length with hl | hl
  · obtain ⟨h1, h2, _⟩ := h 8 hl
    have := (pkB_parts h1).1
    omega
  · exact hl
theorem SentOk.take_step {ver : Int} {ps : List Pk} {k : Nat} (h : ∀ i, i < k → pkAt ver i (ps.getD i pk0)) (hk : pkAt ver k (ps.getD k pk0)) : ∀ i, i < k + 1 → pkAt ver i (ps.getD i pk0) := by
  intro i hi
  rcases Nat.lt_or_ge i k with hl | hl
  · exact h i hl
  · obtain rfl : i = k := by omega
    exact hk
end Go.Proofs.YtifocngajndnnaaDoor
