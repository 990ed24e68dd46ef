/- WayDo of the program and of the model. The two tables read as the program's text lays them. -/
import Derived.Test.YtifocngajndnnaaDoorIWay
import Derived.Test.YtifocngajndnnaaDoorICopy
import Derived.Test.YtifocngajndnnaaDoorSMark
import Derived.Deep.RegionHeld3
set_option linter.unusedVariables false
set_option linter.unusedSimpArgs false
namespace Go.Proofs.YtifocngajndnnaaDoor
open Go.RowKit

/-- The call hands back a state z of its own, and true. -/
def RetDo (w : World) (z : StL) (e : Ending) (w' : World) : Prop :=
  ∃ s : StM, e = .returned (.tuple #[s.val, .bool true]) ∧ s.x = z ∧ Keeps noBlk w w' ∧ ∀ G ρ : Nat → Nat, ∃ G' : Nat → Nat, (∀ b, b < w.heap.size → G' b = G b) ∧ StR G' ρ w' s
def RetNoD (w : World) (e : Ending) (w' : World) : Prop := e = .returned (.tuple #[.agg #[.int .i64 0, .int .i64 0, .int .i64 0, .slice none 0 0, .slice none 0 0, .slice none 0 0, .slice none 0 0], .bool false]) ∧ Keeps noBlk w w'
theorem do_end {w w2 w3 w4 WF : World} {s : StM} (hst : ∀ G ρ : Nat → Nat, ∃ G' : Nat → Nat, (∀ b, b < w2.heap.size → G' b = G b) ∧ StR G' ρ w3 s) (hk4 : Keeps noBlk w3 w4) (hK : Keeps (fun b => w.heap.size ≤ b ∧ b < w2.heap.size) w4 WF) (hw : w.heap.size ≤ w2.heap.size) :
    ∀ G ρ : Nat → Nat, ∃ G' : Nat → Nat, (∀ b, b < w.heap.size → G' b = G b) ∧ StR G' ρ WF s := by
  intro G ρ
  obtain ⟨G', hG, hS⟩ := hst (up G w.heap.size (ρ 0 + ρ 1 + ρ 2 + ρ 3 + 1)) ρ
  refine ⟨G', fun b hb => (hG b (by omega)).trans (up_old hb), (hS.kept hk4).keeps hK fun b k hk e e' => ?_⟩
  rw [hG b e'.2, up_new e'.1] at e
  match k, hk with
  | 0, _ => omega
  | 1, _ => omega
  | 2, _ => omega
  | 3, _ => omega
/-- The same, its rows one behind the other. -/
def RetDoO (w : World) (z : StL) (e : Ending) (w' : World) : Prop :=
  ∃ s : StM, e = .returned (.tuple #[s.val, .bool true]) ∧ s.x = z ∧ Keeps noBlk w w' ∧ (∀ G ρ : Nat → Nat, ∃ G' : Nat → Nat, (∀ b, b < w.heap.size → G' b = G b) ∧ StR G' ρ w' s) ∧ StOwn w' w.heap.size s.x s.A1 s.A2 s.A3 s.A4
theorem StOwn.less {w : World} {lo lo' : Nat} {x : StL} {A1 A2 A3 A4 : Option Addr} (h : StOwn w lo x A1 A2 A3 A4) (hl : lo' ≤ lo) : StOwn w lo' x A1 A2 A3 A4 := by
  obtain ⟨s1, s2, s3, ⟨h1, h2⟩, a, b, c, d, r⟩ := h
  exact ⟨s1, s2, s3, ⟨h1.less hl, h2⟩, a, b, c, Nat.le_trans hl d, r⟩
theorem do_own {w w2 w3 w4 WF : World} {x : StL} {A1 A2 A3 A4 : Option Addr} (h : StOwn w3 w2.heap.size x A1 A2 A3 A4) (hk4 : Keeps noBlk w3 w4) (hK : Keeps (fun b => w.heap.size ≤ b ∧ b < w2.heap.size) w4 WF) (hw : w.heap.size ≤ w2.heap.size) : StOwn WF w.heap.size x A1 A2 A3 A4 :=
  ((h.kept hk4).keeps hK fun b hb e => by have := h.ge hb; omega).less hw
theorem may6 {x y : StL} (h : wmayB x y 6 = true) : y.want = x.ver + 1 := by
  simp only [wmayB, Bool.and_eq_true] at h
  have := h.2
  simp [mayB] at this
  exact this.2.2
theorem doSt_lists (x y : StL) (k : Int) : ∃ a b c, doSt x y k = ⟨a, b, c, x.sent, x.live, x.back, x.got⟩ := by
  unfold doSt
  repeat' split
  all_goals exact ⟨_, _, _, rfl⟩
end Go.Proofs.YtifocngajndnnaaDoor
