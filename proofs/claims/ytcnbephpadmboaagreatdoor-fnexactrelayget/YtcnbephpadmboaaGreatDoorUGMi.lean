/- l1Away and l1Back of the model on a chain's bank, under a ghost of roles. l13Step of the model: a chain does a step of its channel end. l13Mine of the model: whether a packet of a chain is not settled. -/
import Derived.Test.YtcnbephpadmboaaGreatDoorGCh
import Derived.Test.YtcnbephpadmboaaGreatDoorUTurn
import Derived.Test.YtcnbephpadmboaaGreatDoorUGDo
set_option linter.unusedVariables false
set_option linter.unusedSimpArgs false
/-! GBk -/
namespace Go.Proofs.YtcnbephpadmboaaGreatDoor
open Go.RowKit

/-- The blocks of chain i's bank. -/
def MtB (G : Nat → Nat) (i b : Nat) : Prop := G b = rl i 4 ∨ G b = rl i 5
theorem MtB.mt {G : Nat → Nat} {i b : Nat} (h : MtB G i b) : Mt G i b := by
  rcases h with h | h
  · exact ⟨4, by decide, h⟩
  · exact ⟨5, by decide, h⟩
theorem okB_len {b : BankL} (h : okB b = true) : b.own.length = 3 ∧ b.notes.length = 3 := ⟨lst_len h 1, lst_len h 2⟩
def RetBk (G : Nat → Nat) (i : Nat) (w : World) (s : BkM) (b : BankL) (o : Bool) (e : Ending) (w' : World) : Prop :=
  e = .returned (.tuple #[({ s with b := b } : BkM).val, .bool o]) ∧ BkR G (rl i) w' { s with b := b } ∧ Keeps (MtB G i) w w'
theorem BkR.dis {G : Nat → Nat} {i : Nat} {w : World} {s : BkM} (h : BkR G (rl i) w s) : ∀ b, blk s.A1 s.b.own.length b → ¬ blk s.A2 s.b.notes.length b := fun b h1 h2 => by
  have e1 := h.1.2 b h1
  have e2 := h.2.2 b h2
  rw [e1] at e2
  unfold rl at e2
  omega
theorem turnB_len {b : BankL} {k f s : Int} (h : okB b = true) : (turnB b k f s).own.length = 3 ∧ (turnB b k f s).notes.length = 3 := by
  obtain ⟨h1, h2⟩ := okB_len h
  unfold turnB
  split
  · unfold backed lock give put
    repeat' split
    all_goals simp_all [lst]
  · exact ⟨h1, h2⟩
theorem l1Back_g (G : Nat → Nat) (i : Nat) (s : BkM) (kd f sm : Int) (w : World) (h : BkR G (rl i) w s) (q1 : okB s.b = true) (q2 : kindB kd = true) (q3 : userB f = true) (hs0 : 0 ≤ sm) (hs1 : sm ≤ 1000) :
    Calls Tryz.prog 98 #[s.val, .int .i64 kd, .int .i64 f, .int .i64 sm] w (RetBk G i w s (turnB s.b kd f sm) (decide (sm ≤ room s.b kd))) := by
  obtain ⟨e1, e2⟩ := okB_len q1
  obtain ⟨t1, t2⟩ := turnB_len (k := kd) (f := f) (s := sm) q1
  have h' := h
  obtain ⟨⟨r1, g1⟩, r2, g2⟩ := h
  have hd := h'.dis
  unfold BkM.val
  rw [e1] at r1 g1 hd ⊢
  rw [e2] at r2 g2 hd ⊢
  refine (l1Back_any s.A1 s.A2 s.c1 s.c2 0 s.b.locked s.b.own s.b.notes w r1 r2 hd kd f sm q1 q2 q3 hs0 hs1).mono ?_
  rintro e w' ⟨rfl, a1, a2, hk⟩
  refine ⟨by dsimp only [BkM.val]; rw [t1, t2], ⟨⟨by dsimp only; rw [t1]; exact a1, by dsimp only; rw [t1]; exact g1⟩, by dsimp only; rw [t2]; exact a2, by dsimp only; rw [t2]; exact g2⟩, hk.more fun b _ hb => ?_⟩
  rcases hb with hb | hb
  · exact .inl (g1 b hb)
  · exact .inr (g2 b hb)
end Go.Proofs.YtcnbephpadmboaaGreatDoor

/-! GStep -/
namespace Go.Proofs.YtcnbephpadmboaaGreatDoor
open Go.RowKit

theorem doSt_rows (x y : StL) (k : Int) : (doSt x y k).sent = x.sent ∧ (doSt x y k).live = x.live ∧ (doSt x y k).back = x.back ∧ (doSt x y k).got = x.got := by
  unfold doSt
  repeat' split
  all_goals exact ⟨rfl, rfl, rfl, rfl⟩
def stepCh (c : ChM) (y : StL) (k : Int) : ChM := if mayB c.st.x y k = true then { c with st := { c.st with x := doSt c.st.x y k } } else c
theorem StR.step {G ρ : Nat → Nat} {w : World} {s : StM} (y : StL) (k : Int) (h : StR G ρ w s) : StR G ρ w { s with x := doSt s.x y k } := by
  obtain ⟨e1, e2, e3, e4⟩ := doSt_rows s.x y k
  unfold StR
  dsimp only
  rw [e1, e2, e3, e4]
  exact h
theorem ChR.step {G : Nat → Nat} {i : Nat} {w : World} {c : ChM} (y : StL) (k : Int) (h : ChR G i w c) : ChR G i w (stepCh c y k) := by
  unfold stepCh
  split
  · exact ⟨h.1, h.2.1.step y k, h.2.2⟩
  · exact h
end Go.Proofs.YtcnbephpadmboaaGreatDoor

/-! GMine -/
namespace Go.Proofs.YtcnbephpadmboaaGreatDoor
open Go.RowKit

end Go.Proofs.YtcnbephpadmboaaGreatDoor
