/- l1Away and l1Back of the model on a chain's bank, under a ghost of roles. l13Step of the model: a chain does a step of its channel end. l13Mine of the model: whether a packet of a chain is not settled. -/
import Derived.Test.YtcnbephpadmboaaGreatDoorGCh
import Derived.Test.YtcnbephpadmboaaGreatDoorUTurn
import Derived.Test.YtcnbephpadmboaaGreatDoorUGDo
set_option linter.unusedVariables false
set_option linter.unusedSimpArgs false
/-! GBk -/
namespace Go.Proofs.YtcnbephpadmboaaGreatDoor
open Go.RowKit

/-- The blocks of chain i's bank. -/
def MtB (G : Nat → Nat) (i b : Nat) : Prop := G b = rl i 4 ∨ G b = rl i 5
theorem MtB.mt {G : Nat → Nat} {i b : Nat} (h : MtB G i b) : Mt G i b := by
  rcases h with h | h
  · exact ⟨4, by decide, h⟩
  · exact ⟨5, by decide, h⟩
theorem okB_len {b : BankL} (h : okB b = true) : b.own.length = 3 ∧ b.notes.length = 3 := ⟨lst_len h 1, lst_len h 2⟩
def RetBk (G : Nat → Nat) (i : Nat) (w : World) (s : BkM) (b : BankL) (o : Bool) (e : Ending) (w' : World) : Prop :=
  e = .returned (.tuple #[({ s with b := b } : BkM).val, .bool o]) ∧ BkR G (rl i) w' { s with b := b } ∧ Keeps (MtB G i) w w'
theorem BkR.dis {G : Nat → Nat} {i : Nat} {w : World} {s : BkM} (h : BkR G (rl i) w s) : ∀ b, blk s.A1 s.b.own.length b → ¬ blk s.A2 s.b.notes.length b := fun b h1 h2 => by
  have e1 := h.1.2 b h1
  have e2 := h.2.2 b h2
  rw [e1] at e2
  unfold rl at e2
  omega
theorem turnB_len {b : BankL} {k f s : Int} (h : okB b = true) : (turnB b k f s).own.length = 3 ∧ (turnB b k f s).notes.length = 3 := by
  obtain ⟨h1, h2⟩ := okB_len h
  unfold turnB
  split
  · unfold backed lock give put
    repeat' split
    all_goals simp_all [lst]
  · exact ⟨h1, h2⟩
theorem l1Back_g (G : Nat → Nat) (i : Nat) (s : BkM) (kd f sm : Int) (w : World) (h : BkR G (rl i) w s) (q1 : okB s.b = true) (q2 : kindB kd = true) (q3 : userB f = true) (hs0 : 0 ≤ sm) (hs1 : sm ≤ 1000) :
    Calls Tryz.prog 98 #[s.val, .int .i64 kd, .int .i64 f, .int .i64 sm] w (RetBk G i w s (turnB s.b kd f sm) (decide (sm ≤ room s.b kd))) := by
  obtain ⟨e1, e2⟩ := okB_len q1
  obtain ⟨t1, t2⟩ := turnB_len (k := kd) (f := f) (s := sm) q1
  have h' := h
  obtain ⟨⟨r1, g1⟩, r2, g2⟩ := h
  have hd := h'.dis
  unfold BkM.val
  rw [e1] at r1 g1 hd ⊢
  rw [e2] at r2 g2 hd ⊢
  refine (l1Back_any s.A1 s.A2 s.c1 s.c2 0 s.b.locked s.b.own s.b.notes w r1 r2 hd kd f sm q1 q2 q3 hs0 hs1).mono ?_
  rintro e w' ⟨rfl, a1, a2, hk⟩
  refine ⟨by dsimp only [BkM.val]; rw [t1, t2], ⟨⟨by dsimp only; rw [t1]; exact a1, by dsimp only; rw [t1]; exact g1⟩, by dsimp only; rw [t2]; exact a2, by dsimp only; rw [t2]; exact g2⟩, hk.more fun b _ hb => ?_⟩
  rcases hb with hb | hb
  · exact .inl (g1 b hb)
  · exact .inr (g2 b hb)
end Go.Proofs.YtcnbephpadmboaaGreatDoor

/-! GStep -/
namespace Go.Proofs.YtcnbephpadmboaaGreatDoor
open Go.RowKit

theorem doSt_rows (x y : StL) (k : Int) : (doSt x y k).sent = x.sent ∧ (doSt x y k).live = x.live ∧ (doSt x y k).back = x.back ∧ (doSt x y k).got = x.got := by
  unfold doSt
  repeat' split
  all_goals exact ⟨rfl, rfl, rfl, rfl⟩
def stepCh (c : ChM) (y : StL) (k : Int) : ChM := if mayB c.st.x y k = true then { c with st := { c.st with x := doSt c.st.x y k } } else c
theorem StR.step {G ρ : Nat → Nat} {w : World} {s : StM} (y : StL) (k : Int) (h : StR G ρ w s) : StR G ρ w { s with x := doSt s.x y k } := by
  obtain ⟨e1, e2, e3, e4⟩ := doSt_rows s.x y k
  unfold StR
  dsimp only
  rw [e1, e2, e3, e4]
  exact h
theorem ChR.step {G : Nat → Nat} {i : Nat} {w : World} {c : ChM} (y : StL) (k : Int) (h : ChR G i w c) : ChR G i w (stepCh c y k) := by
  unfold stepCh
  split
  · exact ⟨h.1, h.2.1.step y k, h.2.2⟩
  · exact h
end Go.Proofs.YtcnbephpadmboaaGreatDoor

/-! GMine -/
namespace Go.Proofs.YtcnbephpadmboaaGreatDoor
open Go.RowKit

def mineB (x : StL) (q : Int) : Bool := decide (1 ≤ q ∧ q ≤ x.sent.length ∧ x.live.getD (q - 1).toNat false = true)
theorem mineB_lo {x : StL} {q : Int} (h : q < 1) : mineB x q = false := by simp only [mineB, decide_eq_false_iff_not]; omega
theorem mineB_hi {x : StL} {q : Int} (h : (x.sent.length : Int) < q) : mineB x q = false := by simp only [mineB, decide_eq_false_iff_not]; omega
theorem mineB_at {x : StL} {k : Nat} (h : k < x.sent.length) : mineB x ((k : Int) + 1) = x.live.getD k false := by
  unfold mineB
  rw [show ((k : Int) + 1 - 1).toNat = k by omega]
  cases x.live.getD k false
  · simp
  · simp; omega
set_option maxRecDepth 100000 in
set_option maxHeartbeats 2000000 in
theorem l13Mine_lo (c : ChM) (q : Int) (hq : q < 1) (w : World) (hx : StAt w c.st.x c.st.A1 c.st.A2 c.st.A3 c.st.A4) (hl : c.st.x.live.length = c.st.x.sent.length) :
    Calls Tryz.prog 89 #[c.val, .int .i64 (q)] w fun e w' => e = .returned (.bool (mineB c.st.x (q))) ∧ Keeps noBlk w w' := by
  have hm := hx.2.1
  unfold maxLen at hm
  have HX := Lib.hid hx
  clear hx
  have HF := Lib.hid (mineB_lo (x := c.st.x) hq)
  have d1 := in2_lo (hi := (c.st.x.sent.length : Int)) hq
  clear hq hl
  have HBC := Lib.hid (Box.new w (w.heap.size) (by simp) 42 #[.int .i64 c.id, .slice c.bk.A1 c.bk.b.own.length c.bk.c1, .slice c.bk.A2 c.bk.b.notes.length c.bk.c2, .int .i64 c.bk.b.locked, .int .i64 c.st.x.way, .int .i64 c.st.x.ver, .int .i64 c.st.x.want, .slice c.st.A1 c.st.x.sent.length c.st.c1, .slice c.st.A2 c.st.x.live.length c.st.c2, .slice c.st.A3 c.st.x.back.length c.st.c3, .slice c.st.A4 c.st.x.got.length c.st.c4, .slice c.pA c.past.length c.pc, .slice c.kA c.knows.length c.kc])
  have HK := Lib.hid ((Keeps.refl (noBlk) w).alloc (.cells #[.int .i64 c.id, .slice c.bk.A1 c.bk.b.own.length c.bk.c1, .slice c.bk.A2 c.bk.b.notes.length c.bk.c2, .int .i64 c.bk.b.locked, .int .i64 c.st.x.way, .int .i64 c.st.x.ver, .int .i64 c.st.x.want, .slice c.st.A1 c.st.x.sent.length c.st.c1, .slice c.st.A2 c.st.x.live.length c.st.c2, .slice c.st.A3 c.st.x.back.length c.st.c3, .slice c.st.A4 c.st.x.got.length c.st.c4, .slice c.pA c.past.length c.pc, .slice c.kA c.knows.length c.kc] 42))
  have hsz : w.heap.size + 1 ≤ (w.alloc (.cells #[.int .i64 c.id, .slice c.bk.A1 c.bk.b.own.length c.bk.c1, .slice c.bk.A2 c.bk.b.notes.length c.bk.c2, .int .i64 c.bk.b.locked, .int .i64 c.st.x.way, .int .i64 c.st.x.ver, .int .i64 c.st.x.want, .slice c.st.A1 c.st.x.sent.length c.st.c1, .slice c.st.A2 c.st.x.live.length c.st.c2, .slice c.st.A3 c.st.x.back.length c.st.c3, .slice c.st.A4 c.st.x.got.length c.st.c4, .slice c.pA c.past.length c.pc, .slice c.kA c.knows.length c.kc] 42)).heap.size := by simp
  unfold ChM.val
  go_enter Tryz.func89, Tryz.ntmps89
  go_wp2_with (go_at_call 64; refine (l6In_any _ _ _ _).mono ?_; rintro e w' ⟨rfl, rfl⟩)
  go_ret
  exact ⟨by simp [HF.out], (Keeps.refl _ _).alloc _⟩
set_option maxRecDepth 100000 in
set_option maxHeartbeats 2000000 in
theorem l13Mine_hi (c : ChM) (q : Int) (hq : (c.st.x.sent.length : Int) < q) (w : World) (hx : StAt w c.st.x c.st.A1 c.st.A2 c.st.A3 c.st.A4) (hl : c.st.x.live.length = c.st.x.sent.length) :
    Calls Tryz.prog 89 #[c.val, .int .i64 (q)] w fun e w' => e = .returned (.bool (mineB c.st.x (q))) ∧ Keeps noBlk w w' := by
  have hm := hx.2.1
  unfold maxLen at hm
  have HX := Lib.hid hx
  clear hx
  have HF := Lib.hid (mineB_hi (x := c.st.x) hq)
  have d1 := in2_hi (lo := 1) hq
  clear hq hl
  have HBC := Lib.hid (Box.new w (w.heap.size) (by simp) 42 #[.int .i64 c.id, .slice c.bk.A1 c.bk.b.own.length c.bk.c1, .slice c.bk.A2 c.bk.b.notes.length c.bk.c2, .int .i64 c.bk.b.locked, .int .i64 c.st.x.way, .int .i64 c.st.x.ver, .int .i64 c.st.x.want, .slice c.st.A1 c.st.x.sent.length c.st.c1, .slice c.st.A2 c.st.x.live.length c.st.c2, .slice c.st.A3 c.st.x.back.length c.st.c3, .slice c.st.A4 c.st.x.got.length c.st.c4, .slice c.pA c.past.length c.pc, .slice c.kA c.knows.length c.kc])
  have HK := Lib.hid ((Keeps.refl (noBlk) w).alloc (.cells #[.int .i64 c.id, .slice c.bk.A1 c.bk.b.own.length c.bk.c1, .slice c.bk.A2 c.bk.b.notes.length c.bk.c2, .int .i64 c.bk.b.locked, .int .i64 c.st.x.way, .int .i64 c.st.x.ver, .int .i64 c.st.x.want, .slice c.st.A1 c.st.x.sent.length c.st.c1, .slice c.st.A2 c.st.x.live.length c.st.c2, .slice c.st.A3 c.st.x.back.length c.st.c3, .slice c.st.A4 c.st.x.got.length c.st.c4, .slice c.pA c.past.length c.pc, .slice c.kA c.knows.length c.kc] 42))
  have hsz : w.heap.size + 1 ≤ (w.alloc (.cells #[.int .i64 c.id, .slice c.bk.A1 c.bk.b.own.length c.bk.c1, .slice c.bk.A2 c.bk.b.notes.length c.bk.c2, .int .i64 c.bk.b.locked, .int .i64 c.st.x.way, .int .i64 c.st.x.ver, .int .i64 c.st.x.want, .slice c.st.A1 c.st.x.sent.length c.st.c1, .slice c.st.A2 c.st.x.live.length c.st.c2, .slice c.st.A3 c.st.x.back.length c.st.c3, .slice c.st.A4 c.st.x.got.length c.st.c4, .slice c.pA c.past.length c.pc, .slice c.kA c.knows.length c.kc] 42)).heap.size := by simp
  unfold ChM.val
  go_enter Tryz.func89, Tryz.ntmps89
  go_wp2_with (go_at_call 64; refine (l6In_any _ _ _ _).mono ?_; rintro e w' ⟨rfl, rfl⟩)
  go_ret
  exact ⟨by simp [HF.out], (Keeps.refl _ _).alloc _⟩
set_option maxRecDepth 100000 in
set_option maxHeartbeats 2000000 in
theorem l13Mine_at (c : ChM) (k : Nat) (hk : k < c.st.x.sent.length) (w : World) (hx : StAt w c.st.x c.st.A1 c.st.A2 c.st.A3 c.st.A4) (hl : c.st.x.live.length = c.st.x.sent.length) :
    Calls Tryz.prog 89 #[c.val, .int .i64 ((k : Int) + 1)] w fun e w' => e = .returned (.bool (mineB c.st.x ((k : Int) + 1))) ∧ Keeps noBlk w w' := by
  have hm := hx.2.1
  unfold maxLen at hm
  have HX := Lib.hid hx
  clear hx
  have HF := Lib.hid (mineB_at (x := c.st.x) hk)
  have d1 := in2_yes (n := (k : Int) + 1) (lo := 1) (hi := (c.st.x.sent.length : Int)) (by omega) (by omega)
  have hkl : k < c.st.x.live.length := by omega
  have HL := Lib.hid hl
  clear hl
  obtain ⟨b, off, hA, hb, d2⟩ := HX.out.1.2.1.at_ hkl
  have hA' := hA
  generalize c.st.x.live.getD k false = lv at d2 HF
  have HBC := Lib.hid (Box.new w (w.heap.size) (by simp) 42 #[.int .i64 c.id, .slice c.bk.A1 c.bk.b.own.length c.bk.c1, .slice c.bk.A2 c.bk.b.notes.length c.bk.c2, .int .i64 c.bk.b.locked, .int .i64 c.st.x.way, .int .i64 c.st.x.ver, .int .i64 c.st.x.want, .slice c.st.A1 c.st.x.sent.length c.st.c1, .slice c.st.A2 c.st.x.live.length c.st.c2, .slice c.st.A3 c.st.x.back.length c.st.c3, .slice c.st.A4 c.st.x.got.length c.st.c4, .slice c.pA c.past.length c.pc, .slice c.kA c.knows.length c.kc])
  have HK := Lib.hid ((Keeps.refl (noBlk) w).alloc (.cells #[.int .i64 c.id, .slice c.bk.A1 c.bk.b.own.length c.bk.c1, .slice c.bk.A2 c.bk.b.notes.length c.bk.c2, .int .i64 c.bk.b.locked, .int .i64 c.st.x.way, .int .i64 c.st.x.ver, .int .i64 c.st.x.want, .slice c.st.A1 c.st.x.sent.length c.st.c1, .slice c.st.A2 c.st.x.live.length c.st.c2, .slice c.st.A3 c.st.x.back.length c.st.c3, .slice c.st.A4 c.st.x.got.length c.st.c4, .slice c.pA c.past.length c.pc, .slice c.kA c.knows.length c.kc] 42))
  have hsz : w.heap.size + 1 ≤ (w.alloc (.cells #[.int .i64 c.id, .slice c.bk.A1 c.bk.b.own.length c.bk.c1, .slice c.bk.A2 c.bk.b.notes.length c.bk.c2, .int .i64 c.bk.b.locked, .int .i64 c.st.x.way, .int .i64 c.st.x.ver, .int .i64 c.st.x.want, .slice c.st.A1 c.st.x.sent.length c.st.c1, .slice c.st.A2 c.st.x.live.length c.st.c2, .slice c.st.A3 c.st.x.back.length c.st.c3, .slice c.st.A4 c.st.x.got.length c.st.c4, .slice c.pA c.past.length c.pc, .slice c.kA c.knows.length c.kc] 42)).heap.size := by simp
  unfold ChM.val
  go_enter Tryz.func89, Tryz.ntmps89
  go_wp2_with (go_at_call 64; refine (l6In_any _ _ _ _).mono ?_; rintro e w' ⟨rfl, rfl⟩)
  go_ret
  exact ⟨by simp [HF.out], (Keeps.refl _ _).alloc _⟩
theorem l13Mine_any (c : ChM) (q : Int) (w : World) (hx : StAt w c.st.x c.st.A1 c.st.A2 c.st.A3 c.st.A4) (hl : c.st.x.live.length = c.st.x.sent.length) :
    Calls Tryz.prog 89 #[c.val, .int .i64 q] w fun e w' => e = .returned (.bool (mineB c.st.x q)) ∧ Keeps noBlk w w' := by
  by_cases h1 : q < 1
  · exact l13Mine_lo c q h1 w hx hl
  · by_cases h2 : (c.st.x.sent.length : Int) < q
    · exact l13Mine_hi c q h2 w hx hl
    · obtain ⟨k, rfl⟩ : ∃ k : Nat, q = (k : Int) + 1 := ⟨(q - 1).toNat, by omega⟩
      exact l13Mine_at c k (by omega) w hx hl
end Go.Proofs.YtcnbephpadmboaaGreatDoor
