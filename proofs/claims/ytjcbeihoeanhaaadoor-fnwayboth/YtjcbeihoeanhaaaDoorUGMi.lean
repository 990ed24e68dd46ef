/- l1Away and l1Back of the model on a chain's bank, under a ghost of roles. l13Step of the model: a chain does a step of its channel end. l13Mine of the model: whether a packet of a chain is not settled. -/
import Derived.Test.YtjcbeihoeanhaaaDoorGCh
import Derived.Test.YtjcbeihoeanhaaaDoorUTurn
import Derived.Test.YtjcbeihoeanhaaaDoorUGDo
set_option maxRecDepth 100000
set_option maxHeartbeats 2000000
set_option linter.unusedVariables false
set_option linter.unusedSimpArgs false
/-! GBk -/
namespace Go.Proofs.YtjcbeihoeanhaaaDoor
open Go.RowKit

def MtB (G : Nat → Nat) (i b : Nat) : Prop := G b = rl i 4 ∨ G b = rl i 5
theorem MtB.mt {G : Nat → Nat} {i b : Nat} (h : MtB G i b) : Mt G i b := by
 rcases h with h | h
 ·exact ⟨4, by decide, h⟩
 ·exact ⟨5, by decide, h⟩
theorem okB_len {b : BankL} (h : okB b = true) : b.own.length = 3 ∧ b.notes.length = 3 := ⟨lst_len h 1, lst_len h 2⟩
def RetBk (G : Nat → Nat) (i : Nat) (w : World) (s : BkM) (b : BankL) (o : Bool) (e : Ending) (w' : World) : Prop :=
 e = .returned (.tuple #[({ s with b := b } : BkM).val, .bool o]) ∧ BkR G (rl i) w' { s with b := b } ∧ Keeps (MtB G i) w w'
theorem BkR.dis {G : Nat → Nat} {i : Nat} {w : World} {s : BkM} (h : BkR G (rl i) w s) : ∀ b, blk s.A1 s.b.own.length b → ¬ blk s.A2 s.b.notes.length b := fun b h1 h2 => by
 have e1 := h.1.2 b h1; have e2 := h.2.2 b h2; rw [e1] at e2; unfold rl at e2
 omega
theorem turnA_len {b : BankL} {k f s : Int} (h : okB b = true) : (turnA b k f s).own.length = 3 ∧ (turnA b k f s).notes.length = 3 := by
 obtain ⟨h1, h2⟩ := okB_len h; unfold turnA
 split
 ·unfold awayed lock give put
  repeat' split
  all_goals simp_all [lst]
 ·exact ⟨h1, h2⟩
theorem turnB_len {b : BankL} {k f s : Int} (h : okB b = true) : (turnB b k f s).own.length = 3 ∧ (turnB b k f s).notes.length = 3 := by
 obtain ⟨h1, h2⟩ := okB_len h; unfold turnB
 split
 ·unfold backed lock give put
  repeat' split
  all_goals simp_all [lst]
 ·exact ⟨h1, h2⟩
theorem l1Away_g (G : Nat → Nat) (i : Nat) (s : BkM) (kd f sm : Int) (w : World) (h : BkR G (rl i) w s) (q1 : okB s.b = true) (q2 : kindB kd = true) (q3 : userB f = true) (hs0 : 0 ≤ sm) (hs1 : sm ≤ 1000) :
  Calls Tryd.prog 101 #[s.val, .int .i64 kd, .int .i64 f, .int .i64 sm] w (RetBk G i w s (turnA s.b kd f sm) (decide (sm ≤ has s.b kd f))) := by
 obtain ⟨e1, e2⟩ := okB_len q1; obtain ⟨t1, t2⟩ := turnA_len (k := kd) (f := f) (s := sm) q1; have h' := h; obtain ⟨⟨r1, g1⟩, r2, g2⟩ := h; have hd := h'.dis; unfold BkM.val; rw [e1] at r1 g1 hd ⊢; rw [e2] at r2 g2 hd ⊢; refine (l1Away_any s.A1 s.A2 s.c1 s.c2 0 s.b.locked s.b.own s.b.notes w r1 r2 hd kd f sm q1 q2 q3 hs0 hs1).mono ?_; rintro e w' ⟨rfl, a1, a2, hk⟩; refine ⟨by dsimp only [BkM.val]; rw [t1, t2], ⟨⟨by dsimp only; rw [t1]; exact a1, by dsimp only; rw [t1]; exact g1⟩, by dsimp only; rw [t2]; exact a2, by dsimp only; rw [t2]; exact g2⟩, hk.more fun b _ hb => ?_⟩
 rcases hb with hb | hb
 ·exact .inl (g1 b hb)
 ·exact .inr (g2 b hb)
theorem l1Back_g (G : Nat → Nat) (i : Nat) (s : BkM) (kd f sm : Int) (w : World) (h : BkR G (rl i) w s) (q1 : okB s.b = true) (q2 : kindB kd = true) (q3 : userB f = true) (hs0 : 0 ≤ sm) (hs1 : sm ≤ 1000) :
  Calls Tryd.prog 112 #[s.val, .int .i64 kd, .int .i64 f, .int .i64 sm] w (RetBk G i w s (turnB s.b kd f sm) (decide (sm ≤ room s.b kd))) := by
 obtain ⟨e1, e2⟩ := okB_len q1; obtain ⟨t1, t2⟩ := turnB_len (k := kd) (f := f) (s := sm) q1; have h' := h; obtain ⟨⟨r1, g1⟩, r2, g2⟩ := h; have hd := h'.dis; unfold BkM.val; rw [e1] at r1 g1 hd ⊢; rw [e2] at r2 g2 hd ⊢; refine (l1Back_any s.A1 s.A2 s.c1 s.c2 0 s.b.locked s.b.own s.b.notes w r1 r2 hd kd f sm q1 q2 q3 hs0 hs1).mono ?_; rintro e w' ⟨rfl, a1, a2, hk⟩; refine ⟨by dsimp only [BkM.val]; rw [t1, t2], ⟨⟨by dsimp only; rw [t1]; exact a1, by dsimp only; rw [t1]; exact g1⟩, by dsimp only; rw [t2]; exact a2, by dsimp only; rw [t2]; exact g2⟩, hk.more fun b _ hb => ?_⟩
 rcases hb with hb | hb
 ·exact .inl (g1 b hb)
 ·exact .inr (g2 b hb)

theorem doSt_rows (x y : StL) (k : Int) : (doSt x y k).sent = x.sent ∧ (doSt x y k).live = x.live ∧ (doSt x y k).back = x.back ∧ (doSt x y k).got = x.got := by
 unfold doSt
 repeat' split
 all_goals exact ⟨rfl, rfl, rfl, rfl⟩
def stepCh (c : ChM) (y : StL) (k : Int) : ChM := if mayB c.st.x y k = true then { c with st := { c.st with x := doSt c.st.x y k } } else c
theorem StR.step {G ρ : Nat → Nat} {w : World} {s : StM} (y : StL) (k : Int) (h : StR G ρ w s) : StR G ρ w { s with x := doSt s.x y k } := by
 obtain ⟨e1, e2, e3, e4⟩ := doSt_rows s.x y k; unfold StR; dsimp only; rw [e1, e2, e3, e4]; exact h
theorem ChR.step {G : Nat → Nat} {i : Nat} {w : World} {c : ChM} (y : StL) (k : Int) (h : ChR G i w c) : ChR G i w (stepCh c y k) := by
 unfold stepCh
 split
 ·exact ⟨h.1, h.2.1.step y k, h.2.2⟩
 ·exact h
theorem l13Step_any (c : ChM) (y : StL) (B1 B2 B3 B4 : Option Addr) (d1 d2 d3 d4 : Nat) (k : Int) (w : World) (hx : StAt w c.st.x c.st.A1 c.st.A2 c.st.A3 c.st.A4) (hy : StAt w y B1 B2 B3 B4) (hv : -100 ≤ c.st.x.ver ∧ c.st.x.ver ≤ 100) :
  Calls Tryd.prog 92 #[c.val, stV y B1 B2 B3 B4 d1 d2 d3 d4, .int .i64 k] w fun e w' => e = .returned (.tuple #[(stepCh c y k).val, .bool (mayB c.st.x y k)]) ∧ Keeps noBlk w w' := by
 have HX := hH hx; have HY := hH hy; clear hx hy; have HBC := hH (((Box.new w (w.heap.size) (by simp) 94 (chC c)).alloc (.cells (stC y B1 B2 B3 B4 d1 d2 d3 d4) 27)).alloc (.cells zC13 94)); have HBY := hH ((Box.new (w.alloc (.cells (chC c) 94)) (w.heap.size + 1) (by simp) 27 (stC y B1 B2 B3 B4 d1 d2 d3 d4)).alloc (.cells zC13 94)); have HBZ := hH (Box.new ((w.alloc (.cells (chC c) 94)).alloc (.cells (stC y B1 B2 B3 B4 d1 d2 d3 d4) 27)) (w.heap.size + 1 + 1) (by simp) 94 zC13); have HK := hH ((((Keeps.refl (noBlk) w).alloc (.cells (chC c) 94)).alloc (.cells (stC y B1 B2 B3 B4 d1 d2 d3 d4) 27)).alloc (.cells zC13 94))
 have hsz : w.heap.size + 3 ≤ (((w.alloc (.cells (chC c) 94)).alloc (.cells (stC y B1 B2 B3 B4 d1 d2 d3 d4) 27)).alloc (.cells zC13 94)).heap.size := by simp
 have HM := hH (fun W (h : StAt W c.st.x c.st.A1 c.st.A2 c.st.A3 c.st.A4) (h' : StAt W y B1 B2 B3 B4) => l11May_any c.st.x y c.st.A1 c.st.A2 c.st.A3 c.st.A4 B1 B2 B3 B4 c.st.c1 c.st.c2 c.st.c3 c.st.c4 d1 d2 d3 d4 k W h h' hv); have HD := hH (fun W => l11Do_any c.st.x y c.st.A1 c.st.A2 c.st.A3 c.st.A4 B1 B2 B3 B4 c.st.c1 c.st.c2 c.st.c3 c.st.c4 d1 d2 d3 d4 k W hv); have HS := hH (show stepCh c y k = if mayB c.st.x y k = true then { c with st := { c.st with x := doSt c.st.x y k } } else c from rfl); have HR := hH (doSt_rows c.st.x y k); generalize stepCh c y k = R at HS ⊢; generalize mayB c.st.x y k = o at HM HS ⊢; generalize doSt c.st.x y k = X at HD HS HR; unfold ChM.val; unfold stV at HM HD ⊢
 go_enter Tryd.func92, Tryd.ntmps92
 go_wp2_with fail; refine (HM.out _ (HX.out.kept HK.out) (HY.out.kept HK.out)).mono ?_; rintro e w1 ⟨rfl, hk1⟩; replace HBC := hH (HBC.out.keeps hk1 (fun h => h)); replace HBY := hH (HBY.out.keeps hk1 (fun h => h)); replace HBZ := hH (HBZ.out.keeps hk1 (fun h => h)); replace HK := hH (HK.out.trans hk1); have hb := HBC.out; obtain ⟨C0, C1, C2, C3, C4, C5, C6, C7, C8, C9, C10, C11, C12⟩ := hb.cells13; have Cz := hb.lt; clear hb; have hb := HBY.out; obtain ⟨Y0, Y1, Y2, Y3, Y4, Y5, Y6⟩ := hb.cells7; have Yz := hb.lt; clear hb; have hb := HBZ.out; obtain ⟨Z0, Z1, Z2, Z3, Z4, Z5, Z6, Z7, Z8, Z9, Z10, Z11, Z12⟩ := hb.cells13; obtain ⟨Zf0, Zf1, Zf2, Zf3, Zf4, Zf5, Zf6, Zf7, Zf8, Zf9, Zf10, Zf11, Zf12⟩ := hb.fz13; have Zz := hb.lt; clear hb
 have hz2 : w.heap.size ≤ w.heap.size + 1 + 1 := by omega
 have hz0 : w.heap.size ≤ w.heap.size := Nat.le_refl _
 cases o with
 | false =>
  have HE := hH (show R = c by rw [HS.out]; rfl); go_wp2; refine bodyPost_ret (v := .tuple #[.agg (chC c), .bool false]) (by simp [results, Tryd.results92, go_sem, *]) rfl ⟨by rw [HE.out], ?_⟩; exact (HK.out).new13 hz2
 | true =>
  obtain ⟨r1, r2, r3, r4⟩ := HR.out; have HE := hH (show R = { c with st := { c.st with x := X } } by rw [HS.out]; rfl); have HD2 := hH (fun W => (show Calls Tryd.prog 105 #[.agg #[.int .i64 c.st.x.way, .int .i64 c.st.x.ver, .int .i64 c.st.x.want, .slice c.st.A1 c.st.x.sent.length c.st.c1, .slice c.st.A2 c.st.x.live.length c.st.c2, .slice c.st.A3 c.st.x.back.length c.st.c3, .slice c.st.A4 c.st.x.got.length c.st.c4], .agg #[.int .i64 y.way, .int .i64 y.ver, .int .i64 y.want, .slice B1 y.sent.length d1, .slice B2 y.live.length d2, .slice B3 y.back.length d3, .slice B4 y.got.length d4], .int .i64 k] W (fun e w' => e = .returned (.agg #[.int .i64 X.way, .int .i64 X.ver, .int .i64 X.want, .slice c.st.A1 c.st.x.sent.length c.st.c1, .slice c.st.A2 c.st.x.live.length c.st.c2, .slice c.st.A3 c.st.x.back.length c.st.c3, .slice c.st.A4 c.st.x.got.length c.st.c4]) ∧ Keeps noBlk W w') from by have h9 := HD.out W; rw [r1, r2, r3, r4] at h9; exact h9)); go_wp2_with fail; refine (HD2.out _).mono ?_; rintro e w2 ⟨rfl, hk2⟩; clear C0 C1 C2 C3 C4 C5 C6 C7 C8 C9 C10 C11 C12 Cz Y0 Y1 Y2 Y3 Y4 Y5 Y6 Yz Z0 Z1 Z2 Z3 Z4 Z5 Z6 Z7 Z8 Z9 Z10 Z11 Z12 Zf0 Zf1 Zf2 Zf3 Zf4 Zf5 Zf6 Zf7 Zf8 Zf9 Zf10 Zf11 Zf12 Zz; replace HBC := hH (HBC.out.keeps hk2 (fun h => h)); replace HBY := hH (HBY.out.keeps hk2 (fun h => h)); replace HBZ := hH (HBZ.out.keeps hk2 (fun h => h)); replace HK := hH (HK.out.trans hk2); have hb := HBC.out; obtain ⟨C0, C1, C2, C3, C4, C5, C6, C7, C8, C9, C10, C11, C12⟩ := hb.cells13; have Cf4 := hb.frozen 4; have Cf5 := hb.frozen 5; have Cf6 := hb.frozen 6; have Cf7 := hb.frozen 7; have Cf8 := hb.frozen 8; have Cf9 := hb.frozen 9; have Cf10 := hb.frozen 10; have Cz := hb.lt; clear hb; have hb := HBZ.out; obtain ⟨Z0, Z1, Z2, Z3, Z4, Z5, Z6, Z7, Z8, Z9, Z10, Z11, Z12⟩ := hb.cells13; obtain ⟨Zf0, Zf1, Zf2, Zf3, Zf4, Zf5, Zf6, Zf7, Zf8, Zf9, Zf10, Zf11, Zf12⟩ := hb.fz13; have Zz := hb.lt; clear hb; go_wp2; refine bodyPost_ret (v := .tuple #[.agg #[.int .i64 c.id, .slice c.bk.A1 c.bk.b.own.length c.bk.c1, .slice c.bk.A2 c.bk.b.notes.length c.bk.c2, .int .i64 c.bk.b.locked, .int .i64 X.way, .int .i64 X.ver, .int .i64 X.want, .slice c.st.A1 c.st.x.sent.length c.st.c1, .slice c.st.A2 c.st.x.live.length c.st.c2, .slice c.st.A3 c.st.x.back.length c.st.c3, .slice c.st.A4 c.st.x.got.length c.st.c4, .slice c.pA c.past.length c.pc, .slice c.kA c.knows.length c.kc], .bool true]) (by simp [results, Tryd.results92, go_sem, *]) rfl ⟨by rw [HE.out, r1, r2, r3, r4], ?_⟩; exact ((HK.out).new7 hz0).new13 hz2

def mineB (x : StL) (q : Int) : Bool := decide (1 ≤ q ∧ q ≤ x.sent.length ∧ x.live.getD (q - 1).toNat false = true)
theorem mineB_lo {x : StL} {q : Int} (h : q < 1) : mineB x q = false := by simp only [mineB, decide_eq_false_iff_not]; omega
theorem mineB_hi {x : StL} {q : Int} (h : (x.sent.length : Int) < q) : mineB x q = false := by simp only [mineB, decide_eq_false_iff_not]; omega
theorem mineB_at {x : StL} {k : Nat} (h : k < x.sent.length) : mineB x ((k : Int) + 1) = x.live.getD k false := by
 unfold mineB; rw [show ((k : Int) + 1 - 1).toNat = k by omega]
 cases x.live.getD k false
 ·simp
 ·simp; omega
theorem l13Mine_lo (c : ChM) (q : Int) (hq : q < 1) (w : World) (hx : StAt w c.st.x c.st.A1 c.st.A2 c.st.A3 c.st.A4) (hl : c.st.x.live.length = c.st.x.sent.length) :
  Calls Tryd.prog 108 #[c.val, .int .i64 (q)] w fun e w' => e = .returned (.bool (mineB c.st.x (q))) ∧ Keeps noBlk w w' := by
 have hm := hx.2.1; unfold maxLen at hm; have HX := hH hx; clear hx; have HF := hH (mineB_lo (x := c.st.x) hq); have d1 := in2_lo (hi := (c.st.x.sent.length : Int)) hq; clear hq hl; have HBC := hH (Box.new w (w.heap.size) (by simp) 94 (chC c)); have HK := hH ((Keeps.refl (noBlk) w).alloc (.cells (chC c) 94))
 have hsz : w.heap.size + 1 ≤ (w.alloc (.cells (chC c) 94)).heap.size := by simp
 unfold ChM.val
 go_enter Tryd.func108, Tryd.ntmps108
 go_wp2_with (go_at_call 50; refine (l6In_any _ _ _ _).mono ?_; rintro e w' ⟨rfl, rfl⟩)
 go_ret; exact ⟨by simp [HF.out], (Keeps.refl _ _).alloc _⟩
theorem l13Mine_hi (c : ChM) (q : Int) (hq : (c.st.x.sent.length : Int) < q) (w : World) (hx : StAt w c.st.x c.st.A1 c.st.A2 c.st.A3 c.st.A4) (hl : c.st.x.live.length = c.st.x.sent.length) :
  Calls Tryd.prog 108 #[c.val, .int .i64 (q)] w fun e w' => e = .returned (.bool (mineB c.st.x (q))) ∧ Keeps noBlk w w' := by
 have hm := hx.2.1; unfold maxLen at hm; have HX := hH hx; clear hx; have HF := hH (mineB_hi (x := c.st.x) hq); have d1 := in2_hi (lo := 1) hq; clear hq hl; have HBC := hH (Box.new w (w.heap.size) (by simp) 94 (chC c)); have HK := hH ((Keeps.refl (noBlk) w).alloc (.cells (chC c) 94))
 have hsz : w.heap.size + 1 ≤ (w.alloc (.cells (chC c) 94)).heap.size := by simp
 unfold ChM.val
 go_enter Tryd.func108, Tryd.ntmps108
 go_wp2_with (go_at_call 50; refine (l6In_any _ _ _ _).mono ?_; rintro e w' ⟨rfl, rfl⟩)
 go_ret; exact ⟨by simp [HF.out], (Keeps.refl _ _).alloc _⟩
theorem l13Mine_at (c : ChM) (k : Nat) (hk : k < c.st.x.sent.length) (w : World) (hx : StAt w c.st.x c.st.A1 c.st.A2 c.st.A3 c.st.A4) (hl : c.st.x.live.length = c.st.x.sent.length) :
  Calls Tryd.prog 108 #[c.val, .int .i64 ((k : Int) + 1)] w fun e w' => e = .returned (.bool (mineB c.st.x ((k : Int) + 1))) ∧ Keeps noBlk w w' := by
 have hm := hx.2.1; unfold maxLen at hm; have HX := hH hx; clear hx; have HF := hH (mineB_at (x := c.st.x) hk); have d1 := in2_yes (n := (k : Int) + 1) (lo := 1) (hi := (c.st.x.sent.length : Int)) (by omega) (by omega)
 have hkl : k < c.st.x.live.length := by omega
 have HL := hH hl; clear hl; obtain ⟨b, off, hA, hb, d2⟩ := HX.out.1.2.1.at_ hkl; have hA' := hA; generalize c.st.x.live.getD k false = lv at d2 HF; have HBC := hH (Box.new w (w.heap.size) (by simp) 94 (chC c)); have HK := hH ((Keeps.refl (noBlk) w).alloc (.cells (chC c) 94))
 have hsz : w.heap.size + 1 ≤ (w.alloc (.cells (chC c) 94)).heap.size := by simp
 unfold ChM.val
 go_enter Tryd.func108, Tryd.ntmps108
 go_wp2_with (go_at_call 50; refine (l6In_any _ _ _ _).mono ?_; rintro e w' ⟨rfl, rfl⟩)
 go_ret; exact ⟨by simp [HF.out], (Keeps.refl _ _).alloc _⟩
theorem l13Mine_any (c : ChM) (q : Int) (w : World) (hx : StAt w c.st.x c.st.A1 c.st.A2 c.st.A3 c.st.A4) (hl : c.st.x.live.length = c.st.x.sent.length) :
  Calls Tryd.prog 108 #[c.val, .int .i64 q] w fun e w' => e = .returned (.bool (mineB c.st.x q)) ∧ Keeps noBlk w w' := by
 by_cases h1 : q < 1
 ·exact l13Mine_lo c q h1 w hx hl
 ·by_cases h2 : (c.st.x.sent.length : Int) < q
  ·exact l13Mine_hi c q h2 w hx hl
  ·obtain ⟨k, rfl⟩ : ∃ k : Nat, q = (k : Int) + 1 := ⟨(q - 1).toNat, by omega⟩
   exact l13Mine_at c k (by omega) w hx hl
end Go.Proofs.YtjcbeihoeanhaaaDoor
