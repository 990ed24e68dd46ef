/- l1Away and l1Back of the model on a chain's bank, under a ghost of roles. l13Step of the model: a chain does a step of its channel end. l13Mine of the model: whether a packet of a chain is not settled. -/
import Derived.Test.YtcnbephpadmboaaGreatDoorGCh
import Derived.Test.YtcnbephpadmboaaGreatDoorUTurn
import Derived.Test.YtcnbephpadmboaaGreatDoorUGDo
set_option linter.unusedVariables false
set_option linter.unusedSimpArgs false
/-! GBk -/
namespace Go.Proofs.YtcnbephpadmboaaGreatDoor
open Go.RowKit

/-- The blocks of chain i's bank. -/
def MtB (G : Nat → Nat) (i b : Nat) : Prop := G b = rl i 4 ∨ G b = rl i 5
theorem BkR.dis {G : Nat → Nat} {i : Nat} {w : World} {s : BkM} (h : BkR G (rl i) w s) : ∀ b, blk s.A1 s.b.own.length b → ¬ blk s.A2 s.b.notes.length b := fun b h1 h2 => by
  have e1 := h.1.2 b h1
  have e2 := h.2.2 b h2
  rw [e1] at e2
  unfold rl at e2
  omega
end Go.Proofs.YtcnbephpadmboaaGreatDoor

/-! GStep -/
namespace Go.Proofs.YtcnbephpadmboaaGreatDoor
open Go.RowKit

theorem doSt_rows (x y : StL) (k : Int) : (doSt x y k).sent = x.sent ∧ (doSt x y k).live = x.live ∧ (doSt x y k).back = x.back ∧ (doSt x y k).got = x.got := by
  unfold doSt
  repeat' split
  all_goals exact ⟨rfl, rfl, rfl, rfl⟩
def stepCh (c : ChM) (y : StL) (k : Int) : ChM := if mayB c.st.x y k = true then { c with st := { c.st with x := doSt c.st.x y k } } else c
theorem StR.step {G ρ : Nat → Nat} {w : World} {s : StM} (y : StL) (k : Int) (h : StR G ρ w s) : StR G ρ w { s with x := doSt s.x y k } := by
  obtain ⟨e1, e2, e3, e4⟩ := doSt_rows s.x y k
  unfold StR
  dsimp only
  rw [e1, e2, e3, e4]
  exact h
theorem ChR.step {G : Nat → Nat} {i : Nat} {w : World} {c : ChM} (y : StL) (k : Int) (h : ChR G i w c) : ChR G i w (stepCh c y k) := by
  unfold stepCh
  split
  · exact ⟨h.1, h.2.1.step y k, h.2.2⟩
  · exact h
set_option maxRecDepth 100000 in
set_option maxHeartbeats 2000000 in
theorem l13Step_any (c : ChM) (y : StL) (B1 B2 B3 B4 : Option Addr) (d1 d2 d3 d4 : Nat) (k : Int) (w : World) (hx : StAt w c.st.x c.st.A1 c.st.A2 c.st.A3 c.st.A4) (hy : StAt w y B1 B2 B3 B4) (hv : -100 ≤ c.st.x.ver ∧ c.st.x.ver ≤ 100) :
    Calls Tryz.prog 68 #[c.val, stV y B1 B2 B3 B4 d1 d2 d3 d4, .int .i64 k] w fun e w' => e = .returned (.tuple #[(stepCh c y k).val, .bool (mayB c.st.x y k)]) ∧ Keeps noBlk w w' := by
  have HX := Lib.hid hx
  have HY := Lib.hid hy
  clear hx hy
  have HBC := Lib.hid (((Box.new w (w.heap.size) (by simp) 42 #[.int .i64 c.id, .slice c.bk.A1 c.bk.b.own.length c.bk.c1, .slice c.bk.A2 c.bk.b.notes.length c.bk.c2, .int .i64 c.bk.b.locked, .int .i64 c.st.x.way, .int .i64 c.st.x.ver, .int .i64 c.st.x.want, .slice c.st.A1 c.st.x.sent.length c.st.c1, .slice c.st.A2 c.st.x.live.length c.st.c2, .slice c.st.A3 c.st.x.back.length c.st.c3, .slice c.st.A4 c.st.x.got.length c.st.c4, .slice c.pA c.past.length c.pc, .slice c.kA c.knows.length c.kc]).alloc (.cells #[.int .i64 y.way, .int .i64 y.ver, .int .i64 y.want, .slice B1 y.sent.length d1, .slice B2 y.live.length d2, .slice B3 y.back.length d3, .slice B4 y.got.length d4] 39)).alloc (.cells #[.int .i64 0, .slice none 0 0, .slice none 0 0, .int .i64 0, .int .i64 0, .int .i64 0, .int .i64 0, .slice none 0 0, .slice none 0 0, .slice none 0 0, .slice none 0 0, .slice none 0 0, .slice none 0 0] 42))
  have HBY := Lib.hid ((Box.new (w.alloc (.cells #[.int .i64 c.id, .slice c.bk.A1 c.bk.b.own.length c.bk.c1, .slice c.bk.A2 c.bk.b.notes.length c.bk.c2, .int .i64 c.bk.b.locked, .int .i64 c.st.x.way, .int .i64 c.st.x.ver, .int .i64 c.st.x.want, .slice c.st.A1 c.st.x.sent.length c.st.c1, .slice c.st.A2 c.st.x.live.length c.st.c2, .slice c.st.A3 c.st.x.back.length c.st.c3, .slice c.st.A4 c.st.x.got.length c.st.c4, .slice c.pA c.past.length c.pc, .slice c.kA c.knows.length c.kc] 42)) (w.heap.size + 1) (by simp) 39 #[.int .i64 y.way, .int .i64 y.ver, .int .i64 y.want, .slice B1 y.sent.length d1, .slice B2 y.live.length d2, .slice B3 y.back.length d3, .slice B4 y.got.length d4]).alloc (.cells #[.int .i64 0, .slice none 0 0, .slice none 0 0, .int .i64 0, .int .i64 0, .int .i64 0, .int .i64 0, .slice none 0 0, .slice none 0 0, .slice none 0 0, .slice none 0 0, .slice none 0 0, .slice none 0 0] 42))
  have HBZ := Lib.hid (Box.new ((w.alloc (.cells #[.int .i64 c.id, .slice c.bk.A1 c.bk.b.own.length c.bk.c1, .slice c.bk.A2 c.bk.b.notes.length c.bk.c2, .int .i64 c.bk.b.locked, .int .i64 c.st.x.way, .int .i64 c.st.x.ver, .int .i64 c.st.x.want, .slice c.st.A1 c.st.x.sent.length c.st.c1, .slice c.st.A2 c.st.x.live.length c.st.c2, .slice c.st.A3 c.st.x.back.length c.st.c3, .slice c.st.A4 c.st.x.got.length c.st.c4, .slice c.pA c.past.length c.pc, .slice c.kA c.knows.length c.kc] 42)).alloc (.cells #[.int .i64 y.way, .int .i64 y.ver, .int .i64 y.want, .slice B1 y.sent.length d1, .slice B2 y.live.length d2, .slice B3 y.back.length d3, .slice B4 y.got.length d4] 39)) (w.heap.size + 1 + 1) (by simp) 42 #[.int .i64 0, .slice none 0 0, .slice none 0 0, .int .i64 0, .int .i64 0, .int .i64 0, .int .i64 0, .slice none 0 0, .slice none 0 0, .slice none 0 0, .slice none 0 0, .slice none 0 0, .slice none 0 0])
  have HK := Lib.hid ((((Keeps.refl (noBlk) w).alloc (.cells #[.int .i64 c.id, .slice c.bk.A1 c.bk.b.own.length c.bk.c1, .slice c.bk.A2 c.bk.b.notes.length c.bk.c2, .int .i64 c.bk.b.locked, .int .i64 c.st.x.way, .int .i64 c.st.x.ver, .int .i64 c.st.x.want, .slice c.st.A1 c.st.x.sent.length c.st.c1, .slice c.st.A2 c.st.x.live.length c.st.c2, .slice c.st.A3 c.st.x.back.length c.st.c3, .slice c.st.A4 c.st.x.got.length c.st.c4, .slice c.pA c.past.length c.pc, .slice c.kA c.knows.length c.kc] 42)).alloc (.cells #[.int .i64 y.way, .int .i64 y.ver, .int .i64 y.want, .slice B1 y.sent.length d1, .slice B2 y.live.length d2, .slice B3 y.back.length d3, .slice B4 y.got.length d4] 39)).alloc (.cells #[.int .i64 0, .slice none 0 0, .slice none 0 0, .int .i64 0, .int .i64 0, .int .i64 0, .int .i64 0, .slice none 0 0, .slice none 0 0, .slice none 0 0, .slice none 0 0, .slice none 0 0, .slice none 0 0] 42))
  have hsz : w.heap.size + 3 ≤ (((w.alloc (.cells #[.int .i64 c.id, .slice c.bk.A1 c.bk.b.own.length c.bk.c1, .slice c.bk.A2 c.bk.b.notes.length c.bk.c2, .int .i64 c.bk.b.locked, .int .i64 c.st.x.way, .int .i64 c.st.x.ver, .int .i64 c.st.x.want, .slice c.st.A1 c.st.x.sent.length c.st.c1, .slice c.st.A2 c.st.x.live.length c.st.c2, .slice c.st.A3 c.st.x.back.length c.st.c3, .slice c.st.A4 c.st.x.got.length c.st.c4, .slice c.pA c.past.length c.pc, .slice c.kA c.knows.length c.kc] 42)).alloc (.cells #[.int .i64 y.way, .int .i64 y.ver, .int .i64 y.want, .slice B1 y.sent.length d1, .slice B2 y.live.length d2, .slice B3 y.back.length d3, .slice B4 y.got.length d4] 39)).alloc (.cells #[.int .i64 0, .slice none 0 0, .slice none 0 0, .int .i64 0, .int .i64 0, .int .i64 0, .int .i64 0, .slice none 0 0, .slice none 0 0, .slice none 0 0, .slice none 0 0, .slice none 0 0, .slice none 0 0] 42)).heap.size := by simp
  have HM := Lib.hid (fun W (h : StAt W c.st.x c.st.A1 c.st.A2 c.st.A3 c.st.A4) (h' : StAt W y B1 B2 B3 B4) => l11May_any c.st.x y c.st.A1 c.st.A2 c.st.A3 c.st.A4 B1 B2 B3 B4 c.st.c1 c.st.c2 c.st.c3 c.st.c4 d1 d2 d3 d4 k W h h' hv)
  have HD := Lib.hid (fun W => l11Do_any c.st.x y c.st.A1 c.st.A2 c.st.A3 c.st.A4 B1 B2 B3 B4 c.st.c1 c.st.c2 c.st.c3 c.st.c4 d1 d2 d3 d4 k W hv)
  have HS := Lib.hid (show stepCh c y k = if mayB c.st.x y k = true then { c with st := { c.st with x := doSt c.st.x y k } } else c from rfl)
  have HR := Lib.hid (doSt_rows c.st.x y k)
  generalize stepCh c y k = R at HS ⊢
  generalize mayB c.st.x y k = o at HM HS ⊢
  generalize doSt c.st.x y k = X at HD HS HR
  unfold ChM.val
  unfold stV at HM HD ⊢
  go_enter Tryz.func68, Tryz.ntmps68
  go_wp2_with fail
  refine (HM.out _ (HX.out.kept HK.out) (HY.out.kept HK.out)).mono ?_
  rintro e w1 ⟨rfl, hk1⟩
  have hb := HBC.out.keeps hk1 (fun h => h)
  clear HBC
  have HBC := Lib.hid hb
  clear hb
  have hb := HBY.out.keeps hk1 (fun h => h)
  clear HBY
  have HBY := Lib.hid hb
  clear hb
  have hb := HBZ.out.keeps hk1 (fun h => h)
  clear HBZ
  have HBZ := Lib.hid hb
  clear hb
  have hh := HK.out.trans hk1
  clear HK
  have HK := Lib.hid hh
  clear hh
  have hb := HBC.out
  have C0 := hb.cell 0
  have C1 := hb.cell 1
  have C2 := hb.cell 2
  have C3 := hb.cell 3
  have C4 := hb.cell 4
  have C5 := hb.cell 5
  have C6 := hb.cell 6
  have C7 := hb.cell 7
  have C8 := hb.cell 8
  have C9 := hb.cell 9
  have C10 := hb.cell 10
  have C11 := hb.cell 11
  have C12 := hb.cell 12
  simp at C0 C1 C2 C3 C4 C5 C6 C7 C8 C9 C10 C11 C12
  have Cz := hb.lt
  clear hb
  have hb := HBY.out
  have Y0 := hb.cell 0
  have Y1 := hb.cell 1
  have Y2 := hb.cell 2
  have Y3 := hb.cell 3
  have Y4 := hb.cell 4
  have Y5 := hb.cell 5
  have Y6 := hb.cell 6
  simp at Y0 Y1 Y2 Y3 Y4 Y5 Y6
  have Yz := hb.lt
  clear hb
  have hb := HBZ.out
  have Z0 := hb.cell 0
  have Z1 := hb.cell 1
  have Z2 := hb.cell 2
  have Z3 := hb.cell 3
  have Z4 := hb.cell 4
  have Z5 := hb.cell 5
  have Z6 := hb.cell 6
  have Z7 := hb.cell 7
  have Z8 := hb.cell 8
  have Z9 := hb.cell 9
  have Z10 := hb.cell 10
  have Z11 := hb.cell 11
  have Z12 := hb.cell 12
  simp at Z0 Z1 Z2 Z3 Z4 Z5 Z6 Z7 Z8 Z9 Z10 Z11 Z12
  have Zf0 := hb.frozen 0
  have Zf1 := hb.frozen 1
  have Zf2 := hb.frozen 2
  have Zf3 := hb.frozen 3
  have Zf4 := hb.frozen 4
  have Zf5 := hb.frozen 5
  have Zf6 := hb.frozen 6
  have Zf7 := hb.frozen 7
  have Zf8 := hb.frozen 8
  have Zf9 := hb.frozen 9
  have Zf10 := hb.frozen 10
  have Zf11 := hb.frozen 11
  have Zf12 := hb.frozen 12
  have Zz := hb.lt
  clear hb
  have hz2 : w.heap.size ≤ w.heap.size + 1 + 1 := by omega
  have hz0 : w.heap.size ≤ w.heap.size := Nat.le_refl _
  cases o with
  | false =>
    have HE := Lib.hid (show R = c by rw [HS.out]; rfl)
    go_wp2
    refine bodyPost_ret (v := .tuple #[.agg #[.int .i64 c.id, .slice c.bk.A1 c.bk.b.own.length c.bk.c1, .slice c.bk.A2 c.bk.b.notes.length c.bk.c2, .int .i64 c.bk.b.locked, .int .i64 c.st.x.way, .int .i64 c.st.x.ver, .int .i64 c.st.x.want, .slice c.st.A1 c.st.x.sent.length c.st.c1, .slice c.st.A2 c.st.x.live.length c.st.c2, .slice c.st.A3 c.st.x.back.length c.st.c3, .slice c.st.A4 c.st.x.got.length c.st.c4, .slice c.pA c.past.length c.pc, .slice c.kA c.knows.length c.kc], .bool false]) (by simp [results, Tryz.results68, go_sem, *]) rfl ⟨by rw [HE.out], ?_⟩
    exact (((((((((((((HK.out).new hz2 _ _).new hz2 _ _).new hz2 _ _).new hz2 _ _).new hz2 _ _).new hz2 _ _).new hz2 _ _).new hz2 _ _).new hz2 _ _).new hz2 _ _).new hz2 _ _).new hz2 _ _).new hz2 _ _
  | true =>
    obtain ⟨r1, r2, r3, r4⟩ := HR.out
    have HE := Lib.hid (show R = { c with st := { c.st with x := X } } by rw [HS.out]; rfl)
    have HD2 := Lib.hid (fun W => (show Calls Tryz.prog 93 #[.agg #[.int .i64 c.st.x.way, .int .i64 c.st.x.ver, .int .i64 c.st.x.want, .slice c.st.A1 c.st.x.sent.length c.st.c1, .slice c.st.A2 c.st.x.live.length c.st.c2, .slice c.st.A3 c.st.x.back.length c.st.c3, .slice c.st.A4 c.st.x.got.length c.st.c4], .agg #[.int .i64 y.way, .int .i64 y.ver, .int .i64 y.want, .slice B1 y.sent.length d1, .slice B2 y.live.length d2, .slice B3 y.back.length d3, .slice B4 y.got.length d4], .int .i64 k] W (fun e w' => e = .returned (.agg #[.int .i64 X.way, .int .i64 X.ver, .int .i64 X.want, .slice c.st.A1 c.st.x.sent.length c.st.c1, .slice c.st.A2 c.st.x.live.length c.st.c2, .slice c.st.A3 c.st.x.back.length c.st.c3, .slice c.st.A4 c.st.x.got.length c.st.c4]) ∧ Keeps noBlk W w') from by have h9 := HD.out W; rw [r1, r2, r3, r4] at h9; exact h9))
    go_wp2_with fail
    refine (HD2.out _).mono ?_
    rintro e w2 ⟨rfl, hk2⟩
    clear C0 C1 C2 C3 C4 C5 C6 C7 C8 C9 C10 C11 C12 Cz Y0 Y1 Y2 Y3 Y4 Y5 Y6 Yz Z0 Z1 Z2 Z3 Z4 Z5 Z6 Z7 Z8 Z9 Z10 Z11 Z12 Zf0 Zf1 Zf2 Zf3 Zf4 Zf5 Zf6 Zf7 Zf8 Zf9 Zf10 Zf11 Zf12 Zz
    have hb := HBC.out.keeps hk2 (fun h => h)
    clear HBC
    have HBC := Lib.hid hb
    clear hb
    have hb := HBY.out.keeps hk2 (fun h => h)
    clear HBY
    have HBY := Lib.hid hb
    clear hb
    have hb := HBZ.out.keeps hk2 (fun h => h)
    clear HBZ
    have HBZ := Lib.hid hb
    clear hb
    have hh := HK.out.trans hk2
    clear HK
    have HK := Lib.hid hh
    clear hh
    have hb := HBC.out
    have C0 := hb.cell 0
    have C1 := hb.cell 1
    have C2 := hb.cell 2
    have C3 := hb.cell 3
    have C4 := hb.cell 4
    have C5 := hb.cell 5
    have C6 := hb.cell 6
    have C7 := hb.cell 7
    have C8 := hb.cell 8
    have C9 := hb.cell 9
    have C10 := hb.cell 10
    have C11 := hb.cell 11
    have C12 := hb.cell 12
    simp at C0 C1 C2 C3 C4 C5 C6 C7 C8 C9 C10 C11 C12
    have Cf4 := hb.frozen 4
    have Cf5 := hb.frozen 5
    have Cf6 := hb.frozen 6
    have Cf7 := hb.frozen 7
    have Cf8 := hb.frozen 8
    have Cf9 := hb.frozen 9
    have Cf10 := hb.frozen 10
    have Cz := hb.lt
    clear hb
    have hb := HBZ.out
    have Z0 := hb.cell 0
    have Z1 := hb.cell 1
    have Z2 := hb.cell 2
    have Z3 := hb.cell 3
    have Z4 := hb.cell 4
    have Z5 := hb.cell 5
    have Z6 := hb.cell 6
    have Z7 := hb.cell 7
    have Z8 := hb.cell 8
    have Z9 := hb.cell 9
    have Z10 := hb.cell 10
    have Z11 := hb.cell 11
    have Z12 := hb.cell 12
    simp at Z0 Z1 Z2 Z3 Z4 Z5 Z6 Z7 Z8 Z9 Z10 Z11 Z12
    have Zf0 := hb.frozen 0
    have Zf1 := hb.frozen 1
    have Zf2 := hb.frozen 2
    have Zf3 := hb.frozen 3
    have Zf4 := hb.frozen 4
    have Zf5 := hb.frozen 5
    have Zf6 := hb.frozen 6
    have Zf7 := hb.frozen 7
    have Zf8 := hb.frozen 8
    have Zf9 := hb.frozen 9
    have Zf10 := hb.frozen 10
    have Zf11 := hb.frozen 11
    have Zf12 := hb.frozen 12
    have Zz := hb.lt
    clear hb
    go_wp2
    refine bodyPost_ret (v := .tuple #[.agg #[.int .i64 c.id, .slice c.bk.A1 c.bk.b.own.length c.bk.c1, .slice c.bk.A2 c.bk.b.notes.length c.bk.c2, .int .i64 c.bk.b.locked, .int .i64 X.way, .int .i64 X.ver, .int .i64 X.want, .slice c.st.A1 c.st.x.sent.length c.st.c1, .slice c.st.A2 c.st.x.live.length c.st.c2, .slice c.st.A3 c.st.x.back.length c.st.c3, .slice c.st.A4 c.st.x.got.length c.st.c4, .slice c.pA c.past.length c.pc, .slice c.kA c.knows.length c.kc], .bool true]) (by simp [results, Tryz.results68, go_sem, *]) rfl ⟨by rw [HE.out, r1, r2, r3, r4], ?_⟩
    exact ((((((((((((((((((((HK.out).new hz0 _ _).new hz0 _ _).new hz0 _ _).new hz0 _ _).new hz0 _ _).new hz0 _ _).new hz0 _ _).new hz2 _ _).new hz2 _ _).new hz2 _ _).new hz2 _ _).new hz2 _ _).new hz2 _ _).new hz2 _ _).new hz2 _ _).new hz2 _ _).new hz2 _ _).new hz2 _ _).new hz2 _ _).new hz2 _ _
end Go.Proofs.YtcnbephpadmboaaGreatDoor

/-! GMine -/
namespace Go.Proofs.YtcnbephpadmboaaGreatDoor
open Go.RowKit

end Go.Proofs.YtcnbephpadmboaaGreatDoor
