/- mayTell, mayLate, mayGet of the program. -/
import Derived.Test.YtcnbephpadmboaaGreatDoorURyS
import Derived.Test.YtcnbephpadmboaaGreatDoorUHas
import Derived.Test.YtcnbephpadmboaaGreatDoorUMem
set_option linter.unusedVariables false
set_option linter.unusedSimpArgs false
namespace Go.Proofs.YtcnbephpadmboaaGreatDoor
open Go.RowKit

def mtB (c : ChM) (y : StL) (q : Int) : Bool := decide (setN c.st.x q = 1) && !decide (gotN y q = 0)
def mlB (c : ChM) (y : StL) (h q : Int) : Bool := decide (setN c.st.x q = 1) && decide ((c.st.x.sent.getD (q - 1).toNat pk0).u ≤ h) && decide (gotN y q = 0)
theorem setN_in {x : StL} {q : Int} (h : setN x q = 1) : stB x = true ∧ ∃ k : Nat, q = (k : Int) + 1 ∧ k < x.sent.length := by
  unfold setN at h
  split at h
  · rename_i hc
    exact ⟨hc.1, (q - 1).toNat, by omega, by omega⟩
  · cases h
set_option maxRecDepth 100000 in
set_option maxHeartbeats 8000000 in
theorem may_tell_no (c : ChM) (y : StM) (P : Option Addr) (q : Int) (w : World) (hs : c.st.At w) (hy : y.At w) (ht : Tabs w) (h1 : setN c.st.x q ≠ 1) : Calls Tryz.prog 60 #[lkV c P, .agg #[.int .i64 y.x.way, .int .i64 y.x.ver, .int .i64 y.x.want, .slice y.A1 y.x.sent.length y.c1, .slice y.A2 y.x.live.length y.c2, .slice y.A3 y.x.back.length y.c3, .slice y.A4 y.x.got.length y.c4], .int .i64 q] w fun e w' => e = .returned (.bool false) ∧ Keeps noBlk w w' := by
  have FS := Lib.hid (fun W (hk : Keeps noBlk w W) => implSet_any c.st.x c.st.A1 c.st.A2 c.st.A3 c.st.A4 c.st.c1 c.st.c2 c.st.c3 c.st.c4 q W (hs.kept hk) (ht.keeps hk))
  unfold stV at FS
  generalize setN c.st.x q = s at FS h1
  have hn : (s == 1) = false := by simpa using h1
  clear h1 hs hy ht
  have HBl := Lib.hid ((Box.new w (w.heap.size) (by simp) 78 #[.slice c.bk.A1 c.bk.b.own.length c.bk.c1, .slice c.bk.A2 c.bk.b.notes.length c.bk.c2, .int .i64 c.bk.b.locked, .int .i64 c.id, .int .i64 c.st.x.way, .int .i64 c.st.x.ver, .int .i64 c.st.x.want, .slice c.st.A1 c.st.x.sent.length c.st.c1, .slice c.st.A2 c.st.x.live.length c.st.c2, .slice c.st.A3 c.st.x.back.length c.st.c3, .slice c.st.A4 c.st.x.got.length c.st.c4, .pointer P, .slice c.kA c.knows.length c.kc]).alloc (.cells #[.int .i64 y.x.way, .int .i64 y.x.ver, .int .i64 y.x.want, .slice y.A1 y.x.sent.length y.c1, .slice y.A2 y.x.live.length y.c2, .slice y.A3 y.x.back.length y.c3, .slice y.A4 y.x.got.length y.c4] 75))
  have HBp := Lib.hid (Box.new (w.alloc (.cells #[.slice c.bk.A1 c.bk.b.own.length c.bk.c1, .slice c.bk.A2 c.bk.b.notes.length c.bk.c2, .int .i64 c.bk.b.locked, .int .i64 c.id, .int .i64 c.st.x.way, .int .i64 c.st.x.ver, .int .i64 c.st.x.want, .slice c.st.A1 c.st.x.sent.length c.st.c1, .slice c.st.A2 c.st.x.live.length c.st.c2, .slice c.st.A3 c.st.x.back.length c.st.c3, .slice c.st.A4 c.st.x.got.length c.st.c4, .pointer P, .slice c.kA c.knows.length c.kc] 78)) (w.heap.size + 1) (by simp) 75 #[.int .i64 y.x.way, .int .i64 y.x.ver, .int .i64 y.x.want, .slice y.A1 y.x.sent.length y.c1, .slice y.A2 y.x.live.length y.c2, .slice y.A3 y.x.back.length y.c3, .slice y.A4 y.x.got.length y.c4])
  have HK := Lib.hid (((Keeps.refl noBlk w).alloc (.cells #[.slice c.bk.A1 c.bk.b.own.length c.bk.c1, .slice c.bk.A2 c.bk.b.notes.length c.bk.c2, .int .i64 c.bk.b.locked, .int .i64 c.id, .int .i64 c.st.x.way, .int .i64 c.st.x.ver, .int .i64 c.st.x.want, .slice c.st.A1 c.st.x.sent.length c.st.c1, .slice c.st.A2 c.st.x.live.length c.st.c2, .slice c.st.A3 c.st.x.back.length c.st.c3, .slice c.st.A4 c.st.x.got.length c.st.c4, .pointer P, .slice c.kA c.knows.length c.kc] 78)).alloc (.cells #[.int .i64 y.x.way, .int .i64 y.x.ver, .int .i64 y.x.want, .slice y.A1 y.x.sent.length y.c1, .slice y.A2 y.x.live.length y.c2, .slice y.A3 y.x.back.length y.c3, .slice y.A4 y.x.got.length y.c4] 75))
  unfold lkV
  go_enter Tryz.func60, Tryz.ntmps60
  have hb := HBl.out
  have l0 := hb.cell 0
  have l1 := hb.cell 1
  have l2 := hb.cell 2
  have l3 := hb.cell 3
  have l4 := hb.cell 4
  have l5 := hb.cell 5
  have l6 := hb.cell 6
  have l7 := hb.cell 7
  have l8 := hb.cell 8
  have l9 := hb.cell 9
  have l10 := hb.cell 10
  have l11 := hb.cell 11
  have l12 := hb.cell 12
  simp at l0 l1 l2 l3 l4 l5 l6 l7 l8 l9 l10 l11 l12
  have zl := hb.lt
  clear hb
  have hb := HBp.out
  have p0 := hb.cell 0
  have p1 := hb.cell 1
  have p2 := hb.cell 2
  have p3 := hb.cell 3
  have p4 := hb.cell 4
  have p5 := hb.cell 5
  have p6 := hb.cell 6
  simp at p0 p1 p2 p3 p4 p5 p6
  have zp := hb.lt
  clear hb
  go_wp2_with fail
  refine (FS.out _ HK.out).mono ?_
  rintro e w1 ⟨rfl, hk1⟩
  clear l0 l1 l2 l3 l4 l5 l6 l7 l8 l9 l10 l11 l12 p0 p1 p2 p3 p4 p5 p6 zl zp
  have hl := HBl.out.keeps hk1 (fun h => h)
  clear HBl
  have HBl := Lib.hid hl
  clear hl
  have hp := HBp.out.keeps hk1 (fun h => h)
  clear HBp
  have HBp := Lib.hid hp
  clear hp
  have hr := HK.out.trans hk1
  clear HK
  have HK := Lib.hid hr
  clear hr
  have sz1 := hk1.size
  (try simp at sz1)
  clear hk1
  have hb := HBl.out
  have l0 := hb.cell 0
  have l1 := hb.cell 1
  have l2 := hb.cell 2
  have l3 := hb.cell 3
  have l4 := hb.cell 4
  have l5 := hb.cell 5
  have l6 := hb.cell 6
  have l7 := hb.cell 7
  have l8 := hb.cell 8
  have l9 := hb.cell 9
  have l10 := hb.cell 10
  have l11 := hb.cell 11
  have l12 := hb.cell 12
  simp at l0 l1 l2 l3 l4 l5 l6 l7 l8 l9 l10 l11 l12
  have zl := hb.lt
  clear hb
  have hb := HBp.out
  have p0 := hb.cell 0
  have p1 := hb.cell 1
  have p2 := hb.cell 2
  have p3 := hb.cell 3
  have p4 := hb.cell 4
  have p5 := hb.cell 5
  have p6 := hb.cell 6
  simp at p0 p1 p2 p3 p4 p5 p6
  have zp := hb.lt
  clear hb
  go_wp2
  go_ret
  exact ⟨rfl, HK.out⟩
set_option maxRecDepth 100000 in
set_option maxHeartbeats 8000000 in
theorem may_tell_b0 (c : ChM) (y : StM) (P : Option Addr) (q : Int) (w : World) (hs : c.st.At w) (hy : y.At w) (ht : Tabs w) (h1 : setN c.st.x q = 1) (h2 : gotN y.x q = 0) : Calls Tryz.prog 60 #[lkV c P, .agg #[.int .i64 y.x.way, .int .i64 y.x.ver, .int .i64 y.x.want, .slice y.A1 y.x.sent.length y.c1, .slice y.A2 y.x.live.length y.c2, .slice y.A3 y.x.back.length y.c3, .slice y.A4 y.x.got.length y.c4], .int .i64 q] w fun e w' => e = .returned (.bool false) ∧ Keeps noBlk w w' := by
  have FS := Lib.hid (fun W (hk : Keeps noBlk w W) => implSet_any c.st.x c.st.A1 c.st.A2 c.st.A3 c.st.A4 c.st.c1 c.st.c2 c.st.c3 c.st.c4 q W (hs.kept hk) (ht.keeps hk))
  unfold stV at FS
  have FG := Lib.hid (fun W (hk : Keeps noBlk w W) => implGot_any y.x y.A1 y.A2 y.A3 y.A4 y.c1 y.c2 y.c3 y.c4 q W (hy.kept hk) (ht.keeps hk))
  unfold stV at FG
  rw [h1] at FS
  generalize gotN y.x q = s at FG h2
  have hn : (s != 0) = false := by simpa using h2
  clear h1 h2 hs hy ht
  have HBl := Lib.hid ((Box.new w (w.heap.size) (by simp) 78 #[.slice c.bk.A1 c.bk.b.own.length c.bk.c1, .slice c.bk.A2 c.bk.b.notes.length c.bk.c2, .int .i64 c.bk.b.locked, .int .i64 c.id, .int .i64 c.st.x.way, .int .i64 c.st.x.ver, .int .i64 c.st.x.want, .slice c.st.A1 c.st.x.sent.length c.st.c1, .slice c.st.A2 c.st.x.live.length c.st.c2, .slice c.st.A3 c.st.x.back.length c.st.c3, .slice c.st.A4 c.st.x.got.length c.st.c4, .pointer P, .slice c.kA c.knows.length c.kc]).alloc (.cells #[.int .i64 y.x.way, .int .i64 y.x.ver, .int .i64 y.x.want, .slice y.A1 y.x.sent.length y.c1, .slice y.A2 y.x.live.length y.c2, .slice y.A3 y.x.back.length y.c3, .slice y.A4 y.x.got.length y.c4] 75))
  have HBp := Lib.hid (Box.new (w.alloc (.cells #[.slice c.bk.A1 c.bk.b.own.length c.bk.c1, .slice c.bk.A2 c.bk.b.notes.length c.bk.c2, .int .i64 c.bk.b.locked, .int .i64 c.id, .int .i64 c.st.x.way, .int .i64 c.st.x.ver, .int .i64 c.st.x.want, .slice c.st.A1 c.st.x.sent.length c.st.c1, .slice c.st.A2 c.st.x.live.length c.st.c2, .slice c.st.A3 c.st.x.back.length c.st.c3, .slice c.st.A4 c.st.x.got.length c.st.c4, .pointer P, .slice c.kA c.knows.length c.kc] 78)) (w.heap.size + 1) (by simp) 75 #[.int .i64 y.x.way, .int .i64 y.x.ver, .int .i64 y.x.want, .slice y.A1 y.x.sent.length y.c1, .slice y.A2 y.x.live.length y.c2, .slice y.A3 y.x.back.length y.c3, .slice y.A4 y.x.got.length y.c4])
  have HK := Lib.hid (((Keeps.refl noBlk w).alloc (.cells #[.slice c.bk.A1 c.bk.b.own.length c.bk.c1, .slice c.bk.A2 c.bk.b.notes.length c.bk.c2, .int .i64 c.bk.b.locked, .int .i64 c.id, .int .i64 c.st.x.way, .int .i64 c.st.x.ver, .int .i64 c.st.x.want, .slice c.st.A1 c.st.x.sent.length c.st.c1, .slice c.st.A2 c.st.x.live.length c.st.c2, .slice c.st.A3 c.st.x.back.length c.st.c3, .slice c.st.A4 c.st.x.got.length c.st.c4, .pointer P, .slice c.kA c.knows.length c.kc] 78)).alloc (.cells #[.int .i64 y.x.way, .int .i64 y.x.ver, .int .i64 y.x.want, .slice y.A1 y.x.sent.length y.c1, .slice y.A2 y.x.live.length y.c2, .slice y.A3 y.x.back.length y.c3, .slice y.A4 y.x.got.length y.c4] 75))
  unfold lkV
  go_enter Tryz.func60, Tryz.ntmps60
  have hb := HBl.out
  have l0 := hb.cell 0
  have l1 := hb.cell 1
  have l2 := hb.cell 2
  have l3 := hb.cell 3
  have l4 := hb.cell 4
  have l5 := hb.cell 5
  have l6 := hb.cell 6
  have l7 := hb.cell 7
  have l8 := hb.cell 8
  have l9 := hb.cell 9
  have l10 := hb.cell 10
  have l11 := hb.cell 11
  have l12 := hb.cell 12
  simp at l0 l1 l2 l3 l4 l5 l6 l7 l8 l9 l10 l11 l12
  have zl := hb.lt
  clear hb
  have hb := HBp.out
  have p0 := hb.cell 0
  have p1 := hb.cell 1
  have p2 := hb.cell 2
  have p3 := hb.cell 3
  have p4 := hb.cell 4
  have p5 := hb.cell 5
  have p6 := hb.cell 6
  simp at p0 p1 p2 p3 p4 p5 p6
  have zp := hb.lt
  clear hb
  go_wp2_with fail
  refine (FS.out _ HK.out).mono ?_
  rintro e w1 ⟨rfl, hk1⟩
  clear l0 l1 l2 l3 l4 l5 l6 l7 l8 l9 l10 l11 l12 p0 p1 p2 p3 p4 p5 p6 zl zp
  have hl := HBl.out.keeps hk1 (fun h => h)
  clear HBl
  have HBl := Lib.hid hl
  clear hl
  have hp := HBp.out.keeps hk1 (fun h => h)
  clear HBp
  have HBp := Lib.hid hp
  clear hp
  have hr := HK.out.trans hk1
  clear HK
  have HK := Lib.hid hr
  clear hr
  have sz1 := hk1.size
  (try simp at sz1)
  clear hk1
  have hb := HBl.out
  have l0 := hb.cell 0
  have l1 := hb.cell 1
  have l2 := hb.cell 2
  have l3 := hb.cell 3
  have l4 := hb.cell 4
  have l5 := hb.cell 5
  have l6 := hb.cell 6
  have l7 := hb.cell 7
  have l8 := hb.cell 8
  have l9 := hb.cell 9
  have l10 := hb.cell 10
  have l11 := hb.cell 11
  have l12 := hb.cell 12
  simp at l0 l1 l2 l3 l4 l5 l6 l7 l8 l9 l10 l11 l12
  have zl := hb.lt
  clear hb
  have hb := HBp.out
  have p0 := hb.cell 0
  have p1 := hb.cell 1
  have p2 := hb.cell 2
  have p3 := hb.cell 3
  have p4 := hb.cell 4
  have p5 := hb.cell 5
  have p6 := hb.cell 6
  simp at p0 p1 p2 p3 p4 p5 p6
  have zp := hb.lt
  clear hb
  go_wp2_with fail
  refine (FG.out _ HK.out).mono ?_
  rintro e w2 ⟨rfl, hk2⟩
  clear l0 l1 l2 l3 l4 l5 l6 l7 l8 l9 l10 l11 l12 p0 p1 p2 p3 p4 p5 p6 zl zp
  have hl := HBl.out.keeps hk2 (fun h => h)
  clear HBl
  have HBl := Lib.hid hl
  clear hl
  have hp := HBp.out.keeps hk2 (fun h => h)
  clear HBp
  have HBp := Lib.hid hp
  clear hp
  have hr := HK.out.trans hk2
  clear HK
  have HK := Lib.hid hr
  clear hr
  have sz2 := hk2.size
  (try simp at sz2)
  clear hk2
  go_wp2
  go_ret
  exact ⟨by first | rfl | simp [hn], HK.out⟩
set_option maxRecDepth 100000 in
set_option maxHeartbeats 8000000 in
theorem may_tell_b1 (c : ChM) (y : StM) (P : Option Addr) (q : Int) (w : World) (hs : c.st.At w) (hy : y.At w) (ht : Tabs w) (h1 : setN c.st.x q = 1) (h2 : gotN y.x q ≠ 0) : Calls Tryz.prog 60 #[lkV c P, .agg #[.int .i64 y.x.way, .int .i64 y.x.ver, .int .i64 y.x.want, .slice y.A1 y.x.sent.length y.c1, .slice y.A2 y.x.live.length y.c2, .slice y.A3 y.x.back.length y.c3, .slice y.A4 y.x.got.length y.c4], .int .i64 q] w fun e w' => e = .returned (.bool true) ∧ Keeps noBlk w w' := by
  have FS := Lib.hid (fun W (hk : Keeps noBlk w W) => implSet_any c.st.x c.st.A1 c.st.A2 c.st.A3 c.st.A4 c.st.c1 c.st.c2 c.st.c3 c.st.c4 q W (hs.kept hk) (ht.keeps hk))
  unfold stV at FS
  have FG := Lib.hid (fun W (hk : Keeps noBlk w W) => implGot_any y.x y.A1 y.A2 y.A3 y.A4 y.c1 y.c2 y.c3 y.c4 q W (hy.kept hk) (ht.keeps hk))
  unfold stV at FG
  rw [h1] at FS
  generalize gotN y.x q = s at FG h2
  have hn : (s != 0) = true := by simpa using h2
  clear h1 h2 hs hy ht
  have HBl := Lib.hid ((Box.new w (w.heap.size) (by simp) 78 #[.slice c.bk.A1 c.bk.b.own.length c.bk.c1, .slice c.bk.A2 c.bk.b.notes.length c.bk.c2, .int .i64 c.bk.b.locked, .int .i64 c.id, .int .i64 c.st.x.way, .int .i64 c.st.x.ver, .int .i64 c.st.x.want, .slice c.st.A1 c.st.x.sent.length c.st.c1, .slice c.st.A2 c.st.x.live.length c.st.c2, .slice c.st.A3 c.st.x.back.length c.st.c3, .slice c.st.A4 c.st.x.got.length c.st.c4, .pointer P, .slice c.kA c.knows.length c.kc]).alloc (.cells #[.int .i64 y.x.way, .int .i64 y.x.ver, .int .i64 y.x.want, .slice y.A1 y.x.sent.length y.c1, .slice y.A2 y.x.live.length y.c2, .slice y.A3 y.x.back.length y.c3, .slice y.A4 y.x.got.length y.c4] 75))
  have HBp := Lib.hid (Box.new (w.alloc (.cells #[.slice c.bk.A1 c.bk.b.own.length c.bk.c1, .slice c.bk.A2 c.bk.b.notes.length c.bk.c2, .int .i64 c.bk.b.locked, .int .i64 c.id, .int .i64 c.st.x.way, .int .i64 c.st.x.ver, .int .i64 c.st.x.want, .slice c.st.A1 c.st.x.sent.length c.st.c1, .slice c.st.A2 c.st.x.live.length c.st.c2, .slice c.st.A3 c.st.x.back.length c.st.c3, .slice c.st.A4 c.st.x.got.length c.st.c4, .pointer P, .slice c.kA c.knows.length c.kc] 78)) (w.heap.size + 1) (by simp) 75 #[.int .i64 y.x.way, .int .i64 y.x.ver, .int .i64 y.x.want, .slice y.A1 y.x.sent.length y.c1, .slice y.A2 y.x.live.length y.c2, .slice y.A3 y.x.back.length y.c3, .slice y.A4 y.x.got.length y.c4])
  have HK := Lib.hid (((Keeps.refl noBlk w).alloc (.cells #[.slice c.bk.A1 c.bk.b.own.length c.bk.c1, .slice c.bk.A2 c.bk.b.notes.length c.bk.c2, .int .i64 c.bk.b.locked, .int .i64 c.id, .int .i64 c.st.x.way, .int .i64 c.st.x.ver, .int .i64 c.st.x.want, .slice c.st.A1 c.st.x.sent.length c.st.c1, .slice c.st.A2 c.st.x.live.length c.st.c2, .slice c.st.A3 c.st.x.back.length c.st.c3, .slice c.st.A4 c.st.x.got.length c.st.c4, .pointer P, .slice c.kA c.knows.length c.kc] 78)).alloc (.cells #[.int .i64 y.x.way, .int .i64 y.x.ver, .int .i64 y.x.want, .slice y.A1 y.x.sent.length y.c1, .slice y.A2 y.x.live.length y.c2, .slice y.A3 y.x.back.length y.c3, .slice y.A4 y.x.got.length y.c4] 75))
  unfold lkV
  go_enter Tryz.func60, Tryz.ntmps60
  have hb := HBl.out
  have l0 := hb.cell 0
  have l1 := hb.cell 1
  have l2 := hb.cell 2
  have l3 := hb.cell 3
  have l4 := hb.cell 4
  have l5 := hb.cell 5
  have l6 := hb.cell 6
  have l7 := hb.cell 7
  have l8 := hb.cell 8
  have l9 := hb.cell 9
  have l10 := hb.cell 10
  have l11 := hb.cell 11
  have l12 := hb.cell 12
  simp at l0 l1 l2 l3 l4 l5 l6 l7 l8 l9 l10 l11 l12
  have zl := hb.lt
  clear hb
  have hb := HBp.out
  have p0 := hb.cell 0
  have p1 := hb.cell 1
  have p2 := hb.cell 2
  have p3 := hb.cell 3
  have p4 := hb.cell 4
  have p5 := hb.cell 5
  have p6 := hb.cell 6
  simp at p0 p1 p2 p3 p4 p5 p6
  have zp := hb.lt
  clear hb
  go_wp2_with fail
  refine (FS.out _ HK.out).mono ?_
  rintro e w1 ⟨rfl, hk1⟩
  clear l0 l1 l2 l3 l4 l5 l6 l7 l8 l9 l10 l11 l12 p0 p1 p2 p3 p4 p5 p6 zl zp
  have hl := HBl.out.keeps hk1 (fun h => h)
  clear HBl
  have HBl := Lib.hid hl
  clear hl
  have hp := HBp.out.keeps hk1 (fun h => h)
  clear HBp
  have HBp := Lib.hid hp
  clear hp
  have hr := HK.out.trans hk1
  clear HK
  have HK := Lib.hid hr
  clear hr
  have sz1 := hk1.size
  (try simp at sz1)
  clear hk1
  have hb := HBl.out
  have l0 := hb.cell 0
  have l1 := hb.cell 1
  have l2 := hb.cell 2
  have l3 := hb.cell 3
  have l4 := hb.cell 4
  have l5 := hb.cell 5
  have l6 := hb.cell 6
  have l7 := hb.cell 7
  have l8 := hb.cell 8
  have l9 := hb.cell 9
  have l10 := hb.cell 10
  have l11 := hb.cell 11
  have l12 := hb.cell 12
  simp at l0 l1 l2 l3 l4 l5 l6 l7 l8 l9 l10 l11 l12
  have zl := hb.lt
  clear hb
  have hb := HBp.out
  have p0 := hb.cell 0
  have p1 := hb.cell 1
  have p2 := hb.cell 2
  have p3 := hb.cell 3
  have p4 := hb.cell 4
  have p5 := hb.cell 5
  have p6 := hb.cell 6
  simp at p0 p1 p2 p3 p4 p5 p6
  have zp := hb.lt
  clear hb
  go_wp2_with fail
  refine (FG.out _ HK.out).mono ?_
  rintro e w2 ⟨rfl, hk2⟩
  clear l0 l1 l2 l3 l4 l5 l6 l7 l8 l9 l10 l11 l12 p0 p1 p2 p3 p4 p5 p6 zl zp
  have hl := HBl.out.keeps hk2 (fun h => h)
  clear HBl
  have HBl := Lib.hid hl
  clear hl
  have hp := HBp.out.keeps hk2 (fun h => h)
  clear HBp
  have HBp := Lib.hid hp
  clear hp
  have hr := HK.out.trans hk2
  clear HK
  have HK := Lib.hid hr
  clear hr
  have sz2 := hk2.size
  (try simp at sz2)
  clear hk2
  go_wp2
  go_ret
  exact ⟨by first | rfl | simp [hn], HK.out⟩
theorem mayTell_any (c : ChM) (y : StM) (P : Option Addr) (q : Int) (w : World) (hs : c.st.At w) (hy : y.At w) (ht : Tabs w) : Calls Tryz.prog 60 #[lkV c P, .agg #[.int .i64 y.x.way, .int .i64 y.x.ver, .int .i64 y.x.want, .slice y.A1 y.x.sent.length y.c1, .slice y.A2 y.x.live.length y.c2, .slice y.A3 y.x.back.length y.c3, .slice y.A4 y.x.got.length y.c4], .int .i64 q] w fun e w' => e = .returned (.bool (mtB c y.x q)) ∧ Keeps noBlk w w' := by
  unfold mtB
  by_cases h1 : setN c.st.x q = 1
  · by_cases h2 : gotN y.x q = 0
    · simpa [h1, h2] using may_tell_b0 c y P q w hs hy ht h1 h2
    · simpa [h1, h2] using may_tell_b1 c y P q w hs hy ht h1 h2
  · simpa [h1] using may_tell_no c y P q w hs hy ht h1
set_option maxRecDepth 100000 in
set_option maxHeartbeats 8000000 in
theorem may_late_no (c : ChM) (y : StM) (P : Option Addr) (h q : Int) (w : World) (hs : c.st.At w) (hy : y.At w) (ht : Tabs w) (h1 : setN c.st.x q ≠ 1) : Calls Tryz.prog 67 #[lkV c P, .agg #[.int .i64 y.x.way, .int .i64 y.x.ver, .int .i64 y.x.want, .slice y.A1 y.x.sent.length y.c1, .slice y.A2 y.x.live.length y.c2, .slice y.A3 y.x.back.length y.c3, .slice y.A4 y.x.got.length y.c4, .int .i64 h], .int .i64 q] w fun e w' => e = .returned (.bool false) ∧ Keeps noBlk w w' := by
  have FS := Lib.hid (fun W (hk : Keeps noBlk w W) => implSet_any c.st.x c.st.A1 c.st.A2 c.st.A3 c.st.A4 c.st.c1 c.st.c2 c.st.c3 c.st.c4 q W (hs.kept hk) (ht.keeps hk))
  unfold stV at FS
  generalize setN c.st.x q = s at FS h1
  have hn : (s == 1) = false := by simpa using h1
  clear h1 hs hy ht
  have HBl := Lib.hid ((Box.new w (w.heap.size) (by simp) 78 #[.slice c.bk.A1 c.bk.b.own.length c.bk.c1, .slice c.bk.A2 c.bk.b.notes.length c.bk.c2, .int .i64 c.bk.b.locked, .int .i64 c.id, .int .i64 c.st.x.way, .int .i64 c.st.x.ver, .int .i64 c.st.x.want, .slice c.st.A1 c.st.x.sent.length c.st.c1, .slice c.st.A2 c.st.x.live.length c.st.c2, .slice c.st.A3 c.st.x.back.length c.st.c3, .slice c.st.A4 c.st.x.got.length c.st.c4, .pointer P, .slice c.kA c.knows.length c.kc]).alloc (.cells #[.int .i64 y.x.way, .int .i64 y.x.ver, .int .i64 y.x.want, .slice y.A1 y.x.sent.length y.c1, .slice y.A2 y.x.live.length y.c2, .slice y.A3 y.x.back.length y.c3, .slice y.A4 y.x.got.length y.c4, .int .i64 h] 97))
  have HBp := Lib.hid (Box.new (w.alloc (.cells #[.slice c.bk.A1 c.bk.b.own.length c.bk.c1, .slice c.bk.A2 c.bk.b.notes.length c.bk.c2, .int .i64 c.bk.b.locked, .int .i64 c.id, .int .i64 c.st.x.way, .int .i64 c.st.x.ver, .int .i64 c.st.x.want, .slice c.st.A1 c.st.x.sent.length c.st.c1, .slice c.st.A2 c.st.x.live.length c.st.c2, .slice c.st.A3 c.st.x.back.length c.st.c3, .slice c.st.A4 c.st.x.got.length c.st.c4, .pointer P, .slice c.kA c.knows.length c.kc] 78)) (w.heap.size + 1) (by simp) 97 #[.int .i64 y.x.way, .int .i64 y.x.ver, .int .i64 y.x.want, .slice y.A1 y.x.sent.length y.c1, .slice y.A2 y.x.live.length y.c2, .slice y.A3 y.x.back.length y.c3, .slice y.A4 y.x.got.length y.c4, .int .i64 h])
  have HK := Lib.hid (((Keeps.refl noBlk w).alloc (.cells #[.slice c.bk.A1 c.bk.b.own.length c.bk.c1, .slice c.bk.A2 c.bk.b.notes.length c.bk.c2, .int .i64 c.bk.b.locked, .int .i64 c.id, .int .i64 c.st.x.way, .int .i64 c.st.x.ver, .int .i64 c.st.x.want, .slice c.st.A1 c.st.x.sent.length c.st.c1, .slice c.st.A2 c.st.x.live.length c.st.c2, .slice c.st.A3 c.st.x.back.length c.st.c3, .slice c.st.A4 c.st.x.got.length c.st.c4, .pointer P, .slice c.kA c.knows.length c.kc] 78)).alloc (.cells #[.int .i64 y.x.way, .int .i64 y.x.ver, .int .i64 y.x.want, .slice y.A1 y.x.sent.length y.c1, .slice y.A2 y.x.live.length y.c2, .slice y.A3 y.x.back.length y.c3, .slice y.A4 y.x.got.length y.c4, .int .i64 h] 97))
  unfold lkV
  go_enter Tryz.func67, Tryz.ntmps67
  go_wp2_with fail
  generalize ((w.alloc (.cells #[.slice c.bk.A1 c.bk.b.own.length c.bk.c1, .slice c.bk.A2 c.bk.b.notes.length c.bk.c2, .int .i64 c.bk.b.locked, .int .i64 c.id, .int .i64 c.st.x.way, .int .i64 c.st.x.ver, .int .i64 c.st.x.want, .slice c.st.A1 c.st.x.sent.length c.st.c1, .slice c.st.A2 c.st.x.live.length c.st.c2, .slice c.st.A3 c.st.x.back.length c.st.c3, .slice c.st.A4 c.st.x.got.length c.st.c4, .pointer P, .slice c.kA c.knows.length c.kc] 78)).alloc (.cells #[.int .i64 y.x.way, .int .i64 y.x.ver, .int .i64 y.x.want, .slice y.A1 y.x.sent.length y.c1, .slice y.A2 y.x.live.length y.c2, .slice y.A3 y.x.back.length y.c3, .slice y.A4 y.x.got.length y.c4, .int .i64 h] 97)) = W0 at *
  have l0 := HBl.out.cell 0
  have l1 := HBl.out.cell 1
  have l2 := HBl.out.cell 2
  have l3 := HBl.out.cell 3
  have l4 := HBl.out.cell 4
  have l5 := HBl.out.cell 5
  have l6 := HBl.out.cell 6
  have l7 := HBl.out.cell 7
  have l8 := HBl.out.cell 8
  have l9 := HBl.out.cell 9
  have l10 := HBl.out.cell 10
  have l11 := HBl.out.cell 11
  have l12 := HBl.out.cell 12
  simp at l0 l1 l2 l3 l4 l5 l6 l7 l8 l9 l10 l11 l12
  have l0 := fun U : GW W0 => GW.cell l0 U
  have l1 := fun U : GW W0 => GW.cell l1 U
  have l2 := fun U : GW W0 => GW.cell l2 U
  have l3 := fun U : GW W0 => GW.cell l3 U
  have l4 := fun U : GW W0 => GW.cell l4 U
  have l5 := fun U : GW W0 => GW.cell l5 U
  have l6 := fun U : GW W0 => GW.cell l6 U
  have l7 := fun U : GW W0 => GW.cell l7 U
  have l8 := fun U : GW W0 => GW.cell l8 U
  have l9 := fun U : GW W0 => GW.cell l9 U
  have l10 := fun U : GW W0 => GW.cell l10 U
  have l11 := fun U : GW W0 => GW.cell l11 U
  have l12 := fun U : GW W0 => GW.cell l12 U
  have p0 := HBp.out.cell 0
  have p1 := HBp.out.cell 1
  have p2 := HBp.out.cell 2
  have p3 := HBp.out.cell 3
  have p4 := HBp.out.cell 4
  have p5 := HBp.out.cell 5
  have p6 := HBp.out.cell 6
  have p7 := HBp.out.cell 7
  simp at p0 p1 p2 p3 p4 p5 p6 p7
  have p0 := fun U : GW W0 => GW.cell p0 U
  have p1 := fun U : GW W0 => GW.cell p1 U
  have p2 := fun U : GW W0 => GW.cell p2 U
  have p3 := fun U : GW W0 => GW.cell p3 U
  have p4 := fun U : GW W0 => GW.cell p4 U
  have p5 := fun U : GW W0 => GW.cell p5 U
  have p6 := fun U : GW W0 => GW.cell p6 U
  have p7 := fun U : GW W0 => GW.cell p7 U
  refine wp_region_grow (by kernel_rfl) (by kernel_rfl) ?_
  repeat (go_big_quiet_step (first | (go_at_call 91; exact Calls.grow _ (FS.out _ (HK.out.trans (GW.keep _))))))
  refine wpQuiet_nil ?_
  rintro _ ⟨U1, rfl⟩
  have HK1 := Lib.hid (HK.out.trans U1.keep)
  go_wp2
  go_ret
  exact ⟨rfl, HK1.out⟩
set_option maxRecDepth 100000 in
set_option maxHeartbeats 8000000 in
theorem may_late_early (c : ChM) (y : StM) (P : Option Addr) (h : Int) (k : Nat) (w : World) (hs : c.st.At w) (hy : y.At w) (ht : Tabs w) (h1 : setN c.st.x ((k : Int) + 1) = 1) (hl : k < c.st.x.sent.length) (h8 : c.st.x.sent.length ≤ 8) (h2 : ¬ (c.st.x.sent.getD k pk0).u ≤ h) : Calls Tryz.prog 67 #[lkV c P, .agg #[.int .i64 y.x.way, .int .i64 y.x.ver, .int .i64 y.x.want, .slice y.A1 y.x.sent.length y.c1, .slice y.A2 y.x.live.length y.c2, .slice y.A3 y.x.back.length y.c3, .slice y.A4 y.x.got.length y.c4, .int .i64 h], .int .i64 ((k : Int) + 1)] w fun e w' => e = .returned (.bool false) ∧ Keeps noBlk w w' := by
  have FS := Lib.hid (fun W (hk : Keeps noBlk w W) => implSet_any c.st.x c.st.A1 c.st.A2 c.st.A3 c.st.A4 c.st.c1 c.st.c2 c.st.c3 c.st.c4 ((k : Int) + 1) W (hs.kept hk) (ht.keeps hk))
  unfold stV at FS
  rw [h1] at FS
  have HBl := Lib.hid ((Box.new w (w.heap.size) (by simp) 78 #[.slice c.bk.A1 c.bk.b.own.length c.bk.c1, .slice c.bk.A2 c.bk.b.notes.length c.bk.c2, .int .i64 c.bk.b.locked, .int .i64 c.id, .int .i64 c.st.x.way, .int .i64 c.st.x.ver, .int .i64 c.st.x.want, .slice c.st.A1 c.st.x.sent.length c.st.c1, .slice c.st.A2 c.st.x.live.length c.st.c2, .slice c.st.A3 c.st.x.back.length c.st.c3, .slice c.st.A4 c.st.x.got.length c.st.c4, .pointer P, .slice c.kA c.knows.length c.kc]).alloc (.cells #[.int .i64 y.x.way, .int .i64 y.x.ver, .int .i64 y.x.want, .slice y.A1 y.x.sent.length y.c1, .slice y.A2 y.x.live.length y.c2, .slice y.A3 y.x.back.length y.c3, .slice y.A4 y.x.got.length y.c4, .int .i64 h] 97))
  have HBp := Lib.hid (Box.new (w.alloc (.cells #[.slice c.bk.A1 c.bk.b.own.length c.bk.c1, .slice c.bk.A2 c.bk.b.notes.length c.bk.c2, .int .i64 c.bk.b.locked, .int .i64 c.id, .int .i64 c.st.x.way, .int .i64 c.st.x.ver, .int .i64 c.st.x.want, .slice c.st.A1 c.st.x.sent.length c.st.c1, .slice c.st.A2 c.st.x.live.length c.st.c2, .slice c.st.A3 c.st.x.back.length c.st.c3, .slice c.st.A4 c.st.x.got.length c.st.c4, .pointer P, .slice c.kA c.knows.length c.kc] 78)) (w.heap.size + 1) (by simp) 97 #[.int .i64 y.x.way, .int .i64 y.x.ver, .int .i64 y.x.want, .slice y.A1 y.x.sent.length y.c1, .slice y.A2 y.x.live.length y.c2, .slice y.A3 y.x.back.length y.c3, .slice y.A4 y.x.got.length y.c4, .int .i64 h])
  have HK := Lib.hid (((Keeps.refl noBlk w).alloc (.cells #[.slice c.bk.A1 c.bk.b.own.length c.bk.c1, .slice c.bk.A2 c.bk.b.notes.length c.bk.c2, .int .i64 c.bk.b.locked, .int .i64 c.id, .int .i64 c.st.x.way, .int .i64 c.st.x.ver, .int .i64 c.st.x.want, .slice c.st.A1 c.st.x.sent.length c.st.c1, .slice c.st.A2 c.st.x.live.length c.st.c2, .slice c.st.A3 c.st.x.back.length c.st.c3, .slice c.st.A4 c.st.x.got.length c.st.c4, .pointer P, .slice c.kA c.knows.length c.kc] 78)).alloc (.cells #[.int .i64 y.x.way, .int .i64 y.x.ver, .int .i64 y.x.want, .slice y.A1 y.x.sent.length y.c1, .slice y.A2 y.x.live.length y.c2, .slice y.A3 y.x.back.length y.c3, .slice y.A4 y.x.got.length y.c4, .int .i64 h] 97))
  obtain ⟨b, off, eA, hlt, _, _, _, _, _, d5, _⟩ := hs.1.1.at_ hl
  generalize (c.st.x.sent.getD k pk0).u = u9 at h2 d5
  have hn : decide (u9 ≤ h) = false := by simpa using h2
  have hn2 : ¬ u9 ≤ h := h2
  have hi0 : (0 : Int) ≤ k := by omega
  have hi1 : (k : Int) < (c.st.x.sent.length : Int) := by omega
  have hw1 : IntKind.i64.wrap ((k : Int) + 1 - 1) = k := by rw [show (k : Int) + 1 - 1 = k by omega]; exact IntWalk.i64_in _ (by omega)
  have D5 := Lib.hid ((HK.out.cell (b := b) hlt (fun h => h)).trans d5)
  clear d5 h1 h2 hs hy ht
  have EA := Lib.hid eA
  unfold lkV
  rw [eA] at HBl HBp HK D5 FS ⊢
  clear eA EA
  go_enter Tryz.func67, Tryz.ntmps67
  go_wp2_with fail
  generalize ((w.alloc (.cells #[.slice c.bk.A1 c.bk.b.own.length c.bk.c1, .slice c.bk.A2 c.bk.b.notes.length c.bk.c2, .int .i64 c.bk.b.locked, .int .i64 c.id, .int .i64 c.st.x.way, .int .i64 c.st.x.ver, .int .i64 c.st.x.want, .slice (some ⟨b, off, none⟩) c.st.x.sent.length c.st.c1, .slice c.st.A2 c.st.x.live.length c.st.c2, .slice c.st.A3 c.st.x.back.length c.st.c3, .slice c.st.A4 c.st.x.got.length c.st.c4, .pointer P, .slice c.kA c.knows.length c.kc] 78)).alloc (.cells #[.int .i64 y.x.way, .int .i64 y.x.ver, .int .i64 y.x.want, .slice y.A1 y.x.sent.length y.c1, .slice y.A2 y.x.live.length y.c2, .slice y.A3 y.x.back.length y.c3, .slice y.A4 y.x.got.length y.c4, .int .i64 h] 97)) = W0 at *
  have l0 := HBl.out.cell 0
  have l1 := HBl.out.cell 1
  have l2 := HBl.out.cell 2
  have l3 := HBl.out.cell 3
  have l4 := HBl.out.cell 4
  have l5 := HBl.out.cell 5
  have l6 := HBl.out.cell 6
  have l7 := HBl.out.cell 7
  have l8 := HBl.out.cell 8
  have l9 := HBl.out.cell 9
  have l10 := HBl.out.cell 10
  have l11 := HBl.out.cell 11
  have l12 := HBl.out.cell 12
  simp at l0 l1 l2 l3 l4 l5 l6 l7 l8 l9 l10 l11 l12
  have l0 := fun U : GW W0 => GW.cell l0 U
  have l1 := fun U : GW W0 => GW.cell l1 U
  have l2 := fun U : GW W0 => GW.cell l2 U
  have l3 := fun U : GW W0 => GW.cell l3 U
  have l4 := fun U : GW W0 => GW.cell l4 U
  have l5 := fun U : GW W0 => GW.cell l5 U
  have l6 := fun U : GW W0 => GW.cell l6 U
  have l7 := fun U : GW W0 => GW.cell l7 U
  have l8 := fun U : GW W0 => GW.cell l8 U
  have l9 := fun U : GW W0 => GW.cell l9 U
  have l10 := fun U : GW W0 => GW.cell l10 U
  have l11 := fun U : GW W0 => GW.cell l11 U
  have l12 := fun U : GW W0 => GW.cell l12 U
  have p0 := HBp.out.cell 0
  have p1 := HBp.out.cell 1
  have p2 := HBp.out.cell 2
  have p3 := HBp.out.cell 3
  have p4 := HBp.out.cell 4
  have p5 := HBp.out.cell 5
  have p6 := HBp.out.cell 6
  have p7 := HBp.out.cell 7
  simp at p0 p1 p2 p3 p4 p5 p6 p7
  have p0 := fun U : GW W0 => GW.cell p0 U
  have p1 := fun U : GW W0 => GW.cell p1 U
  have p2 := fun U : GW W0 => GW.cell p2 U
  have p3 := fun U : GW W0 => GW.cell p3 U
  have p4 := fun U : GW W0 => GW.cell p4 U
  have p5 := fun U : GW W0 => GW.cell p5 U
  have p6 := fun U : GW W0 => GW.cell p6 U
  have p7 := fun U : GW W0 => GW.cell p7 U
  have d5 := fun U : GW W0 => GW.cell D5.out U
  refine wp_region_grow (by kernel_rfl) (by kernel_rfl) ?_
  repeat (go_big_quiet_step (first | (go_at_call 91; exact Calls.grow _ (FS.out _ (HK.out.trans (GW.keep _))))))
  refine wpQuiet_nil ?_
  rintro _ ⟨U1, rfl⟩
  have HK1 := Lib.hid (HK.out.trans U1.keep)
  go_wp2
  go_ret
  exact ⟨by first | rfl | simp [hn], HK1.out⟩
set_option maxRecDepth 100000 in
set_option maxHeartbeats 8000000 in
theorem may_late_b0 (c : ChM) (y : StM) (P : Option Addr) (h : Int) (k : Nat) (w : World) (hs : c.st.At w) (hy : y.At w) (ht : Tabs w) (h1 : setN c.st.x ((k : Int) + 1) = 1) (hl : k < c.st.x.sent.length) (h8 : c.st.x.sent.length ≤ 8) (h2 : (c.st.x.sent.getD k pk0).u ≤ h) : Calls Tryz.prog 67 #[lkV c P, .agg #[.int .i64 y.x.way, .int .i64 y.x.ver, .int .i64 y.x.want, .slice y.A1 y.x.sent.length y.c1, .slice y.A2 y.x.live.length y.c2, .slice y.A3 y.x.back.length y.c3, .slice y.A4 y.x.got.length y.c4, .int .i64 h], .int .i64 ((k : Int) + 1)] w fun e w' => e = .returned (.bool (decide (gotN y.x ((k : Int) + 1) = 0))) ∧ Keeps noBlk w w' := by
  have FS := Lib.hid (fun W (hk : Keeps noBlk w W) => implSet_any c.st.x c.st.A1 c.st.A2 c.st.A3 c.st.A4 c.st.c1 c.st.c2 c.st.c3 c.st.c4 ((k : Int) + 1) W (hs.kept hk) (ht.keeps hk))
  unfold stV at FS
  have FG := Lib.hid (fun W (hk : Keeps noBlk w W) => implGot_any y.x y.A1 y.A2 y.A3 y.A4 y.c1 y.c2 y.c3 y.c4 ((k : Int) + 1) W (hy.kept hk) (ht.keeps hk))
  unfold stV at FG
  rw [h1] at FS
  generalize gotN y.x ((k : Int) + 1) = s9 at FG ⊢
  have hs9 : (s9 == 0) = decide (s9 = 0) := by rfl
  have HBl := Lib.hid ((Box.new w (w.heap.size) (by simp) 78 #[.slice c.bk.A1 c.bk.b.own.length c.bk.c1, .slice c.bk.A2 c.bk.b.notes.length c.bk.c2, .int .i64 c.bk.b.locked, .int .i64 c.id, .int .i64 c.st.x.way, .int .i64 c.st.x.ver, .int .i64 c.st.x.want, .slice c.st.A1 c.st.x.sent.length c.st.c1, .slice c.st.A2 c.st.x.live.length c.st.c2, .slice c.st.A3 c.st.x.back.length c.st.c3, .slice c.st.A4 c.st.x.got.length c.st.c4, .pointer P, .slice c.kA c.knows.length c.kc]).alloc (.cells #[.int .i64 y.x.way, .int .i64 y.x.ver, .int .i64 y.x.want, .slice y.A1 y.x.sent.length y.c1, .slice y.A2 y.x.live.length y.c2, .slice y.A3 y.x.back.length y.c3, .slice y.A4 y.x.got.length y.c4, .int .i64 h] 97))
  have HBp := Lib.hid (Box.new (w.alloc (.cells #[.slice c.bk.A1 c.bk.b.own.length c.bk.c1, .slice c.bk.A2 c.bk.b.notes.length c.bk.c2, .int .i64 c.bk.b.locked, .int .i64 c.id, .int .i64 c.st.x.way, .int .i64 c.st.x.ver, .int .i64 c.st.x.want, .slice c.st.A1 c.st.x.sent.length c.st.c1, .slice c.st.A2 c.st.x.live.length c.st.c2, .slice c.st.A3 c.st.x.back.length c.st.c3, .slice c.st.A4 c.st.x.got.length c.st.c4, .pointer P, .slice c.kA c.knows.length c.kc] 78)) (w.heap.size + 1) (by simp) 97 #[.int .i64 y.x.way, .int .i64 y.x.ver, .int .i64 y.x.want, .slice y.A1 y.x.sent.length y.c1, .slice y.A2 y.x.live.length y.c2, .slice y.A3 y.x.back.length y.c3, .slice y.A4 y.x.got.length y.c4, .int .i64 h])
  have HK := Lib.hid (((Keeps.refl noBlk w).alloc (.cells #[.slice c.bk.A1 c.bk.b.own.length c.bk.c1, .slice c.bk.A2 c.bk.b.notes.length c.bk.c2, .int .i64 c.bk.b.locked, .int .i64 c.id, .int .i64 c.st.x.way, .int .i64 c.st.x.ver, .int .i64 c.st.x.want, .slice c.st.A1 c.st.x.sent.length c.st.c1, .slice c.st.A2 c.st.x.live.length c.st.c2, .slice c.st.A3 c.st.x.back.length c.st.c3, .slice c.st.A4 c.st.x.got.length c.st.c4, .pointer P, .slice c.kA c.knows.length c.kc] 78)).alloc (.cells #[.int .i64 y.x.way, .int .i64 y.x.ver, .int .i64 y.x.want, .slice y.A1 y.x.sent.length y.c1, .slice y.A2 y.x.live.length y.c2, .slice y.A3 y.x.back.length y.c3, .slice y.A4 y.x.got.length y.c4, .int .i64 h] 97))
  obtain ⟨b, off, eA, hlt, _, _, _, _, _, d5, _⟩ := hs.1.1.at_ hl
  generalize (c.st.x.sent.getD k pk0).u = u9 at h2 d5
  have hn : decide (u9 ≤ h) = true := by simpa using h2
  have hi0 : (0 : Int) ≤ k := by omega
  have hi1 : (k : Int) < (c.st.x.sent.length : Int) := by omega
  have hw1 : IntKind.i64.wrap ((k : Int) + 1 - 1) = k := by rw [show (k : Int) + 1 - 1 = k by omega]; exact IntWalk.i64_in _ (by omega)
  have D5 := Lib.hid ((HK.out.cell (b := b) hlt (fun h => h)).trans d5)
  clear d5 h1 h2 hs hy ht
  have EA := Lib.hid eA
  unfold lkV
  rw [eA] at HBl HBp HK D5 FS ⊢
  clear eA EA
  go_enter Tryz.func67, Tryz.ntmps67
  go_wp2_with fail
  generalize ((w.alloc (.cells #[.slice c.bk.A1 c.bk.b.own.length c.bk.c1, .slice c.bk.A2 c.bk.b.notes.length c.bk.c2, .int .i64 c.bk.b.locked, .int .i64 c.id, .int .i64 c.st.x.way, .int .i64 c.st.x.ver, .int .i64 c.st.x.want, .slice (some ⟨b, off, none⟩) c.st.x.sent.length c.st.c1, .slice c.st.A2 c.st.x.live.length c.st.c2, .slice c.st.A3 c.st.x.back.length c.st.c3, .slice c.st.A4 c.st.x.got.length c.st.c4, .pointer P, .slice c.kA c.knows.length c.kc] 78)).alloc (.cells #[.int .i64 y.x.way, .int .i64 y.x.ver, .int .i64 y.x.want, .slice y.A1 y.x.sent.length y.c1, .slice y.A2 y.x.live.length y.c2, .slice y.A3 y.x.back.length y.c3, .slice y.A4 y.x.got.length y.c4, .int .i64 h] 97)) = W0 at *
  have l0 := HBl.out.cell 0
  have l1 := HBl.out.cell 1
  have l2 := HBl.out.cell 2
  have l3 := HBl.out.cell 3
  have l4 := HBl.out.cell 4
  have l5 := HBl.out.cell 5
  have l6 := HBl.out.cell 6
  have l7 := HBl.out.cell 7
  have l8 := HBl.out.cell 8
  have l9 := HBl.out.cell 9
  have l10 := HBl.out.cell 10
  have l11 := HBl.out.cell 11
  have l12 := HBl.out.cell 12
  simp at l0 l1 l2 l3 l4 l5 l6 l7 l8 l9 l10 l11 l12
  have l0 := fun U : GW W0 => GW.cell l0 U
  have l1 := fun U : GW W0 => GW.cell l1 U
  have l2 := fun U : GW W0 => GW.cell l2 U
  have l3 := fun U : GW W0 => GW.cell l3 U
  have l4 := fun U : GW W0 => GW.cell l4 U
  have l5 := fun U : GW W0 => GW.cell l5 U
  have l6 := fun U : GW W0 => GW.cell l6 U
  have l7 := fun U : GW W0 => GW.cell l7 U
  have l8 := fun U : GW W0 => GW.cell l8 U
  have l9 := fun U : GW W0 => GW.cell l9 U
  have l10 := fun U : GW W0 => GW.cell l10 U
  have l11 := fun U : GW W0 => GW.cell l11 U
  have l12 := fun U : GW W0 => GW.cell l12 U
  have p0 := HBp.out.cell 0
  have p1 := HBp.out.cell 1
  have p2 := HBp.out.cell 2
  have p3 := HBp.out.cell 3
  have p4 := HBp.out.cell 4
  have p5 := HBp.out.cell 5
  have p6 := HBp.out.cell 6
  have p7 := HBp.out.cell 7
  simp at p0 p1 p2 p3 p4 p5 p6 p7
  have p0 := fun U : GW W0 => GW.cell p0 U
  have p1 := fun U : GW W0 => GW.cell p1 U
  have p2 := fun U : GW W0 => GW.cell p2 U
  have p3 := fun U : GW W0 => GW.cell p3 U
  have p4 := fun U : GW W0 => GW.cell p4 U
  have p5 := fun U : GW W0 => GW.cell p5 U
  have p6 := fun U : GW W0 => GW.cell p6 U
  have p7 := fun U : GW W0 => GW.cell p7 U
  have d5 := fun U : GW W0 => GW.cell D5.out U
  refine wp_region_grow (by kernel_rfl) (by kernel_rfl) ?_
  repeat (go_big_quiet_step (first | (go_at_call 91; exact Calls.grow _ (FS.out _ (HK.out.trans (GW.keep _)))) | (go_at_call 62; exact Calls.grow _ (FG.out _ (HK.out.trans (GW.keep _))))))
  refine wpQuiet_nil ?_
  rintro _ ⟨U1, rfl⟩
  have HK1 := Lib.hid (HK.out.trans U1.keep)
  go_wp2
  go_ret
  exact ⟨by first | rfl | simp [hn], HK1.out⟩
theorem mayLate_any (c : ChM) (y : StM) (P : Option Addr) (h q : Int) (w : World) (hs : c.st.At w) (hy : y.At w) (ht : Tabs w) : Calls Tryz.prog 67 #[lkV c P, .agg #[.int .i64 y.x.way, .int .i64 y.x.ver, .int .i64 y.x.want, .slice y.A1 y.x.sent.length y.c1, .slice y.A2 y.x.live.length y.c2, .slice y.A3 y.x.back.length y.c3, .slice y.A4 y.x.got.length y.c4, .int .i64 h], .int .i64 q] w fun e w' => e = .returned (.bool (mlB c y.x h q)) ∧ Keeps noBlk w w' := by
  unfold mlB
  by_cases h1 : setN c.st.x q = 1
  · obtain ⟨hb, k, rfl, hk⟩ := setN_in h1
    have h8 := (stB_ok hb).2.1.small
    have e : ((k : Int) + 1 - 1).toNat = k := by omega
    rw [e]
    by_cases h2 : (c.st.x.sent.getD k pk0).u ≤ h
    · rw [decide_eq_true h1, decide_eq_true h2]
      exact may_late_b0 c y P h k w hs hy ht h1 hk h8 h2
    · rw [decide_eq_true h1, decide_eq_false h2]
      exact may_late_early c y P h k w hs hy ht h1 hk h8 h2
  · rw [decide_eq_false h1]
    exact may_late_no c y P h q w hs hy ht h1
end Go.Proofs.YtcnbephpadmboaaGreatDoor
