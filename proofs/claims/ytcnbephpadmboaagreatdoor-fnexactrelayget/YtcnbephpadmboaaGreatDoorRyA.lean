/- mayTell, mayLate, mayGet of the program. -/
import Derived.Test.YtcnbephpadmboaaGreatDoorURyS
import Derived.Test.YtcnbephpadmboaaGreatDoorUHas
import Derived.Test.YtcnbephpadmboaaGreatDoorUMem
set_option linter.unusedVariables false
set_option linter.unusedSimpArgs false
namespace Go.Proofs.YtcnbephpadmboaaGreatDoor
open Go.RowKit

def mgB (c : ChM) (y : StL) (p : Pk) : Bool := decide (c.st.x.way = 3 ∨ c.st.x.way = 4) && hasB y p && decide (gotN c.st.x p.s = 0) && decide (p.v = c.st.x.ver) && decide ((c.past.length : Int) + 1 < p.u)
set_option maxRecDepth 100000 in
set_option maxHeartbeats 8000000 in
theorem may_get_way (c : ChM) (y : StM) (P : Option Addr) (p : Pk) (lo : Nat) (w : World) (hs : c.st.At w) (hy : y.At w) (ht : Tabs w) (hl : Lk w lo P c.past.reverse) (hn9 : c.past.length ≤ 1000) (hc : ¬ (c.st.x.way = 3 ∨ c.st.x.way = 4)) : Calls Tryz.prog 42 #[lkV c P, .agg #[.int .i64 y.x.way, .int .i64 y.x.ver, .int .i64 y.x.want, .slice y.A1 y.x.sent.length y.c1, .slice y.A2 y.x.live.length y.c2, .slice y.A3 y.x.back.length y.c3, .slice y.A4 y.x.got.length y.c4], p.val] w fun e w' => e = .returned (.bool false) ∧ Keeps noBlk w w' := by
  have n3 : (c.st.x.way == 3) = false := by simpa using fun h => hc (.inl h)
  have n4 : (c.st.x.way == 4) = false := by simpa using fun h => hc (.inr h)
  clear hs hy ht hl hc
  have HBl := Lib.hid (((Box.new w (w.heap.size) (by simp) 78 #[.slice c.bk.A1 c.bk.b.own.length c.bk.c1, .slice c.bk.A2 c.bk.b.notes.length c.bk.c2, .int .i64 c.bk.b.locked, .int .i64 c.id, .int .i64 c.st.x.way, .int .i64 c.st.x.ver, .int .i64 c.st.x.want, .slice c.st.A1 c.st.x.sent.length c.st.c1, .slice c.st.A2 c.st.x.live.length c.st.c2, .slice c.st.A3 c.st.x.back.length c.st.c3, .slice c.st.A4 c.st.x.got.length c.st.c4, .pointer P, .slice c.kA c.knows.length c.kc]).alloc (.cells #[.int .i64 y.x.way, .int .i64 y.x.ver, .int .i64 y.x.want, .slice y.A1 y.x.sent.length y.c1, .slice y.A2 y.x.live.length y.c2, .slice y.A3 y.x.back.length y.c3, .slice y.A4 y.x.got.length y.c4] 75)).alloc (.cells #[.int .i64 p.s, .int .i64 p.k, .int .i64 p.f, .int .i64 p.t, .int .i64 p.m, .int .i64 p.u, .int .i64 p.v] 47))
  have HBp := Lib.hid ((Box.new (w.alloc (.cells #[.slice c.bk.A1 c.bk.b.own.length c.bk.c1, .slice c.bk.A2 c.bk.b.notes.length c.bk.c2, .int .i64 c.bk.b.locked, .int .i64 c.id, .int .i64 c.st.x.way, .int .i64 c.st.x.ver, .int .i64 c.st.x.want, .slice c.st.A1 c.st.x.sent.length c.st.c1, .slice c.st.A2 c.st.x.live.length c.st.c2, .slice c.st.A3 c.st.x.back.length c.st.c3, .slice c.st.A4 c.st.x.got.length c.st.c4, .pointer P, .slice c.kA c.knows.length c.kc] 78)) (w.heap.size + 1) (by simp) 75 #[.int .i64 y.x.way, .int .i64 y.x.ver, .int .i64 y.x.want, .slice y.A1 y.x.sent.length y.c1, .slice y.A2 y.x.live.length y.c2, .slice y.A3 y.x.back.length y.c3, .slice y.A4 y.x.got.length y.c4]).alloc (.cells #[.int .i64 p.s, .int .i64 p.k, .int .i64 p.f, .int .i64 p.t, .int .i64 p.m, .int .i64 p.u, .int .i64 p.v] 47))
  have HBk := Lib.hid (Box.new ((w.alloc (.cells #[.slice c.bk.A1 c.bk.b.own.length c.bk.c1, .slice c.bk.A2 c.bk.b.notes.length c.bk.c2, .int .i64 c.bk.b.locked, .int .i64 c.id, .int .i64 c.st.x.way, .int .i64 c.st.x.ver, .int .i64 c.st.x.want, .slice c.st.A1 c.st.x.sent.length c.st.c1, .slice c.st.A2 c.st.x.live.length c.st.c2, .slice c.st.A3 c.st.x.back.length c.st.c3, .slice c.st.A4 c.st.x.got.length c.st.c4, .pointer P, .slice c.kA c.knows.length c.kc] 78)).alloc (.cells #[.int .i64 y.x.way, .int .i64 y.x.ver, .int .i64 y.x.want, .slice y.A1 y.x.sent.length y.c1, .slice y.A2 y.x.live.length y.c2, .slice y.A3 y.x.back.length y.c3, .slice y.A4 y.x.got.length y.c4] 75)) (w.heap.size + 1 + 1) (by simp) 47 #[.int .i64 p.s, .int .i64 p.k, .int .i64 p.f, .int .i64 p.t, .int .i64 p.m, .int .i64 p.u, .int .i64 p.v])
  have HK := Lib.hid ((((Keeps.refl noBlk w).alloc (.cells #[.slice c.bk.A1 c.bk.b.own.length c.bk.c1, .slice c.bk.A2 c.bk.b.notes.length c.bk.c2, .int .i64 c.bk.b.locked, .int .i64 c.id, .int .i64 c.st.x.way, .int .i64 c.st.x.ver, .int .i64 c.st.x.want, .slice c.st.A1 c.st.x.sent.length c.st.c1, .slice c.st.A2 c.st.x.live.length c.st.c2, .slice c.st.A3 c.st.x.back.length c.st.c3, .slice c.st.A4 c.st.x.got.length c.st.c4, .pointer P, .slice c.kA c.knows.length c.kc] 78)).alloc (.cells #[.int .i64 y.x.way, .int .i64 y.x.ver, .int .i64 y.x.want, .slice y.A1 y.x.sent.length y.c1, .slice y.A2 y.x.live.length y.c2, .slice y.A3 y.x.back.length y.c3, .slice y.A4 y.x.got.length y.c4] 75)).alloc (.cells #[.int .i64 p.s, .int .i64 p.k, .int .i64 p.f, .int .i64 p.t, .int .i64 p.m, .int .i64 p.u, .int .i64 p.v] 47))
  unfold lkV Pk.val
  go_enter Tryz.func42, Tryz.ntmps42
  have hb := HBl.out
  have l0 := hb.cell 0
  have l1 := hb.cell 1
  have l2 := hb.cell 2
  have l3 := hb.cell 3
  have l4 := hb.cell 4
  have l5 := hb.cell 5
  have l6 := hb.cell 6
  have l7 := hb.cell 7
  have l8 := hb.cell 8
  have l9 := hb.cell 9
  have l10 := hb.cell 10
  have l11 := hb.cell 11
  have l12 := hb.cell 12
  simp at l0 l1 l2 l3 l4 l5 l6 l7 l8 l9 l10 l11 l12
  have zl := hb.lt
  clear hb
  have hb := HBp.out
  have p0 := hb.cell 0
  have p1 := hb.cell 1
  have p2 := hb.cell 2
  have p3 := hb.cell 3
  have p4 := hb.cell 4
  have p5 := hb.cell 5
  have p6 := hb.cell 6
  simp at p0 p1 p2 p3 p4 p5 p6
  have zp := hb.lt
  clear hb
  have hb := HBk.out
  have k0 := hb.cell 0
  have k1 := hb.cell 1
  have k2 := hb.cell 2
  have k3 := hb.cell 3
  have k4 := hb.cell 4
  have k5 := hb.cell 5
  have k6 := hb.cell 6
  simp at k0 k1 k2 k3 k4 k5 k6
  have zk := hb.lt
  clear hb
  go_wp2_with fail
  clear l0 l1 l2 l3 l4 l5 l6 l7 l8 l9 l10 l11 l12 p0 p1 p2 p3 p4 p5 p6 k0 k1 k2 k3 k4 k5 k6 zl zp zk
  go_wp2_with fail
  generalize (((w.alloc (.cells #[.slice c.bk.A1 c.bk.b.own.length c.bk.c1, .slice c.bk.A2 c.bk.b.notes.length c.bk.c2, .int .i64 c.bk.b.locked, .int .i64 c.id, .int .i64 c.st.x.way, .int .i64 c.st.x.ver, .int .i64 c.st.x.want, .slice c.st.A1 c.st.x.sent.length c.st.c1, .slice c.st.A2 c.st.x.live.length c.st.c2, .slice c.st.A3 c.st.x.back.length c.st.c3, .slice c.st.A4 c.st.x.got.length c.st.c4, .pointer P, .slice c.kA c.knows.length c.kc] 78)).alloc (.cells #[.int .i64 y.x.way, .int .i64 y.x.ver, .int .i64 y.x.want, .slice y.A1 y.x.sent.length y.c1, .slice y.A2 y.x.live.length y.c2, .slice y.A3 y.x.back.length y.c3, .slice y.A4 y.x.got.length y.c4] 75)).alloc (.cells #[.int .i64 p.s, .int .i64 p.k, .int .i64 p.f, .int .i64 p.t, .int .i64 p.m, .int .i64 p.u, .int .i64 p.v] 47)) = W0 at *
  have l0 := HBl.out.cell 0
  have l1 := HBl.out.cell 1
  have l2 := HBl.out.cell 2
  have l3 := HBl.out.cell 3
  have l4 := HBl.out.cell 4
  have l5 := HBl.out.cell 5
  have l6 := HBl.out.cell 6
  have l7 := HBl.out.cell 7
  have l8 := HBl.out.cell 8
  have l9 := HBl.out.cell 9
  have l10 := HBl.out.cell 10
  have l11 := HBl.out.cell 11
  have l12 := HBl.out.cell 12
  simp at l0 l1 l2 l3 l4 l5 l6 l7 l8 l9 l10 l11 l12
  have l0 := fun U : GW W0 => GW.cell l0 U
  have l1 := fun U : GW W0 => GW.cell l1 U
  have l2 := fun U : GW W0 => GW.cell l2 U
  have l3 := fun U : GW W0 => GW.cell l3 U
  have l4 := fun U : GW W0 => GW.cell l4 U
  have l5 := fun U : GW W0 => GW.cell l5 U
  have l6 := fun U : GW W0 => GW.cell l6 U
  have l7 := fun U : GW W0 => GW.cell l7 U
  have l8 := fun U : GW W0 => GW.cell l8 U
  have l9 := fun U : GW W0 => GW.cell l9 U
  have l10 := fun U : GW W0 => GW.cell l10 U
  have l11 := fun U : GW W0 => GW.cell l11 U
  have l12 := fun U : GW W0 => GW.cell l12 U
  have p0 := HBp.out.cell 0
  have p1 := HBp.out.cell 1
  have p2 := HBp.out.cell 2
  have p3 := HBp.out.cell 3
  have p4 := HBp.out.cell 4
  have p5 := HBp.out.cell 5
  have p6 := HBp.out.cell 6
  simp at p0 p1 p2 p3 p4 p5 p6
  have p0 := fun U : GW W0 => GW.cell p0 U
  have p1 := fun U : GW W0 => GW.cell p1 U
  have p2 := fun U : GW W0 => GW.cell p2 U
  have p3 := fun U : GW W0 => GW.cell p3 U
  have p4 := fun U : GW W0 => GW.cell p4 U
  have p5 := fun U : GW W0 => GW.cell p5 U
  have p6 := fun U : GW W0 => GW.cell p6 U
  have k0 := HBk.out.cell 0
  have k1 := HBk.out.cell 1
  have k2 := HBk.out.cell 2
  have k3 := HBk.out.cell 3
  have k4 := HBk.out.cell 4
  have k5 := HBk.out.cell 5
  have k6 := HBk.out.cell 6
  simp at k0 k1 k2 k3 k4 k5 k6
  have k0 := fun U : GW W0 => GW.cell k0 U
  have k1 := fun U : GW W0 => GW.cell k1 U
  have k2 := fun U : GW W0 => GW.cell k2 U
  have k3 := fun U : GW W0 => GW.cell k3 U
  have k4 := fun U : GW W0 => GW.cell k4 U
  have k5 := fun U : GW W0 => GW.cell k5 U
  have k6 := fun U : GW W0 => GW.cell k6 U
  refine wp_region_grow (by kernel_rfl) (by kernel_rfl) ?_
  repeat (go_big_quiet_step (fail))
  refine wpQuiet_nil ?_
  rintro _ ⟨U1, rfl⟩
  have HK1 := Lib.hid (HK.out.trans U1.keep)
  go_wp2
  go_ret
  exact ⟨rfl, HK1.out⟩
set_option maxRecDepth 100000 in
set_option maxHeartbeats 8000000 in
theorem may_get_has (c : ChM) (y : StM) (P : Option Addr) (p : Pk) (lo : Nat) (w : World) (hs : c.st.At w) (hy : y.At w) (ht : Tabs w) (hl : Lk w lo P c.past.reverse) (hn9 : c.past.length ≤ 1000) (hw : c.st.x.way = 3 ∨ c.st.x.way = 4) (hc : hasB y.x p = false) : Calls Tryz.prog 42 #[lkV c P, .agg #[.int .i64 y.x.way, .int .i64 y.x.ver, .int .i64 y.x.want, .slice y.A1 y.x.sent.length y.c1, .slice y.A2 y.x.live.length y.c2, .slice y.A3 y.x.back.length y.c3, .slice y.A4 y.x.got.length y.c4], p.val] w fun e w' => e = .returned (.bool false) ∧ Keeps noBlk w w' := by
  have FS := Lib.hid (fun W (hk : Keeps noBlk w W) => implHas_any y.x y.A1 y.A2 y.A3 y.A4 y.c1 y.c2 y.c3 y.c4 p W (hy.kept hk) (ht.keeps hk))
  unfold stV at FS
  rw [hc] at FS
  clear hs hy ht hl hc
  have HBl := Lib.hid (((Box.new w (w.heap.size) (by simp) 78 #[.slice c.bk.A1 c.bk.b.own.length c.bk.c1, .slice c.bk.A2 c.bk.b.notes.length c.bk.c2, .int .i64 c.bk.b.locked, .int .i64 c.id, .int .i64 c.st.x.way, .int .i64 c.st.x.ver, .int .i64 c.st.x.want, .slice c.st.A1 c.st.x.sent.length c.st.c1, .slice c.st.A2 c.st.x.live.length c.st.c2, .slice c.st.A3 c.st.x.back.length c.st.c3, .slice c.st.A4 c.st.x.got.length c.st.c4, .pointer P, .slice c.kA c.knows.length c.kc]).alloc (.cells #[.int .i64 y.x.way, .int .i64 y.x.ver, .int .i64 y.x.want, .slice y.A1 y.x.sent.length y.c1, .slice y.A2 y.x.live.length y.c2, .slice y.A3 y.x.back.length y.c3, .slice y.A4 y.x.got.length y.c4] 75)).alloc (.cells #[.int .i64 p.s, .int .i64 p.k, .int .i64 p.f, .int .i64 p.t, .int .i64 p.m, .int .i64 p.u, .int .i64 p.v] 47))
  have HBp := Lib.hid ((Box.new (w.alloc (.cells #[.slice c.bk.A1 c.bk.b.own.length c.bk.c1, .slice c.bk.A2 c.bk.b.notes.length c.bk.c2, .int .i64 c.bk.b.locked, .int .i64 c.id, .int .i64 c.st.x.way, .int .i64 c.st.x.ver, .int .i64 c.st.x.want, .slice c.st.A1 c.st.x.sent.length c.st.c1, .slice c.st.A2 c.st.x.live.length c.st.c2, .slice c.st.A3 c.st.x.back.length c.st.c3, .slice c.st.A4 c.st.x.got.length c.st.c4, .pointer P, .slice c.kA c.knows.length c.kc] 78)) (w.heap.size + 1) (by simp) 75 #[.int .i64 y.x.way, .int .i64 y.x.ver, .int .i64 y.x.want, .slice y.A1 y.x.sent.length y.c1, .slice y.A2 y.x.live.length y.c2, .slice y.A3 y.x.back.length y.c3, .slice y.A4 y.x.got.length y.c4]).alloc (.cells #[.int .i64 p.s, .int .i64 p.k, .int .i64 p.f, .int .i64 p.t, .int .i64 p.m, .int .i64 p.u, .int .i64 p.v] 47))
  have HBk := Lib.hid (Box.new ((w.alloc (.cells #[.slice c.bk.A1 c.bk.b.own.length c.bk.c1, .slice c.bk.A2 c.bk.b.notes.length c.bk.c2, .int .i64 c.bk.b.locked, .int .i64 c.id, .int .i64 c.st.x.way, .int .i64 c.st.x.ver, .int .i64 c.st.x.want, .slice c.st.A1 c.st.x.sent.length c.st.c1, .slice c.st.A2 c.st.x.live.length c.st.c2, .slice c.st.A3 c.st.x.back.length c.st.c3, .slice c.st.A4 c.st.x.got.length c.st.c4, .pointer P, .slice c.kA c.knows.length c.kc] 78)).alloc (.cells #[.int .i64 y.x.way, .int .i64 y.x.ver, .int .i64 y.x.want, .slice y.A1 y.x.sent.length y.c1, .slice y.A2 y.x.live.length y.c2, .slice y.A3 y.x.back.length y.c3, .slice y.A4 y.x.got.length y.c4] 75)) (w.heap.size + 1 + 1) (by simp) 47 #[.int .i64 p.s, .int .i64 p.k, .int .i64 p.f, .int .i64 p.t, .int .i64 p.m, .int .i64 p.u, .int .i64 p.v])
  have HK := Lib.hid ((((Keeps.refl noBlk w).alloc (.cells #[.slice c.bk.A1 c.bk.b.own.length c.bk.c1, .slice c.bk.A2 c.bk.b.notes.length c.bk.c2, .int .i64 c.bk.b.locked, .int .i64 c.id, .int .i64 c.st.x.way, .int .i64 c.st.x.ver, .int .i64 c.st.x.want, .slice c.st.A1 c.st.x.sent.length c.st.c1, .slice c.st.A2 c.st.x.live.length c.st.c2, .slice c.st.A3 c.st.x.back.length c.st.c3, .slice c.st.A4 c.st.x.got.length c.st.c4, .pointer P, .slice c.kA c.knows.length c.kc] 78)).alloc (.cells #[.int .i64 y.x.way, .int .i64 y.x.ver, .int .i64 y.x.want, .slice y.A1 y.x.sent.length y.c1, .slice y.A2 y.x.live.length y.c2, .slice y.A3 y.x.back.length y.c3, .slice y.A4 y.x.got.length y.c4] 75)).alloc (.cells #[.int .i64 p.s, .int .i64 p.k, .int .i64 p.f, .int .i64 p.t, .int .i64 p.m, .int .i64 p.u, .int .i64 p.v] 47))
  unfold lkV Pk.val
  unfold Pk.val at FS
  rcases hw with hw | hw
  · have n3 : (c.st.x.way == 3) = true := by simp [hw]
    have n4 : (c.st.x.way == 4) = false := by simp [hw]
    clear hw
    go_enter Tryz.func42, Tryz.ntmps42
    have hb := HBl.out
    have l0 := hb.cell 0
    have l1 := hb.cell 1
    have l2 := hb.cell 2
    have l3 := hb.cell 3
    have l4 := hb.cell 4
    have l5 := hb.cell 5
    have l6 := hb.cell 6
    have l7 := hb.cell 7
    have l8 := hb.cell 8
    have l9 := hb.cell 9
    have l10 := hb.cell 10
    have l11 := hb.cell 11
    have l12 := hb.cell 12
    simp at l0 l1 l2 l3 l4 l5 l6 l7 l8 l9 l10 l11 l12
    have zl := hb.lt
    clear hb
    have hb := HBp.out
    have p0 := hb.cell 0
    have p1 := hb.cell 1
    have p2 := hb.cell 2
    have p3 := hb.cell 3
    have p4 := hb.cell 4
    have p5 := hb.cell 5
    have p6 := hb.cell 6
    simp at p0 p1 p2 p3 p4 p5 p6
    have zp := hb.lt
    clear hb
    have hb := HBk.out
    have k0 := hb.cell 0
    have k1 := hb.cell 1
    have k2 := hb.cell 2
    have k3 := hb.cell 3
    have k4 := hb.cell 4
    have k5 := hb.cell 5
    have k6 := hb.cell 6
    simp at k0 k1 k2 k3 k4 k5 k6
    have zk := hb.lt
    clear hb
    go_wp2_with fail
    clear l0 l1 l2 l3 l4 l5 l6 l7 l8 l9 l10 l11 l12 p0 p1 p2 p3 p4 p5 p6 k0 k1 k2 k3 k4 k5 k6 zl zp zk
    go_wp2_with fail
    generalize (((w.alloc (.cells #[.slice c.bk.A1 c.bk.b.own.length c.bk.c1, .slice c.bk.A2 c.bk.b.notes.length c.bk.c2, .int .i64 c.bk.b.locked, .int .i64 c.id, .int .i64 c.st.x.way, .int .i64 c.st.x.ver, .int .i64 c.st.x.want, .slice c.st.A1 c.st.x.sent.length c.st.c1, .slice c.st.A2 c.st.x.live.length c.st.c2, .slice c.st.A3 c.st.x.back.length c.st.c3, .slice c.st.A4 c.st.x.got.length c.st.c4, .pointer P, .slice c.kA c.knows.length c.kc] 78)).alloc (.cells #[.int .i64 y.x.way, .int .i64 y.x.ver, .int .i64 y.x.want, .slice y.A1 y.x.sent.length y.c1, .slice y.A2 y.x.live.length y.c2, .slice y.A3 y.x.back.length y.c3, .slice y.A4 y.x.got.length y.c4] 75)).alloc (.cells #[.int .i64 p.s, .int .i64 p.k, .int .i64 p.f, .int .i64 p.t, .int .i64 p.m, .int .i64 p.u, .int .i64 p.v] 47)) = W0 at *
    have l0 := HBl.out.cell 0
    have l1 := HBl.out.cell 1
    have l2 := HBl.out.cell 2
    have l3 := HBl.out.cell 3
    have l4 := HBl.out.cell 4
    have l5 := HBl.out.cell 5
    have l6 := HBl.out.cell 6
    have l7 := HBl.out.cell 7
    have l8 := HBl.out.cell 8
    have l9 := HBl.out.cell 9
    have l10 := HBl.out.cell 10
    have l11 := HBl.out.cell 11
    have l12 := HBl.out.cell 12
    simp at l0 l1 l2 l3 l4 l5 l6 l7 l8 l9 l10 l11 l12
    have l0 := fun U : GW W0 => GW.cell l0 U
    have l1 := fun U : GW W0 => GW.cell l1 U
    have l2 := fun U : GW W0 => GW.cell l2 U
    have l3 := fun U : GW W0 => GW.cell l3 U
    have l4 := fun U : GW W0 => GW.cell l4 U
    have l5 := fun U : GW W0 => GW.cell l5 U
    have l6 := fun U : GW W0 => GW.cell l6 U
    have l7 := fun U : GW W0 => GW.cell l7 U
    have l8 := fun U : GW W0 => GW.cell l8 U
    have l9 := fun U : GW W0 => GW.cell l9 U
    have l10 := fun U : GW W0 => GW.cell l10 U
    have l11 := fun U : GW W0 => GW.cell l11 U
    have l12 := fun U : GW W0 => GW.cell l12 U
    have p0 := HBp.out.cell 0
    have p1 := HBp.out.cell 1
    have p2 := HBp.out.cell 2
    have p3 := HBp.out.cell 3
    have p4 := HBp.out.cell 4
    have p5 := HBp.out.cell 5
    have p6 := HBp.out.cell 6
    simp at p0 p1 p2 p3 p4 p5 p6
    have p0 := fun U : GW W0 => GW.cell p0 U
    have p1 := fun U : GW W0 => GW.cell p1 U
    have p2 := fun U : GW W0 => GW.cell p2 U
    have p3 := fun U : GW W0 => GW.cell p3 U
    have p4 := fun U : GW W0 => GW.cell p4 U
    have p5 := fun U : GW W0 => GW.cell p5 U
    have p6 := fun U : GW W0 => GW.cell p6 U
    have k0 := HBk.out.cell 0
    have k1 := HBk.out.cell 1
    have k2 := HBk.out.cell 2
    have k3 := HBk.out.cell 3
    have k4 := HBk.out.cell 4
    have k5 := HBk.out.cell 5
    have k6 := HBk.out.cell 6
    simp at k0 k1 k2 k3 k4 k5 k6
    have k0 := fun U : GW W0 => GW.cell k0 U
    have k1 := fun U : GW W0 => GW.cell k1 U
    have k2 := fun U : GW W0 => GW.cell k2 U
    have k3 := fun U : GW W0 => GW.cell k3 U
    have k4 := fun U : GW W0 => GW.cell k4 U
    have k5 := fun U : GW W0 => GW.cell k5 U
    have k6 := fun U : GW W0 => GW.cell k6 U
    refine wp_region_grow (by kernel_rfl) (by kernel_rfl) ?_
    repeat (go_big_quiet_step (first | (go_at_call 79; exact Calls.grow _ (FS.out _ (HK.out.trans (GW.keep _))))))
    refine wpQuiet_nil ?_
    rintro _ ⟨U1, rfl⟩
    have HK1 := Lib.hid (HK.out.trans U1.keep)
    go_wp2
    go_ret
    exact ⟨by first | rfl | simp [hn], HK1.out⟩
  · have n3 : (c.st.x.way == 3) = false := by simp [hw]
    have n4 : (c.st.x.way == 4) = true := by simp [hw]
    clear hw
    go_enter Tryz.func42, Tryz.ntmps42
    have hb := HBl.out
    have l0 := hb.cell 0
    have l1 := hb.cell 1
    have l2 := hb.cell 2
    have l3 := hb.cell 3
    have l4 := hb.cell 4
    have l5 := hb.cell 5
    have l6 := hb.cell 6
    have l7 := hb.cell 7
    have l8 := hb.cell 8
    have l9 := hb.cell 9
    have l10 := hb.cell 10
    have l11 := hb.cell 11
    have l12 := hb.cell 12
    simp at l0 l1 l2 l3 l4 l5 l6 l7 l8 l9 l10 l11 l12
    have zl := hb.lt
    clear hb
    have hb := HBp.out
    have p0 := hb.cell 0
    have p1 := hb.cell 1
    have p2 := hb.cell 2
    have p3 := hb.cell 3
    have p4 := hb.cell 4
    have p5 := hb.cell 5
    have p6 := hb.cell 6
    simp at p0 p1 p2 p3 p4 p5 p6
    have zp := hb.lt
    clear hb
    have hb := HBk.out
    have k0 := hb.cell 0
    have k1 := hb.cell 1
    have k2 := hb.cell 2
    have k3 := hb.cell 3
    have k4 := hb.cell 4
    have k5 := hb.cell 5
    have k6 := hb.cell 6
    simp at k0 k1 k2 k3 k4 k5 k6
    have zk := hb.lt
    clear hb
    go_wp2_with fail
    clear l0 l1 l2 l3 l4 l5 l6 l7 l8 l9 l10 l11 l12 p0 p1 p2 p3 p4 p5 p6 k0 k1 k2 k3 k4 k5 k6 zl zp zk
    go_wp2_with fail
    generalize (((w.alloc (.cells #[.slice c.bk.A1 c.bk.b.own.length c.bk.c1, .slice c.bk.A2 c.bk.b.notes.length c.bk.c2, .int .i64 c.bk.b.locked, .int .i64 c.id, .int .i64 c.st.x.way, .int .i64 c.st.x.ver, .int .i64 c.st.x.want, .slice c.st.A1 c.st.x.sent.length c.st.c1, .slice c.st.A2 c.st.x.live.length c.st.c2, .slice c.st.A3 c.st.x.back.length c.st.c3, .slice c.st.A4 c.st.x.got.length c.st.c4, .pointer P, .slice c.kA c.knows.length c.kc] 78)).alloc (.cells #[.int .i64 y.x.way, .int .i64 y.x.ver, .int .i64 y.x.want, .slice y.A1 y.x.sent.length y.c1, .slice y.A2 y.x.live.length y.c2, .slice y.A3 y.x.back.length y.c3, .slice y.A4 y.x.got.length y.c4] 75)).alloc (.cells #[.int .i64 p.s, .int .i64 p.k, .int .i64 p.f, .int .i64 p.t, .int .i64 p.m, .int .i64 p.u, .int .i64 p.v] 47)) = W0 at *
    have l0 := HBl.out.cell 0
    have l1 := HBl.out.cell 1
    have l2 := HBl.out.cell 2
    have l3 := HBl.out.cell 3
    have l4 := HBl.out.cell 4
    have l5 := HBl.out.cell 5
    have l6 := HBl.out.cell 6
    have l7 := HBl.out.cell 7
    have l8 := HBl.out.cell 8
    have l9 := HBl.out.cell 9
    have l10 := HBl.out.cell 10
    have l11 := HBl.out.cell 11
    have l12 := HBl.out.cell 12
    simp at l0 l1 l2 l3 l4 l5 l6 l7 l8 l9 l10 l11 l12
    have l0 := fun U : GW W0 => GW.cell l0 U
    have l1 := fun U : GW W0 => GW.cell l1 U
    have l2 := fun U : GW W0 => GW.cell l2 U
    have l3 := fun U : GW W0 => GW.cell l3 U
    have l4 := fun U : GW W0 => GW.cell l4 U
    have l5 := fun U : GW W0 => GW.cell l5 U
    have l6 := fun U : GW W0 => GW.cell l6 U
    have l7 := fun U : GW W0 => GW.cell l7 U
    have l8 := fun U : GW W0 => GW.cell l8 U
    have l9 := fun U : GW W0 => GW.cell l9 U
    have l10 := fun U : GW W0 => GW.cell l10 U
    have l11 := fun U : GW W0 => GW.cell l11 U
    have l12 := fun U : GW W0 => GW.cell l12 U
    have p0 := HBp.out.cell 0
    have p1 := HBp.out.cell 1
    have p2 := HBp.out.cell 2
    have p3 := HBp.out.cell 3
    have p4 := HBp.out.cell 4
    have p5 := HBp.out.cell 5
    have p6 := HBp.out.cell 6
    simp at p0 p1 p2 p3 p4 p5 p6
    have p0 := fun U : GW W0 => GW.cell p0 U
    have p1 := fun U : GW W0 => GW.cell p1 U
    have p2 := fun U : GW W0 => GW.cell p2 U
    have p3 := fun U : GW W0 => GW.cell p3 U
    have p4 := fun U : GW W0 => GW.cell p4 U
    have p5 := fun U : GW W0 => GW.cell p5 U
    have p6 := fun U : GW W0 => GW.cell p6 U
    have k0 := HBk.out.cell 0
    have k1 := HBk.out.cell 1
    have k2 := HBk.out.cell 2
    have k3 := HBk.out.cell 3
    have k4 := HBk.out.cell 4
    have k5 := HBk.out.cell 5
    have k6 := HBk.out.cell 6
    simp at k0 k1 k2 k3 k4 k5 k6
    have k0 := fun U : GW W0 => GW.cell k0 U
    have k1 := fun U : GW W0 => GW.cell k1 U
    have k2 := fun U : GW W0 => GW.cell k2 U
    have k3 := fun U : GW W0 => GW.cell k3 U
    have k4 := fun U : GW W0 => GW.cell k4 U
    have k5 := fun U : GW W0 => GW.cell k5 U
    have k6 := fun U : GW W0 => GW.cell k6 U
    refine wp_region_grow (by kernel_rfl) (by kernel_rfl) ?_
    repeat (go_big_quiet_step (first | (go_at_call 79; exact Calls.grow _ (FS.out _ (HK.out.trans (GW.keep _))))))
    refine wpQuiet_nil ?_
    rintro _ ⟨U1, rfl⟩
    have HK1 := Lib.hid (HK.out.trans U1.keep)
    go_wp2
    go_ret
    exact ⟨by first | rfl | simp [hn], HK1.out⟩
set_option maxRecDepth 100000 in
set_option maxHeartbeats 8000000 in
theorem may_get_got (c : ChM) (y : StM) (P : Option Addr) (p : Pk) (lo : Nat) (w : World) (hs : c.st.At w) (hy : y.At w) (ht : Tabs w) (hl : Lk w lo P c.past.reverse) (hn9 : c.past.length ≤ 1000) (hw : c.st.x.way = 3 ∨ c.st.x.way = 4) (hh : hasB y.x p = true) (hc : gotN c.st.x p.s ≠ 0) : Calls Tryz.prog 42 #[lkV c P, .agg #[.int .i64 y.x.way, .int .i64 y.x.ver, .int .i64 y.x.want, .slice y.A1 y.x.sent.length y.c1, .slice y.A2 y.x.live.length y.c2, .slice y.A3 y.x.back.length y.c3, .slice y.A4 y.x.got.length y.c4], p.val] w fun e w' => e = .returned (.bool false) ∧ Keeps noBlk w w' := by
  have FS := Lib.hid (fun W (hk : Keeps noBlk w W) => implHas_any y.x y.A1 y.A2 y.A3 y.A4 y.c1 y.c2 y.c3 y.c4 p W (hy.kept hk) (ht.keeps hk))
  unfold stV at FS
  rw [hh] at FS
  have FG := Lib.hid (fun W (hk : Keeps noBlk w W) => implGot_any c.st.x c.st.A1 c.st.A2 c.st.A3 c.st.A4 c.st.c1 c.st.c2 c.st.c3 c.st.c4 p.s W (hs.kept hk) (ht.keeps hk))
  unfold stV at FG
  generalize gotN c.st.x p.s = s9 at FG hc
  have hn : (s9 == 0) = false := by simpa using hc
  clear hs hy ht hl hc hh
  have HBl := Lib.hid (((Box.new w (w.heap.size) (by simp) 78 #[.slice c.bk.A1 c.bk.b.own.length c.bk.c1, .slice c.bk.A2 c.bk.b.notes.length c.bk.c2, .int .i64 c.bk.b.locked, .int .i64 c.id, .int .i64 c.st.x.way, .int .i64 c.st.x.ver, .int .i64 c.st.x.want, .slice c.st.A1 c.st.x.sent.length c.st.c1, .slice c.st.A2 c.st.x.live.length c.st.c2, .slice c.st.A3 c.st.x.back.length c.st.c3, .slice c.st.A4 c.st.x.got.length c.st.c4, .pointer P, .slice c.kA c.knows.length c.kc]).alloc (.cells #[.int .i64 y.x.way, .int .i64 y.x.ver, .int .i64 y.x.want, .slice y.A1 y.x.sent.length y.c1, .slice y.A2 y.x.live.length y.c2, .slice y.A3 y.x.back.length y.c3, .slice y.A4 y.x.got.length y.c4] 75)).alloc (.cells #[.int .i64 p.s, .int .i64 p.k, .int .i64 p.f, .int .i64 p.t, .int .i64 p.m, .int .i64 p.u, .int .i64 p.v] 47))
  have HBp := Lib.hid ((Box.new (w.alloc (.cells #[.slice c.bk.A1 c.bk.b.own.length c.bk.c1, .slice c.bk.A2 c.bk.b.notes.length c.bk.c2, .int .i64 c.bk.b.locked, .int .i64 c.id, .int .i64 c.st.x.way, .int .i64 c.st.x.ver, .int .i64 c.st.x.want, .slice c.st.A1 c.st.x.sent.length c.st.c1, .slice c.st.A2 c.st.x.live.length c.st.c2, .slice c.st.A3 c.st.x.back.length c.st.c3, .slice c.st.A4 c.st.x.got.length c.st.c4, .pointer P, .slice c.kA c.knows.length c.kc] 78)) (w.heap.size + 1) (by simp) 75 #[.int .i64 y.x.way, .int .i64 y.x.ver, .int .i64 y.x.want, .slice y.A1 y.x.sent.length y.c1, .slice y.A2 y.x.live.length y.c2, .slice y.A3 y.x.back.length y.c3, .slice y.A4 y.x.got.length y.c4]).alloc (.cells #[.int .i64 p.s, .int .i64 p.k, .int .i64 p.f, .int .i64 p.t, .int .i64 p.m, .int .i64 p.u, .int .i64 p.v] 47))
  have HBk := Lib.hid (Box.new ((w.alloc (.cells #[.slice c.bk.A1 c.bk.b.own.length c.bk.c1, .slice c.bk.A2 c.bk.b.notes.length c.bk.c2, .int .i64 c.bk.b.locked, .int .i64 c.id, .int .i64 c.st.x.way, .int .i64 c.st.x.ver, .int .i64 c.st.x.want, .slice c.st.A1 c.st.x.sent.length c.st.c1, .slice c.st.A2 c.st.x.live.length c.st.c2, .slice c.st.A3 c.st.x.back.length c.st.c3, .slice c.st.A4 c.st.x.got.length c.st.c4, .pointer P, .slice c.kA c.knows.length c.kc] 78)).alloc (.cells #[.int .i64 y.x.way, .int .i64 y.x.ver, .int .i64 y.x.want, .slice y.A1 y.x.sent.length y.c1, .slice y.A2 y.x.live.length y.c2, .slice y.A3 y.x.back.length y.c3, .slice y.A4 y.x.got.length y.c4] 75)) (w.heap.size + 1 + 1) (by simp) 47 #[.int .i64 p.s, .int .i64 p.k, .int .i64 p.f, .int .i64 p.t, .int .i64 p.m, .int .i64 p.u, .int .i64 p.v])
  have HK := Lib.hid ((((Keeps.refl noBlk w).alloc (.cells #[.slice c.bk.A1 c.bk.b.own.length c.bk.c1, .slice c.bk.A2 c.bk.b.notes.length c.bk.c2, .int .i64 c.bk.b.locked, .int .i64 c.id, .int .i64 c.st.x.way, .int .i64 c.st.x.ver, .int .i64 c.st.x.want, .slice c.st.A1 c.st.x.sent.length c.st.c1, .slice c.st.A2 c.st.x.live.length c.st.c2, .slice c.st.A3 c.st.x.back.length c.st.c3, .slice c.st.A4 c.st.x.got.length c.st.c4, .pointer P, .slice c.kA c.knows.length c.kc] 78)).alloc (.cells #[.int .i64 y.x.way, .int .i64 y.x.ver, .int .i64 y.x.want, .slice y.A1 y.x.sent.length y.c1, .slice y.A2 y.x.live.length y.c2, .slice y.A3 y.x.back.length y.c3, .slice y.A4 y.x.got.length y.c4] 75)).alloc (.cells #[.int .i64 p.s, .int .i64 p.k, .int .i64 p.f, .int .i64 p.t, .int .i64 p.m, .int .i64 p.u, .int .i64 p.v] 47))
  unfold lkV Pk.val
  unfold Pk.val at FS
  rcases hw with hw | hw
  · have n3 : (c.st.x.way == 3) = true := by simp [hw]
    have n4 : (c.st.x.way == 4) = false := by simp [hw]
    clear hw
    go_enter Tryz.func42, Tryz.ntmps42
    have hb := HBl.out
    have l0 := hb.cell 0
    have l1 := hb.cell 1
    have l2 := hb.cell 2
    have l3 := hb.cell 3
    have l4 := hb.cell 4
    have l5 := hb.cell 5
    have l6 := hb.cell 6
    have l7 := hb.cell 7
    have l8 := hb.cell 8
    have l9 := hb.cell 9
    have l10 := hb.cell 10
    have l11 := hb.cell 11
    have l12 := hb.cell 12
    simp at l0 l1 l2 l3 l4 l5 l6 l7 l8 l9 l10 l11 l12
    have zl := hb.lt
    clear hb
    have hb := HBp.out
    have p0 := hb.cell 0
    have p1 := hb.cell 1
    have p2 := hb.cell 2
    have p3 := hb.cell 3
    have p4 := hb.cell 4
    have p5 := hb.cell 5
    have p6 := hb.cell 6
    simp at p0 p1 p2 p3 p4 p5 p6
    have zp := hb.lt
    clear hb
    have hb := HBk.out
    have k0 := hb.cell 0
    have k1 := hb.cell 1
    have k2 := hb.cell 2
    have k3 := hb.cell 3
    have k4 := hb.cell 4
    have k5 := hb.cell 5
    have k6 := hb.cell 6
    simp at k0 k1 k2 k3 k4 k5 k6
    have zk := hb.lt
    clear hb
    go_wp2_with fail
    clear l0 l1 l2 l3 l4 l5 l6 l7 l8 l9 l10 l11 l12 p0 p1 p2 p3 p4 p5 p6 k0 k1 k2 k3 k4 k5 k6 zl zp zk
    go_wp2_with fail
    generalize (((w.alloc (.cells #[.slice c.bk.A1 c.bk.b.own.length c.bk.c1, .slice c.bk.A2 c.bk.b.notes.length c.bk.c2, .int .i64 c.bk.b.locked, .int .i64 c.id, .int .i64 c.st.x.way, .int .i64 c.st.x.ver, .int .i64 c.st.x.want, .slice c.st.A1 c.st.x.sent.length c.st.c1, .slice c.st.A2 c.st.x.live.length c.st.c2, .slice c.st.A3 c.st.x.back.length c.st.c3, .slice c.st.A4 c.st.x.got.length c.st.c4, .pointer P, .slice c.kA c.knows.length c.kc] 78)).alloc (.cells #[.int .i64 y.x.way, .int .i64 y.x.ver, .int .i64 y.x.want, .slice y.A1 y.x.sent.length y.c1, .slice y.A2 y.x.live.length y.c2, .slice y.A3 y.x.back.length y.c3, .slice y.A4 y.x.got.length y.c4] 75)).alloc (.cells #[.int .i64 p.s, .int .i64 p.k, .int .i64 p.f, .int .i64 p.t, .int .i64 p.m, .int .i64 p.u, .int .i64 p.v] 47)) = W0 at *
    have l0 := HBl.out.cell 0
    have l1 := HBl.out.cell 1
    have l2 := HBl.out.cell 2
    have l3 := HBl.out.cell 3
    have l4 := HBl.out.cell 4
    have l5 := HBl.out.cell 5
    have l6 := HBl.out.cell 6
    have l7 := HBl.out.cell 7
    have l8 := HBl.out.cell 8
    have l9 := HBl.out.cell 9
    have l10 := HBl.out.cell 10
    have l11 := HBl.out.cell 11
    have l12 := HBl.out.cell 12
    simp at l0 l1 l2 l3 l4 l5 l6 l7 l8 l9 l10 l11 l12
    have l0 := fun U : GW W0 => GW.cell l0 U
    have l1 := fun U : GW W0 => GW.cell l1 U
    have l2 := fun U : GW W0 => GW.cell l2 U
    have l3 := fun U : GW W0 => GW.cell l3 U
    have l4 := fun U : GW W0 => GW.cell l4 U
    have l5 := fun U : GW W0 => GW.cell l5 U
    have l6 := fun U : GW W0 => GW.cell l6 U
    have l7 := fun U : GW W0 => GW.cell l7 U
    have l8 := fun U : GW W0 => GW.cell l8 U
    have l9 := fun U : GW W0 => GW.cell l9 U
    have l10 := fun U : GW W0 => GW.cell l10 U
    have l11 := fun U : GW W0 => GW.cell l11 U
    have l12 := fun U : GW W0 => GW.cell l12 U
    have p0 := HBp.out.cell 0
    have p1 := HBp.out.cell 1
    have p2 := HBp.out.cell 2
    have p3 := HBp.out.cell 3
    have p4 := HBp.out.cell 4
    have p5 := HBp.out.cell 5
    have p6 := HBp.out.cell 6
    simp at p0 p1 p2 p3 p4 p5 p6
    have p0 := fun U : GW W0 => GW.cell p0 U
    have p1 := fun U : GW W0 => GW.cell p1 U
    have p2 := fun U : GW W0 => GW.cell p2 U
    have p3 := fun U : GW W0 => GW.cell p3 U
    have p4 := fun U : GW W0 => GW.cell p4 U
    have p5 := fun U : GW W0 => GW.cell p5 U
    have p6 := fun U : GW W0 => GW.cell p6 U
    have k0 := HBk.out.cell 0
    have k1 := HBk.out.cell 1
    have k2 := HBk.out.cell 2
    have k3 := HBk.out.cell 3
    have k4 := HBk.out.cell 4
    have k5 := HBk.out.cell 5
    have k6 := HBk.out.cell 6
    simp at k0 k1 k2 k3 k4 k5 k6
    have k0 := fun U : GW W0 => GW.cell k0 U
    have k1 := fun U : GW W0 => GW.cell k1 U
    have k2 := fun U : GW W0 => GW.cell k2 U
    have k3 := fun U : GW W0 => GW.cell k3 U
    have k4 := fun U : GW W0 => GW.cell k4 U
    have k5 := fun U : GW W0 => GW.cell k5 U
    have k6 := fun U : GW W0 => GW.cell k6 U
    refine wp_region_grow (by kernel_rfl) (by kernel_rfl) ?_
    repeat (go_big_quiet_step (first | (go_at_call 79; exact Calls.grow _ (FS.out _ (HK.out.trans (GW.keep _)))) | (go_at_call 62; exact Calls.grow _ (FG.out _ (HK.out.trans (GW.keep _))))))
    refine wpQuiet_nil ?_
    rintro _ ⟨U1, rfl⟩
    have HK1 := Lib.hid (HK.out.trans U1.keep)
    go_wp2
    go_ret
    exact ⟨by first | rfl | simp [hn], HK1.out⟩
  · have n3 : (c.st.x.way == 3) = false := by simp [hw]
    have n4 : (c.st.x.way == 4) = true := by simp [hw]
    clear hw
    go_enter Tryz.func42, Tryz.ntmps42
    have hb := HBl.out
    have l0 := hb.cell 0
    have l1 := hb.cell 1
    have l2 := hb.cell 2
    have l3 := hb.cell 3
    have l4 := hb.cell 4
    have l5 := hb.cell 5
    have l6 := hb.cell 6
    have l7 := hb.cell 7
    have l8 := hb.cell 8
    have l9 := hb.cell 9
    have l10 := hb.cell 10
    have l11 := hb.cell 11
    have l12 := hb.cell 12
    simp at l0 l1 l2 l3 l4 l5 l6 l7 l8 l9 l10 l11 l12
    have zl := hb.lt
    clear hb
    have hb := HBp.out
    have p0 := hb.cell 0
    have p1 := hb.cell 1
    have p2 := hb.cell 2
    have p3 := hb.cell 3
    have p4 := hb.cell 4
    have p5 := hb.cell 5
    have p6 := hb.cell 6
    simp at p0 p1 p2 p3 p4 p5 p6
    have zp := hb.lt
    clear hb
    have hb := HBk.out
    have k0 := hb.cell 0
    have k1 := hb.cell 1
    have k2 := hb.cell 2
    have k3 := hb.cell 3
    have k4 := hb.cell 4
    have k5 := hb.cell 5
    have k6 := hb.cell 6
    simp at k0 k1 k2 k3 k4 k5 k6
    have zk := hb.lt
    clear hb
    go_wp2_with fail
    clear l0 l1 l2 l3 l4 l5 l6 l7 l8 l9 l10 l11 l12 p0 p1 p2 p3 p4 p5 p6 k0 k1 k2 k3 k4 k5 k6 zl zp zk
    go_wp2_with fail
    generalize (((w.alloc (.cells #[.slice c.bk.A1 c.bk.b.own.length c.bk.c1, .slice c.bk.A2 c.bk.b.notes.length c.bk.c2, .int .i64 c.bk.b.locked, .int .i64 c.id, .int .i64 c.st.x.way, .int .i64 c.st.x.ver, .int .i64 c.st.x.want, .slice c.st.A1 c.st.x.sent.length c.st.c1, .slice c.st.A2 c.st.x.live.length c.st.c2, .slice c.st.A3 c.st.x.back.length c.st.c3, .slice c.st.A4 c.st.x.got.length c.st.c4, .pointer P, .slice c.kA c.knows.length c.kc] 78)).alloc (.cells #[.int .i64 y.x.way, .int .i64 y.x.ver, .int .i64 y.x.want, .slice y.A1 y.x.sent.length y.c1, .slice y.A2 y.x.live.length y.c2, .slice y.A3 y.x.back.length y.c3, .slice y.A4 y.x.got.length y.c4] 75)).alloc (.cells #[.int .i64 p.s, .int .i64 p.k, .int .i64 p.f, .int .i64 p.t, .int .i64 p.m, .int .i64 p.u, .int .i64 p.v] 47)) = W0 at *
    have l0 := HBl.out.cell 0
    have l1 := HBl.out.cell 1
    have l2 := HBl.out.cell 2
    have l3 := HBl.out.cell 3
    have l4 := HBl.out.cell 4
    have l5 := HBl.out.cell 5
    have l6 := HBl.out.cell 6
    have l7 := HBl.out.cell 7
    have l8 := HBl.out.cell 8
    have l9 := HBl.out.cell 9
    have l10 := HBl.out.cell 10
    have l11 := HBl.out.cell 11
    have l12 := HBl.out.cell 12
    simp at l0 l1 l2 l3 l4 l5 l6 l7 l8 l9 l10 l11 l12
    have l0 := fun U : GW W0 => GW.cell l0 U
    have l1 := fun U : GW W0 => GW.cell l1 U
    have l2 := fun U : GW W0 => GW.cell l2 U
    have l3 := fun U : GW W0 => GW.cell l3 U
    have l4 := fun U : GW W0 => GW.cell l4 U
    have l5 := fun U : GW W0 => GW.cell l5 U
    have l6 := fun U : GW W0 => GW.cell l6 U
    have l7 := fun U : GW W0 => GW.cell l7 U
    have l8 := fun U : GW W0 => GW.cell l8 U
    have l9 := fun U : GW W0 => GW.cell l9 U
    have l10 := fun U : GW W0 => GW.cell l10 U
    have l11 := fun U : GW W0 => GW.cell l11 U
    have l12 := fun U : GW W0 => GW.cell l12 U
    have p0 := HBp.out.cell 0
    have p1 := HBp.out.cell 1
    have p2 := HBp.out.cell 2
    have p3 := HBp.out.cell 3
    have p4 := HBp.out.cell 4
    have p5 := HBp.out.cell 5
    have p6 := HBp.out.cell 6
    simp at p0 p1 p2 p3 p4 p5 p6
    have p0 := fun U : GW W0 => GW.cell p0 U
    have p1 := fun U : GW W0 => GW.cell p1 U
    have p2 := fun U : GW W0 => GW.cell p2 U
    have p3 := fun U : GW W0 => GW.cell p3 U
    have p4 := fun U : GW W0 => GW.cell p4 U
    have p5 := fun U : GW W0 => GW.cell p5 U
    have p6 := fun U : GW W0 => GW.cell p6 U
    have k0 := HBk.out.cell 0
    have k1 := HBk.out.cell 1
    have k2 := HBk.out.cell 2
    have k3 := HBk.out.cell 3
    have k4 := HBk.out.cell 4
    have k5 := HBk.out.cell 5
    have k6 := HBk.out.cell 6
    simp at k0 k1 k2 k3 k4 k5 k6
    have k0 := fun U : GW W0 => GW.cell k0 U
    have k1 := fun U : GW W0 => GW.cell k1 U
    have k2 := fun U : GW W0 => GW.cell k2 U
    have k3 := fun U : GW W0 => GW.cell k3 U
    have k4 := fun U : GW W0 => GW.cell k4 U
    have k5 := fun U : GW W0 => GW.cell k5 U
    have k6 := fun U : GW W0 => GW.cell k6 U
    refine wp_region_grow (by kernel_rfl) (by kernel_rfl) ?_
    repeat (go_big_quiet_step (first | (go_at_call 79; exact Calls.grow _ (FS.out _ (HK.out.trans (GW.keep _)))) | (go_at_call 62; exact Calls.grow _ (FG.out _ (HK.out.trans (GW.keep _))))))
    refine wpQuiet_nil ?_
    rintro _ ⟨U1, rfl⟩
    have HK1 := Lib.hid (HK.out.trans U1.keep)
    go_wp2
    go_ret
    exact ⟨by first | rfl | simp [hn], HK1.out⟩
set_option maxRecDepth 100000 in
set_option maxHeartbeats 8000000 in
theorem may_get_ver (c : ChM) (y : StM) (P : Option Addr) (p : Pk) (lo : Nat) (w : World) (hs : c.st.At w) (hy : y.At w) (ht : Tabs w) (hl : Lk w lo P c.past.reverse) (hn9 : c.past.length ≤ 1000) (hw : c.st.x.way = 3 ∨ c.st.x.way = 4) (hh : hasB y.x p = true) (hg : gotN c.st.x p.s = 0) (hc : p.v ≠ c.st.x.ver) : Calls Tryz.prog 42 #[lkV c P, .agg #[.int .i64 y.x.way, .int .i64 y.x.ver, .int .i64 y.x.want, .slice y.A1 y.x.sent.length y.c1, .slice y.A2 y.x.live.length y.c2, .slice y.A3 y.x.back.length y.c3, .slice y.A4 y.x.got.length y.c4], p.val] w fun e w' => e = .returned (.bool false) ∧ Keeps noBlk w w' := by
  have FS := Lib.hid (fun W (hk : Keeps noBlk w W) => implHas_any y.x y.A1 y.A2 y.A3 y.A4 y.c1 y.c2 y.c3 y.c4 p W (hy.kept hk) (ht.keeps hk))
  unfold stV at FS
  rw [hh] at FS
  have FG := Lib.hid (fun W (hk : Keeps noBlk w W) => implGot_any c.st.x c.st.A1 c.st.A2 c.st.A3 c.st.A4 c.st.c1 c.st.c2 c.st.c3 c.st.c4 p.s W (hs.kept hk) (ht.keeps hk))
  unfold stV at FG
  rw [hg] at FG
  have hn : (p.v == c.st.x.ver) = false := by simpa using hc
  clear hs hy ht hl hc hh hg
  have HBl := Lib.hid (((Box.new w (w.heap.size) (by simp) 78 #[.slice c.bk.A1 c.bk.b.own.length c.bk.c1, .slice c.bk.A2 c.bk.b.notes.length c.bk.c2, .int .i64 c.bk.b.locked, .int .i64 c.id, .int .i64 c.st.x.way, .int .i64 c.st.x.ver, .int .i64 c.st.x.want, .slice c.st.A1 c.st.x.sent.length c.st.c1, .slice c.st.A2 c.st.x.live.length c.st.c2, .slice c.st.A3 c.st.x.back.length c.st.c3, .slice c.st.A4 c.st.x.got.length c.st.c4, .pointer P, .slice c.kA c.knows.length c.kc]).alloc (.cells #[.int .i64 y.x.way, .int .i64 y.x.ver, .int .i64 y.x.want, .slice y.A1 y.x.sent.length y.c1, .slice y.A2 y.x.live.length y.c2, .slice y.A3 y.x.back.length y.c3, .slice y.A4 y.x.got.length y.c4] 75)).alloc (.cells #[.int .i64 p.s, .int .i64 p.k, .int .i64 p.f, .int .i64 p.t, .int .i64 p.m, .int .i64 p.u, .int .i64 p.v] 47))
  have HBp := Lib.hid ((Box.new (w.alloc (.cells #[.slice c.bk.A1 c.bk.b.own.length c.bk.c1, .slice c.bk.A2 c.bk.b.notes.length c.bk.c2, .int .i64 c.bk.b.locked, .int .i64 c.id, .int .i64 c.st.x.way, .int .i64 c.st.x.ver, .int .i64 c.st.x.want, .slice c.st.A1 c.st.x.sent.length c.st.c1, .slice c.st.A2 c.st.x.live.length c.st.c2, .slice c.st.A3 c.st.x.back.length c.st.c3, .slice c.st.A4 c.st.x.got.length c.st.c4, .pointer P, .slice c.kA c.knows.length c.kc] 78)) (w.heap.size + 1) (by simp) 75 #[.int .i64 y.x.way, .int .i64 y.x.ver, .int .i64 y.x.want, .slice y.A1 y.x.sent.length y.c1, .slice y.A2 y.x.live.length y.c2, .slice y.A3 y.x.back.length y.c3, .slice y.A4 y.x.got.length y.c4]).alloc (.cells #[.int .i64 p.s, .int .i64 p.k, .int .i64 p.f, .int .i64 p.t, .int .i64 p.m, .int .i64 p.u, .int .i64 p.v] 47))
  have HBk := Lib.hid (Box.new ((w.alloc (.cells #[.slice c.bk.A1 c.bk.b.own.length c.bk.c1, .slice c.bk.A2 c.bk.b.notes.length c.bk.c2, .int .i64 c.bk.b.locked, .int .i64 c.id, .int .i64 c.st.x.way, .int .i64 c.st.x.ver, .int .i64 c.st.x.want, .slice c.st.A1 c.st.x.sent.length c.st.c1, .slice c.st.A2 c.st.x.live.length c.st.c2, .slice c.st.A3 c.st.x.back.length c.st.c3, .slice c.st.A4 c.st.x.got.length c.st.c4, .pointer P, .slice c.kA c.knows.length c.kc] 78)).alloc (.cells #[.int .i64 y.x.way, .int .i64 y.x.ver, .int .i64 y.x.want, .slice y.A1 y.x.sent.length y.c1, .slice y.A2 y.x.live.length y.c2, .slice y.A3 y.x.back.length y.c3, .slice y.A4 y.x.got.length y.c4] 75)) (w.heap.size + 1 + 1) (by simp) 47 #[.int .i64 p.s, .int .i64 p.k, .int .i64 p.f, .int .i64 p.t, .int .i64 p.m, .int .i64 p.u, .int .i64 p.v])
  have HK := Lib.hid ((((Keeps.refl noBlk w).alloc (.cells #[.slice c.bk.A1 c.bk.b.own.length c.bk.c1, .slice c.bk.A2 c.bk.b.notes.length c.bk.c2, .int .i64 c.bk.b.locked, .int .i64 c.id, .int .i64 c.st.x.way, .int .i64 c.st.x.ver, .int .i64 c.st.x.want, .slice c.st.A1 c.st.x.sent.length c.st.c1, .slice c.st.A2 c.st.x.live.length c.st.c2, .slice c.st.A3 c.st.x.back.length c.st.c3, .slice c.st.A4 c.st.x.got.length c.st.c4, .pointer P, .slice c.kA c.knows.length c.kc] 78)).alloc (.cells #[.int .i64 y.x.way, .int .i64 y.x.ver, .int .i64 y.x.want, .slice y.A1 y.x.sent.length y.c1, .slice y.A2 y.x.live.length y.c2, .slice y.A3 y.x.back.length y.c3, .slice y.A4 y.x.got.length y.c4] 75)).alloc (.cells #[.int .i64 p.s, .int .i64 p.k, .int .i64 p.f, .int .i64 p.t, .int .i64 p.m, .int .i64 p.u, .int .i64 p.v] 47))
  unfold lkV Pk.val
  unfold Pk.val at FS
  rcases hw with hw | hw
  · have n3 : (c.st.x.way == 3) = true := by simp [hw]
    have n4 : (c.st.x.way == 4) = false := by simp [hw]
    clear hw
    go_enter Tryz.func42, Tryz.ntmps42
    have hb := HBl.out
    have l0 := hb.cell 0
    have l1 := hb.cell 1
    have l2 := hb.cell 2
    have l3 := hb.cell 3
    have l4 := hb.cell 4
    have l5 := hb.cell 5
    have l6 := hb.cell 6
    have l7 := hb.cell 7
    have l8 := hb.cell 8
    have l9 := hb.cell 9
    have l10 := hb.cell 10
    have l11 := hb.cell 11
    have l12 := hb.cell 12
    simp at l0 l1 l2 l3 l4 l5 l6 l7 l8 l9 l10 l11 l12
    have zl := hb.lt
    clear hb
    have hb := HBp.out
    have p0 := hb.cell 0
    have p1 := hb.cell 1
    have p2 := hb.cell 2
    have p3 := hb.cell 3
    have p4 := hb.cell 4
    have p5 := hb.cell 5
    have p6 := hb.cell 6
    simp at p0 p1 p2 p3 p4 p5 p6
    have zp := hb.lt
    clear hb
    have hb := HBk.out
    have k0 := hb.cell 0
    have k1 := hb.cell 1
    have k2 := hb.cell 2
    have k3 := hb.cell 3
    have k4 := hb.cell 4
    have k5 := hb.cell 5
    have k6 := hb.cell 6
    simp at k0 k1 k2 k3 k4 k5 k6
    have zk := hb.lt
    clear hb
    go_wp2_with fail
    clear l0 l1 l2 l3 l4 l5 l6 l7 l8 l9 l10 l11 l12 p0 p1 p2 p3 p4 p5 p6 k0 k1 k2 k3 k4 k5 k6 zl zp zk
    go_wp2_with fail
    generalize (((w.alloc (.cells #[.slice c.bk.A1 c.bk.b.own.length c.bk.c1, .slice c.bk.A2 c.bk.b.notes.length c.bk.c2, .int .i64 c.bk.b.locked, .int .i64 c.id, .int .i64 c.st.x.way, .int .i64 c.st.x.ver, .int .i64 c.st.x.want, .slice c.st.A1 c.st.x.sent.length c.st.c1, .slice c.st.A2 c.st.x.live.length c.st.c2, .slice c.st.A3 c.st.x.back.length c.st.c3, .slice c.st.A4 c.st.x.got.length c.st.c4, .pointer P, .slice c.kA c.knows.length c.kc] 78)).alloc (.cells #[.int .i64 y.x.way, .int .i64 y.x.ver, .int .i64 y.x.want, .slice y.A1 y.x.sent.length y.c1, .slice y.A2 y.x.live.length y.c2, .slice y.A3 y.x.back.length y.c3, .slice y.A4 y.x.got.length y.c4] 75)).alloc (.cells #[.int .i64 p.s, .int .i64 p.k, .int .i64 p.f, .int .i64 p.t, .int .i64 p.m, .int .i64 p.u, .int .i64 p.v] 47)) = W0 at *
    have l0 := HBl.out.cell 0
    have l1 := HBl.out.cell 1
    have l2 := HBl.out.cell 2
    have l3 := HBl.out.cell 3
    have l4 := HBl.out.cell 4
    have l5 := HBl.out.cell 5
    have l6 := HBl.out.cell 6
    have l7 := HBl.out.cell 7
    have l8 := HBl.out.cell 8
    have l9 := HBl.out.cell 9
    have l10 := HBl.out.cell 10
    have l11 := HBl.out.cell 11
    have l12 := HBl.out.cell 12
    simp at l0 l1 l2 l3 l4 l5 l6 l7 l8 l9 l10 l11 l12
    have l0 := fun U : GW W0 => GW.cell l0 U
    have l1 := fun U : GW W0 => GW.cell l1 U
    have l2 := fun U : GW W0 => GW.cell l2 U
    have l3 := fun U : GW W0 => GW.cell l3 U
    have l4 := fun U : GW W0 => GW.cell l4 U
    have l5 := fun U : GW W0 => GW.cell l5 U
    have l6 := fun U : GW W0 => GW.cell l6 U
    have l7 := fun U : GW W0 => GW.cell l7 U
    have l8 := fun U : GW W0 => GW.cell l8 U
    have l9 := fun U : GW W0 => GW.cell l9 U
    have l10 := fun U : GW W0 => GW.cell l10 U
    have l11 := fun U : GW W0 => GW.cell l11 U
    have l12 := fun U : GW W0 => GW.cell l12 U
    have p0 := HBp.out.cell 0
    have p1 := HBp.out.cell 1
    have p2 := HBp.out.cell 2
    have p3 := HBp.out.cell 3
    have p4 := HBp.out.cell 4
    have p5 := HBp.out.cell 5
    have p6 := HBp.out.cell 6
    simp at p0 p1 p2 p3 p4 p5 p6
    have p0 := fun U : GW W0 => GW.cell p0 U
    have p1 := fun U : GW W0 => GW.cell p1 U
    have p2 := fun U : GW W0 => GW.cell p2 U
    have p3 := fun U : GW W0 => GW.cell p3 U
    have p4 := fun U : GW W0 => GW.cell p4 U
    have p5 := fun U : GW W0 => GW.cell p5 U
    have p6 := fun U : GW W0 => GW.cell p6 U
    have k0 := HBk.out.cell 0
    have k1 := HBk.out.cell 1
    have k2 := HBk.out.cell 2
    have k3 := HBk.out.cell 3
    have k4 := HBk.out.cell 4
    have k5 := HBk.out.cell 5
    have k6 := HBk.out.cell 6
    simp at k0 k1 k2 k3 k4 k5 k6
    have k0 := fun U : GW W0 => GW.cell k0 U
    have k1 := fun U : GW W0 => GW.cell k1 U
    have k2 := fun U : GW W0 => GW.cell k2 U
    have k3 := fun U : GW W0 => GW.cell k3 U
    have k4 := fun U : GW W0 => GW.cell k4 U
    have k5 := fun U : GW W0 => GW.cell k5 U
    have k6 := fun U : GW W0 => GW.cell k6 U
    refine wp_region_grow (by kernel_rfl) (by kernel_rfl) ?_
    repeat (go_big_quiet_step (first | (go_at_call 79; exact Calls.grow _ (FS.out _ (HK.out.trans (GW.keep _)))) | (go_at_call 62; exact Calls.grow _ (FG.out _ (HK.out.trans (GW.keep _))))))
    refine wpQuiet_nil ?_
    rintro _ ⟨U1, rfl⟩
    have HK1 := Lib.hid (HK.out.trans U1.keep)
    go_wp2
    go_ret
    exact ⟨by first | rfl | simp [hn], HK1.out⟩
  · have n3 : (c.st.x.way == 3) = false := by simp [hw]
    have n4 : (c.st.x.way == 4) = true := by simp [hw]
    clear hw
    go_enter Tryz.func42, Tryz.ntmps42
    have hb := HBl.out
    have l0 := hb.cell 0
    have l1 := hb.cell 1
    have l2 := hb.cell 2
    have l3 := hb.cell 3
    have l4 := hb.cell 4
    have l5 := hb.cell 5
    have l6 := hb.cell 6
    have l7 := hb.cell 7
    have l8 := hb.cell 8
    have l9 := hb.cell 9
    have l10 := hb.cell 10
    have l11 := hb.cell 11
    have l12 := hb.cell 12
    simp at l0 l1 l2 l3 l4 l5 l6 l7 l8 l9 l10 l11 l12
    have zl := hb.lt
    clear hb
    have hb := HBp.out
    have p0 := hb.cell 0
    have p1 := hb.cell 1
    have p2 := hb.cell 2
    have p3 := hb.cell 3
    have p4 := hb.cell 4
    have p5 := hb.cell 5
    have p6 := hb.cell 6
    simp at p0 p1 p2 p3 p4 p5 p6
    have zp := hb.lt
    clear hb
    have hb := HBk.out
    have k0 := hb.cell 0
    have k1 := hb.cell 1
    have k2 := hb.cell 2
    have k3 := hb.cell 3
    have k4 := hb.cell 4
    have k5 := hb.cell 5
    have k6 := hb.cell 6
    simp at k0 k1 k2 k3 k4 k5 k6
    have zk := hb.lt
    clear hb
    go_wp2_with fail
    clear l0 l1 l2 l3 l4 l5 l6 l7 l8 l9 l10 l11 l12 p0 p1 p2 p3 p4 p5 p6 k0 k1 k2 k3 k4 k5 k6 zl zp zk
    go_wp2_with fail
    generalize (((w.alloc (.cells #[.slice c.bk.A1 c.bk.b.own.length c.bk.c1, .slice c.bk.A2 c.bk.b.notes.length c.bk.c2, .int .i64 c.bk.b.locked, .int .i64 c.id, .int .i64 c.st.x.way, .int .i64 c.st.x.ver, .int .i64 c.st.x.want, .slice c.st.A1 c.st.x.sent.length c.st.c1, .slice c.st.A2 c.st.x.live.length c.st.c2, .slice c.st.A3 c.st.x.back.length c.st.c3, .slice c.st.A4 c.st.x.got.length c.st.c4, .pointer P, .slice c.kA c.knows.length c.kc] 78)).alloc (.cells #[.int .i64 y.x.way, .int .i64 y.x.ver, .int .i64 y.x.want, .slice y.A1 y.x.sent.length y.c1, .slice y.A2 y.x.live.length y.c2, .slice y.A3 y.x.back.length y.c3, .slice y.A4 y.x.got.length y.c4] 75)).alloc (.cells #[.int .i64 p.s, .int .i64 p.k, .int .i64 p.f, .int .i64 p.t, .int .i64 p.m, .int .i64 p.u, .int .i64 p.v] 47)) = W0 at *
    have l0 := HBl.out.cell 0
    have l1 := HBl.out.cell 1
    have l2 := HBl.out.cell 2
    have l3 := HBl.out.cell 3
    have l4 := HBl.out.cell 4
    have l5 := HBl.out.cell 5
    have l6 := HBl.out.cell 6
    have l7 := HBl.out.cell 7
    have l8 := HBl.out.cell 8
    have l9 := HBl.out.cell 9
    have l10 := HBl.out.cell 10
    have l11 := HBl.out.cell 11
    have l12 := HBl.out.cell 12
    simp at l0 l1 l2 l3 l4 l5 l6 l7 l8 l9 l10 l11 l12
    have l0 := fun U : GW W0 => GW.cell l0 U
    have l1 := fun U : GW W0 => GW.cell l1 U
    have l2 := fun U : GW W0 => GW.cell l2 U
    have l3 := fun U : GW W0 => GW.cell l3 U
    have l4 := fun U : GW W0 => GW.cell l4 U
    have l5 := fun U : GW W0 => GW.cell l5 U
    have l6 := fun U : GW W0 => GW.cell l6 U
    have l7 := fun U : GW W0 => GW.cell l7 U
    have l8 := fun U : GW W0 => GW.cell l8 U
    have l9 := fun U : GW W0 => GW.cell l9 U
    have l10 := fun U : GW W0 => GW.cell l10 U
    have l11 := fun U : GW W0 => GW.cell l11 U
    have l12 := fun U : GW W0 => GW.cell l12 U
    have p0 := HBp.out.cell 0
    have p1 := HBp.out.cell 1
    have p2 := HBp.out.cell 2
    have p3 := HBp.out.cell 3
    have p4 := HBp.out.cell 4
    have p5 := HBp.out.cell 5
    have p6 := HBp.out.cell 6
    simp at p0 p1 p2 p3 p4 p5 p6
    have p0 := fun U : GW W0 => GW.cell p0 U
    have p1 := fun U : GW W0 => GW.cell p1 U
    have p2 := fun U : GW W0 => GW.cell p2 U
    have p3 := fun U : GW W0 => GW.cell p3 U
    have p4 := fun U : GW W0 => GW.cell p4 U
    have p5 := fun U : GW W0 => GW.cell p5 U
    have p6 := fun U : GW W0 => GW.cell p6 U
    have k0 := HBk.out.cell 0
    have k1 := HBk.out.cell 1
    have k2 := HBk.out.cell 2
    have k3 := HBk.out.cell 3
    have k4 := HBk.out.cell 4
    have k5 := HBk.out.cell 5
    have k6 := HBk.out.cell 6
    simp at k0 k1 k2 k3 k4 k5 k6
    have k0 := fun U : GW W0 => GW.cell k0 U
    have k1 := fun U : GW W0 => GW.cell k1 U
    have k2 := fun U : GW W0 => GW.cell k2 U
    have k3 := fun U : GW W0 => GW.cell k3 U
    have k4 := fun U : GW W0 => GW.cell k4 U
    have k5 := fun U : GW W0 => GW.cell k5 U
    have k6 := fun U : GW W0 => GW.cell k6 U
    refine wp_region_grow (by kernel_rfl) (by kernel_rfl) ?_
    repeat (go_big_quiet_step (first | (go_at_call 79; exact Calls.grow _ (FS.out _ (HK.out.trans (GW.keep _)))) | (go_at_call 62; exact Calls.grow _ (FG.out _ (HK.out.trans (GW.keep _))))))
    refine wpQuiet_nil ?_
    rintro _ ⟨U1, rfl⟩
    have HK1 := Lib.hid (HK.out.trans U1.keep)
    go_wp2
    go_ret
    exact ⟨by first | rfl | simp [hn], HK1.out⟩
set_option maxRecDepth 100000 in
set_option maxHeartbeats 8000000 in
theorem may_get_fin (c : ChM) (y : StM) (P : Option Addr) (p : Pk) (lo : Nat) (w : World) (hs : c.st.At w) (hy : y.At w) (ht : Tabs w) (hl : Lk w lo P c.past.reverse) (hn9 : c.past.length ≤ 1000) (hw : c.st.x.way = 3 ∨ c.st.x.way = 4) (hh : hasB y.x p = true) (hg : gotN c.st.x p.s = 0) (hv : p.v = c.st.x.ver) (hc : True) : Calls Tryz.prog 42 #[lkV c P, .agg #[.int .i64 y.x.way, .int .i64 y.x.ver, .int .i64 y.x.want, .slice y.A1 y.x.sent.length y.c1, .slice y.A2 y.x.live.length y.c2, .slice y.A3 y.x.back.length y.c3, .slice y.A4 y.x.got.length y.c4], p.val] w fun e w' => e = .returned (.bool (decide ((c.past.length : Int) + 1 < p.u))) ∧ Keeps noBlk w w' := by
  have FS := Lib.hid (fun W (hk : Keeps noBlk w W) => implHas_any y.x y.A1 y.A2 y.A3 y.A4 y.c1 y.c2 y.c3 y.c4 p W (hy.kept hk) (ht.keeps hk))
  unfold stV at FS
  rw [hh] at FS
  have FG := Lib.hid (fun W (hk : Keeps noBlk w W) => implGot_any c.st.x c.st.A1 c.st.A2 c.st.A3 c.st.A4 c.st.c1 c.st.c2 c.st.c3 c.st.c4 p.s W (hs.kept hk) (ht.keeps hk))
  unfold stV at FG
  rw [hg] at FG
  have FC := Lib.hid (fun W (hk : Keeps noBlk w W) => (show Calls Tryz.prog 80 #[.pointer P] W (fun e w' => e = .returned (.int .i64 (c.past.length : Int)) ∧ Keeps noBlk W w') from by have q := (count_any P _ _ W (hl.kept hk)).mono fun _ _ h => same_keep h; rwa [List.length_reverse] at q))
  have hn : (p.v == c.st.x.ver) = true := by simpa using hv
  have hww : IntKind.i64.wrap ((c.past.length : Int) + 1) = (c.past.length : Int) + 1 := IntWalk.i64_in _ (by omega)
  clear hs hy ht hl hc hh hg hv
  have HBl := Lib.hid (((Box.new w (w.heap.size) (by simp) 78 #[.slice c.bk.A1 c.bk.b.own.length c.bk.c1, .slice c.bk.A2 c.bk.b.notes.length c.bk.c2, .int .i64 c.bk.b.locked, .int .i64 c.id, .int .i64 c.st.x.way, .int .i64 c.st.x.ver, .int .i64 c.st.x.want, .slice c.st.A1 c.st.x.sent.length c.st.c1, .slice c.st.A2 c.st.x.live.length c.st.c2, .slice c.st.A3 c.st.x.back.length c.st.c3, .slice c.st.A4 c.st.x.got.length c.st.c4, .pointer P, .slice c.kA c.knows.length c.kc]).alloc (.cells #[.int .i64 y.x.way, .int .i64 y.x.ver, .int .i64 y.x.want, .slice y.A1 y.x.sent.length y.c1, .slice y.A2 y.x.live.length y.c2, .slice y.A3 y.x.back.length y.c3, .slice y.A4 y.x.got.length y.c4] 75)).alloc (.cells #[.int .i64 p.s, .int .i64 p.k, .int .i64 p.f, .int .i64 p.t, .int .i64 p.m, .int .i64 p.u, .int .i64 p.v] 47))
  have HBp := Lib.hid ((Box.new (w.alloc (.cells #[.slice c.bk.A1 c.bk.b.own.length c.bk.c1, .slice c.bk.A2 c.bk.b.notes.length c.bk.c2, .int .i64 c.bk.b.locked, .int .i64 c.id, .int .i64 c.st.x.way, .int .i64 c.st.x.ver, .int .i64 c.st.x.want, .slice c.st.A1 c.st.x.sent.length c.st.c1, .slice c.st.A2 c.st.x.live.length c.st.c2, .slice c.st.A3 c.st.x.back.length c.st.c3, .slice c.st.A4 c.st.x.got.length c.st.c4, .pointer P, .slice c.kA c.knows.length c.kc] 78)) (w.heap.size + 1) (by simp) 75 #[.int .i64 y.x.way, .int .i64 y.x.ver, .int .i64 y.x.want, .slice y.A1 y.x.sent.length y.c1, .slice y.A2 y.x.live.length y.c2, .slice y.A3 y.x.back.length y.c3, .slice y.A4 y.x.got.length y.c4]).alloc (.cells #[.int .i64 p.s, .int .i64 p.k, .int .i64 p.f, .int .i64 p.t, .int .i64 p.m, .int .i64 p.u, .int .i64 p.v] 47))
  have HBk := Lib.hid (Box.new ((w.alloc (.cells #[.slice c.bk.A1 c.bk.b.own.length c.bk.c1, .slice c.bk.A2 c.bk.b.notes.length c.bk.c2, .int .i64 c.bk.b.locked, .int .i64 c.id, .int .i64 c.st.x.way, .int .i64 c.st.x.ver, .int .i64 c.st.x.want, .slice c.st.A1 c.st.x.sent.length c.st.c1, .slice c.st.A2 c.st.x.live.length c.st.c2, .slice c.st.A3 c.st.x.back.length c.st.c3, .slice c.st.A4 c.st.x.got.length c.st.c4, .pointer P, .slice c.kA c.knows.length c.kc] 78)).alloc (.cells #[.int .i64 y.x.way, .int .i64 y.x.ver, .int .i64 y.x.want, .slice y.A1 y.x.sent.length y.c1, .slice y.A2 y.x.live.length y.c2, .slice y.A3 y.x.back.length y.c3, .slice y.A4 y.x.got.length y.c4] 75)) (w.heap.size + 1 + 1) (by simp) 47 #[.int .i64 p.s, .int .i64 p.k, .int .i64 p.f, .int .i64 p.t, .int .i64 p.m, .int .i64 p.u, .int .i64 p.v])
  have HK := Lib.hid ((((Keeps.refl noBlk w).alloc (.cells #[.slice c.bk.A1 c.bk.b.own.length c.bk.c1, .slice c.bk.A2 c.bk.b.notes.length c.bk.c2, .int .i64 c.bk.b.locked, .int .i64 c.id, .int .i64 c.st.x.way, .int .i64 c.st.x.ver, .int .i64 c.st.x.want, .slice c.st.A1 c.st.x.sent.length c.st.c1, .slice c.st.A2 c.st.x.live.length c.st.c2, .slice c.st.A3 c.st.x.back.length c.st.c3, .slice c.st.A4 c.st.x.got.length c.st.c4, .pointer P, .slice c.kA c.knows.length c.kc] 78)).alloc (.cells #[.int .i64 y.x.way, .int .i64 y.x.ver, .int .i64 y.x.want, .slice y.A1 y.x.sent.length y.c1, .slice y.A2 y.x.live.length y.c2, .slice y.A3 y.x.back.length y.c3, .slice y.A4 y.x.got.length y.c4] 75)).alloc (.cells #[.int .i64 p.s, .int .i64 p.k, .int .i64 p.f, .int .i64 p.t, .int .i64 p.m, .int .i64 p.u, .int .i64 p.v] 47))
  unfold lkV Pk.val
  unfold Pk.val at FS
  rcases hw with hw | hw
  · have n3 : (c.st.x.way == 3) = true := by simp [hw]
    have n4 : (c.st.x.way == 4) = false := by simp [hw]
    clear hw
    go_enter Tryz.func42, Tryz.ntmps42
    have hb := HBl.out
    have l0 := hb.cell 0
    have l1 := hb.cell 1
    have l2 := hb.cell 2
    have l3 := hb.cell 3
    have l4 := hb.cell 4
    have l5 := hb.cell 5
    have l6 := hb.cell 6
    have l7 := hb.cell 7
    have l8 := hb.cell 8
    have l9 := hb.cell 9
    have l10 := hb.cell 10
    have l11 := hb.cell 11
    have l12 := hb.cell 12
    simp at l0 l1 l2 l3 l4 l5 l6 l7 l8 l9 l10 l11 l12
    have zl := hb.lt
    clear hb
    have hb := HBp.out
    have p0 := hb.cell 0
    have p1 := hb.cell 1
    have p2 := hb.cell 2
    have p3 := hb.cell 3
    have p4 := hb.cell 4
    have p5 := hb.cell 5
    have p6 := hb.cell 6
    simp at p0 p1 p2 p3 p4 p5 p6
    have zp := hb.lt
    clear hb
    have hb := HBk.out
    have k0 := hb.cell 0
    have k1 := hb.cell 1
    have k2 := hb.cell 2
    have k3 := hb.cell 3
    have k4 := hb.cell 4
    have k5 := hb.cell 5
    have k6 := hb.cell 6
    simp at k0 k1 k2 k3 k4 k5 k6
    have zk := hb.lt
    clear hb
    go_wp2_with fail
    clear l0 l1 l2 l3 l4 l5 l6 l7 l8 l9 l10 l11 l12 p0 p1 p2 p3 p4 p5 p6 k0 k1 k2 k3 k4 k5 k6 zl zp zk
    go_wp2_with fail
    generalize (((w.alloc (.cells #[.slice c.bk.A1 c.bk.b.own.length c.bk.c1, .slice c.bk.A2 c.bk.b.notes.length c.bk.c2, .int .i64 c.bk.b.locked, .int .i64 c.id, .int .i64 c.st.x.way, .int .i64 c.st.x.ver, .int .i64 c.st.x.want, .slice c.st.A1 c.st.x.sent.length c.st.c1, .slice c.st.A2 c.st.x.live.length c.st.c2, .slice c.st.A3 c.st.x.back.length c.st.c3, .slice c.st.A4 c.st.x.got.length c.st.c4, .pointer P, .slice c.kA c.knows.length c.kc] 78)).alloc (.cells #[.int .i64 y.x.way, .int .i64 y.x.ver, .int .i64 y.x.want, .slice y.A1 y.x.sent.length y.c1, .slice y.A2 y.x.live.length y.c2, .slice y.A3 y.x.back.length y.c3, .slice y.A4 y.x.got.length y.c4] 75)).alloc (.cells #[.int .i64 p.s, .int .i64 p.k, .int .i64 p.f, .int .i64 p.t, .int .i64 p.m, .int .i64 p.u, .int .i64 p.v] 47)) = W0 at *
    have l0 := HBl.out.cell 0
    have l1 := HBl.out.cell 1
    have l2 := HBl.out.cell 2
    have l3 := HBl.out.cell 3
    have l4 := HBl.out.cell 4
    have l5 := HBl.out.cell 5
    have l6 := HBl.out.cell 6
    have l7 := HBl.out.cell 7
    have l8 := HBl.out.cell 8
    have l9 := HBl.out.cell 9
    have l10 := HBl.out.cell 10
    have l11 := HBl.out.cell 11
    have l12 := HBl.out.cell 12
    simp at l0 l1 l2 l3 l4 l5 l6 l7 l8 l9 l10 l11 l12
    have l0 := fun U : GW W0 => GW.cell l0 U
    have l1 := fun U : GW W0 => GW.cell l1 U
    have l2 := fun U : GW W0 => GW.cell l2 U
    have l3 := fun U : GW W0 => GW.cell l3 U
    have l4 := fun U : GW W0 => GW.cell l4 U
    have l5 := fun U : GW W0 => GW.cell l5 U
    have l6 := fun U : GW W0 => GW.cell l6 U
    have l7 := fun U : GW W0 => GW.cell l7 U
    have l8 := fun U : GW W0 => GW.cell l8 U
    have l9 := fun U : GW W0 => GW.cell l9 U
    have l10 := fun U : GW W0 => GW.cell l10 U
    have l11 := fun U : GW W0 => GW.cell l11 U
    have l12 := fun U : GW W0 => GW.cell l12 U
    have p0 := HBp.out.cell 0
    have p1 := HBp.out.cell 1
    have p2 := HBp.out.cell 2
    have p3 := HBp.out.cell 3
    have p4 := HBp.out.cell 4
    have p5 := HBp.out.cell 5
    have p6 := HBp.out.cell 6
    simp at p0 p1 p2 p3 p4 p5 p6
    have p0 := fun U : GW W0 => GW.cell p0 U
    have p1 := fun U : GW W0 => GW.cell p1 U
    have p2 := fun U : GW W0 => GW.cell p2 U
    have p3 := fun U : GW W0 => GW.cell p3 U
    have p4 := fun U : GW W0 => GW.cell p4 U
    have p5 := fun U : GW W0 => GW.cell p5 U
    have p6 := fun U : GW W0 => GW.cell p6 U
    have k0 := HBk.out.cell 0
    have k1 := HBk.out.cell 1
    have k2 := HBk.out.cell 2
    have k3 := HBk.out.cell 3
    have k4 := HBk.out.cell 4
    have k5 := HBk.out.cell 5
    have k6 := HBk.out.cell 6
    simp at k0 k1 k2 k3 k4 k5 k6
    have k0 := fun U : GW W0 => GW.cell k0 U
    have k1 := fun U : GW W0 => GW.cell k1 U
    have k2 := fun U : GW W0 => GW.cell k2 U
    have k3 := fun U : GW W0 => GW.cell k3 U
    have k4 := fun U : GW W0 => GW.cell k4 U
    have k5 := fun U : GW W0 => GW.cell k5 U
    have k6 := fun U : GW W0 => GW.cell k6 U
    refine wp_region_grow (by kernel_rfl) (by kernel_rfl) ?_
    repeat (go_big_quiet_step (first | (go_at_call 79; exact Calls.grow _ (FS.out _ (HK.out.trans (GW.keep _)))) | (go_at_call 62; exact Calls.grow _ (FG.out _ (HK.out.trans (GW.keep _)))) | (go_at_call 80; exact Calls.grow _ (FC.out _ (HK.out.trans (GW.keep _))))))
    refine wpQuiet_nil ?_
    rintro _ ⟨U1, rfl⟩
    have HK1 := Lib.hid (HK.out.trans U1.keep)
    go_wp2
    go_ret
    exact ⟨by first | rfl | simp [hn], HK1.out⟩
  · have n3 : (c.st.x.way == 3) = false := by simp [hw]
    have n4 : (c.st.x.way == 4) = true := by simp [hw]
    clear hw
    go_enter Tryz.func42, Tryz.ntmps42
    have hb := HBl.out
    have l0 := hb.cell 0
    have l1 := hb.cell 1
    have l2 := hb.cell 2
    have l3 := hb.cell 3
    have l4 := hb.cell 4
    have l5 := hb.cell 5
    have l6 := hb.cell 6
    have l7 := hb.cell 7
    have l8 := hb.cell 8
    have l9 := hb.cell 9
    have l10 := hb.cell 10
    have l11 := hb.cell 11
    have l12 := hb.cell 12
    simp at l0 l1 l2 l3 l4 l5 l6 l7 l8 l9 l10 l11 l12
    have zl := hb.lt
    clear hb
    have hb := HBp.out
    have p0 := hb.cell 0
    have p1 := hb.cell 1
    have p2 := hb.cell 2
    have p3 := hb.cell 3
    have p4 := hb.cell 4
    have p5 := hb.cell 5
    have p6 := hb.cell 6
    simp at p0 p1 p2 p3 p4 p5 p6
    have zp := hb.lt
    clear hb
    have hb := HBk.out
    have k0 := hb.cell 0
    have k1 := hb.cell 1
    have k2 := hb.cell 2
    have k3 := hb.cell 3
    have k4 := hb.cell 4
    have k5 := hb.cell 5
    have k6 := hb.cell 6
    simp at k0 k1 k2 k3 k4 k5 k6
    have zk := hb.lt
    clear hb
    go_wp2_with fail
    clear l0 l1 l2 l3 l4 l5 l6 l7 l8 l9 l10 l11 l12 p0 p1 p2 p3 p4 p5 p6 k0 k1 k2 k3 k4 k5 k6 zl zp zk
    go_wp2_with fail
    generalize (((w.alloc (.cells #[.slice c.bk.A1 c.bk.b.own.length c.bk.c1, .slice c.bk.A2 c.bk.b.notes.length c.bk.c2, .int .i64 c.bk.b.locked, .int .i64 c.id, .int .i64 c.st.x.way, .int .i64 c.st.x.ver, .int .i64 c.st.x.want, .slice c.st.A1 c.st.x.sent.length c.st.c1, .slice c.st.A2 c.st.x.live.length c.st.c2, .slice c.st.A3 c.st.x.back.length c.st.c3, .slice c.st.A4 c.st.x.got.length c.st.c4, .pointer P, .slice c.kA c.knows.length c.kc] 78)).alloc (.cells #[.int .i64 y.x.way, .int .i64 y.x.ver, .int .i64 y.x.want, .slice y.A1 y.x.sent.length y.c1, .slice y.A2 y.x.live.length y.c2, .slice y.A3 y.x.back.length y.c3, .slice y.A4 y.x.got.length y.c4] 75)).alloc (.cells #[.int .i64 p.s, .int .i64 p.k, .int .i64 p.f, .int .i64 p.t, .int .i64 p.m, .int .i64 p.u, .int .i64 p.v] 47)) = W0 at *
    have l0 := HBl.out.cell 0
    have l1 := HBl.out.cell 1
    have l2 := HBl.out.cell 2
    have l3 := HBl.out.cell 3
    have l4 := HBl.out.cell 4
    have l5 := HBl.out.cell 5
    have l6 := HBl.out.cell 6
    have l7 := HBl.out.cell 7
    have l8 := HBl.out.cell 8
    have l9 := HBl.out.cell 9
    have l10 := HBl.out.cell 10
    have l11 := HBl.out.cell 11
    have l12 := HBl.out.cell 12
    simp at l0 l1 l2 l3 l4 l5 l6 l7 l8 l9 l10 l11 l12
    have l0 := fun U : GW W0 => GW.cell l0 U
    have l1 := fun U : GW W0 => GW.cell l1 U
    have l2 := fun U : GW W0 => GW.cell l2 U
    have l3 := fun U : GW W0 => GW.cell l3 U
    have l4 := fun U : GW W0 => GW.cell l4 U
    have l5 := fun U : GW W0 => GW.cell l5 U
    have l6 := fun U : GW W0 => GW.cell l6 U
    have l7 := fun U : GW W0 => GW.cell l7 U
    have l8 := fun U : GW W0 => GW.cell l8 U
    have l9 := fun U : GW W0 => GW.cell l9 U
    have l10 := fun U : GW W0 => GW.cell l10 U
    have l11 := fun U : GW W0 => GW.cell l11 U
    have l12 := fun U : GW W0 => GW.cell l12 U
    have p0 := HBp.out.cell 0
    have p1 := HBp.out.cell 1
    have p2 := HBp.out.cell 2
    have p3 := HBp.out.cell 3
    have p4 := HBp.out.cell 4
    have p5 := HBp.out.cell 5
    have p6 := HBp.out.cell 6
    simp at p0 p1 p2 p3 p4 p5 p6
    have p0 := fun U : GW W0 => GW.cell p0 U
    have p1 := fun U : GW W0 => GW.cell p1 U
    have p2 := fun U : GW W0 => GW.cell p2 U
    have p3 := fun U : GW W0 => GW.cell p3 U
    have p4 := fun U : GW W0 => GW.cell p4 U
    have p5 := fun U : GW W0 => GW.cell p5 U
    have p6 := fun U : GW W0 => GW.cell p6 U
    have k0 := HBk.out.cell 0
    have k1 := HBk.out.cell 1
    have k2 := HBk.out.cell 2
    have k3 := HBk.out.cell 3
    have k4 := HBk.out.cell 4
    have k5 := HBk.out.cell 5
    have k6 := HBk.out.cell 6
    simp at k0 k1 k2 k3 k4 k5 k6
    have k0 := fun U : GW W0 => GW.cell k0 U
    have k1 := fun U : GW W0 => GW.cell k1 U
    have k2 := fun U : GW W0 => GW.cell k2 U
    have k3 := fun U : GW W0 => GW.cell k3 U
    have k4 := fun U : GW W0 => GW.cell k4 U
    have k5 := fun U : GW W0 => GW.cell k5 U
    have k6 := fun U : GW W0 => GW.cell k6 U
    refine wp_region_grow (by kernel_rfl) (by kernel_rfl) ?_
    repeat (go_big_quiet_step (first | (go_at_call 79; exact Calls.grow _ (FS.out _ (HK.out.trans (GW.keep _)))) | (go_at_call 62; exact Calls.grow _ (FG.out _ (HK.out.trans (GW.keep _)))) | (go_at_call 80; exact Calls.grow _ (FC.out _ (HK.out.trans (GW.keep _))))))
    refine wpQuiet_nil ?_
    rintro _ ⟨U1, rfl⟩
    have HK1 := Lib.hid (HK.out.trans U1.keep)
    go_wp2
    go_ret
    exact ⟨by first | rfl | simp [hn], HK1.out⟩
theorem mayGet_any (c : ChM) (y : StM) (P : Option Addr) (p : Pk) (lo : Nat) (w : World) (hs : c.st.At w) (hy : y.At w) (ht : Tabs w) (hl : Lk w lo P c.past.reverse) (hn9 : c.past.length ≤ 1000) : Calls Tryz.prog 42 #[lkV c P, .agg #[.int .i64 y.x.way, .int .i64 y.x.ver, .int .i64 y.x.want, .slice y.A1 y.x.sent.length y.c1, .slice y.A2 y.x.live.length y.c2, .slice y.A3 y.x.back.length y.c3, .slice y.A4 y.x.got.length y.c4], p.val] w fun e w' => e = .returned (.bool (mgB c y.x p)) ∧ Keeps noBlk w w' := by
  unfold mgB
  by_cases hw : c.st.x.way = 3 ∨ c.st.x.way = 4
  · rcases Bool.eq_false_or_eq_true (hasB y.x p) with hh | hh
    · by_cases hg : gotN c.st.x p.s = 0
      · by_cases hv : p.v = c.st.x.ver
        · simpa [hw, hh, hg, hv] using may_get_fin c y P p lo w hs hy ht hl hn9 hw hh hg hv trivial
        · simpa [hw, hh, hg, hv] using may_get_ver c y P p lo w hs hy ht hl hn9 hw hh hg hv
      · simpa [hw, hh, hg] using may_get_got c y P p lo w hs hy ht hl hn9 hw hh hg
    · simpa [hw, hh] using may_get_has c y P p lo w hs hy ht hl hn9 hw hh
  · simpa [hw] using may_get_way c y P p lo w hs hy ht hl hn9 hw
end Go.Proofs.YtcnbephpadmboaaGreatDoor
