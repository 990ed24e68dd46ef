/- FnExactStateHas: the function answers as its model, for every argument; the state reads as it did; the two tables read as the program's text lays them. -/
import Derived.Test.YtedmkbiamjpdaaaDoorStF2
import Derived.Test.YtedmkbiamjpdaaaDoorSEq
import Derived.Test.YtedmkbiamjpdaaaDoorSHas
import Derived.Deep.RegionHeld3
set_option linter.unusedVariables false
set_option linter.unusedSimpArgs false
namespace Go.Proofs.YtedmkbiamjpdaaaDoor
open Go.RowKit Go.ChangeShapes Go.WideShapes Go.ChangeAt

set_option maxHeartbeats 2000000 in
theorem walk_xsthas (x : StL) (A1 A2 A3 A4 : Option Addr) (c1 c2 c3 c4 : Nat) (p : Pk) (w : World) (hx : StAt w x A1 A2 A3 A4) (ht : Tabs w) :
    Calls Tryd.prog 4 #[stV x A1 A2 A3 A4 c1 c2 c3 c4, p.val] w fun e w' => e = .returned (.bool true) ∧ Below w.heap.size w w' := by
  have HX := Lib.hid hx
  have HT := Lib.hid ht
  obtain ⟨m1, m2, m3, m4⟩ := hx.2
  clear hx ht
  have hbox := Lib.hid ((Box.new w _ rfl 26 #[.int .i64 x.way, .int .i64 x.ver, .int .i64 x.want, .slice A1 x.sent.length c1, .slice A2 x.live.length c2, .slice A3 x.back.length c3, .slice A4 x.got.length c4]).alloc (.cells #[.int .i64 p.s, .int .i64 p.k, .int .i64 p.f, .int .i64 p.t, .int .i64 p.m, .int .i64 p.u, .int .i64 p.v] 36))
  have pbox := Lib.hid (Box.new (w.alloc (.cells #[.int .i64 x.way, .int .i64 x.ver, .int .i64 x.want, .slice A1 x.sent.length c1, .slice A2 x.live.length c2, .slice A3 x.back.length c3, .slice A4 x.got.length c4] 26)) (w.heap.size + 1) (by simp) 36 #[.int .i64 p.s, .int .i64 p.k, .int .i64 p.f, .int .i64 p.t, .int .i64 p.m, .int .i64 p.u, .int .i64 p.v])
  have HK0 := Lib.hid (((Keeps.refl noBlk w).alloc (.cells #[.int .i64 x.way, .int .i64 x.ver, .int .i64 x.want, .slice A1 x.sent.length c1, .slice A2 x.live.length c2, .slice A3 x.back.length c3, .slice A4 x.got.length c4] 26)).alloc (.cells #[.int .i64 p.s, .int .i64 p.k, .int .i64 p.f, .int .i64 p.t, .int .i64 p.m, .int .i64 p.u, .int .i64 p.v] 36))
  by_cases hs : (x.sent.length : Int) + x.live.length + x.back.length + x.got.length ≤ 1048576
  · have l1 : x.sent.length ≤ 1048576 := by omega
    have l2 : x.live.length ≤ 1048576 := by omega
    have l3 : x.back.length ≤ 1048576 := by omega
    have l4 : x.got.length ≤ 1048576 := by omega
    have hneg : ¬ (1048576 - (x.sent.length : Int) - (x.live.length : Int) - (x.back.length : Int) - (x.got.length : Int)) < 0 := by omega
    have HTO := Lib.hid (fun W (hk : Keeps noBlk w W) => toState_any x A1 A2 A3 A4 c1 c2 c3 c4 W (HX.out.kept hk) l1 l2 l3 l4)
    have HTP := Lib.hid (fun W => toPk_any p.s p.k p.f p.t p.m p.u p.v W)
    obtain ⟨o, ho⟩ : ∃ o, hasB x p = o := ⟨_, rfl⟩
    have HSP := Lib.hid (fun W B1 B2 B3 B4 c1 c2 c3 c4 (h : StAt W x B1 B2 B3 B4) => (show Calls Tryd.prog 16 #[stV x B1 B2 B3 B4 c1 c2 c3 c4, p.val] W (fun e w' => e = .returned (.bool o) ∧ Keeps noBlk W w') from by rw [← ho]; exact specHas_any x B1 B2 B3 B4 c1 c2 c3 c4 p W h))
    have HIM := Lib.hid (fun W B1 B2 B3 B4 c1 c2 c3 c4 (h : StAt W x B1 B2 B3 B4) hT => (show Calls Tryd.prog 18 #[stV x B1 B2 B3 B4 c1 c2 c3 c4, p.val] W (fun e w' => e = .returned (.bool o) ∧ Keeps noBlk W w') from by rw [← ho]; exact implHas_any x B1 B2 B3 B4 c1 c2 c3 c4 p W h hT))
    clear ho
    unfold stV at HTO HSP HIM ⊢
    unfold Pk.val at HSP HIM ⊢
    go_enter Tryd.func4, Tryd.ntmps4
    go_wp2_with fail
    refine (szState_yes x.way x.ver x.want A1 A2 A3 A4 _ _ _ _ _ _ _ _ 1048576 _ hs (by omega)).mono ?_
    rintro e w1 ⟨rfl, hk1⟩
    have hb := hbox.out.keeps hk1 fun h => h
    have hp := pbox.out.keeps hk1 fun h => h
    have a0 := hb.cell 0
    have a1 := hb.cell 1
    have a2 := hb.cell 2
    have a3 := hb.cell 3
    have a4 := hb.cell 4
    have a5 := hb.cell 5
    have a6 := hb.cell 6
    simp at a0 a1 a2 a3 a4 a5 a6
    have p0 := hp.cell 0
    have p1 := hp.cell 1
    have p2 := hp.cell 2
    have p3 := hp.cell 3
    have p4 := hp.cell 4
    have p5 := hp.cell 5
    have p6 := hp.cell 6
    simp at p0 p1 p2 p3 p4 p5 p6
    have hza := hb.lt
    have hzp := hp.lt
    have HB := Lib.hid hb
    have HP := Lib.hid hp
    have HK1 := Lib.hid (HK0.out.trans hk1)
    clear hb hp hk1
    go_wp2_with fail
    go_region_held3 (fun w' => w'.cell? ⟨w.heap.size, 0, none⟩ = some (.int .i64 x.way) ∧ w'.cell? ⟨w.heap.size, 1, none⟩ = some (.int .i64 x.ver) ∧ w'.cell? ⟨w.heap.size, 2, none⟩ = some (.int .i64 x.want) ∧ w'.cell? ⟨w.heap.size, 3, none⟩ = some (.slice A1 x.sent.length c1) ∧ w'.cell? ⟨w.heap.size, 4, none⟩ = some (.slice A2 x.live.length c2) ∧ w'.cell? ⟨w.heap.size, 5, none⟩ = some (.slice A3 x.back.length c3) ∧ w'.cell? ⟨w.heap.size, 6, none⟩ = some (.slice A4 x.got.length c4) ∧ w'.cell? ⟨w.heap.size + 1, 0, none⟩ = some (.int .i64 p.s) ∧ w'.cell? ⟨w.heap.size + 1, 1, none⟩ = some (.int .i64 p.k) ∧ w'.cell? ⟨w.heap.size + 1, 2, none⟩ = some (.int .i64 p.f) ∧ w'.cell? ⟨w.heap.size + 1, 3, none⟩ = some (.int .i64 p.t) ∧ w'.cell? ⟨w.heap.size + 1, 4, none⟩ = some (.int .i64 p.m) ∧ w'.cell? ⟨w.heap.size + 1, 5, none⟩ = some (.int .i64 p.u) ∧ w'.cell? ⟨w.heap.size + 1, 6, none⟩ = some (.int .i64 p.v))
      (((try dsimp only); (repeat' apply And.intro) <;> (first | with_reducible assumption | (go_keep; done))))
      (first
        | (go_at_call 13; refine (HTO.out _ (HK1.out.drewN 1)).mono ?_; rintro e w2 ⟨B1, B2, B3, B4, rfl, hr2, hk2⟩; unfold stV; have hza2 := Nat.lt_of_lt_of_le hza hk2.size; have hzp2 := Nat.lt_of_lt_of_le hzp hk2.size; have a0 := (hk2.cell hza (fun h => h)).trans a0; have a1 := (hk2.cell hza (fun h => h)).trans a1; have a2 := (hk2.cell hza (fun h => h)).trans a2; have a3 := (hk2.cell hza (fun h => h)).trans a3; have a4 := (hk2.cell hza (fun h => h)).trans a4; have a5 := (hk2.cell hza (fun h => h)).trans a5; have a6 := (hk2.cell hza (fun h => h)).trans a6; have p0 := (hk2.cell hzp (fun h => h)).trans p0; have p1 := (hk2.cell hzp (fun h => h)).trans p1; have p2 := (hk2.cell hzp (fun h => h)).trans p2; have p3 := (hk2.cell hzp (fun h => h)).trans p3; have p4 := (hk2.cell hzp (fun h => h)).trans p4; have p5 := (hk2.cell hzp (fun h => h)).trans p5; have p6 := (hk2.cell hzp (fun h => h)).trans p6; have HR2 := Lib.hid (hr2.at_ m1 m2 m3 m4); have HK2 := Lib.hid ((HK1.out.drewN 1).trans hk2); have HB2 := Lib.hid ((HB.out.drewN 1).keeps hk2 fun h => h); have HP2 := Lib.hid ((HP.out.drewN 1).keeps hk2 fun h => h); clear hr2 hk2)
        | (go_at_call 17; refine (HTP.out _).mono ?_; rintro e w3 ⟨rfl, hk3⟩; have hza3 := Nat.lt_of_lt_of_le hza2 hk3.size; have hzp3 := Nat.lt_of_lt_of_le hzp2 hk3.size; have a0 := (hk3.cell hza2 (fun h => h)).trans a0; have a1 := (hk3.cell hza2 (fun h => h)).trans a1; have a2 := (hk3.cell hza2 (fun h => h)).trans a2; have a3 := (hk3.cell hza2 (fun h => h)).trans a3; have a4 := (hk3.cell hza2 (fun h => h)).trans a4; have a5 := (hk3.cell hza2 (fun h => h)).trans a5; have a6 := (hk3.cell hza2 (fun h => h)).trans a6; have p0 := (hk3.cell hzp2 (fun h => h)).trans p0; have p1 := (hk3.cell hzp2 (fun h => h)).trans p1; have p2 := (hk3.cell hzp2 (fun h => h)).trans p2; have p3 := (hk3.cell hzp2 (fun h => h)).trans p3; have p4 := (hk3.cell hzp2 (fun h => h)).trans p4; have p5 := (hk3.cell hzp2 (fun h => h)).trans p5; have p6 := (hk3.cell hzp2 (fun h => h)).trans p6; have HR3 := Lib.hid (HR2.out.kept hk3); have HK3 := Lib.hid (HK2.out.trans hk3); have HB3 := Lib.hid (HB2.out.keeps hk3 fun h => h); have HP3 := Lib.hid (HP2.out.keeps hk3 fun h => h); clear hk3)
        | (go_at_call 16; refine (HSP.out _ B1 B2 B3 B4 _ _ _ _ HR3.out).mono ?_; rintro e w4 ⟨rfl, hk4⟩; have a0 := (hk4.cell hza3 (fun h => h)).trans a0; have a1 := (hk4.cell hza3 (fun h => h)).trans a1; have a2 := (hk4.cell hza3 (fun h => h)).trans a2; have a3 := (hk4.cell hza3 (fun h => h)).trans a3; have a4 := (hk4.cell hza3 (fun h => h)).trans a4; have a5 := (hk4.cell hza3 (fun h => h)).trans a5; have a6 := (hk4.cell hza3 (fun h => h)).trans a6; have p0 := (hk4.cell hzp3 (fun h => h)).trans p0; have p1 := (hk4.cell hzp3 (fun h => h)).trans p1; have p2 := (hk4.cell hzp3 (fun h => h)).trans p2; have p3 := (hk4.cell hzp3 (fun h => h)).trans p3; have p4 := (hk4.cell hzp3 (fun h => h)).trans p4; have p5 := (hk4.cell hzp3 (fun h => h)).trans p5; have p6 := (hk4.cell hzp3 (fun h => h)).trans p6; have HK4 := Lib.hid (HK3.out.trans hk4); have HB4 := Lib.hid (HB3.out.keeps hk4 fun h => h); have HP4 := Lib.hid (HP3.out.keeps hk4 fun h => h); clear hk4))
    go_wp2_with fail
    refine (HTO.out _ HK4.out).mono ?_
    rintro e w5 ⟨C1, C2, C3, C4, rfl, hs5, hk5⟩
    unfold stV
    have hb := (HB4.out.keeps hk5 fun h => h).alloc (.cells #[.int .i64 x.way, .int .i64 x.ver, .int .i64 x.want, .slice C1 x.sent.length x.sent.length, .slice C2 x.live.length x.live.length, .slice C3 x.back.length x.back.length, .slice C4 x.got.length x.got.length] 31)
    have hp := (HP4.out.keeps hk5 fun h => h).alloc (.cells #[.int .i64 x.way, .int .i64 x.ver, .int .i64 x.want, .slice C1 x.sent.length x.sent.length, .slice C2 x.live.length x.live.length, .slice C3 x.back.length x.back.length, .slice C4 x.got.length x.got.length] 31)
    have HXX := Lib.hid (Box.new w5 _ rfl 31 #[.int .i64 x.way, .int .i64 x.ver, .int .i64 x.want, .slice C1 x.sent.length x.sent.length, .slice C2 x.live.length x.live.length, .slice C3 x.back.length x.back.length, .slice C4 x.got.length x.got.length])
    have HS5 := Lib.hid ((hs5.at_ m1 m2 m3 m4).alloc (.cells #[.int .i64 x.way, .int .i64 x.ver, .int .i64 x.want, .slice C1 x.sent.length x.sent.length, .slice C2 x.live.length x.live.length, .slice C3 x.back.length x.back.length, .slice C4 x.got.length x.got.length] 31))
    have HK5 := Lib.hid ((HK4.out.trans hk5).alloc (.cells #[.int .i64 x.way, .int .i64 x.ver, .int .i64 x.want, .slice C1 x.sent.length x.sent.length, .slice C2 x.live.length x.live.length, .slice C3 x.back.length x.back.length, .slice C4 x.got.length x.got.length] 31))
    have HB5 := Lib.hid hb
    have HP5 := Lib.hid hp
    clear hb hp hs5 hk5 a0 p0 a1 p1 a2 p2 a3 p3 a4 p4 a5 p5 a6 p6
    go_wp2_with fail
    obtain ⟨g, hg⟩ : ∃ g, w5.heap.size = g := ⟨_, rfl⟩
    rw [hg] at HXX ⊢
    clear hg
    generalize (w5.alloc (.cells #[.int .i64 x.way, .int .i64 x.ver, .int .i64 x.want, .slice C1 x.sent.length x.sent.length, .slice C2 x.live.length x.live.length, .slice C3 x.back.length x.back.length, .slice C4 x.got.length x.got.length] 31)) = W5 at HXX HS5 HK5 HB5 HP5
    have hxx := HXX.out
    have hp := HP5.out
    have x0 := hxx.cell 0
    have x1 := hxx.cell 1
    have x2 := hxx.cell 2
    have x3 := hxx.cell 3
    have x4 := hxx.cell 4
    have x5 := hxx.cell 5
    have x6 := hxx.cell 6
    simp at x0 x1 x2 x3 x4 x5 x6
    have p0 := hp.cell 0
    have p1 := hp.cell 1
    have p2 := hp.cell 2
    have p3 := hp.cell 3
    have p4 := hp.cell 4
    have p5 := hp.cell 5
    have p6 := hp.cell 6
    simp at p0 p1 p2 p3 p4 p5 p6
    clear hxx hp
    have x0 := fun U : GW W5 => GW.cell x0 U
    have x1 := fun U : GW W5 => GW.cell x1 U
    have x2 := fun U : GW W5 => GW.cell x2 U
    have x3 := fun U : GW W5 => GW.cell x3 U
    have x4 := fun U : GW W5 => GW.cell x4 U
    have x5 := fun U : GW W5 => GW.cell x5 U
    have x6 := fun U : GW W5 => GW.cell x6 U
    have p0 := fun U : GW W5 => GW.cell p0 U
    have p1 := fun U : GW W5 => GW.cell p1 U
    have p2 := fun U : GW W5 => GW.cell p2 U
    have p3 := fun U : GW W5 => GW.cell p3 U
    have p4 := fun U : GW W5 => GW.cell p4 U
    have p5 := fun U : GW W5 => GW.cell p5 U
    have p6 := fun U : GW W5 => GW.cell p6 U
    refine wp_region_grow (by kernel_rfl) (by kernel_rfl) ?_
    repeat (go_big_quiet_step (first | (go_at_call 17; exact Calls.grow _ (HTP.out _)) | (go_at_call 18; exact Calls.grow _ (HIM.out _ C1 C2 C3 C4 _ _ _ _ (HS5.out.kept (GW.keep _)) (HT.out.keeps (HK5.out.trans (GW.keep _)))))))
    refine wpQuiet_nil ?_
    rintro _ ⟨U1, rfl⟩
    clear x0 p0 x1 p1 x2 p2 x3 p3 x4 p4 x5 p5 x6 p6
    have hxx := HXX.out.keeps U1.keep fun h => h
    have hb := HB5.out.keeps U1.keep fun h => h
    have a0 := hb.cell 0
    have a1 := hb.cell 1
    have a2 := hb.cell 2
    have a3 := hb.cell 3
    have a4 := hb.cell 4
    have a5 := hb.cell 5
    have a6 := hb.cell 6
    simp at a0 a1 a2 a3 a4 a5 a6
    have x0 := hxx.cell 0
    have x1 := hxx.cell 1
    have x2 := hxx.cell 2
    have x3 := hxx.cell 3
    have x4 := hxx.cell 4
    have x5 := hxx.cell 5
    have x6 := hxx.cell 6
    simp at x0 x1 x2 x3 x4 x5 x6
    have hzx := hxx.lt
    have hza := hb.lt
    have HK6 := Lib.hid (HK5.out.trans U1.keep)
    have HS6 := Lib.hid (HS5.out.kept U1.keep)
    clear hb hxx
    go_wp2_with fail
    generalize U1.val = W6 at *
    go_region_held3 (fun w' => w'.cell? ⟨g, 0, none⟩ = some (.int .i64 x.way) ∧ w'.cell? ⟨g, 1, none⟩ = some (.int .i64 x.ver) ∧ w'.cell? ⟨g, 2, none⟩ = some (.int .i64 x.want) ∧ w'.cell? ⟨g, 3, none⟩ = some (.slice C1 x.sent.length x.sent.length) ∧ w'.cell? ⟨g, 4, none⟩ = some (.slice C2 x.live.length x.live.length) ∧ w'.cell? ⟨g, 5, none⟩ = some (.slice C3 x.back.length x.back.length) ∧ w'.cell? ⟨g, 6, none⟩ = some (.slice C4 x.got.length x.got.length) ∧ w'.cell? ⟨w.heap.size, 0, none⟩ = some (.int .i64 x.way) ∧ w'.cell? ⟨w.heap.size, 1, none⟩ = some (.int .i64 x.ver) ∧ w'.cell? ⟨w.heap.size, 2, none⟩ = some (.int .i64 x.want) ∧ w'.cell? ⟨w.heap.size, 3, none⟩ = some (.slice A1 x.sent.length c1) ∧ w'.cell? ⟨w.heap.size, 4, none⟩ = some (.slice A2 x.live.length c2) ∧ w'.cell? ⟨w.heap.size, 5, none⟩ = some (.slice A3 x.back.length c3) ∧ w'.cell? ⟨w.heap.size, 6, none⟩ = some (.slice A4 x.got.length c4))
      (((try dsimp only); (repeat' apply And.intro) <;> (first | with_reducible assumption | (go_keep; done))))
      (first | (go_at_call 13; refine (HTO.out _ (HK6.out.drewN 1)).mono ?_; rintro e w6 ⟨D1, D2, D3, D4, rfl, ht6, hk6⟩; unfold stV; have HT6 := Lib.hid (ht6.at_ m1 m2 m3 m4); clear ht6; have hzx6 := Nat.lt_of_lt_of_le hzx hk6.size; have hza6 := Nat.lt_of_lt_of_le hza hk6.size; have x0 := (hk6.cell hzx (fun h => h)).trans x0; have x1 := (hk6.cell hzx (fun h => h)).trans x1; have x2 := (hk6.cell hzx (fun h => h)).trans x2; have x3 := (hk6.cell hzx (fun h => h)).trans x3; have x4 := (hk6.cell hzx (fun h => h)).trans x4; have x5 := (hk6.cell hzx (fun h => h)).trans x5; have x6 := (hk6.cell hzx (fun h => h)).trans x6; have a0 := (hk6.cell hza (fun h => h)).trans a0; have a1 := (hk6.cell hza (fun h => h)).trans a1; have a2 := (hk6.cell hza (fun h => h)).trans a2; have a3 := (hk6.cell hza (fun h => h)).trans a3; have a4 := (hk6.cell hza (fun h => h)).trans a4; have a5 := (hk6.cell hza (fun h => h)).trans a5; have a6 := (hk6.cell hza (fun h => h)).trans a6) | (go_at_call 15; refine (eqState_same x C1 C2 C3 C4 D1 D2 D3 D4 _ _ _ _ _ _ _ _ _ ((HS6.out.drewN 1).kept hk6) HT6.out).mono ?_; rintro e w7 ⟨rfl, hk7⟩; have x0 := (hk7.cell hzx6 (fun h => h)).trans x0; have x1 := (hk7.cell hzx6 (fun h => h)).trans x1; have x2 := (hk7.cell hzx6 (fun h => h)).trans x2; have x3 := (hk7.cell hzx6 (fun h => h)).trans x3; have x4 := (hk7.cell hzx6 (fun h => h)).trans x4; have x5 := (hk7.cell hzx6 (fun h => h)).trans x5; have x6 := (hk7.cell hzx6 (fun h => h)).trans x6; have a0 := (hk7.cell hza6 (fun h => h)).trans a0; have a1 := (hk7.cell hza6 (fun h => h)).trans a1; have a2 := (hk7.cell hza6 (fun h => h)).trans a2; have a3 := (hk7.cell hza6 (fun h => h)).trans a3; have a4 := (hk7.cell hza6 (fun h => h)).trans a4; have a5 := (hk7.cell hza6 (fun h => h)).trans a5; have a6 := (hk7.cell hza6 (fun h => h)).trans a6))
    have HK7 := Lib.hid (((HK6.out.drewN 1).trans hk6).trans hk7)
    clear hk6 hk7
    go_wp2
    go_ret
    exact ⟨rfl, HK7.out.below⟩
  · unfold stV
    unfold Pk.val
    go_enter Tryd.func4, Tryd.ntmps4
    go_wp2_with fail
    refine (szState_no x.way x.ver x.want A1 A2 A3 A4 _ _ _ _ _ _ _ _ 1048576 _ (by omega) (by omega) (by omega) m1 m2 m3 m4).mono ?_
    rintro e w1 ⟨rfl, hk1⟩
    have HK1 := Lib.hid (HK0.out.trans hk1)
    clear hk1
    go_wp2
    go_ret
    exact ⟨rfl, HK1.out.below⟩

namespace xsthas
set_option maxRecDepth 100000 in
theorem lifted (os : Os) (started : os.Started) (H : Type) (enc : TypeId × Value → H) :
    ReturnsInHanded {} Tryd.checked os 4 .any (fun w args => (Rows.fnExactStateHasSpec.pre enc Tryd.prog Tryd.f4 [] false w args ∧ laidMetH Tryd.prog Rows.fnExactStateHasRow.laid w) ∧ sizedMet enc Tryd.prog Tryd.f4 (OpenSpec.ofChange Rows.fnExactStateHasSpec) false w args)
      (Rows.fnExactStateHasSpec.post enc Tryd.prog Tryd.f4 false true false false) := by
  refine returnsInHanded_of_change_and (C := Tryd.checked) (X := fun w _ => laidMetH Tryd.prog Rows.fnExactStateHasRow.laid w) (fun _ _ _ hh h => h.of_heap hh) own started (by kernel_rfl) Tryd.func4
    (ChangeSpec.witness_shaped (enc := enc) (C := Tryd.checked) (os := os) (X := fun w _ => laidMetH Tryd.prog Rows.fnExactStateHasRow.laid w) false (World.doorLaid Tryd.prog 101 os) #[.agg #[.int .i64 0, .int .i64 1, .int .i64 0, .slice none 0 0, .slice none 0 0, .slice none 0 0, .slice none 0 0], .agg #[.int .i64 1, .int .i64 1, .int .i64 1, .int .i64 1, .int .i64 1, .int .i64 1, .int .i64 1]] 8 rfl (World.shaped_of_RefB (by kernel_rfl) (by kernel_rfl)) (by kernel_rfl) (by kernel_rfl) (by kernel_rfl) (door_met os _)) ?_
  intro W base args ds gs before hval0 hW _ _ hL _
  have hval : ∀ (j : Nat) t v, Tryd.f4.params[j]? = some t → args[j]? = some v → Value.okWide Tryd.prog W .any base t v := hval0
  have hW' := hW
  obtain ⟨p, q, hA0, hV, rfl, hfz, hnd⟩ := hW
  have hA : DataW.TrodAll enc Tryd.prog W 0 (fun _ => true) true Tryd.f4.params.toList args.toList ds p := hA0
  rw [Tryd.params4 ] at hA hval
  obtain ⟨g0, g1, rfl⟩ := vars2 hV
  obtain ⟨v0, vs0, d0, ds0, p0, q0, hargs, rfl, rfl, h0, r0⟩ := trodAll_cons hA
  obtain ⟨v1, vs1, d1, ds1, p1, q1, rfl, rfl, rfl, h1, r1⟩ := trodAll_cons r0
  obtain ⟨rfl, rfl, rfl⟩ := trodAll_nil r1
  obtain rfl : args = #[v0, v1] := by cases args; simp_all
  have k0 := h0
  have lt0 : ∀ x ∈ p0, x.block < W.heap.size := by obtain ⟨m, hm⟩ := k0; exact DataW.trod_lt m _ _ _ hm
  obtain ⟨x, A1, A2, A3, A4, c1, c2, c3, c4, rfl, hx, i0, i1, i2⟩ := st_of_trod (hval 0 26 v0 rfl rfl) h0
  have k1 := h1
  have lt1 : ∀ x ∈ p1, x.block < W.heap.size := by obtain ⟨m, hm⟩ := k1; exact DataW.trod_lt m _ _ _ hm
  obtain ⟨pk, rfl⟩ := pk_of_trod (hval 1 36 v1 rfl rfl) h1
  clear hA0 hval0
  refine (walk_xsthas x A1 A2 A3 A4 c1 c2 c3 c4 pk W hx (tabs_of_laid hL)).mono fun e W' ⟨he, bel⟩ => ?_
  subst he
  exact ⟨_, rfl, _, _, _, [], _, _, hW', trodAll_mk1 (shut_bool Tryd.underlying4 _), (trodAll_cons_mk (Below.trod laidOut (by kernel_rfl) (of_decide_eq_true (by kernel_rfl)) k0 bel lt0) (trodAll_cons_mk (Below.trod laidOut (by kernel_rfl) (of_decide_eq_true (by kernel_rfl)) k1 bel lt1) trodAll_mk0)), Below.trodVars laidOut bel (by kernel_rfl) hV, bel.frame _, fun h => by cases h⟩
end xsthas

theorem fnExactStateHas_row : Rows.FnExactStateHasSaid :=
  OpenClaim.holds_of_wide 4 Tryd.f4 rfl rfl rfl rfl rfl rfl rfl ⟨rfl, rfl, rfl, rfl, rfl⟩ rfl rfl rfl rfl rfl (by kernel_rfl) Tryd.func4 (by kernel_rfl)
    (of_decide_eq_true (by kernel_rfl)) (by unfold Func.isWrapper; first | (rw [if_pos (by decide +kernel)]; kernel_rfl) | (rw [if_neg (by decide +kernel)]; exact ⟨rfl, rfl⟩))
    (fun os started H enc _ => xsthas.lifted os started H enc)

theorem fnExactStateHas_card : Rows.FnExactStateHasCardSaid :=
  Claim7.holds_tied_plain_at .later [] Rows.fnExactStateHasCard.laidKinds true Rows.fnExactStateHasCard.stood.harness true
    fnExactStateHas_row (fun _ h => by cases h) (by kernel_rfl) (fun _ h => by cases h) fnExactStateHas_row_tie rfl ⟨rfl, rfl⟩ (by kernel_rfl) rfl
    (fun g fn hg hfn => by
      obtain rfl : g = 4 := Option.some.inj ((show Tryd.prog.funcNamed Rows.fnExactStateHasRow.func = some 4 by kernel_rfl).symm.trans hg) |>.symm
      obtain rfl : fn = Tryd.f4 := (Option.some.inj (Tryd.func4.symm.trans hfn)).symm
      refine ⟨by kernel_rfl, fun j t ht => ?_⟩
      have h3 : ∀ t ∈ Tryd.f4.params.toList, Tryd.prog.wantsStandIn t = false := of_decide_eq_true (by kernel_rfl)
      exact h3 t (Array.mem_toList_iff.2 (Array.mem_of_getElem? ht)))
    (by kernel_rfl)
#print axioms fnExactStateHas_card
end Go.Proofs.YtedmkbiamjpdaaaDoor
