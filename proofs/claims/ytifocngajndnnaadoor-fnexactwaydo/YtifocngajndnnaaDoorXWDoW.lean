/- FnExactWayDo: the function answers as its model, for every argument; the states read as they did; the two tables read as the program's text lays them. -/
import Derived.Test.YtifocngajndnnaaDoorStF2
import Derived.Test.YtifocngajndnnaaDoorSEq
import Derived.Test.YtifocngajndnnaaDoorSTo
import Derived.Test.YtifocngajndnnaaDoorSMark
import Derived.Test.YtifocngajndnnaaDoorOwn
import Derived.Test.YtifocngajndnnaaDoorIDW
import Derived.Deep.RegionHeld3
import Derived.Deep.CutRange
set_option linter.unusedVariables false
set_option linter.unusedSimpArgs false
namespace Go.Proofs.YtifocngajndnnaaDoor
open Go.RowKit Go.ChangeShapes Go.WideShapes Go.ChangeAt

set_option maxRecDepth 100000 in
set_option maxHeartbeats 4000000 in
theorem walk_xwaydo (x y : StL) (A1 A2 A3 A4 B1 B2 B3 B4 : Option Addr) (c1 c2 c3 c4 d1 d2 d3 d4 : Nat) (k : Int) (w : World) (hx : StAt w x A1 A2 A3 A4) (hy : StAt w y B1 B2 B3 B4) (ht : Tabs w) :
    Calls Tryd.prog 4 #[stV x A1 A2 A3 A4 c1 c2 c3 c4, stV y B1 B2 B3 B4 d1 d2 d3 d4, .int .i64 k] w fun e w' => e = .returned (.bool true) ∧ Below w.heap.size w w' := by
  have HX := Lib.hid hx
  have HY := Lib.hid hy
  have HT := Lib.hid ht
  obtain ⟨m1, m2, m3, m4⟩ := hx.2
  obtain ⟨k1, k2, k3, k4⟩ := hy.2
  clear hx hy ht
  have HBa := Lib.hid ((Box.new w _ rfl 26 #[.int .i64 x.way, .int .i64 x.ver, .int .i64 x.want, .slice A1 x.sent.length c1, .slice A2 x.live.length c2, .slice A3 x.back.length c3, .slice A4 x.got.length c4]).alloc (.cells #[.int .i64 y.way, .int .i64 y.ver, .int .i64 y.want, .slice B1 y.sent.length d1, .slice B2 y.live.length d2, .slice B3 y.back.length d3, .slice B4 y.got.length d4] 26))
  have HBb := Lib.hid (Box.new (w.alloc (.cells #[.int .i64 x.way, .int .i64 x.ver, .int .i64 x.want, .slice A1 x.sent.length c1, .slice A2 x.live.length c2, .slice A3 x.back.length c3, .slice A4 x.got.length c4] 26)) (w.heap.size + 1) (by simp) 26 #[.int .i64 y.way, .int .i64 y.ver, .int .i64 y.want, .slice B1 y.sent.length d1, .slice B2 y.live.length d2, .slice B3 y.back.length d3, .slice B4 y.got.length d4])
  have HK := Lib.hid (((Keeps.refl noBlk w).alloc (.cells #[.int .i64 x.way, .int .i64 x.ver, .int .i64 x.want, .slice A1 x.sent.length c1, .slice A2 x.live.length c2, .slice A3 x.back.length c3, .slice A4 x.got.length c4] 26)).alloc (.cells #[.int .i64 y.way, .int .i64 y.ver, .int .i64 y.want, .slice B1 y.sent.length d1, .slice B2 y.live.length d2, .slice B3 y.back.length d3, .slice B4 y.got.length d4] 26))
  by_cases hs : (x.sent.length : Int) + x.live.length + x.back.length + x.got.length ≤ 1048576
  · have hneg : ¬ (1048576 - (x.sent.length : Int) - (x.live.length : Int) - (x.back.length : Int) - (x.got.length : Int)) < 0 := by omega
    by_cases hs2 : (y.sent.length : Int) + y.live.length + y.back.length + y.got.length ≤ (1048576 - (x.sent.length : Int) - (x.live.length : Int) - (x.back.length : Int) - (x.got.length : Int))
    · have hneg2 : ¬ ((1048576 - (x.sent.length : Int) - (x.live.length : Int) - (x.back.length : Int) - (x.got.length : Int)) - (y.sent.length : Int) - (y.live.length : Int) - (y.back.length : Int) - (y.got.length : Int)) < 0 := by omega
      have HTO := Lib.hid (fun W (hk : Keeps noBlk w W) => toState_any x A1 A2 A3 A4 c1 c2 c3 c4 W (HX.out.kept hk) (by omega) (by omega) (by omega) (by omega))
      have HTY := Lib.hid (fun W (hk : Keeps noBlk w W) => toState_any y B1 B2 B3 B4 d1 d2 d3 d4 W (HY.out.kept hk) (by omega) (by omega) (by omega) (by omega))
      have hzl := wdS_len x y k
      obtain ⟨o, ho⟩ : ∃ o, wmayB x y k = o := ⟨_, rfl⟩
      obtain ⟨z, hz⟩ : ∃ z, wdS x y k = z := ⟨_, rfl⟩
      have HSP := Lib.hid (fun W P1 P2 P3 P4 Q1 Q2 Q3 Q4 e1 e2 e3 e4 f1 f2 f3 f4 (h : StAt W x P1 P2 P3 P4) (h' : StAt W y Q1 Q2 Q3 Q4) hT => (show Calls Tryd.prog 17 #[stV x P1 P2 P3 P4 e1 e2 e3 e4, stV y Q1 Q2 Q3 Q4 f1 f2 f3 f4, .int .i64 k] W (RetDS W z o) from by rw [← ho, ← hz]; exact specDS_any x y P1 P2 P3 P4 Q1 Q2 Q3 Q4 e1 e2 e3 e4 f1 f2 f3 f4 k W h h' hT))
      have HIM := Lib.hid (fun W P1 P2 P3 P4 Q1 Q2 Q3 Q4 e1 e2 e3 e4 f1 f2 f3 f4 (h : StAt W x P1 P2 P3 P4) (h' : StAt W y Q1 Q2 Q3 Q4) hT => (show Calls Tryd.prog 18 #[stV x P1 P2 P3 P4 e1 e2 e3 e4, stV y Q1 Q2 Q3 Q4 f1 f2 f3 f4, .int .i64 k] W (RetDI W z o) from by rw [← ho, ← hz]; exact implDI_any x y P1 P2 P3 P4 Q1 Q2 Q3 Q4 e1 e2 e3 e4 f1 f2 f3 f4 k W h h' hT))
      rw [hz] at hzl
      clear ho hz
      have hzn : (stN z : Int) ≤ 1000 := by unfold stN; omega
      have HZM := Lib.hid (show z.sent.length ≤ maxLen ∧ z.live.length ≤ maxLen ∧ z.back.length ≤ maxLen ∧ z.got.length ≤ maxLen by unfold maxLen; omega)
      clear hzl
      have HMX := Lib.hid (fun C1 C2 C3 C4 e1 e2 e3 e4 lo W (h : StOwn W lo x C1 C2 C3 C4) => markState_any x C1 C2 C3 C4 e1 e2 e3 e4 lo 1 W h (by decide) (by unfold stN; omega))
      have HMY := Lib.hid (fun C1 C2 C3 C4 e1 e2 e3 e4 lo W (h : StOwn W lo y C1 C2 C3 C4) => markState_any y C1 C2 C3 C4 e1 e2 e3 e4 lo (1 + (stN x : Int)) W h (by omega) (by unfold stN; omega))
      have HMZ := Lib.hid (fun C1 C2 C3 C4 e1 e2 e3 e4 lo W (h : StOwn W lo z C1 C2 C3 C4) => markState_any z C1 C2 C3 C4 e1 e2 e3 e4 lo 1 W h (by decide) (by omega))
      have HHZ := Lib.hid (fun C1 C2 C3 C4 e1 e2 e3 e4 W (h : StAt W (stMark z 1) C1 C2 C3 C4) => heldState_any z C1 C2 C3 C4 e1 e2 e3 e4 1 W h (by decide) (by omega))
      unfold RetDS at HSP
      unfold RetDI at HIM
      unfold RetStMark at HMX HMY HMZ
      unfold stV at HTO HTY HSP HIM HMX HMY HMZ HHZ ⊢
      go_enter Tryd.func4, Tryd.ntmps4
      go_wp2_with fail
      refine (szState_yes x.way x.ver x.want A1 A2 A3 A4 _ _ _ _ _ _ _ _ 1048576 _ hs (by omega)).mono ?_
      rintro e w1 ⟨rfl, hk1⟩
      have ha := HBa.out.keeps hk1 (fun h => h)
      clear HBa
      have HBa := Lib.hid ha
      clear ha
      have hb := HBb.out.keeps hk1 (fun h => h)
      clear HBb
      have HBb := Lib.hid hb
      clear hb
      have hr := HK.out.trans hk1
      clear HK
      have HK := Lib.hid hr
      clear hr
      have sz1 := hk1.size
      (try simp at sz1)
      clear hk1
      have hb := HBa.out
      have a0 := hb.cell 0
      have a1 := hb.cell 1
      have a2 := hb.cell 2
      have a3 := hb.cell 3
      have a4 := hb.cell 4
      have a5 := hb.cell 5
      have a6 := hb.cell 6
      simp at a0 a1 a2 a3 a4 a5 a6
      have za := hb.lt
      clear hb
      have hb := HBb.out
      have b0 := hb.cell 0
      have b1 := hb.cell 1
      have b2 := hb.cell 2
      have b3 := hb.cell 3
      have b4 := hb.cell 4
      have b5 := hb.cell 5
      have b6 := hb.cell 6
      simp at b0 b1 b2 b3 b4 b5 b6
      have zb := hb.lt
      clear hb
      go_wp2_with fail
      refine (szState_yes y.way y.ver y.want B1 B2 B3 B4 _ _ _ _ _ _ _ _ ((1048576 - (x.sent.length : Int) - (x.live.length : Int) - (x.back.length : Int) - (x.got.length : Int))) _ hs2 (by omega)).mono ?_
      rintro e w2 ⟨rfl, hk2⟩
      clear a0 a1 a2 a3 a4 a5 a6 b0 b1 b2 b3 b4 b5 b6 za zb
      have ha := HBa.out.keeps hk2 (fun h => h)
      clear HBa
      have HBa := Lib.hid ha
      clear ha
      have hb := HBb.out.keeps hk2 (fun h => h)
      clear HBb
      have HBb := Lib.hid hb
      clear hb
      have hr := HK.out.trans hk2
      clear HK
      have HK := Lib.hid hr
      clear hr
      have sz2 := hk2.size
      (try simp at sz2)
      clear hk2
      have hb := HBa.out
      have a0 := hb.cell 0
      have a1 := hb.cell 1
      have a2 := hb.cell 2
      have a3 := hb.cell 3
      have a4 := hb.cell 4
      have a5 := hb.cell 5
      have a6 := hb.cell 6
      simp at a0 a1 a2 a3 a4 a5 a6
      have za := hb.lt
      clear hb
      have hb := HBb.out
      have b0 := hb.cell 0
      have b1 := hb.cell 1
      have b2 := hb.cell 2
      have b3 := hb.cell 3
      have b4 := hb.cell 4
      have b5 := hb.cell 5
      have b6 := hb.cell 6
      simp at b0 b1 b2 b3 b4 b5 b6
      have zb := hb.lt
      clear hb
      go_wp2_with fail
      go_cut [8, 9] from 29 to 37 (fun sp so wx => ∃ gn V1 V2 V3 V4 vc1 vc2 vc3 vc4, sp = .pointer (some ⟨gn, 0, none⟩) ∧ so = .bool o ∧ Box wx gn 31 #[.int .i64 z.way, .int .i64 z.ver, .int .i64 z.want, .slice V1 z.sent.length vc1, .slice V2 z.live.length vc2, .slice V3 z.back.length vc3, .slice V4 z.got.length vc4] ∧ StAt wx z V1 V2 V3 V4 ∧ w2.heap.size ≤ gn ∧ Keeps noBlk w2 wx ∧ Keeps noBlk w wx ∧ Box wx w.heap.size 26 #[.int .i64 x.way, .int .i64 x.ver, .int .i64 x.want, .slice A1 x.sent.length c1, .slice A2 x.live.length c2, .slice A3 x.back.length c3, .slice A4 x.got.length c4] ∧ Box wx (w.heap.size + 1) 26 #[.int .i64 y.way, .int .i64 y.ver, .int .i64 y.want, .slice B1 y.sent.length d1, .slice B2 y.live.length d2, .slice B3 y.back.length d3, .slice B4 y.got.length d4])
      case first =>
        have TK : True := trivial
        have TKv : True := trivial
        go_region_held3 (fun w' => w'.cell? ⟨w.heap.size, 0, none⟩ = some (.int .i64 x.way) ∧ w'.cell? ⟨w.heap.size, 1, none⟩ = some (.int .i64 x.ver) ∧ w'.cell? ⟨w.heap.size, 2, none⟩ = some (.int .i64 x.want) ∧ w'.cell? ⟨w.heap.size, 3, none⟩ = some (.slice A1 x.sent.length c1) ∧ w'.cell? ⟨w.heap.size, 4, none⟩ = some (.slice A2 x.live.length c2) ∧ w'.cell? ⟨w.heap.size, 5, none⟩ = some (.slice A3 x.back.length c3) ∧ w'.cell? ⟨w.heap.size, 6, none⟩ = some (.slice A4 x.got.length c4) ∧ w'.cell? ⟨w.heap.size + 1, 0, none⟩ = some (.int .i64 y.way) ∧ w'.cell? ⟨w.heap.size + 1, 1, none⟩ = some (.int .i64 y.ver) ∧ w'.cell? ⟨w.heap.size + 1, 2, none⟩ = some (.int .i64 y.want) ∧ w'.cell? ⟨w.heap.size + 1, 3, none⟩ = some (.slice B1 y.sent.length d1) ∧ w'.cell? ⟨w.heap.size + 1, 4, none⟩ = some (.slice B2 y.live.length d2) ∧ w'.cell? ⟨w.heap.size + 1, 5, none⟩ = some (.slice B3 y.back.length d3) ∧ w'.cell? ⟨w.heap.size + 1, 6, none⟩ = some (.slice B4 y.got.length d4))
          (((try dsimp only); (repeat' apply And.intro) <;> (first | with_reducible assumption | (go_keep; done))))
          (first | (have _t := HBv9; clear _t; go_at_call 17; refine (HSP.out _ P1 P2 P3 P4 Q1 Q2 Q3 Q4 _ _ _ _ _ _ _ _ HP.out HQ.out (HT.out.keeps HK.out)).mono ?_; rintro e w5 ⟨V1, V2, V3, V4, vc1, vc2, vc3, vc4, rfl, hv0, hvg, hk5⟩; have hq := hk5; have HV9 := Lib.hid hv0; have HVG := Lib.hid (fun b (h : stBlk z V1 V2 V3 V4 b) => (show w4.heap.size ≤ b by have := hvg b h; (first | omega | (simp at this; omega)))); clear hv0 hvg; clear hk5; have hv := HBv9.out.keeps hq (fun h => h); clear HBv9; have HBv9 := Lib.hid hv; clear hv; have ha := HBa.out.keeps hq (fun h => h); clear HBa; have HBa := Lib.hid ha; have a0 := ha.cell 0; have a1 := ha.cell 1; have a2 := ha.cell 2; have a3 := ha.cell 3; have a4 := ha.cell 4; have a5 := ha.cell 5; have a6 := ha.cell 6; simp at a0 a1 a2 a3 a4 a5 a6; have za := ha.lt; clear ha; have hb := HBb.out.keeps hq (fun h => h); clear HBb; have HBb := Lib.hid hb; have b0 := hb.cell 0; have b1 := hb.cell 1; have b2 := hb.cell 2; have b3 := hb.cell 3; have b4 := hb.cell 4; have b5 := hb.cell 5; have b6 := hb.cell 6; simp at b0 b1 b2 b3 b4 b5 b6; have zb := hb.lt; clear hb; have hb := HBv9.out; have v90 := hb.cell 0; have v91 := hb.cell 1; have v92 := hb.cell 2; have v93 := hb.cell 3; have v94 := hb.cell 4; have v95 := hb.cell 5; have v96 := hb.cell 6; have f90 := hb.frozen 0; have f91 := hb.frozen 1; have f92 := hb.frozen 2; have f93 := hb.frozen 3; have f94 := hb.frozen 4; have f95 := hb.frozen 5; have f96 := hb.frozen 6; simp at v90 v91 v92 v93 v94 v95 v96; have z9 := hb.lt; clear hb; have hq9 := HQ9.out.trans hq; clear HQ9; have HQ9 := Lib.hid hq9; clear hq9; have hh9 := HK.out.trans hq; clear HK; have HK := Lib.hid hh9; clear hh9; have sz5 := hq.size; (try simp at sz5); clear hq) | (have _t := TKv; clear _t; go_at_call 17; refine (HSP.out _ P1 P2 P3 P4 Q1 Q2 Q3 Q4 _ _ _ _ _ _ _ _ HP.out HQ.out (HT.out.keeps HK.out)).mono ?_; rintro e w5 ⟨V1, V2, V3, V4, vc1, vc2, vc3, vc4, rfl, hv0, hvg, hk5⟩; have hq := hk5; have HV9 := Lib.hid hv0; have HVG := Lib.hid (fun b (h : stBlk z V1 V2 V3 V4 b) => (show w4.heap.size ≤ b by have := hvg b h; (first | omega | (simp at this; omega)))); clear hv0 hvg; clear hk5; have ha := HBa.out.keeps hq (fun h => h); clear HBa; have HBa := Lib.hid ha; have a0 := ha.cell 0; have a1 := ha.cell 1; have a2 := ha.cell 2; have a3 := ha.cell 3; have a4 := ha.cell 4; have a5 := ha.cell 5; have a6 := ha.cell 6; simp at a0 a1 a2 a3 a4 a5 a6; have za := ha.lt; clear ha; have hb := HBb.out.keeps hq (fun h => h); clear HBb; have HBb := Lib.hid hb; have b0 := hb.cell 0; have b1 := hb.cell 1; have b2 := hb.cell 2; have b3 := hb.cell 3; have b4 := hb.cell 4; have b5 := hb.cell 5; have b6 := hb.cell 6; simp at b0 b1 b2 b3 b4 b5 b6; have zb := hb.lt; clear hb; have hq9 := HQ9.out.trans hq; clear HQ9; have HQ9 := Lib.hid hq9; clear hq9; have hh9 := HK.out.trans hq; clear HK; have HK := Lib.hid hh9; clear hh9; have sz5 := hq.size; (try simp at sz5); clear hq) | (clear TKv; have TKh2 : True := trivial; go_at_call 17; refine (HSP.out _ P1 P2 P3 P4 Q1 Q2 Q3 Q4 _ _ _ _ _ _ _ _ (HP.out.alloc (.cells #[.int .i64 0, .int .i64 0, .int .i64 0, .slice none 0 0, .slice none 0 0, .slice none 0 0, .slice none 0 0] 31)) (HQ.out.alloc (.cells #[.int .i64 0, .int .i64 0, .int .i64 0, .slice none 0 0, .slice none 0 0, .slice none 0 0, .slice none 0 0] 31)) (HT.out.keeps (HK.out.alloc (.cells #[.int .i64 0, .int .i64 0, .int .i64 0, .slice none 0 0, .slice none 0 0, .slice none 0 0, .slice none 0 0] 31)))).mono ?_; rintro e w5 ⟨V1, V2, V3, V4, vc1, vc2, vc3, vc4, rfl, hv0, hvg, hk5⟩; have hraw := hk5; have HBv9 := Lib.hid ((Box.new w4 _ rfl 31 #[.int .i64 0, .int .i64 0, .int .i64 0, .slice none 0 0, .slice none 0 0, .slice none 0 0, .slice none 0 0]).keeps hraw (fun h => h)); have hq := ((Keeps.refl noBlk w4).alloc (.cells #[.int .i64 0, .int .i64 0, .int .i64 0, .slice none 0 0, .slice none 0 0, .slice none 0 0, .slice none 0 0] 31)).trans hraw; clear hraw; have HV9 := Lib.hid hv0; have HVG := Lib.hid (fun b (h : stBlk z V1 V2 V3 V4 b) => (show w4.heap.size + 1 ≤ b by have := hvg b h; (first | omega | (simp at this; omega)))); clear hv0 hvg; clear hk5; have ha := HBa.out.keeps hq (fun h => h); clear HBa; have HBa := Lib.hid ha; have a0 := ha.cell 0; have a1 := ha.cell 1; have a2 := ha.cell 2; have a3 := ha.cell 3; have a4 := ha.cell 4; have a5 := ha.cell 5; have a6 := ha.cell 6; simp at a0 a1 a2 a3 a4 a5 a6; have za := ha.lt; clear ha; have hb := HBb.out.keeps hq (fun h => h); clear HBb; have HBb := Lib.hid hb; have b0 := hb.cell 0; have b1 := hb.cell 1; have b2 := hb.cell 2; have b3 := hb.cell 3; have b4 := hb.cell 4; have b5 := hb.cell 5; have b6 := hb.cell 6; simp at b0 b1 b2 b3 b4 b5 b6; have zb := hb.lt; clear hb; have hb := HBv9.out; have v90 := hb.cell 0; have v91 := hb.cell 1; have v92 := hb.cell 2; have v93 := hb.cell 3; have v94 := hb.cell 4; have v95 := hb.cell 5; have v96 := hb.cell 6; have f90 := hb.frozen 0; have f91 := hb.frozen 1; have f92 := hb.frozen 2; have f93 := hb.frozen 3; have f94 := hb.frozen 4; have f95 := hb.frozen 5; have f96 := hb.frozen 6; simp at v90 v91 v92 v93 v94 v95 v96; have z9 := hb.lt; clear hb; have hq9 := HQ9.out.trans hq; clear HQ9; have HQ9 := Lib.hid hq9; clear hq9; have hh9 := HK.out.trans hq; clear HK; have HK := Lib.hid hh9; clear hh9; have sz5 := hq.size; (try simp at sz5); clear hq; have : ¬ w.heap.size = w4.heap.size := (by omega); have : ¬ w4.heap.size = w.heap.size := (by omega); have : ¬ w.heap.size + 1 = w4.heap.size := (by omega); have : ¬ w4.heap.size = w.heap.size + 1 := (by omega)) | (have _t := TKv; clear _t; clear TK; go_at_call 14; refine (HTO.out _ (HK.out.drewN 1)).mono ?_; rintro e w3 ⟨P1, P2, P3, P4, rfl, ht9, hk3⟩; unfold stV; have hq := ((Keeps.refl noBlk w2).drewN 1).trans hk3; clear hk3; have ha := HBa.out.keeps hq (fun h => h); clear HBa; have HBa := Lib.hid ha; have a0 := ha.cell 0; have a1 := ha.cell 1; have a2 := ha.cell 2; have a3 := ha.cell 3; have a4 := ha.cell 4; have a5 := ha.cell 5; have a6 := ha.cell 6; simp at a0 a1 a2 a3 a4 a5 a6; have za := ha.lt; clear ha; have hb := HBb.out.keeps hq (fun h => h); clear HBb; have HBb := Lib.hid hb; have b0 := hb.cell 0; have b1 := hb.cell 1; have b2 := hb.cell 2; have b3 := hb.cell 3; have b4 := hb.cell 4; have b5 := hb.cell 5; have b6 := hb.cell 6; simp at b0 b1 b2 b3 b4 b5 b6; have zb := hb.lt; clear hb; have HP := Lib.hid (ht9.at_ m1 m2 m3 m4); clear ht9; have HQ9 := Lib.hid hq; have hh9 := HK.out.trans hq; clear HK; have HK := Lib.hid hh9; clear hh9; have sz3 := hq.size; (try simp at sz3); clear hq) | (clear TKv; have TKh0 : True := trivial; clear TK; go_at_call 14; refine (HTO.out _ ((HK.out.alloc (.cells #[.int .i64 0, .int .i64 0, .int .i64 0, .slice none 0 0, .slice none 0 0, .slice none 0 0, .slice none 0 0] 31)).drewN 1)).mono ?_; rintro e w3 ⟨P1, P2, P3, P4, rfl, ht9, hk3⟩; unfold stV; have hraw := ((Keeps.refl noBlk (w2.alloc (.cells #[.int .i64 0, .int .i64 0, .int .i64 0, .slice none 0 0, .slice none 0 0, .slice none 0 0, .slice none 0 0] 31))).drewN 1).trans hk3; have HBv9 := Lib.hid ((Box.new w2 _ rfl 31 #[.int .i64 0, .int .i64 0, .int .i64 0, .slice none 0 0, .slice none 0 0, .slice none 0 0, .slice none 0 0]).keeps hraw (fun h => h)); have hq := ((Keeps.refl noBlk w2).alloc (.cells #[.int .i64 0, .int .i64 0, .int .i64 0, .slice none 0 0, .slice none 0 0, .slice none 0 0, .slice none 0 0] 31)).trans hraw; clear hraw; clear hk3; have ha := HBa.out.keeps hq (fun h => h); clear HBa; have HBa := Lib.hid ha; have a0 := ha.cell 0; have a1 := ha.cell 1; have a2 := ha.cell 2; have a3 := ha.cell 3; have a4 := ha.cell 4; have a5 := ha.cell 5; have a6 := ha.cell 6; simp at a0 a1 a2 a3 a4 a5 a6; have za := ha.lt; clear ha; have hb := HBb.out.keeps hq (fun h => h); clear HBb; have HBb := Lib.hid hb; have b0 := hb.cell 0; have b1 := hb.cell 1; have b2 := hb.cell 2; have b3 := hb.cell 3; have b4 := hb.cell 4; have b5 := hb.cell 5; have b6 := hb.cell 6; simp at b0 b1 b2 b3 b4 b5 b6; have zb := hb.lt; clear hb; have hb := HBv9.out; have v90 := hb.cell 0; have v91 := hb.cell 1; have v92 := hb.cell 2; have v93 := hb.cell 3; have v94 := hb.cell 4; have v95 := hb.cell 5; have v96 := hb.cell 6; have f90 := hb.frozen 0; have f91 := hb.frozen 1; have f92 := hb.frozen 2; have f93 := hb.frozen 3; have f94 := hb.frozen 4; have f95 := hb.frozen 5; have f96 := hb.frozen 6; simp at v90 v91 v92 v93 v94 v95 v96; have z9 := hb.lt; clear hb; have HP := Lib.hid (ht9.at_ m1 m2 m3 m4); clear ht9; have HQ9 := Lib.hid hq; have hh9 := HK.out.trans hq; clear HK; have HK := Lib.hid hh9; clear hh9; have sz3 := hq.size; (try simp at sz3); clear hq; have : ¬ w.heap.size = w2.heap.size := (by omega); have : ¬ w2.heap.size = w.heap.size := (by omega); have : ¬ w.heap.size + 1 = w2.heap.size := (by omega); have : ¬ w2.heap.size = w.heap.size + 1 := (by omega)) | (have _t := HBv9; clear _t; go_at_call 14; refine (HTY.out _ HK.out).mono ?_; rintro e w4 ⟨Q1, Q2, Q3, Q4, rfl, ht9, hk4⟩; unfold stV; have hq := hk4; clear hk4; have hv := HBv9.out.keeps hq (fun h => h); clear HBv9; have HBv9 := Lib.hid hv; clear hv; have ha := HBa.out.keeps hq (fun h => h); clear HBa; have HBa := Lib.hid ha; have a0 := ha.cell 0; have a1 := ha.cell 1; have a2 := ha.cell 2; have a3 := ha.cell 3; have a4 := ha.cell 4; have a5 := ha.cell 5; have a6 := ha.cell 6; simp at a0 a1 a2 a3 a4 a5 a6; have za := ha.lt; clear ha; have hb := HBb.out.keeps hq (fun h => h); clear HBb; have HBb := Lib.hid hb; have b0 := hb.cell 0; have b1 := hb.cell 1; have b2 := hb.cell 2; have b3 := hb.cell 3; have b4 := hb.cell 4; have b5 := hb.cell 5; have b6 := hb.cell 6; simp at b0 b1 b2 b3 b4 b5 b6; have zb := hb.lt; clear hb; have hb := HBv9.out; have v90 := hb.cell 0; have v91 := hb.cell 1; have v92 := hb.cell 2; have v93 := hb.cell 3; have v94 := hb.cell 4; have v95 := hb.cell 5; have v96 := hb.cell 6; have f90 := hb.frozen 0; have f91 := hb.frozen 1; have f92 := hb.frozen 2; have f93 := hb.frozen 3; have f94 := hb.frozen 4; have f95 := hb.frozen 5; have f96 := hb.frozen 6; simp at v90 v91 v92 v93 v94 v95 v96; have z9 := hb.lt; clear hb; have hp9 := HP.out.kept hq; clear HP; have HP := Lib.hid hp9; have HQ := Lib.hid (ht9.at_ k1 k2 k3 k4); clear hp9 ht9; have hq9 := HQ9.out.trans hq; clear HQ9; have HQ9 := Lib.hid hq9; clear hq9; have hh9 := HK.out.trans hq; clear HK; have HK := Lib.hid hh9; clear hh9; have sz4 := hq.size; (try simp at sz4); clear hq) | (have _t := TKv; clear _t; go_at_call 14; refine (HTY.out _ HK.out).mono ?_; rintro e w4 ⟨Q1, Q2, Q3, Q4, rfl, ht9, hk4⟩; unfold stV; have hq := hk4; clear hk4; have ha := HBa.out.keeps hq (fun h => h); clear HBa; have HBa := Lib.hid ha; have a0 := ha.cell 0; have a1 := ha.cell 1; have a2 := ha.cell 2; have a3 := ha.cell 3; have a4 := ha.cell 4; have a5 := ha.cell 5; have a6 := ha.cell 6; simp at a0 a1 a2 a3 a4 a5 a6; have za := ha.lt; clear ha; have hb := HBb.out.keeps hq (fun h => h); clear HBb; have HBb := Lib.hid hb; have b0 := hb.cell 0; have b1 := hb.cell 1; have b2 := hb.cell 2; have b3 := hb.cell 3; have b4 := hb.cell 4; have b5 := hb.cell 5; have b6 := hb.cell 6; simp at b0 b1 b2 b3 b4 b5 b6; have zb := hb.lt; clear hb; have hp9 := HP.out.kept hq; clear HP; have HP := Lib.hid hp9; have HQ := Lib.hid (ht9.at_ k1 k2 k3 k4); clear hp9 ht9; have hq9 := HQ9.out.trans hq; clear HQ9; have HQ9 := Lib.hid hq9; clear hq9; have hh9 := HK.out.trans hq; clear HK; have HK := Lib.hid hh9; clear hh9; have sz4 := hq.size; (try simp at sz4); clear hq) | (clear TKv; have TKh1 : True := trivial; go_at_call 14; refine (HTY.out _ (HK.out.alloc (.cells #[.int .i64 0, .int .i64 0, .int .i64 0, .slice none 0 0, .slice none 0 0, .slice none 0 0, .slice none 0 0] 31))).mono ?_; rintro e w4 ⟨Q1, Q2, Q3, Q4, rfl, ht9, hk4⟩; unfold stV; have hraw := hk4; have HBv9 := Lib.hid ((Box.new w3 _ rfl 31 #[.int .i64 0, .int .i64 0, .int .i64 0, .slice none 0 0, .slice none 0 0, .slice none 0 0, .slice none 0 0]).keeps hraw (fun h => h)); have hq := ((Keeps.refl noBlk w3).alloc (.cells #[.int .i64 0, .int .i64 0, .int .i64 0, .slice none 0 0, .slice none 0 0, .slice none 0 0, .slice none 0 0] 31)).trans hraw; clear hraw; clear hk4; have ha := HBa.out.keeps hq (fun h => h); clear HBa; have HBa := Lib.hid ha; have a0 := ha.cell 0; have a1 := ha.cell 1; have a2 := ha.cell 2; have a3 := ha.cell 3; have a4 := ha.cell 4; have a5 := ha.cell 5; have a6 := ha.cell 6; simp at a0 a1 a2 a3 a4 a5 a6; have za := ha.lt; clear ha; have hb := HBb.out.keeps hq (fun h => h); clear HBb; have HBb := Lib.hid hb; have b0 := hb.cell 0; have b1 := hb.cell 1; have b2 := hb.cell 2; have b3 := hb.cell 3; have b4 := hb.cell 4; have b5 := hb.cell 5; have b6 := hb.cell 6; simp at b0 b1 b2 b3 b4 b5 b6; have zb := hb.lt; clear hb; have hb := HBv9.out; have v90 := hb.cell 0; have v91 := hb.cell 1; have v92 := hb.cell 2; have v93 := hb.cell 3; have v94 := hb.cell 4; have v95 := hb.cell 5; have v96 := hb.cell 6; have f90 := hb.frozen 0; have f91 := hb.frozen 1; have f92 := hb.frozen 2; have f93 := hb.frozen 3; have f94 := hb.frozen 4; have f95 := hb.frozen 5; have f96 := hb.frozen 6; simp at v90 v91 v92 v93 v94 v95 v96; have z9 := hb.lt; clear hb; have hp9 := HP.out.kept hq; clear HP; have HP := Lib.hid hp9; have HQ := Lib.hid (ht9.at_ k1 k2 k3 k4); clear hp9 ht9; have hq9 := HQ9.out.trans hq; clear HQ9; have HQ9 := Lib.hid hq9; clear hq9; have hh9 := HK.out.trans hq; clear HK; have HK := Lib.hid hh9; clear hh9; have sz4 := hq.size; (try simp at sz4); clear hq; have : ¬ w.heap.size = w3.heap.size := (by omega); have : ¬ w3.heap.size = w.heap.size := (by omega); have : ¬ w.heap.size + 1 = w3.heap.size := (by omega); have : ¬ w3.heap.size = w.heap.size + 1 := (by omega)))
        all_goals go_wp2_with fail
        all_goals go_meet
        all_goals first | (have _t := TKv; have KA := (Keeps.refl noBlk w5).alloc (.cells #[.int .i64 z.way, .int .i64 z.ver, .int .i64 z.want, .slice V1 z.sent.length vc1, .slice V2 z.live.length vc2, .slice V3 z.back.length vc3, .slice V4 z.got.length vc4] 31); exact ⟨w5.heap.size, _, _, _, _, _, _, _, _, rfl, rfl, Box.new w5 _ rfl 31 #[.int .i64 z.way, .int .i64 z.ver, .int .i64 z.want, .slice V1 z.sent.length vc1, .slice V2 z.live.length vc2, .slice V3 z.back.length vc3, .slice V4 z.got.length vc4], HV9.out.kept KA, by omega, HQ9.out.trans KA, HK.out.trans KA, HBa.out.keeps KA (fun h => h), HBb.out.keeps KA (fun h => h)⟩) | (have _t := TKh0; have hb9 := (((((((HBv9.out.set_ 0 (.int .i64 z.way)).set_ 1 (.int .i64 z.ver)).set_ 2 (.int .i64 z.want)).set_ 3 (.slice V1 z.sent.length vc1)).set_ 4 (.slice V2 z.live.length vc2)).set_ 5 (.slice V3 z.back.length vc3)).set_ 6 (.slice V4 z.got.length vc4)); simp at hb9; have KA := ((((((((Keeps.refl (one w2.heap.size) w5).set1 0 (.int .i64 z.way)).set1 1 (.int .i64 z.ver)).set1 2 (.int .i64 z.want)).set1 3 (.slice V1 z.sent.length vc1)).set1 4 (.slice V2 z.live.length vc2)).set1 5 (.slice V3 z.back.length vc3)).set1 6 (.slice V4 z.got.length vc4)); exact ⟨w2.heap.size, _, _, _, _, _, _, _, _, rfl, rfl, hb9, HV9.out.keeps KA (fun b hb e => by have e' : b = w2.heap.size := e; have := HVG.out b hb; omega), by omega, (((((((HQ9.out.new (g := w2.heap.size) (by omega) _ _).new (g := w2.heap.size) (by omega) _ _).new (g := w2.heap.size) (by omega) _ _).new (g := w2.heap.size) (by omega) _ _).new (g := w2.heap.size) (by omega) _ _).new (g := w2.heap.size) (by omega) _ _).new (g := w2.heap.size) (by omega) _ _), (((((((HK.out.new (g := w2.heap.size) (by omega) _ _).new (g := w2.heap.size) (by omega) _ _).new (g := w2.heap.size) (by omega) _ _).new (g := w2.heap.size) (by omega) _ _).new (g := w2.heap.size) (by omega) _ _).new (g := w2.heap.size) (by omega) _ _).new (g := w2.heap.size) (by omega) _ _), HBa.out.keeps KA (fun e => by have e' : w.heap.size = w2.heap.size := e; omega), HBb.out.keeps KA (fun e => by have e' : w.heap.size + 1 = w2.heap.size := e; omega)⟩) | (have _t := TKh1; have hb9 := (((((((HBv9.out.set_ 0 (.int .i64 z.way)).set_ 1 (.int .i64 z.ver)).set_ 2 (.int .i64 z.want)).set_ 3 (.slice V1 z.sent.length vc1)).set_ 4 (.slice V2 z.live.length vc2)).set_ 5 (.slice V3 z.back.length vc3)).set_ 6 (.slice V4 z.got.length vc4)); simp at hb9; have KA := ((((((((Keeps.refl (one w3.heap.size) w5).set1 0 (.int .i64 z.way)).set1 1 (.int .i64 z.ver)).set1 2 (.int .i64 z.want)).set1 3 (.slice V1 z.sent.length vc1)).set1 4 (.slice V2 z.live.length vc2)).set1 5 (.slice V3 z.back.length vc3)).set1 6 (.slice V4 z.got.length vc4)); exact ⟨w3.heap.size, _, _, _, _, _, _, _, _, rfl, rfl, hb9, HV9.out.keeps KA (fun b hb e => by have e' : b = w3.heap.size := e; have := HVG.out b hb; omega), by omega, (((((((HQ9.out.new (g := w3.heap.size) (by omega) _ _).new (g := w3.heap.size) (by omega) _ _).new (g := w3.heap.size) (by omega) _ _).new (g := w3.heap.size) (by omega) _ _).new (g := w3.heap.size) (by omega) _ _).new (g := w3.heap.size) (by omega) _ _).new (g := w3.heap.size) (by omega) _ _), (((((((HK.out.new (g := w3.heap.size) (by omega) _ _).new (g := w3.heap.size) (by omega) _ _).new (g := w3.heap.size) (by omega) _ _).new (g := w3.heap.size) (by omega) _ _).new (g := w3.heap.size) (by omega) _ _).new (g := w3.heap.size) (by omega) _ _).new (g := w3.heap.size) (by omega) _ _), HBa.out.keeps KA (fun e => by have e' : w.heap.size = w3.heap.size := e; omega), HBb.out.keeps KA (fun e => by have e' : w.heap.size + 1 = w3.heap.size := e; omega)⟩) | (have _t := TKh2; have hb9 := (((((((HBv9.out.set_ 0 (.int .i64 z.way)).set_ 1 (.int .i64 z.ver)).set_ 2 (.int .i64 z.want)).set_ 3 (.slice V1 z.sent.length vc1)).set_ 4 (.slice V2 z.live.length vc2)).set_ 5 (.slice V3 z.back.length vc3)).set_ 6 (.slice V4 z.got.length vc4)); simp at hb9; have KA := ((((((((Keeps.refl (one w4.heap.size) w5).set1 0 (.int .i64 z.way)).set1 1 (.int .i64 z.ver)).set1 2 (.int .i64 z.want)).set1 3 (.slice V1 z.sent.length vc1)).set1 4 (.slice V2 z.live.length vc2)).set1 5 (.slice V3 z.back.length vc3)).set1 6 (.slice V4 z.got.length vc4)); exact ⟨w4.heap.size, _, _, _, _, _, _, _, _, rfl, rfl, hb9, HV9.out.keeps KA (fun b hb e => by have e' : b = w4.heap.size := e; have := HVG.out b hb; omega), by omega, (((((((HQ9.out.new (g := w4.heap.size) (by omega) _ _).new (g := w4.heap.size) (by omega) _ _).new (g := w4.heap.size) (by omega) _ _).new (g := w4.heap.size) (by omega) _ _).new (g := w4.heap.size) (by omega) _ _).new (g := w4.heap.size) (by omega) _ _).new (g := w4.heap.size) (by omega) _ _), (((((((HK.out.new (g := w4.heap.size) (by omega) _ _).new (g := w4.heap.size) (by omega) _ _).new (g := w4.heap.size) (by omega) _ _).new (g := w4.heap.size) (by omega) _ _).new (g := w4.heap.size) (by omega) _ _).new (g := w4.heap.size) (by omega) _ _).new (g := w4.heap.size) (by omega) _ _), HBa.out.keeps KA (fun e => by have e' : w.heap.size = w4.heap.size := e; omega), HBb.out.keeps KA (fun e => by have e' : w.heap.size + 1 = w4.heap.size := e; omega)⟩)
      case rest =>
      obtain ⟨gv, V1, V2, V3, V4, vc1, vc2, vc3, vc4, rfl, rfl, hbv, hv0, hgv, hq0, hk0, hba, hbb⟩ := hcut
      clear HBa HBb HK
      have HBv := Lib.hid hbv
      clear hbv
      have HBa := Lib.hid hba
      clear hba
      have HBb := Lib.hid hbb
      clear hbb
      have hgl := HBv.out.lt
      have HK := Lib.hid hk0
      have sq0 := hq0.size
      have HV := Lib.hid hv0
      have HVL := Lib.hid (fun b (h : stBlk z V1 V2 V3 V4 b) => hv0.lt h)
      clear hk0 hv0 hq0
      have hb := HBa.out
      have a0 := hb.cell 0
      have a1 := hb.cell 1
      have a2 := hb.cell 2
      have a3 := hb.cell 3
      have a4 := hb.cell 4
      have a5 := hb.cell 5
      have a6 := hb.cell 6
      simp at a0 a1 a2 a3 a4 a5 a6
      have za := hb.lt
      clear hb
      have hb := HBb.out
      have b0 := hb.cell 0
      have b1 := hb.cell 1
      have b2 := hb.cell 2
      have b3 := hb.cell 3
      have b4 := hb.cell 4
      have b5 := hb.cell 5
      have b6 := hb.cell 6
      simp at b0 b1 b2 b3 b4 b5 b6
      have zb := hb.lt
      clear hb
      go_wp2_with fail
      refine (HTO.out _ HK.out).mono ?_
      rintro e w4 ⟨C1, C2, C3, C4, rfl, ht9, hk4⟩
      unfold stV
      have HC := Lib.hid (ht9.at_ m1 m2 m3 m4)
      have HLC := Lib.hid (fun b (h : stBlk x C1 C2 C3 C4 b) => And.intro (ht9.ge h) (ht9.lt h))
      have HOC := Lib.hid ht9
      clear ht9
      clear a0 a1 a2 a3 a4 a5 a6 b0 b1 b2 b3 b4 b5 b6 za zb
      have ha := HBa.out.keeps hk4 (fun h => h)
      clear HBa
      have HBa := Lib.hid ha
      clear ha
      have hb := HBb.out.keeps hk4 (fun h => h)
      clear HBb
      have HBb := Lib.hid hb
      clear hb
      have hv := HBv.out.keeps hk4 (fun h => h)
      clear HBv
      have HBv := Lib.hid hv
      clear hv
      have hr := (HV.out).kept hk4
      clear HV
      have HV := Lib.hid hr
      clear hr
      have hr := HK.out.trans hk4
      clear HK
      have HK := Lib.hid hr
      clear hr
      have sz4 := hk4.size
      (try simp at sz4)
      clear hk4
      have hb := HBb.out
      have b0 := hb.cell 0
      have b1 := hb.cell 1
      have b2 := hb.cell 2
      have b3 := hb.cell 3
      have b4 := hb.cell 4
      have b5 := hb.cell 5
      have b6 := hb.cell 6
      simp at b0 b1 b2 b3 b4 b5 b6
      have zb := hb.lt
      clear hb
      have ha := HBa.out.alloc (.cells #[.int .i64 x.way, .int .i64 x.ver, .int .i64 x.want, .slice C1 x.sent.length x.sent.length, .slice C2 x.live.length x.live.length, .slice C3 x.back.length x.back.length, .slice C4 x.got.length x.got.length] 31)
      clear HBa
      have HBa := Lib.hid ha
      clear ha
      have hb := HBb.out.alloc (.cells #[.int .i64 x.way, .int .i64 x.ver, .int .i64 x.want, .slice C1 x.sent.length x.sent.length, .slice C2 x.live.length x.live.length, .slice C3 x.back.length x.back.length, .slice C4 x.got.length x.got.length] 31)
      clear HBb
      have HBb := Lib.hid hb
      clear hb
      have hv := HBv.out.alloc (.cells #[.int .i64 x.way, .int .i64 x.ver, .int .i64 x.want, .slice C1 x.sent.length x.sent.length, .slice C2 x.live.length x.live.length, .slice C3 x.back.length x.back.length, .slice C4 x.got.length x.got.length] 31)
      clear HBv
      have HBv := Lib.hid hv
      clear hv
      have hr := (HV.out).kept ((Keeps.refl noBlk w4).alloc (.cells #[.int .i64 x.way, .int .i64 x.ver, .int .i64 x.want, .slice C1 x.sent.length x.sent.length, .slice C2 x.live.length x.live.length, .slice C3 x.back.length x.back.length, .slice C4 x.got.length x.got.length] 31))
      clear HV
      have HV := Lib.hid hr
      clear hr
      have hr := (HC.out).kept ((Keeps.refl noBlk w4).alloc (.cells #[.int .i64 x.way, .int .i64 x.ver, .int .i64 x.want, .slice C1 x.sent.length x.sent.length, .slice C2 x.live.length x.live.length, .slice C3 x.back.length x.back.length, .slice C4 x.got.length x.got.length] 31))
      clear HC
      have HC := Lib.hid hr
      clear hr
      have hr := (HOC.out).kept ((Keeps.refl noBlk w4).alloc (.cells #[.int .i64 x.way, .int .i64 x.ver, .int .i64 x.want, .slice C1 x.sent.length x.sent.length, .slice C2 x.live.length x.live.length, .slice C3 x.back.length x.back.length, .slice C4 x.got.length x.got.length] 31))
      clear HOC
      have HOC := Lib.hid hr
      clear hr
      have hr := HK.out.alloc (.cells #[.int .i64 x.way, .int .i64 x.ver, .int .i64 x.want, .slice C1 x.sent.length x.sent.length, .slice C2 x.live.length x.live.length, .slice C3 x.back.length x.back.length, .slice C4 x.got.length x.got.length] 31)
      clear HK
      have HK := Lib.hid hr
      clear hr
      have HBx := Lib.hid (Box.new w4 _ rfl 31 #[.int .i64 x.way, .int .i64 x.ver, .int .i64 x.want, .slice C1 x.sent.length x.sent.length, .slice C2 x.live.length x.live.length, .slice C3 x.back.length x.back.length, .slice C4 x.got.length x.got.length])
      go_wp2_with fail
      refine (HTY.out _ HK.out).mono ?_
      rintro e w5 ⟨D1, D2, D3, D4, rfl, ht9, hk5⟩
      unfold stV
      have HD := Lib.hid (ht9.at_ k1 k2 k3 k4)
      have HLD := Lib.hid (fun b (h : stBlk y D1 D2 D3 D4 b) => And.intro (ht9.ge h) (ht9.lt h))
      have HOD := Lib.hid ht9
      clear ht9
      clear b0 b1 b2 b3 b4 b5 b6 zb
      have ha := HBa.out.keeps hk5 (fun h => h)
      clear HBa
      have HBa := Lib.hid ha
      clear ha
      have hb := HBb.out.keeps hk5 (fun h => h)
      clear HBb
      have HBb := Lib.hid hb
      clear hb
      have hv := HBv.out.keeps hk5 (fun h => h)
      clear HBv
      have HBv := Lib.hid hv
      clear hv
      have hx := HBx.out.keeps hk5 (fun h => h)
      clear HBx
      have HBx := Lib.hid hx
      clear hx
      have hr := (HV.out).kept hk5
      clear HV
      have HV := Lib.hid hr
      clear hr
      have hr := (HC.out).kept hk5
      clear HC
      have HC := Lib.hid hr
      clear hr
      have hr := (HOC.out).kept hk5
      clear HOC
      have HOC := Lib.hid hr
      clear hr
      have hr := HK.out.trans hk5
      clear HK
      have HK := Lib.hid hr
      clear hr
      have sz5 := hk5.size
      (try simp at sz5)
      clear hk5
      have hb := HBx.out
      have x0 := hb.cell 0
      have x1 := hb.cell 1
      have x2 := hb.cell 2
      have x3 := hb.cell 3
      have x4 := hb.cell 4
      have x5 := hb.cell 5
      have x6 := hb.cell 6
      simp at x0 x1 x2 x3 x4 x5 x6
      have zx := hb.lt
      clear hb
      have hsC := HLD
      clear hsC
      have ha := HBa.out.alloc (.cells #[.int .i64 y.way, .int .i64 y.ver, .int .i64 y.want, .slice D1 y.sent.length y.sent.length, .slice D2 y.live.length y.live.length, .slice D3 y.back.length y.back.length, .slice D4 y.got.length y.got.length] 31)
      clear HBa
      have HBa := Lib.hid ha
      clear ha
      have hb := HBb.out.alloc (.cells #[.int .i64 y.way, .int .i64 y.ver, .int .i64 y.want, .slice D1 y.sent.length y.sent.length, .slice D2 y.live.length y.live.length, .slice D3 y.back.length y.back.length, .slice D4 y.got.length y.got.length] 31)
      clear HBb
      have HBb := Lib.hid hb
      clear hb
      have hv := HBv.out.alloc (.cells #[.int .i64 y.way, .int .i64 y.ver, .int .i64 y.want, .slice D1 y.sent.length y.sent.length, .slice D2 y.live.length y.live.length, .slice D3 y.back.length y.back.length, .slice D4 y.got.length y.got.length] 31)
      clear HBv
      have HBv := Lib.hid hv
      clear hv
      have hx := HBx.out.alloc (.cells #[.int .i64 y.way, .int .i64 y.ver, .int .i64 y.want, .slice D1 y.sent.length y.sent.length, .slice D2 y.live.length y.live.length, .slice D3 y.back.length y.back.length, .slice D4 y.got.length y.got.length] 31)
      clear HBx
      have HBx := Lib.hid hx
      clear hx
      have hr := (HV.out).kept ((Keeps.refl noBlk w5).alloc (.cells #[.int .i64 y.way, .int .i64 y.ver, .int .i64 y.want, .slice D1 y.sent.length y.sent.length, .slice D2 y.live.length y.live.length, .slice D3 y.back.length y.back.length, .slice D4 y.got.length y.got.length] 31))
      clear HV
      have HV := Lib.hid hr
      clear hr
      have hr := (HC.out).kept ((Keeps.refl noBlk w5).alloc (.cells #[.int .i64 y.way, .int .i64 y.ver, .int .i64 y.want, .slice D1 y.sent.length y.sent.length, .slice D2 y.live.length y.live.length, .slice D3 y.back.length y.back.length, .slice D4 y.got.length y.got.length] 31))
      clear HC
      have HC := Lib.hid hr
      clear hr
      have hr := (HOC.out).kept ((Keeps.refl noBlk w5).alloc (.cells #[.int .i64 y.way, .int .i64 y.ver, .int .i64 y.want, .slice D1 y.sent.length y.sent.length, .slice D2 y.live.length y.live.length, .slice D3 y.back.length y.back.length, .slice D4 y.got.length y.got.length] 31))
      clear HOC
      have HOC := Lib.hid hr
      clear hr
      have hr := (HD.out).kept ((Keeps.refl noBlk w5).alloc (.cells #[.int .i64 y.way, .int .i64 y.ver, .int .i64 y.want, .slice D1 y.sent.length y.sent.length, .slice D2 y.live.length y.live.length, .slice D3 y.back.length y.back.length, .slice D4 y.got.length y.got.length] 31))
      clear HD
      have HD := Lib.hid hr
      clear hr
      have hr := (HOD.out).kept ((Keeps.refl noBlk w5).alloc (.cells #[.int .i64 y.way, .int .i64 y.ver, .int .i64 y.want, .slice D1 y.sent.length y.sent.length, .slice D2 y.live.length y.live.length, .slice D3 y.back.length y.back.length, .slice D4 y.got.length y.got.length] 31))
      clear HOD
      have HOD := Lib.hid hr
      clear hr
      have hr := HK.out.alloc (.cells #[.int .i64 y.way, .int .i64 y.ver, .int .i64 y.want, .slice D1 y.sent.length y.sent.length, .slice D2 y.live.length y.live.length, .slice D3 y.back.length y.back.length, .slice D4 y.got.length y.got.length] 31)
      clear HK
      have HK := Lib.hid hr
      clear hr
      have HBy := Lib.hid (Box.new w5 _ rfl 31 #[.int .i64 y.way, .int .i64 y.ver, .int .i64 y.want, .slice D1 y.sent.length y.sent.length, .slice D2 y.live.length y.live.length, .slice D3 y.back.length y.back.length, .slice D4 y.got.length y.got.length])
      go_wp2_with fail
      refine (HIM.out _ C1 C2 C3 C4 D1 D2 D3 D4 _ _ _ _ _ _ _ _ HC.out HD.out (HT.out.keeps HK.out)).mono ?_
      rintro e w6 ⟨G1, G2, G3, G4, gc1, gc2, gc3, gc4, rfl, hg0, hg1, hk6⟩
      have HG := Lib.hid hg1
      have HOG := Lib.hid hg0
      have HGE := Lib.hid (fun b (h : stBlk z G1 G2 G3 G4 b) => And.intro (hg0.ge h) (hg0.lt h))
      (try simp at HGE)
      clear hg0 hg1
      clear x0 x1 x2 x3 x4 x5 x6 zx
      have ha := HBa.out.keeps hk6 (fun h => h)
      clear HBa
      have HBa := Lib.hid ha
      clear ha
      have hb := HBb.out.keeps hk6 (fun h => h)
      clear HBb
      have HBb := Lib.hid hb
      clear hb
      have hv := HBv.out.keeps hk6 (fun h => h)
      clear HBv
      have HBv := Lib.hid hv
      clear hv
      have hx := HBx.out.keeps hk6 (fun h => h)
      clear HBx
      have HBx := Lib.hid hx
      clear hx
      have hy := HBy.out.keeps hk6 (fun h => h)
      clear HBy
      have HBy := Lib.hid hy
      clear hy
      have hr := (HV.out).kept hk6
      clear HV
      have HV := Lib.hid hr
      clear hr
      have hr := (HC.out).kept hk6
      clear HC
      have HC := Lib.hid hr
      clear hr
      have hr := (HOC.out).kept hk6
      clear HOC
      have HOC := Lib.hid hr
      clear hr
      have hr := (HD.out).kept hk6
      clear HD
      have HD := Lib.hid hr
      clear hr
      have hr := (HOD.out).kept hk6
      clear HOD
      have HOD := Lib.hid hr
      clear hr
      have hr := HK.out.trans hk6
      clear HK
      have HK := Lib.hid hr
      clear hr
      have sz6 := hk6.size
      (try simp at sz6)
      clear hk6
      have hb := HBv.out
      have v0 := hb.cell 0
      have v1 := hb.cell 1
      have v2 := hb.cell 2
      have v3 := hb.cell 3
      have v4 := hb.cell 4
      have v5 := hb.cell 5
      have v6 := hb.cell 6
      simp at v0 v1 v2 v3 v4 v5 v6
      have zv := hb.lt
      clear hb
      have ha := HBa.out.alloc (.cells #[.int .i64 z.way, .int .i64 z.ver, .int .i64 z.want, .slice G1 z.sent.length gc1, .slice G2 z.live.length gc2, .slice G3 z.back.length gc3, .slice G4 z.got.length gc4] 31)
      clear HBa
      have HBa := Lib.hid ha
      clear ha
      have hb := HBb.out.alloc (.cells #[.int .i64 z.way, .int .i64 z.ver, .int .i64 z.want, .slice G1 z.sent.length gc1, .slice G2 z.live.length gc2, .slice G3 z.back.length gc3, .slice G4 z.got.length gc4] 31)
      clear HBb
      have HBb := Lib.hid hb
      clear hb
      have hv := HBv.out.alloc (.cells #[.int .i64 z.way, .int .i64 z.ver, .int .i64 z.want, .slice G1 z.sent.length gc1, .slice G2 z.live.length gc2, .slice G3 z.back.length gc3, .slice G4 z.got.length gc4] 31)
      clear HBv
      have HBv := Lib.hid hv
      clear hv
      have hx := HBx.out.alloc (.cells #[.int .i64 z.way, .int .i64 z.ver, .int .i64 z.want, .slice G1 z.sent.length gc1, .slice G2 z.live.length gc2, .slice G3 z.back.length gc3, .slice G4 z.got.length gc4] 31)
      clear HBx
      have HBx := Lib.hid hx
      clear hx
      have hy := HBy.out.alloc (.cells #[.int .i64 z.way, .int .i64 z.ver, .int .i64 z.want, .slice G1 z.sent.length gc1, .slice G2 z.live.length gc2, .slice G3 z.back.length gc3, .slice G4 z.got.length gc4] 31)
      clear HBy
      have HBy := Lib.hid hy
      clear hy
      have hr := (HV.out).kept ((Keeps.refl noBlk w6).alloc (.cells #[.int .i64 z.way, .int .i64 z.ver, .int .i64 z.want, .slice G1 z.sent.length gc1, .slice G2 z.live.length gc2, .slice G3 z.back.length gc3, .slice G4 z.got.length gc4] 31))
      clear HV
      have HV := Lib.hid hr
      clear hr
      have hr := (HC.out).kept ((Keeps.refl noBlk w6).alloc (.cells #[.int .i64 z.way, .int .i64 z.ver, .int .i64 z.want, .slice G1 z.sent.length gc1, .slice G2 z.live.length gc2, .slice G3 z.back.length gc3, .slice G4 z.got.length gc4] 31))
      clear HC
      have HC := Lib.hid hr
      clear hr
      have hr := (HOC.out).kept ((Keeps.refl noBlk w6).alloc (.cells #[.int .i64 z.way, .int .i64 z.ver, .int .i64 z.want, .slice G1 z.sent.length gc1, .slice G2 z.live.length gc2, .slice G3 z.back.length gc3, .slice G4 z.got.length gc4] 31))
      clear HOC
      have HOC := Lib.hid hr
      clear hr
      have hr := (HD.out).kept ((Keeps.refl noBlk w6).alloc (.cells #[.int .i64 z.way, .int .i64 z.ver, .int .i64 z.want, .slice G1 z.sent.length gc1, .slice G2 z.live.length gc2, .slice G3 z.back.length gc3, .slice G4 z.got.length gc4] 31))
      clear HD
      have HD := Lib.hid hr
      clear hr
      have hr := (HOD.out).kept ((Keeps.refl noBlk w6).alloc (.cells #[.int .i64 z.way, .int .i64 z.ver, .int .i64 z.want, .slice G1 z.sent.length gc1, .slice G2 z.live.length gc2, .slice G3 z.back.length gc3, .slice G4 z.got.length gc4] 31))
      clear HOD
      have HOD := Lib.hid hr
      clear hr
      have hr := (HG.out).kept ((Keeps.refl noBlk w6).alloc (.cells #[.int .i64 z.way, .int .i64 z.ver, .int .i64 z.want, .slice G1 z.sent.length gc1, .slice G2 z.live.length gc2, .slice G3 z.back.length gc3, .slice G4 z.got.length gc4] 31))
      clear HG
      have HG := Lib.hid hr
      clear hr
      have hr := (HOG.out).kept ((Keeps.refl noBlk w6).alloc (.cells #[.int .i64 z.way, .int .i64 z.ver, .int .i64 z.want, .slice G1 z.sent.length gc1, .slice G2 z.live.length gc2, .slice G3 z.back.length gc3, .slice G4 z.got.length gc4] 31))
      clear HOG
      have HOG := Lib.hid hr
      clear hr
      have hr := HK.out.alloc (.cells #[.int .i64 z.way, .int .i64 z.ver, .int .i64 z.want, .slice G1 z.sent.length gc1, .slice G2 z.live.length gc2, .slice G3 z.back.length gc3, .slice G4 z.got.length gc4] 31)
      clear HK
      have HK := Lib.hid hr
      clear hr
      have HBg := Lib.hid (Box.new w6 _ rfl 31 #[.int .i64 z.way, .int .i64 z.ver, .int .i64 z.want, .slice G1 z.sent.length gc1, .slice G2 z.live.length gc2, .slice G3 z.back.length gc3, .slice G4 z.got.length gc4])
      go_wp2_with fail
      refine (eqState_same z G1 G2 G3 G4 V1 V2 V3 V4 _ _ _ _ _ _ _ _ _ HG.out HV.out).mono ?_
      rintro e w7 ⟨rfl, hk7⟩
      clear v0 v1 v2 v3 v4 v5 v6 zv
      have ha := HBa.out.keeps hk7 (fun h => h)
      clear HBa
      have HBa := Lib.hid ha
      clear ha
      have hb := HBb.out.keeps hk7 (fun h => h)
      clear HBb
      have HBb := Lib.hid hb
      clear hb
      have hv := HBv.out.keeps hk7 (fun h => h)
      clear HBv
      have HBv := Lib.hid hv
      clear hv
      have hx := HBx.out.keeps hk7 (fun h => h)
      clear HBx
      have HBx := Lib.hid hx
      clear hx
      have hy := HBy.out.keeps hk7 (fun h => h)
      clear HBy
      have HBy := Lib.hid hy
      clear hy
      have hg := HBg.out.keeps hk7 (fun h => h)
      clear HBg
      have HBg := Lib.hid hg
      clear hg
      have hr := (HV.out).kept hk7
      clear HV
      have HV := Lib.hid hr
      clear hr
      have hr := (HC.out).kept hk7
      clear HC
      have HC := Lib.hid hr
      clear hr
      have hr := (HOC.out).kept hk7
      clear HOC
      have HOC := Lib.hid hr
      clear hr
      have hr := (HD.out).kept hk7
      clear HD
      have HD := Lib.hid hr
      clear hr
      have hr := (HOD.out).kept hk7
      clear HOD
      have HOD := Lib.hid hr
      clear hr
      have hr := (HG.out).kept hk7
      clear HG
      have HG := Lib.hid hr
      clear hr
      have hr := (HOG.out).kept hk7
      clear HOG
      have HOG := Lib.hid hr
      clear hr
      have hr := HK.out.trans hk7
      clear HK
      have HK := Lib.hid hr
      clear hr
      have sz7 := hk7.size
      (try simp at sz7)
      clear hk7
      have hoo : (o != o) = false := by simp
      have hb := HBa.out
      have a0 := hb.cell 0
      have a1 := hb.cell 1
      have a2 := hb.cell 2
      have a3 := hb.cell 3
      have a4 := hb.cell 4
      have a5 := hb.cell 5
      have a6 := hb.cell 6
      simp at a0 a1 a2 a3 a4 a5 a6
      have za := hb.lt
      clear hb
      have hb := HBx.out
      have x0 := hb.cell 0
      have x1 := hb.cell 1
      have x2 := hb.cell 2
      have x3 := hb.cell 3
      have x4 := hb.cell 4
      have x5 := hb.cell 5
      have x6 := hb.cell 6
      simp at x0 x1 x2 x3 x4 x5 x6
      have zx := hb.lt
      clear hb
      go_wp2_with fail
      go_region_held3 (fun w' => w'.cell? ⟨w4.heap.size, 0, none⟩ = some (.int .i64 x.way) ∧ w'.cell? ⟨w4.heap.size, 1, none⟩ = some (.int .i64 x.ver) ∧ w'.cell? ⟨w4.heap.size, 2, none⟩ = some (.int .i64 x.want) ∧ w'.cell? ⟨w4.heap.size, 3, none⟩ = some (.slice C1 x.sent.length x.sent.length) ∧ w'.cell? ⟨w4.heap.size, 4, none⟩ = some (.slice C2 x.live.length x.live.length) ∧ w'.cell? ⟨w4.heap.size, 5, none⟩ = some (.slice C3 x.back.length x.back.length) ∧ w'.cell? ⟨w4.heap.size, 6, none⟩ = some (.slice C4 x.got.length x.got.length) ∧ w'.cell? ⟨w.heap.size, 0, none⟩ = some (.int .i64 x.way) ∧ w'.cell? ⟨w.heap.size, 1, none⟩ = some (.int .i64 x.ver) ∧ w'.cell? ⟨w.heap.size, 2, none⟩ = some (.int .i64 x.want) ∧ w'.cell? ⟨w.heap.size, 3, none⟩ = some (.slice A1 x.sent.length c1) ∧ w'.cell? ⟨w.heap.size, 4, none⟩ = some (.slice A2 x.live.length c2) ∧ w'.cell? ⟨w.heap.size, 5, none⟩ = some (.slice A3 x.back.length c3) ∧ w'.cell? ⟨w.heap.size, 6, none⟩ = some (.slice A4 x.got.length c4))
        (((try dsimp only); (repeat' apply And.intro) <;> (first | with_reducible assumption | (go_keep; done))))
        (first | (go_at_call 14; refine (HTO.out _ (HK.out.drewN 1)).mono ?_; rintro e w8 ⟨M1, M2, M3, M4, rfl, ht9, hk8⟩; have hq := ((Keeps.refl noBlk w7).drewN 1).trans hk8; clear hk8; have hk8 := hq; clear hq; unfold stV; have HD9 := Lib.hid (ht9.at_ m1 m2 m3 m4); clear ht9; clear a0 a1 a2 a3 a4 a5 a6 x0 x1 x2 x3 x4 x5 x6 za zx; have ha := HBa.out.keeps hk8 (fun h => h); clear HBa; have HBa := Lib.hid ha; clear ha; have hb := HBb.out.keeps hk8 (fun h => h); clear HBb; have HBb := Lib.hid hb; clear hb; have hv := HBv.out.keeps hk8 (fun h => h); clear HBv; have HBv := Lib.hid hv; clear hv; have hx := HBx.out.keeps hk8 (fun h => h); clear HBx; have HBx := Lib.hid hx; clear hx; have hy := HBy.out.keeps hk8 (fun h => h); clear HBy; have HBy := Lib.hid hy; clear hy; have hg := HBg.out.keeps hk8 (fun h => h); clear HBg; have HBg := Lib.hid hg; clear hg; have hr := (HV.out).kept hk8; clear HV; have HV := Lib.hid hr; clear hr; have hr := (HC.out).kept hk8; clear HC; have HC := Lib.hid hr; clear hr; have hr := (HOC.out).kept hk8; clear HOC; have HOC := Lib.hid hr; clear hr; have hr := (HD.out).kept hk8; clear HD; have HD := Lib.hid hr; clear hr; have hr := (HOD.out).kept hk8; clear HOD; have HOD := Lib.hid hr; clear hr; have hr := (HG.out).kept hk8; clear HG; have HG := Lib.hid hr; clear hr; have hr := (HOG.out).kept hk8; clear HOG; have HOG := Lib.hid hr; clear hr; have hr := HK.out.trans hk8; clear HK; have HK := Lib.hid hr; clear hr; have sz8 := hk8.size; (try simp at sz8); clear hk8; have hb := HBx.out; have x0 := hb.cell 0; have x1 := hb.cell 1; have x2 := hb.cell 2; have x3 := hb.cell 3; have x4 := hb.cell 4; have x5 := hb.cell 5; have x6 := hb.cell 6; simp at x0 x1 x2 x3 x4 x5 x6; have zx := hb.lt; clear hb; have hb := HBa.out; have a0 := hb.cell 0; have a1 := hb.cell 1; have a2 := hb.cell 2; have a3 := hb.cell 3; have a4 := hb.cell 4; have a5 := hb.cell 5; have a6 := hb.cell 6; simp at a0 a1 a2 a3 a4 a5 a6; have za := hb.lt; clear hb) | (go_at_call 16; refine (eqState_same x C1 C2 C3 C4 M1 M2 M3 M4 _ _ _ _ _ _ _ _ _ HC.out HD9.out).mono ?_; rintro e w9 ⟨rfl, hk9⟩; clear x0 x1 x2 x3 x4 x5 x6 a0 a1 a2 a3 a4 a5 a6 zx za; have ha := HBa.out.keeps hk9 (fun h => h); clear HBa; have HBa := Lib.hid ha; clear ha; have hb := HBb.out.keeps hk9 (fun h => h); clear HBb; have HBb := Lib.hid hb; clear hb; have hv := HBv.out.keeps hk9 (fun h => h); clear HBv; have HBv := Lib.hid hv; clear hv; have hx := HBx.out.keeps hk9 (fun h => h); clear HBx; have HBx := Lib.hid hx; clear hx; have hy := HBy.out.keeps hk9 (fun h => h); clear HBy; have HBy := Lib.hid hy; clear hy; have hg := HBg.out.keeps hk9 (fun h => h); clear HBg; have HBg := Lib.hid hg; clear hg; have hr := (HV.out).kept hk9; clear HV; have HV := Lib.hid hr; clear hr; have hr := (HC.out).kept hk9; clear HC; have HC := Lib.hid hr; clear hr; have hr := (HOC.out).kept hk9; clear HOC; have HOC := Lib.hid hr; clear hr; have hr := (HD.out).kept hk9; clear HD; have HD := Lib.hid hr; clear hr; have hr := (HOD.out).kept hk9; clear HOD; have HOD := Lib.hid hr; clear hr; have hr := (HG.out).kept hk9; clear HG; have HG := Lib.hid hr; clear hr; have hr := (HOG.out).kept hk9; clear HOG; have HOG := Lib.hid hr; clear hr; have hr := (HD9.out).kept hk9; clear HD9; have HD9 := Lib.hid hr; clear hr; have hr := HK.out.trans hk9; clear HK; have HK := Lib.hid hr; clear hr; have sz9 := hk9.size; (try simp at sz9); clear hk9; have hb := HBx.out; have x0 := hb.cell 0; have x1 := hb.cell 1; have x2 := hb.cell 2; have x3 := hb.cell 3; have x4 := hb.cell 4; have x5 := hb.cell 5; have x6 := hb.cell 6; simp at x0 x1 x2 x3 x4 x5 x6; have zx := hb.lt; clear hb; have hb := HBa.out; have a0 := hb.cell 0; have a1 := hb.cell 1; have a2 := hb.cell 2; have a3 := hb.cell 3; have a4 := hb.cell 4; have a5 := hb.cell 5; have a6 := hb.cell 6; simp at a0 a1 a2 a3 a4 a5 a6; have za := hb.lt; clear hb))
      clear HD9
      clear x0 x1 x2 x3 x4 x5 x6 a0 a1 a2 a3 a4 a5 a6 zx za
      have hb := HBb.out
      have b0 := hb.cell 0
      have b1 := hb.cell 1
      have b2 := hb.cell 2
      have b3 := hb.cell 3
      have b4 := hb.cell 4
      have b5 := hb.cell 5
      have b6 := hb.cell 6
      simp at b0 b1 b2 b3 b4 b5 b6
      have zb := hb.lt
      clear hb
      have hb := HBy.out
      have y0 := hb.cell 0
      have y1 := hb.cell 1
      have y2 := hb.cell 2
      have y3 := hb.cell 3
      have y4 := hb.cell 4
      have y5 := hb.cell 5
      have y6 := hb.cell 6
      simp at y0 y1 y2 y3 y4 y5 y6
      have zy := hb.lt
      clear hb
      go_wp2_with fail
      go_region_held3 (fun w' => w'.cell? ⟨w5.heap.size, 0, none⟩ = some (.int .i64 y.way) ∧ w'.cell? ⟨w5.heap.size, 1, none⟩ = some (.int .i64 y.ver) ∧ w'.cell? ⟨w5.heap.size, 2, none⟩ = some (.int .i64 y.want) ∧ w'.cell? ⟨w5.heap.size, 3, none⟩ = some (.slice D1 y.sent.length y.sent.length) ∧ w'.cell? ⟨w5.heap.size, 4, none⟩ = some (.slice D2 y.live.length y.live.length) ∧ w'.cell? ⟨w5.heap.size, 5, none⟩ = some (.slice D3 y.back.length y.back.length) ∧ w'.cell? ⟨w5.heap.size, 6, none⟩ = some (.slice D4 y.got.length y.got.length) ∧ w'.cell? ⟨w.heap.size + 1, 0, none⟩ = some (.int .i64 y.way) ∧ w'.cell? ⟨w.heap.size + 1, 1, none⟩ = some (.int .i64 y.ver) ∧ w'.cell? ⟨w.heap.size + 1, 2, none⟩ = some (.int .i64 y.want) ∧ w'.cell? ⟨w.heap.size + 1, 3, none⟩ = some (.slice B1 y.sent.length d1) ∧ w'.cell? ⟨w.heap.size + 1, 4, none⟩ = some (.slice B2 y.live.length d2) ∧ w'.cell? ⟨w.heap.size + 1, 5, none⟩ = some (.slice B3 y.back.length d3) ∧ w'.cell? ⟨w.heap.size + 1, 6, none⟩ = some (.slice B4 y.got.length d4))
        (((try dsimp only); (repeat' apply And.intro) <;> (first | with_reducible assumption | (go_keep; done))))
        (first | (go_at_call 14; refine (HTY.out _ (HK.out.drewN 1)).mono ?_; rintro e w10 ⟨N1, N2, N3, N4, rfl, ht9, hk10⟩; have hq := ((Keeps.refl noBlk w9).drewN 1).trans hk10; clear hk10; have hk10 := hq; clear hq; unfold stV; have HD9 := Lib.hid (ht9.at_ k1 k2 k3 k4); clear ht9; clear b0 b1 b2 b3 b4 b5 b6 y0 y1 y2 y3 y4 y5 y6 zb zy; have ha := HBa.out.keeps hk10 (fun h => h); clear HBa; have HBa := Lib.hid ha; clear ha; have hb := HBb.out.keeps hk10 (fun h => h); clear HBb; have HBb := Lib.hid hb; clear hb; have hv := HBv.out.keeps hk10 (fun h => h); clear HBv; have HBv := Lib.hid hv; clear hv; have hx := HBx.out.keeps hk10 (fun h => h); clear HBx; have HBx := Lib.hid hx; clear hx; have hy := HBy.out.keeps hk10 (fun h => h); clear HBy; have HBy := Lib.hid hy; clear hy; have hg := HBg.out.keeps hk10 (fun h => h); clear HBg; have HBg := Lib.hid hg; clear hg; have hr := (HV.out).kept hk10; clear HV; have HV := Lib.hid hr; clear hr; have hr := (HC.out).kept hk10; clear HC; have HC := Lib.hid hr; clear hr; have hr := (HOC.out).kept hk10; clear HOC; have HOC := Lib.hid hr; clear hr; have hr := (HD.out).kept hk10; clear HD; have HD := Lib.hid hr; clear hr; have hr := (HOD.out).kept hk10; clear HOD; have HOD := Lib.hid hr; clear hr; have hr := (HG.out).kept hk10; clear HG; have HG := Lib.hid hr; clear hr; have hr := (HOG.out).kept hk10; clear HOG; have HOG := Lib.hid hr; clear hr; have hr := HK.out.trans hk10; clear HK; have HK := Lib.hid hr; clear hr; have sz10 := hk10.size; (try simp at sz10); clear hk10; have hb := HBy.out; have y0 := hb.cell 0; have y1 := hb.cell 1; have y2 := hb.cell 2; have y3 := hb.cell 3; have y4 := hb.cell 4; have y5 := hb.cell 5; have y6 := hb.cell 6; simp at y0 y1 y2 y3 y4 y5 y6; have zy := hb.lt; clear hb; have hb := HBb.out; have b0 := hb.cell 0; have b1 := hb.cell 1; have b2 := hb.cell 2; have b3 := hb.cell 3; have b4 := hb.cell 4; have b5 := hb.cell 5; have b6 := hb.cell 6; simp at b0 b1 b2 b3 b4 b5 b6; have zb := hb.lt; clear hb) | (go_at_call 16; refine (eqState_same y D1 D2 D3 D4 N1 N2 N3 N4 _ _ _ _ _ _ _ _ _ HD.out HD9.out).mono ?_; rintro e w11 ⟨rfl, hk11⟩; clear y0 y1 y2 y3 y4 y5 y6 b0 b1 b2 b3 b4 b5 b6 zy zb; have ha := HBa.out.keeps hk11 (fun h => h); clear HBa; have HBa := Lib.hid ha; clear ha; have hb := HBb.out.keeps hk11 (fun h => h); clear HBb; have HBb := Lib.hid hb; clear hb; have hv := HBv.out.keeps hk11 (fun h => h); clear HBv; have HBv := Lib.hid hv; clear hv; have hx := HBx.out.keeps hk11 (fun h => h); clear HBx; have HBx := Lib.hid hx; clear hx; have hy := HBy.out.keeps hk11 (fun h => h); clear HBy; have HBy := Lib.hid hy; clear hy; have hg := HBg.out.keeps hk11 (fun h => h); clear HBg; have HBg := Lib.hid hg; clear hg; have hr := (HV.out).kept hk11; clear HV; have HV := Lib.hid hr; clear hr; have hr := (HC.out).kept hk11; clear HC; have HC := Lib.hid hr; clear hr; have hr := (HOC.out).kept hk11; clear HOC; have HOC := Lib.hid hr; clear hr; have hr := (HD.out).kept hk11; clear HD; have HD := Lib.hid hr; clear hr; have hr := (HOD.out).kept hk11; clear HOD; have HOD := Lib.hid hr; clear hr; have hr := (HG.out).kept hk11; clear HG; have HG := Lib.hid hr; clear hr; have hr := (HOG.out).kept hk11; clear HOG; have HOG := Lib.hid hr; clear hr; have hr := (HD9.out).kept hk11; clear HD9; have HD9 := Lib.hid hr; clear hr; have hr := HK.out.trans hk11; clear HK; have HK := Lib.hid hr; clear hr; have sz11 := hk11.size; (try simp at sz11); clear hk11; have hb := HBy.out; have y0 := hb.cell 0; have y1 := hb.cell 1; have y2 := hb.cell 2; have y3 := hb.cell 3; have y4 := hb.cell 4; have y5 := hb.cell 5; have y6 := hb.cell 6; simp at y0 y1 y2 y3 y4 y5 y6; have zy := hb.lt; clear hb; have hb := HBb.out; have b0 := hb.cell 0; have b1 := hb.cell 1; have b2 := hb.cell 2; have b3 := hb.cell 3; have b4 := hb.cell 4; have b5 := hb.cell 5; have b6 := hb.cell 6; simp at b0 b1 b2 b3 b4 b5 b6; have zb := hb.lt; clear hb))
      clear HD9
      clear HC HD
      clear y0 y1 y2 y3 y4 y5 y6 b0 b1 b2 b3 b4 b5 b6 zy zb
      have hb := HBx.out
      have x0 := hb.cell 0
      have x1 := hb.cell 1
      have x2 := hb.cell 2
      have x3 := hb.cell 3
      have x4 := hb.cell 4
      have x5 := hb.cell 5
      have x6 := hb.cell 6
      simp at x0 x1 x2 x3 x4 x5 x6
      have zx := hb.lt
      clear hb
      have hb := HBy.out
      have y0 := hb.cell 0
      have y1 := hb.cell 1
      have y2 := hb.cell 2
      have y3 := hb.cell 3
      have y4 := hb.cell 4
      have y5 := hb.cell 5
      have y6 := hb.cell 6
      simp at y0 y1 y2 y3 y4 y5 y6
      have zy := hb.lt
      clear hb
      go_wp2_with fail
      refine (HMX.out C1 C2 C3 C4 _ _ _ _ _ _ HOC.out).mono ?_
      rintro e w12 ⟨rfl, _, hk12⟩
      clear x0 x1 x2 x3 x4 x5 x6 y0 y1 y2 y3 y4 y5 y6 zx zy
      have ha := HBa.out.keeps hk12 (fun h => by have := HLC.out _ h; (first | omega | (simp at *; try omega)))
      clear HBa
      have HBa := Lib.hid ha
      clear ha
      have hb := HBb.out.keeps hk12 (fun h => by have := HLC.out _ h; (first | omega | (simp at *; try omega)))
      clear HBb
      have HBb := Lib.hid hb
      clear hb
      have hv := HBv.out.keeps hk12 (fun h => by have := HLC.out _ h; (first | omega | (simp at *; try omega)))
      clear HBv
      have HBv := Lib.hid hv
      clear hv
      have hx := HBx.out.keeps hk12 (fun h => by have := HLC.out _ h; (first | omega | (simp at *; try omega)))
      clear HBx
      have HBx := Lib.hid hx
      clear hx
      have hy := HBy.out.keeps hk12 (fun h => by have := HLC.out _ h; (first | omega | (simp at *; try omega)))
      clear HBy
      have HBy := Lib.hid hy
      clear hy
      have hg := HBg.out.keeps hk12 (fun h => by have := HLC.out _ h; (first | omega | (simp at *; try omega)))
      clear HBg
      have HBg := Lib.hid hg
      clear hg
      have hr := (HV.out).keeps hk12 (fun b h h' => by have := HVL.out b h; have := HLC.out b h'; (first | omega | (simp at *; try omega)))
      clear HV
      have HV := Lib.hid hr
      clear hr
      have hr := (HOD.out).keeps hk12 (fun b h h' => by have := HLD.out b h; have := HLC.out b h'; (first | omega | (simp at *; try omega)))
      clear HOD
      have HOD := Lib.hid hr
      clear hr
      have hr := (HG.out).keeps hk12 (fun b h h' => by have := HGE.out b h; have := HLC.out b h'; (first | omega | (simp at *; try omega)))
      clear HG
      have HG := Lib.hid hr
      clear hr
      have hr := (HOG.out).keeps hk12 (fun b h h' => by have := HGE.out b h; have := HLC.out b h'; (first | omega | (simp at *; try omega)))
      clear HOG
      have HOG := Lib.hid hr
      clear hr
      have hr := HK.out.then hk12 (fun i hi h => by have := HLC.out i h; (first | omega | (simp at *; try omega)))
      clear HK
      have HK := Lib.hid hr
      clear hr
      have sz12 := hk12.size
      (try simp at sz12)
      clear hk12
      clear HOC
      have hb := HBy.out
      have y0 := hb.cell 0
      have y1 := hb.cell 1
      have y2 := hb.cell 2
      have y3 := hb.cell 3
      have y4 := hb.cell 4
      have y5 := hb.cell 5
      have y6 := hb.cell 6
      simp at y0 y1 y2 y3 y4 y5 y6
      have zy := hb.lt
      clear hb
      go_wp2_with fail
      refine (HMY.out D1 D2 D3 D4 _ _ _ _ _ _ HOD.out).mono ?_
      rintro e w13 ⟨rfl, _, hk13⟩
      clear y0 y1 y2 y3 y4 y5 y6 zy
      have ha := HBa.out.keeps hk13 (fun h => by have := HLD.out _ h; (first | omega | (simp at *; try omega)))
      clear HBa
      have HBa := Lib.hid ha
      clear ha
      have hb := HBb.out.keeps hk13 (fun h => by have := HLD.out _ h; (first | omega | (simp at *; try omega)))
      clear HBb
      have HBb := Lib.hid hb
      clear hb
      have hv := HBv.out.keeps hk13 (fun h => by have := HLD.out _ h; (first | omega | (simp at *; try omega)))
      clear HBv
      have HBv := Lib.hid hv
      clear hv
      have hx := HBx.out.keeps hk13 (fun h => by have := HLD.out _ h; (first | omega | (simp at *; try omega)))
      clear HBx
      have HBx := Lib.hid hx
      clear hx
      have hy := HBy.out.keeps hk13 (fun h => by have := HLD.out _ h; (first | omega | (simp at *; try omega)))
      clear HBy
      have HBy := Lib.hid hy
      clear hy
      have hg := HBg.out.keeps hk13 (fun h => by have := HLD.out _ h; (first | omega | (simp at *; try omega)))
      clear HBg
      have HBg := Lib.hid hg
      clear hg
      have hr := (HV.out).keeps hk13 (fun b h h' => by have := HVL.out b h; have := HLD.out b h'; (first | omega | (simp at *; try omega)))
      clear HV
      have HV := Lib.hid hr
      clear hr
      have hr := (HG.out).keeps hk13 (fun b h h' => by have := HGE.out b h; have := HLD.out b h'; (first | omega | (simp at *; try omega)))
      clear HG
      have HG := Lib.hid hr
      clear hr
      have hr := (HOG.out).keeps hk13 (fun b h h' => by have := HGE.out b h; have := HLD.out b h'; (first | omega | (simp at *; try omega)))
      clear HOG
      have HOG := Lib.hid hr
      clear hr
      have hr := HK.out.then hk13 (fun i hi h => by have := HLD.out i h; (first | omega | (simp at *; try omega)))
      clear HK
      have HK := Lib.hid hr
      clear hr
      have sz13 := hk13.size
      (try simp at sz13)
      clear hk13
      clear HOD
      have hn9 : ¬ (1 + (stN x : Int) + (stN y : Int)) < 0 := by omega
      have hb := HBg.out
      have g0 := hb.cell 0
      have g1 := hb.cell 1
      have g2 := hb.cell 2
      have g3 := hb.cell 3
      have g4 := hb.cell 4
      have g5 := hb.cell 5
      have g6 := hb.cell 6
      simp at g0 g1 g2 g3 g4 g5 g6
      have zg := hb.lt
      clear hb
      have hb := HBv.out
      have v0 := hb.cell 0
      have v1 := hb.cell 1
      have v2 := hb.cell 2
      have v3 := hb.cell 3
      have v4 := hb.cell 4
      have v5 := hb.cell 5
      have v6 := hb.cell 6
      simp at v0 v1 v2 v3 v4 v5 v6
      have zv := hb.lt
      clear hb
      go_wp2_with fail
      refine (eqState_same z G1 G2 G3 G4 V1 V2 V3 V4 _ _ _ _ _ _ _ _ _ HG.out HV.out).mono ?_
      rintro e w14 ⟨rfl, hk14⟩
      clear g0 g1 g2 g3 g4 g5 g6 v0 v1 v2 v3 v4 v5 v6 zg zv
      have ha := HBa.out.keeps hk14 (fun h => h)
      clear HBa
      have HBa := Lib.hid ha
      clear ha
      have hb := HBb.out.keeps hk14 (fun h => h)
      clear HBb
      have HBb := Lib.hid hb
      clear hb
      have hv := HBv.out.keeps hk14 (fun h => h)
      clear HBv
      have HBv := Lib.hid hv
      clear hv
      have hx := HBx.out.keeps hk14 (fun h => h)
      clear HBx
      have HBx := Lib.hid hx
      clear hx
      have hy := HBy.out.keeps hk14 (fun h => h)
      clear HBy
      have HBy := Lib.hid hy
      clear hy
      have hg := HBg.out.keeps hk14 (fun h => h)
      clear HBg
      have HBg := Lib.hid hg
      clear hg
      have hr := (HV.out).kept hk14
      clear HV
      have HV := Lib.hid hr
      clear hr
      have hr := (HG.out).kept hk14
      clear HG
      have HG := Lib.hid hr
      clear hr
      have hr := (HOG.out).kept hk14
      clear HOG
      have HOG := Lib.hid hr
      clear hr
      have hr := HK.out.trans hk14
      clear HK
      have HK := Lib.hid hr
      clear hr
      have sz14 := hk14.size
      (try simp at sz14)
      clear hk14
      have hb := HBg.out
      have g0 := hb.cell 0
      have g1 := hb.cell 1
      have g2 := hb.cell 2
      have g3 := hb.cell 3
      have g4 := hb.cell 4
      have g5 := hb.cell 5
      have g6 := hb.cell 6
      simp at g0 g1 g2 g3 g4 g5 g6
      have zg := hb.lt
      clear hb
      clear HG
      go_wp2_with fail
      refine (HMZ.out G1 G2 G3 G4 _ _ _ _ _ _ HOG.out).mono ?_
      rintro e w15 ⟨rfl, hg9, hk15⟩
      clear HOG
      have HG := Lib.hid (hg9.at_ (by simpa [stMark, pmarks_length] using HZM.out.1) (by simpa [stMark, bmarks_length] using HZM.out.2.1) (by simpa [stMark, bmarks_length] using HZM.out.2.2.1) (by simpa [stMark, iota_length] using HZM.out.2.2.2))
      clear hg9
      clear g0 g1 g2 g3 g4 g5 g6 zg
      have ha := HBa.out.keeps hk15 (fun h => by have := HGE.out _ h; (first | omega | (simp at *; try omega)))
      clear HBa
      have HBa := Lib.hid ha
      clear ha
      have hb := HBb.out.keeps hk15 (fun h => by have := HGE.out _ h; (first | omega | (simp at *; try omega)))
      clear HBb
      have HBb := Lib.hid hb
      clear hb
      have hv := HBv.out.keeps hk15 (fun h => by have := HGE.out _ h; (first | omega | (simp at *; try omega)))
      clear HBv
      have HBv := Lib.hid hv
      clear hv
      have hx := HBx.out.keeps hk15 (fun h => by have := HGE.out _ h; (first | omega | (simp at *; try omega)))
      clear HBx
      have HBx := Lib.hid hx
      clear hx
      have hy := HBy.out.keeps hk15 (fun h => by have := HGE.out _ h; (first | omega | (simp at *; try omega)))
      clear HBy
      have HBy := Lib.hid hy
      clear hy
      have hg := HBg.out.keeps hk15 (fun h => by have := HGE.out _ h; (first | omega | (simp at *; try omega)))
      clear HBg
      have HBg := Lib.hid hg
      clear hg
      have hr := (HV.out).keeps hk15 (fun b h h' => by have := HVL.out b h; have := HGE.out b h'; (first | omega | (simp at *; try omega)))
      clear HV
      have HV := Lib.hid hr
      clear hr
      have hr := HK.out.then hk15 (fun i hi h => by have := HGE.out i h; (first | omega | (simp at *; try omega)))
      clear HK
      have HK := Lib.hid hr
      clear hr
      have sz15 := hk15.size
      (try simp at sz15)
      clear hk15
      have hn12 : ¬ (1 + (stN z : Int)) < 0 := by omega
      have hn13 : ((1 + (stN z : Int)) != (1 + (stN z : Int))) = false := by simp
      have hb := HBg.out
      have g0 := hb.cell 0
      have g1 := hb.cell 1
      have g2 := hb.cell 2
      have g3 := hb.cell 3
      have g4 := hb.cell 4
      have g5 := hb.cell 5
      have g6 := hb.cell 6
      simp at g0 g1 g2 g3 g4 g5 g6
      have zg := hb.lt
      clear hb
      go_wp2_with fail
      refine (HHZ.out G1 G2 G3 G4 _ _ _ _ _ HG.out).mono ?_
      rintro e w16 ⟨rfl, hk16⟩
      clear g0 g1 g2 g3 g4 g5 g6 zg
      have ha := HBa.out.keeps hk16 (fun h => h)
      clear HBa
      have HBa := Lib.hid ha
      clear ha
      have hb := HBb.out.keeps hk16 (fun h => h)
      clear HBb
      have HBb := Lib.hid hb
      clear hb
      have hv := HBv.out.keeps hk16 (fun h => h)
      clear HBv
      have HBv := Lib.hid hv
      clear hv
      have hx := HBx.out.keeps hk16 (fun h => h)
      clear HBx
      have HBx := Lib.hid hx
      clear hx
      have hy := HBy.out.keeps hk16 (fun h => h)
      clear HBy
      have HBy := Lib.hid hy
      clear hy
      have hg := HBg.out.keeps hk16 (fun h => h)
      clear HBg
      have HBg := Lib.hid hg
      clear hg
      have hr := (HV.out).kept hk16
      clear HV
      have HV := Lib.hid hr
      clear hr
      have hr := (HG.out).kept hk16
      clear HG
      have HG := Lib.hid hr
      clear hr
      have hr := HK.out.trans hk16
      clear HK
      have HK := Lib.hid hr
      clear hr
      have sz16 := hk16.size
      (try simp at sz16)
      clear hk16
      have hb := HBa.out
      have a0 := hb.cell 0
      have a1 := hb.cell 1
      have a2 := hb.cell 2
      have a3 := hb.cell 3
      have a4 := hb.cell 4
      have a5 := hb.cell 5
      have a6 := hb.cell 6
      simp at a0 a1 a2 a3 a4 a5 a6
      have za := hb.lt
      clear hb
      have hb := HBb.out
      have b0 := hb.cell 0
      have b1 := hb.cell 1
      have b2 := hb.cell 2
      have b3 := hb.cell 3
      have b4 := hb.cell 4
      have b5 := hb.cell 5
      have b6 := hb.cell 6
      simp at b0 b1 b2 b3 b4 b5 b6
      have zb := hb.lt
      clear hb
      have HGL := Lib.hid (fun b (h : stBlk (stMark z 1) G1 G2 G3 G4 b) => HG.out.lt h)
      clear HBx HBy
      go_wp2_with fail
      go_cut [17, 18] from 98 to 106 (fun sp so wx => ∃ gn H1 H2 H3 H4 hc1 hc2 hc3 hc4, sp = .pointer (some ⟨gn, 0, none⟩) ∧ so = .bool o ∧ Box wx gn 31 #[.int .i64 z.way, .int .i64 z.ver, .int .i64 z.want, .slice H1 z.sent.length hc1, .slice H2 z.live.length hc2, .slice H3 z.back.length hc3, .slice H4 z.got.length hc4] ∧ StAt wx z H1 H2 H3 H4 ∧ w16.heap.size ≤ gn ∧ Keeps noBlk w16 wx ∧ Keeps noBlk w wx ∧ Box wx w.heap.size 26 #[.int .i64 x.way, .int .i64 x.ver, .int .i64 x.want, .slice A1 x.sent.length c1, .slice A2 x.live.length c2, .slice A3 x.back.length c3, .slice A4 x.got.length c4] ∧ Box wx (w.heap.size + 1) 26 #[.int .i64 y.way, .int .i64 y.ver, .int .i64 y.want, .slice B1 y.sent.length d1, .slice B2 y.live.length d2, .slice B3 y.back.length d3, .slice B4 y.got.length d4] ∧ StAt wx z V1 V2 V3 V4 ∧ StAt wx (stMark z 1) G1 G2 G3 G4 ∧ Box wx gv 31 #[.int .i64 z.way, .int .i64 z.ver, .int .i64 z.want, .slice V1 z.sent.length vc1, .slice V2 z.live.length vc2, .slice V3 z.back.length vc3, .slice V4 z.got.length vc4] ∧ Box wx w6.heap.size 31 #[.int .i64 z.way, .int .i64 z.ver, .int .i64 z.want, .slice G1 z.sent.length gc1, .slice G2 z.live.length gc2, .slice G3 z.back.length gc3, .slice G4 z.got.length gc4])
      case first =>
        have TK : True := trivial
        have TKv : True := trivial
        go_region_held3 (fun w' => w'.cell? ⟨w.heap.size, 0, none⟩ = some (.int .i64 x.way) ∧ w'.cell? ⟨w.heap.size, 1, none⟩ = some (.int .i64 x.ver) ∧ w'.cell? ⟨w.heap.size, 2, none⟩ = some (.int .i64 x.want) ∧ w'.cell? ⟨w.heap.size, 3, none⟩ = some (.slice A1 x.sent.length c1) ∧ w'.cell? ⟨w.heap.size, 4, none⟩ = some (.slice A2 x.live.length c2) ∧ w'.cell? ⟨w.heap.size, 5, none⟩ = some (.slice A3 x.back.length c3) ∧ w'.cell? ⟨w.heap.size, 6, none⟩ = some (.slice A4 x.got.length c4) ∧ w'.cell? ⟨w.heap.size + 1, 0, none⟩ = some (.int .i64 y.way) ∧ w'.cell? ⟨w.heap.size + 1, 1, none⟩ = some (.int .i64 y.ver) ∧ w'.cell? ⟨w.heap.size + 1, 2, none⟩ = some (.int .i64 y.want) ∧ w'.cell? ⟨w.heap.size + 1, 3, none⟩ = some (.slice B1 y.sent.length d1) ∧ w'.cell? ⟨w.heap.size + 1, 4, none⟩ = some (.slice B2 y.live.length d2) ∧ w'.cell? ⟨w.heap.size + 1, 5, none⟩ = some (.slice B3 y.back.length d3) ∧ w'.cell? ⟨w.heap.size + 1, 6, none⟩ = some (.slice B4 y.got.length d4))
          (((try dsimp only); (repeat' apply And.intro) <;> (first | with_reducible assumption | (go_keep; done))))
          (first | (have _t := HBv9; clear _t; go_at_call 18; refine (HIM.out _ P1 P2 P3 P4 Q1 Q2 Q3 Q4 _ _ _ _ _ _ _ _ HP.out HQ.out (HT.out.keeps HK.out)).mono ?_; rintro e w19 ⟨H1, H2, H3, H4, hc1, hc2, hc3, hc4, rfl, hho, hh1, hk19⟩; have hq := hk19; have HV9 := Lib.hid hh1; have HVG := Lib.hid (fun b (h : stBlk z H1 H2 H3 H4 b) => (show w18.heap.size ≤ b by have := hho.ge h; (first | omega | (simp at this; omega)))); clear hho hh1; clear hk19; have hv := HBv9.out.keeps hq (fun h => h); clear HBv9; have HBv9 := Lib.hid hv; clear hv; have ha := HBa.out.keeps hq (fun h => h); clear HBa; have HBa := Lib.hid ha; have a0 := ha.cell 0; have a1 := ha.cell 1; have a2 := ha.cell 2; have a3 := ha.cell 3; have a4 := ha.cell 4; have a5 := ha.cell 5; have a6 := ha.cell 6; simp at a0 a1 a2 a3 a4 a5 a6; have za := ha.lt; clear ha; have hb := HBb.out.keeps hq (fun h => h); clear HBb; have HBb := Lib.hid hb; have b0 := hb.cell 0; have b1 := hb.cell 1; have b2 := hb.cell 2; have b3 := hb.cell 3; have b4 := hb.cell 4; have b5 := hb.cell 5; have b6 := hb.cell 6; simp at b0 b1 b2 b3 b4 b5 b6; have zb := hb.lt; clear hb; have hb := HBv9.out; have v90 := hb.cell 0; have v91 := hb.cell 1; have v92 := hb.cell 2; have v93 := hb.cell 3; have v94 := hb.cell 4; have v95 := hb.cell 5; have v96 := hb.cell 6; have f90 := hb.frozen 0; have f91 := hb.frozen 1; have f92 := hb.frozen 2; have f93 := hb.frozen 3; have f94 := hb.frozen 4; have f95 := hb.frozen 5; have f96 := hb.frozen 6; simp at v90 v91 v92 v93 v94 v95 v96; have z9 := hb.lt; clear hb; have hq9 := HQ9.out.trans hq; clear HQ9; have HQ9 := Lib.hid hq9; clear hq9; have hr9 := (HV.out).kept hq; clear HV; have HV := Lib.hid hr9; clear hr9; have hr9 := (HG.out).kept hq; clear HG; have HG := Lib.hid hr9; clear hr9; have hr9 := (HBv.out).keeps hq (fun h => h); clear HBv; have HBv := Lib.hid hr9; clear hr9; have hr9 := (HBg.out).keeps hq (fun h => h); clear HBg; have HBg := Lib.hid hr9; clear hr9; have hh9 := HK.out.trans hq; clear HK; have HK := Lib.hid hh9; clear hh9; have sz19 := hq.size; (try simp at sz19); clear hq) | (have _t := TKv; clear _t; go_at_call 18; refine (HIM.out _ P1 P2 P3 P4 Q1 Q2 Q3 Q4 _ _ _ _ _ _ _ _ HP.out HQ.out (HT.out.keeps HK.out)).mono ?_; rintro e w19 ⟨H1, H2, H3, H4, hc1, hc2, hc3, hc4, rfl, hho, hh1, hk19⟩; have hq := hk19; have HV9 := Lib.hid hh1; have HVG := Lib.hid (fun b (h : stBlk z H1 H2 H3 H4 b) => (show w18.heap.size ≤ b by have := hho.ge h; (first | omega | (simp at this; omega)))); clear hho hh1; clear hk19; have ha := HBa.out.keeps hq (fun h => h); clear HBa; have HBa := Lib.hid ha; have a0 := ha.cell 0; have a1 := ha.cell 1; have a2 := ha.cell 2; have a3 := ha.cell 3; have a4 := ha.cell 4; have a5 := ha.cell 5; have a6 := ha.cell 6; simp at a0 a1 a2 a3 a4 a5 a6; have za := ha.lt; clear ha; have hb := HBb.out.keeps hq (fun h => h); clear HBb; have HBb := Lib.hid hb; have b0 := hb.cell 0; have b1 := hb.cell 1; have b2 := hb.cell 2; have b3 := hb.cell 3; have b4 := hb.cell 4; have b5 := hb.cell 5; have b6 := hb.cell 6; simp at b0 b1 b2 b3 b4 b5 b6; have zb := hb.lt; clear hb; have hq9 := HQ9.out.trans hq; clear HQ9; have HQ9 := Lib.hid hq9; clear hq9; have hr9 := (HV.out).kept hq; clear HV; have HV := Lib.hid hr9; clear hr9; have hr9 := (HG.out).kept hq; clear HG; have HG := Lib.hid hr9; clear hr9; have hr9 := (HBv.out).keeps hq (fun h => h); clear HBv; have HBv := Lib.hid hr9; clear hr9; have hr9 := (HBg.out).keeps hq (fun h => h); clear HBg; have HBg := Lib.hid hr9; clear hr9; have hh9 := HK.out.trans hq; clear HK; have HK := Lib.hid hh9; clear hh9; have sz19 := hq.size; (try simp at sz19); clear hq) | (clear TKv; have TKh2 : True := trivial; go_at_call 18; refine (HIM.out _ P1 P2 P3 P4 Q1 Q2 Q3 Q4 _ _ _ _ _ _ _ _ (HP.out.alloc (.cells #[.int .i64 0, .int .i64 0, .int .i64 0, .slice none 0 0, .slice none 0 0, .slice none 0 0, .slice none 0 0] 31)) (HQ.out.alloc (.cells #[.int .i64 0, .int .i64 0, .int .i64 0, .slice none 0 0, .slice none 0 0, .slice none 0 0, .slice none 0 0] 31)) (HT.out.keeps (HK.out.alloc (.cells #[.int .i64 0, .int .i64 0, .int .i64 0, .slice none 0 0, .slice none 0 0, .slice none 0 0, .slice none 0 0] 31)))).mono ?_; rintro e w19 ⟨H1, H2, H3, H4, hc1, hc2, hc3, hc4, rfl, hho, hh1, hk19⟩; have hraw := hk19; have HBv9 := Lib.hid ((Box.new w18 _ rfl 31 #[.int .i64 0, .int .i64 0, .int .i64 0, .slice none 0 0, .slice none 0 0, .slice none 0 0, .slice none 0 0]).keeps hraw (fun h => h)); have hq := ((Keeps.refl noBlk w18).alloc (.cells #[.int .i64 0, .int .i64 0, .int .i64 0, .slice none 0 0, .slice none 0 0, .slice none 0 0, .slice none 0 0] 31)).trans hraw; clear hraw; have HV9 := Lib.hid hh1; have HVG := Lib.hid (fun b (h : stBlk z H1 H2 H3 H4 b) => (show w18.heap.size + 1 ≤ b by have := hho.ge h; (first | omega | (simp at this; omega)))); clear hho hh1; clear hk19; have ha := HBa.out.keeps hq (fun h => h); clear HBa; have HBa := Lib.hid ha; have a0 := ha.cell 0; have a1 := ha.cell 1; have a2 := ha.cell 2; have a3 := ha.cell 3; have a4 := ha.cell 4; have a5 := ha.cell 5; have a6 := ha.cell 6; simp at a0 a1 a2 a3 a4 a5 a6; have za := ha.lt; clear ha; have hb := HBb.out.keeps hq (fun h => h); clear HBb; have HBb := Lib.hid hb; have b0 := hb.cell 0; have b1 := hb.cell 1; have b2 := hb.cell 2; have b3 := hb.cell 3; have b4 := hb.cell 4; have b5 := hb.cell 5; have b6 := hb.cell 6; simp at b0 b1 b2 b3 b4 b5 b6; have zb := hb.lt; clear hb; have hb := HBv9.out; have v90 := hb.cell 0; have v91 := hb.cell 1; have v92 := hb.cell 2; have v93 := hb.cell 3; have v94 := hb.cell 4; have v95 := hb.cell 5; have v96 := hb.cell 6; have f90 := hb.frozen 0; have f91 := hb.frozen 1; have f92 := hb.frozen 2; have f93 := hb.frozen 3; have f94 := hb.frozen 4; have f95 := hb.frozen 5; have f96 := hb.frozen 6; simp at v90 v91 v92 v93 v94 v95 v96; have z9 := hb.lt; clear hb; have hq9 := HQ9.out.trans hq; clear HQ9; have HQ9 := Lib.hid hq9; clear hq9; have hr9 := (HV.out).kept hq; clear HV; have HV := Lib.hid hr9; clear hr9; have hr9 := (HG.out).kept hq; clear HG; have HG := Lib.hid hr9; clear hr9; have hr9 := (HBv.out).keeps hq (fun h => h); clear HBv; have HBv := Lib.hid hr9; clear hr9; have hr9 := (HBg.out).keeps hq (fun h => h); clear HBg; have HBg := Lib.hid hr9; clear hr9; have hh9 := HK.out.trans hq; clear HK; have HK := Lib.hid hh9; clear hh9; have sz19 := hq.size; (try simp at sz19); clear hq; have : ¬ w.heap.size = w18.heap.size := (by omega); have : ¬ w18.heap.size = w.heap.size := (by omega); have : ¬ w.heap.size + 1 = w18.heap.size := (by omega); have : ¬ w18.heap.size = w.heap.size + 1 := (by omega)) | (have _t := TKv; clear _t; clear TK; go_at_call 14; refine (HTO.out _ (HK.out.drewN 1)).mono ?_; rintro e w17 ⟨P1, P2, P3, P4, rfl, ht9, hk17⟩; unfold stV; have hq := ((Keeps.refl noBlk w16).drewN 1).trans hk17; clear hk17; have ha := HBa.out.keeps hq (fun h => h); clear HBa; have HBa := Lib.hid ha; have a0 := ha.cell 0; have a1 := ha.cell 1; have a2 := ha.cell 2; have a3 := ha.cell 3; have a4 := ha.cell 4; have a5 := ha.cell 5; have a6 := ha.cell 6; simp at a0 a1 a2 a3 a4 a5 a6; have za := ha.lt; clear ha; have hb := HBb.out.keeps hq (fun h => h); clear HBb; have HBb := Lib.hid hb; have b0 := hb.cell 0; have b1 := hb.cell 1; have b2 := hb.cell 2; have b3 := hb.cell 3; have b4 := hb.cell 4; have b5 := hb.cell 5; have b6 := hb.cell 6; simp at b0 b1 b2 b3 b4 b5 b6; have zb := hb.lt; clear hb; have HP := Lib.hid (ht9.at_ m1 m2 m3 m4); clear ht9; have HQ9 := Lib.hid hq; have hr9 := (HV.out).kept hq; clear HV; have HV := Lib.hid hr9; clear hr9; have hr9 := (HG.out).kept hq; clear HG; have HG := Lib.hid hr9; clear hr9; have hr9 := (HBv.out).keeps hq (fun h => h); clear HBv; have HBv := Lib.hid hr9; clear hr9; have hr9 := (HBg.out).keeps hq (fun h => h); clear HBg; have HBg := Lib.hid hr9; clear hr9; have hh9 := HK.out.trans hq; clear HK; have HK := Lib.hid hh9; clear hh9; have sz17 := hq.size; (try simp at sz17); clear hq) | (clear TKv; have TKh0 : True := trivial; clear TK; go_at_call 14; refine (HTO.out _ ((HK.out.alloc (.cells #[.int .i64 0, .int .i64 0, .int .i64 0, .slice none 0 0, .slice none 0 0, .slice none 0 0, .slice none 0 0] 31)).drewN 1)).mono ?_; rintro e w17 ⟨P1, P2, P3, P4, rfl, ht9, hk17⟩; unfold stV; have hraw := ((Keeps.refl noBlk (w16.alloc (.cells #[.int .i64 0, .int .i64 0, .int .i64 0, .slice none 0 0, .slice none 0 0, .slice none 0 0, .slice none 0 0] 31))).drewN 1).trans hk17; have HBv9 := Lib.hid ((Box.new w16 _ rfl 31 #[.int .i64 0, .int .i64 0, .int .i64 0, .slice none 0 0, .slice none 0 0, .slice none 0 0, .slice none 0 0]).keeps hraw (fun h => h)); have hq := ((Keeps.refl noBlk w16).alloc (.cells #[.int .i64 0, .int .i64 0, .int .i64 0, .slice none 0 0, .slice none 0 0, .slice none 0 0, .slice none 0 0] 31)).trans hraw; clear hraw; clear hk17; have ha := HBa.out.keeps hq (fun h => h); clear HBa; have HBa := Lib.hid ha; have a0 := ha.cell 0; have a1 := ha.cell 1; have a2 := ha.cell 2; have a3 := ha.cell 3; have a4 := ha.cell 4; have a5 := ha.cell 5; have a6 := ha.cell 6; simp at a0 a1 a2 a3 a4 a5 a6; have za := ha.lt; clear ha; have hb := HBb.out.keeps hq (fun h => h); clear HBb; have HBb := Lib.hid hb; have b0 := hb.cell 0; have b1 := hb.cell 1; have b2 := hb.cell 2; have b3 := hb.cell 3; have b4 := hb.cell 4; have b5 := hb.cell 5; have b6 := hb.cell 6; simp at b0 b1 b2 b3 b4 b5 b6; have zb := hb.lt; clear hb; have hb := HBv9.out; have v90 := hb.cell 0; have v91 := hb.cell 1; have v92 := hb.cell 2; have v93 := hb.cell 3; have v94 := hb.cell 4; have v95 := hb.cell 5; have v96 := hb.cell 6; have f90 := hb.frozen 0; have f91 := hb.frozen 1; have f92 := hb.frozen 2; have f93 := hb.frozen 3; have f94 := hb.frozen 4; have f95 := hb.frozen 5; have f96 := hb.frozen 6; simp at v90 v91 v92 v93 v94 v95 v96; have z9 := hb.lt; clear hb; have HP := Lib.hid (ht9.at_ m1 m2 m3 m4); clear ht9; have HQ9 := Lib.hid hq; have hr9 := (HV.out).kept hq; clear HV; have HV := Lib.hid hr9; clear hr9; have hr9 := (HG.out).kept hq; clear HG; have HG := Lib.hid hr9; clear hr9; have hr9 := (HBv.out).keeps hq (fun h => h); clear HBv; have HBv := Lib.hid hr9; clear hr9; have hr9 := (HBg.out).keeps hq (fun h => h); clear HBg; have HBg := Lib.hid hr9; clear hr9; have hh9 := HK.out.trans hq; clear HK; have HK := Lib.hid hh9; clear hh9; have sz17 := hq.size; (try simp at sz17); clear hq; have : ¬ w.heap.size = w16.heap.size := (by omega); have : ¬ w16.heap.size = w.heap.size := (by omega); have : ¬ w.heap.size + 1 = w16.heap.size := (by omega); have : ¬ w16.heap.size = w.heap.size + 1 := (by omega)) | (have _t := HBv9; clear _t; go_at_call 14; refine (HTY.out _ HK.out).mono ?_; rintro e w18 ⟨Q1, Q2, Q3, Q4, rfl, ht9, hk18⟩; unfold stV; have hq := hk18; clear hk18; have hv := HBv9.out.keeps hq (fun h => h); clear HBv9; have HBv9 := Lib.hid hv; clear hv; have ha := HBa.out.keeps hq (fun h => h); clear HBa; have HBa := Lib.hid ha; have a0 := ha.cell 0; have a1 := ha.cell 1; have a2 := ha.cell 2; have a3 := ha.cell 3; have a4 := ha.cell 4; have a5 := ha.cell 5; have a6 := ha.cell 6; simp at a0 a1 a2 a3 a4 a5 a6; have za := ha.lt; clear ha; have hb := HBb.out.keeps hq (fun h => h); clear HBb; have HBb := Lib.hid hb; have b0 := hb.cell 0; have b1 := hb.cell 1; have b2 := hb.cell 2; have b3 := hb.cell 3; have b4 := hb.cell 4; have b5 := hb.cell 5; have b6 := hb.cell 6; simp at b0 b1 b2 b3 b4 b5 b6; have zb := hb.lt; clear hb; have hb := HBv9.out; have v90 := hb.cell 0; have v91 := hb.cell 1; have v92 := hb.cell 2; have v93 := hb.cell 3; have v94 := hb.cell 4; have v95 := hb.cell 5; have v96 := hb.cell 6; have f90 := hb.frozen 0; have f91 := hb.frozen 1; have f92 := hb.frozen 2; have f93 := hb.frozen 3; have f94 := hb.frozen 4; have f95 := hb.frozen 5; have f96 := hb.frozen 6; simp at v90 v91 v92 v93 v94 v95 v96; have z9 := hb.lt; clear hb; have hp9 := HP.out.kept hq; clear HP; have HP := Lib.hid hp9; have HQ := Lib.hid (ht9.at_ k1 k2 k3 k4); clear hp9 ht9; have hq9 := HQ9.out.trans hq; clear HQ9; have HQ9 := Lib.hid hq9; clear hq9; have hr9 := (HV.out).kept hq; clear HV; have HV := Lib.hid hr9; clear hr9; have hr9 := (HG.out).kept hq; clear HG; have HG := Lib.hid hr9; clear hr9; have hr9 := (HBv.out).keeps hq (fun h => h); clear HBv; have HBv := Lib.hid hr9; clear hr9; have hr9 := (HBg.out).keeps hq (fun h => h); clear HBg; have HBg := Lib.hid hr9; clear hr9; have hh9 := HK.out.trans hq; clear HK; have HK := Lib.hid hh9; clear hh9; have sz18 := hq.size; (try simp at sz18); clear hq) | (have _t := TKv; clear _t; go_at_call 14; refine (HTY.out _ HK.out).mono ?_; rintro e w18 ⟨Q1, Q2, Q3, Q4, rfl, ht9, hk18⟩; unfold stV; have hq := hk18; clear hk18; have ha := HBa.out.keeps hq (fun h => h); clear HBa; have HBa := Lib.hid ha; have a0 := ha.cell 0; have a1 := ha.cell 1; have a2 := ha.cell 2; have a3 := ha.cell 3; have a4 := ha.cell 4; have a5 := ha.cell 5; have a6 := ha.cell 6; simp at a0 a1 a2 a3 a4 a5 a6; have za := ha.lt; clear ha; have hb := HBb.out.keeps hq (fun h => h); clear HBb; have HBb := Lib.hid hb; have b0 := hb.cell 0; have b1 := hb.cell 1; have b2 := hb.cell 2; have b3 := hb.cell 3; have b4 := hb.cell 4; have b5 := hb.cell 5; have b6 := hb.cell 6; simp at b0 b1 b2 b3 b4 b5 b6; have zb := hb.lt; clear hb; have hp9 := HP.out.kept hq; clear HP; have HP := Lib.hid hp9; have HQ := Lib.hid (ht9.at_ k1 k2 k3 k4); clear hp9 ht9; have hq9 := HQ9.out.trans hq; clear HQ9; have HQ9 := Lib.hid hq9; clear hq9; have hr9 := (HV.out).kept hq; clear HV; have HV := Lib.hid hr9; clear hr9; have hr9 := (HG.out).kept hq; clear HG; have HG := Lib.hid hr9; clear hr9; have hr9 := (HBv.out).keeps hq (fun h => h); clear HBv; have HBv := Lib.hid hr9; clear hr9; have hr9 := (HBg.out).keeps hq (fun h => h); clear HBg; have HBg := Lib.hid hr9; clear hr9; have hh9 := HK.out.trans hq; clear HK; have HK := Lib.hid hh9; clear hh9; have sz18 := hq.size; (try simp at sz18); clear hq) | (clear TKv; have TKh1 : True := trivial; go_at_call 14; refine (HTY.out _ (HK.out.alloc (.cells #[.int .i64 0, .int .i64 0, .int .i64 0, .slice none 0 0, .slice none 0 0, .slice none 0 0, .slice none 0 0] 31))).mono ?_; rintro e w18 ⟨Q1, Q2, Q3, Q4, rfl, ht9, hk18⟩; unfold stV; have hraw := hk18; have HBv9 := Lib.hid ((Box.new w17 _ rfl 31 #[.int .i64 0, .int .i64 0, .int .i64 0, .slice none 0 0, .slice none 0 0, .slice none 0 0, .slice none 0 0]).keeps hraw (fun h => h)); have hq := ((Keeps.refl noBlk w17).alloc (.cells #[.int .i64 0, .int .i64 0, .int .i64 0, .slice none 0 0, .slice none 0 0, .slice none 0 0, .slice none 0 0] 31)).trans hraw; clear hraw; clear hk18; have ha := HBa.out.keeps hq (fun h => h); clear HBa; have HBa := Lib.hid ha; have a0 := ha.cell 0; have a1 := ha.cell 1; have a2 := ha.cell 2; have a3 := ha.cell 3; have a4 := ha.cell 4; have a5 := ha.cell 5; have a6 := ha.cell 6; simp at a0 a1 a2 a3 a4 a5 a6; have za := ha.lt; clear ha; have hb := HBb.out.keeps hq (fun h => h); clear HBb; have HBb := Lib.hid hb; have b0 := hb.cell 0; have b1 := hb.cell 1; have b2 := hb.cell 2; have b3 := hb.cell 3; have b4 := hb.cell 4; have b5 := hb.cell 5; have b6 := hb.cell 6; simp at b0 b1 b2 b3 b4 b5 b6; have zb := hb.lt; clear hb; have hb := HBv9.out; have v90 := hb.cell 0; have v91 := hb.cell 1; have v92 := hb.cell 2; have v93 := hb.cell 3; have v94 := hb.cell 4; have v95 := hb.cell 5; have v96 := hb.cell 6; have f90 := hb.frozen 0; have f91 := hb.frozen 1; have f92 := hb.frozen 2; have f93 := hb.frozen 3; have f94 := hb.frozen 4; have f95 := hb.frozen 5; have f96 := hb.frozen 6; simp at v90 v91 v92 v93 v94 v95 v96; have z9 := hb.lt; clear hb; have hp9 := HP.out.kept hq; clear HP; have HP := Lib.hid hp9; have HQ := Lib.hid (ht9.at_ k1 k2 k3 k4); clear hp9 ht9; have hq9 := HQ9.out.trans hq; clear HQ9; have HQ9 := Lib.hid hq9; clear hq9; have hr9 := (HV.out).kept hq; clear HV; have HV := Lib.hid hr9; clear hr9; have hr9 := (HG.out).kept hq; clear HG; have HG := Lib.hid hr9; clear hr9; have hr9 := (HBv.out).keeps hq (fun h => h); clear HBv; have HBv := Lib.hid hr9; clear hr9; have hr9 := (HBg.out).keeps hq (fun h => h); clear HBg; have HBg := Lib.hid hr9; clear hr9; have hh9 := HK.out.trans hq; clear HK; have HK := Lib.hid hh9; clear hh9; have sz18 := hq.size; (try simp at sz18); clear hq; have : ¬ w.heap.size = w17.heap.size := (by omega); have : ¬ w17.heap.size = w.heap.size := (by omega); have : ¬ w.heap.size + 1 = w17.heap.size := (by omega); have : ¬ w17.heap.size = w.heap.size + 1 := (by omega)))
        all_goals go_wp2_with fail
        all_goals go_meet
        all_goals first | (have _t := TKv; have KA := (Keeps.refl noBlk w19).alloc (.cells #[.int .i64 z.way, .int .i64 z.ver, .int .i64 z.want, .slice H1 z.sent.length hc1, .slice H2 z.live.length hc2, .slice H3 z.back.length hc3, .slice H4 z.got.length hc4] 31); exact ⟨w19.heap.size, _, _, _, _, _, _, _, _, rfl, rfl, Box.new w19 _ rfl 31 #[.int .i64 z.way, .int .i64 z.ver, .int .i64 z.want, .slice H1 z.sent.length hc1, .slice H2 z.live.length hc2, .slice H3 z.back.length hc3, .slice H4 z.got.length hc4], HV9.out.kept KA, by omega, HQ9.out.trans KA, HK.out.trans KA, HBa.out.keeps KA (fun h => h), HBb.out.keeps KA (fun h => h), (HV.out).kept KA, (HG.out).kept KA, (HBv.out).keeps KA (fun h => h), (HBg.out).keeps KA (fun h => h)⟩) | (have _t := TKh0; have hb9 := (((((((HBv9.out.set_ 0 (.int .i64 z.way)).set_ 1 (.int .i64 z.ver)).set_ 2 (.int .i64 z.want)).set_ 3 (.slice H1 z.sent.length hc1)).set_ 4 (.slice H2 z.live.length hc2)).set_ 5 (.slice H3 z.back.length hc3)).set_ 6 (.slice H4 z.got.length hc4)); simp at hb9; have KA := ((((((((Keeps.refl (one w16.heap.size) w19).set1 0 (.int .i64 z.way)).set1 1 (.int .i64 z.ver)).set1 2 (.int .i64 z.want)).set1 3 (.slice H1 z.sent.length hc1)).set1 4 (.slice H2 z.live.length hc2)).set1 5 (.slice H3 z.back.length hc3)).set1 6 (.slice H4 z.got.length hc4)); exact ⟨w16.heap.size, _, _, _, _, _, _, _, _, rfl, rfl, hb9, HV9.out.keeps KA (fun b hb e => by have e' : b = w16.heap.size := e; have := HVG.out b hb; omega), by omega, (((((((HQ9.out.new (g := w16.heap.size) (by omega) _ _).new (g := w16.heap.size) (by omega) _ _).new (g := w16.heap.size) (by omega) _ _).new (g := w16.heap.size) (by omega) _ _).new (g := w16.heap.size) (by omega) _ _).new (g := w16.heap.size) (by omega) _ _).new (g := w16.heap.size) (by omega) _ _), (((((((HK.out.new (g := w16.heap.size) (by omega) _ _).new (g := w16.heap.size) (by omega) _ _).new (g := w16.heap.size) (by omega) _ _).new (g := w16.heap.size) (by omega) _ _).new (g := w16.heap.size) (by omega) _ _).new (g := w16.heap.size) (by omega) _ _).new (g := w16.heap.size) (by omega) _ _), HBa.out.keeps KA (fun e => by have e' : w.heap.size = w16.heap.size := e; omega), HBb.out.keeps KA (fun e => by have e' : w.heap.size + 1 = w16.heap.size := e; omega), (HV.out).keeps KA (fun b hb e => by have e' : b = w16.heap.size := e; have := HVL.out b hb; omega), (HG.out).keeps KA (fun b hb e => by have e' : b = w16.heap.size := e; have := HGL.out b hb; omega), (HBv.out).keeps KA (fun e => by have e' : gv = w16.heap.size := e; omega), (HBg.out).keeps KA (fun e => by have e' : w6.heap.size = w16.heap.size := e; omega)⟩) | (have _t := TKh1; have hb9 := (((((((HBv9.out.set_ 0 (.int .i64 z.way)).set_ 1 (.int .i64 z.ver)).set_ 2 (.int .i64 z.want)).set_ 3 (.slice H1 z.sent.length hc1)).set_ 4 (.slice H2 z.live.length hc2)).set_ 5 (.slice H3 z.back.length hc3)).set_ 6 (.slice H4 z.got.length hc4)); simp at hb9; have KA := ((((((((Keeps.refl (one w17.heap.size) w19).set1 0 (.int .i64 z.way)).set1 1 (.int .i64 z.ver)).set1 2 (.int .i64 z.want)).set1 3 (.slice H1 z.sent.length hc1)).set1 4 (.slice H2 z.live.length hc2)).set1 5 (.slice H3 z.back.length hc3)).set1 6 (.slice H4 z.got.length hc4)); exact ⟨w17.heap.size, _, _, _, _, _, _, _, _, rfl, rfl, hb9, HV9.out.keeps KA (fun b hb e => by have e' : b = w17.heap.size := e; have := HVG.out b hb; omega), by omega, (((((((HQ9.out.new (g := w17.heap.size) (by omega) _ _).new (g := w17.heap.size) (by omega) _ _).new (g := w17.heap.size) (by omega) _ _).new (g := w17.heap.size) (by omega) _ _).new (g := w17.heap.size) (by omega) _ _).new (g := w17.heap.size) (by omega) _ _).new (g := w17.heap.size) (by omega) _ _), (((((((HK.out.new (g := w17.heap.size) (by omega) _ _).new (g := w17.heap.size) (by omega) _ _).new (g := w17.heap.size) (by omega) _ _).new (g := w17.heap.size) (by omega) _ _).new (g := w17.heap.size) (by omega) _ _).new (g := w17.heap.size) (by omega) _ _).new (g := w17.heap.size) (by omega) _ _), HBa.out.keeps KA (fun e => by have e' : w.heap.size = w17.heap.size := e; omega), HBb.out.keeps KA (fun e => by have e' : w.heap.size + 1 = w17.heap.size := e; omega), (HV.out).keeps KA (fun b hb e => by have e' : b = w17.heap.size := e; have := HVL.out b hb; omega), (HG.out).keeps KA (fun b hb e => by have e' : b = w17.heap.size := e; have := HGL.out b hb; omega), (HBv.out).keeps KA (fun e => by have e' : gv = w17.heap.size := e; omega), (HBg.out).keeps KA (fun e => by have e' : w6.heap.size = w17.heap.size := e; omega)⟩) | (have _t := TKh2; have hb9 := (((((((HBv9.out.set_ 0 (.int .i64 z.way)).set_ 1 (.int .i64 z.ver)).set_ 2 (.int .i64 z.want)).set_ 3 (.slice H1 z.sent.length hc1)).set_ 4 (.slice H2 z.live.length hc2)).set_ 5 (.slice H3 z.back.length hc3)).set_ 6 (.slice H4 z.got.length hc4)); simp at hb9; have KA := ((((((((Keeps.refl (one w18.heap.size) w19).set1 0 (.int .i64 z.way)).set1 1 (.int .i64 z.ver)).set1 2 (.int .i64 z.want)).set1 3 (.slice H1 z.sent.length hc1)).set1 4 (.slice H2 z.live.length hc2)).set1 5 (.slice H3 z.back.length hc3)).set1 6 (.slice H4 z.got.length hc4)); exact ⟨w18.heap.size, _, _, _, _, _, _, _, _, rfl, rfl, hb9, HV9.out.keeps KA (fun b hb e => by have e' : b = w18.heap.size := e; have := HVG.out b hb; omega), by omega, (((((((HQ9.out.new (g := w18.heap.size) (by omega) _ _).new (g := w18.heap.size) (by omega) _ _).new (g := w18.heap.size) (by omega) _ _).new (g := w18.heap.size) (by omega) _ _).new (g := w18.heap.size) (by omega) _ _).new (g := w18.heap.size) (by omega) _ _).new (g := w18.heap.size) (by omega) _ _), (((((((HK.out.new (g := w18.heap.size) (by omega) _ _).new (g := w18.heap.size) (by omega) _ _).new (g := w18.heap.size) (by omega) _ _).new (g := w18.heap.size) (by omega) _ _).new (g := w18.heap.size) (by omega) _ _).new (g := w18.heap.size) (by omega) _ _).new (g := w18.heap.size) (by omega) _ _), HBa.out.keeps KA (fun e => by have e' : w.heap.size = w18.heap.size := e; omega), HBb.out.keeps KA (fun e => by have e' : w.heap.size + 1 = w18.heap.size := e; omega), (HV.out).keeps KA (fun b hb e => by have e' : b = w18.heap.size := e; have := HVL.out b hb; omega), (HG.out).keeps KA (fun b hb e => by have e' : b = w18.heap.size := e; have := HGL.out b hb; omega), (HBv.out).keeps KA (fun e => by have e' : gv = w18.heap.size := e; omega), (HBg.out).keeps KA (fun e => by have e' : w6.heap.size = w18.heap.size := e; omega)⟩)
      case rest =>
      obtain ⟨gh, H1, H2, H3, H4, hc1, hc2, hc3, hc4, rfl, rfl, hbh, hh0, hgh, hq0, hk0, hba, hbb, hvv, hgg, hbv, hbg⟩ := hcut
      clear HBa HBb HBv HBg HK HV HG
      have HBh := Lib.hid hbh
      clear hbh
      have HBv := Lib.hid hbv
      clear hbv
      have HBg := Lib.hid hbg
      clear hbg
      have HK := Lib.hid hk0
      have sq1 := hq0.size
      have HV := Lib.hid hvv
      have HG := Lib.hid hgg
      have HH := Lib.hid hh0
      clear hk0 hq0 hvv hgg hh0 hba hbb
      have hb := HBh.out
      have h0 := hb.cell 0
      have h1 := hb.cell 1
      have h2 := hb.cell 2
      have h3 := hb.cell 3
      have h4 := hb.cell 4
      have h5 := hb.cell 5
      have h6 := hb.cell 6
      simp at h0 h1 h2 h3 h4 h5 h6
      have zh := hb.lt
      clear hb
      have hb := HBv.out
      have v0 := hb.cell 0
      have v1 := hb.cell 1
      have v2 := hb.cell 2
      have v3 := hb.cell 3
      have v4 := hb.cell 4
      have v5 := hb.cell 5
      have v6 := hb.cell 6
      simp at v0 v1 v2 v3 v4 v5 v6
      have zv := hb.lt
      clear hb
      have hb := HBg.out
      have g0 := hb.cell 0
      have g1 := hb.cell 1
      have g2 := hb.cell 2
      have g3 := hb.cell 3
      have g4 := hb.cell 4
      have g5 := hb.cell 5
      have g6 := hb.cell 6
      simp at g0 g1 g2 g3 g4 g5 g6
      have zg := hb.lt
      clear hb
      go_wp2_with fail
      refine (eqState_same z H1 H2 H3 H4 V1 V2 V3 V4 _ _ _ _ _ _ _ _ _ HH.out HV.out).mono ?_
      rintro e w18 ⟨rfl, hk18⟩
      clear h0 h1 h2 h3 h4 h5 h6 v0 v1 v2 v3 v4 v5 v6 g0 g1 g2 g3 g4 g5 g6 zh zv zg
      have hh := HBh.out.keeps hk18 (fun h => h)
      clear HBh
      have HBh := Lib.hid hh
      clear hh
      have hv := HBv.out.keeps hk18 (fun h => h)
      clear HBv
      have HBv := Lib.hid hv
      clear hv
      have hg := HBg.out.keeps hk18 (fun h => h)
      clear HBg
      have HBg := Lib.hid hg
      clear hg
      have hr := (HV.out).kept hk18
      clear HV
      have HV := Lib.hid hr
      clear hr
      have hr := (HG.out).kept hk18
      clear HG
      have HG := Lib.hid hr
      clear hr
      have hr := (HH.out).kept hk18
      clear HH
      have HH := Lib.hid hr
      clear hr
      have hr := HK.out.trans hk18
      clear HK
      have HK := Lib.hid hr
      clear hr
      have sz18 := hk18.size
      (try simp at sz18)
      clear hk18
      have hb := HBg.out
      have g0 := hb.cell 0
      have g1 := hb.cell 1
      have g2 := hb.cell 2
      have g3 := hb.cell 3
      have g4 := hb.cell 4
      have g5 := hb.cell 5
      have g6 := hb.cell 6
      simp at g0 g1 g2 g3 g4 g5 g6
      have zg := hb.lt
      clear hb
      go_wp2_with fail
      refine (HHZ.out G1 G2 G3 G4 _ _ _ _ _ HG.out).mono ?_
      rintro e w19 ⟨rfl, hk19⟩
      clear g0 g1 g2 g3 g4 g5 g6 zg
      have hh := HBh.out.keeps hk19 (fun h => h)
      clear HBh
      have HBh := Lib.hid hh
      clear hh
      have hv := HBv.out.keeps hk19 (fun h => h)
      clear HBv
      have HBv := Lib.hid hv
      clear hv
      have hg := HBg.out.keeps hk19 (fun h => h)
      clear HBg
      have HBg := Lib.hid hg
      clear hg
      have hr := (HV.out).kept hk19
      clear HV
      have HV := Lib.hid hr
      clear hr
      have hr := (HG.out).kept hk19
      clear HG
      have HG := Lib.hid hr
      clear hr
      have hr := (HH.out).kept hk19
      clear HH
      have HH := Lib.hid hr
      clear hr
      have hr := HK.out.trans hk19
      clear HK
      have HK := Lib.hid hr
      clear hr
      have sz19 := hk19.size
      (try simp at sz19)
      clear hk19
      go_wp2
      go_ret
      exact ⟨rfl, HK.out.below⟩
    · unfold stV
      go_enter Tryd.func4, Tryd.ntmps4
      go_wp2_with fail
      refine (szState_yes x.way x.ver x.want A1 A2 A3 A4 _ _ _ _ _ _ _ _ 1048576 _ hs (by omega)).mono ?_
      rintro e w1 ⟨rfl, hk1⟩
      have ha := HBa.out.keeps hk1 (fun h => h)
      clear HBa
      have HBa := Lib.hid ha
      clear ha
      have hb := HBb.out.keeps hk1 (fun h => h)
      clear HBb
      have HBb := Lib.hid hb
      clear hb
      have hr := HK.out.trans hk1
      clear HK
      have HK := Lib.hid hr
      clear hr
      have sz1 := hk1.size
      (try simp at sz1)
      clear hk1
      have hb := HBa.out
      have a0 := hb.cell 0
      have a1 := hb.cell 1
      have a2 := hb.cell 2
      have a3 := hb.cell 3
      have a4 := hb.cell 4
      have a5 := hb.cell 5
      have a6 := hb.cell 6
      simp at a0 a1 a2 a3 a4 a5 a6
      have za := hb.lt
      clear hb
      have hb := HBb.out
      have b0 := hb.cell 0
      have b1 := hb.cell 1
      have b2 := hb.cell 2
      have b3 := hb.cell 3
      have b4 := hb.cell 4
      have b5 := hb.cell 5
      have b6 := hb.cell 6
      simp at b0 b1 b2 b3 b4 b5 b6
      have zb := hb.lt
      clear hb
      go_wp2_with fail
      refine (szState_no y.way y.ver y.want B1 B2 B3 B4 _ _ _ _ _ _ _ _ ((1048576 - (x.sent.length : Int) - (x.live.length : Int) - (x.back.length : Int) - (x.got.length : Int))) _ (by omega) (by omega) (by omega) k1 k2 k3 k4).mono ?_
      rintro e w2 ⟨rfl, hk2⟩
      clear a0 a1 a2 a3 a4 a5 a6 b0 b1 b2 b3 b4 b5 b6 za zb
      have ha := HBa.out.keeps hk2 (fun h => h)
      clear HBa
      have HBa := Lib.hid ha
      clear ha
      have hb := HBb.out.keeps hk2 (fun h => h)
      clear HBb
      have HBb := Lib.hid hb
      clear hb
      have hr := HK.out.trans hk2
      clear HK
      have HK := Lib.hid hr
      clear hr
      have sz2 := hk2.size
      (try simp at sz2)
      clear hk2
      go_wp2
      go_ret
      exact ⟨rfl, HK.out.below⟩
  · unfold stV
    go_enter Tryd.func4, Tryd.ntmps4
    go_wp2_with fail
    refine (szState_no x.way x.ver x.want A1 A2 A3 A4 _ _ _ _ _ _ _ _ 1048576 _ (by omega) (by omega) (by omega) m1 m2 m3 m4).mono ?_
    rintro e w1 ⟨rfl, hk1⟩
    have HK1 := Lib.hid (HK.out.trans hk1)
    clear hk1
    go_wp2
    go_ret
    exact ⟨rfl, HK1.out.below⟩
end Go.Proofs.YtifocngajndnnaaDoor
