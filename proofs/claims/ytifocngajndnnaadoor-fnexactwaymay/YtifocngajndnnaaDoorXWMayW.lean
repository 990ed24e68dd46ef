/- FnExactWayMay: the function answers as its model, for every argument; the states read as they did; the two tables read as the program's text lays them. -/
import Derived.Test.YtifocngajndnnaaDoorStF2
import Derived.Test.YtifocngajndnnaaDoorSEq
import Derived.Test.YtifocngajndnnaaDoorSTo
import Derived.Test.YtifocngajndnnaaDoorIWay
import Derived.Deep.RegionHeld3
set_option linter.unusedVariables false
set_option linter.unusedSimpArgs false
namespace Go.Proofs.YtifocngajndnnaaDoor
open Go.RowKit Go.ChangeShapes Go.WideShapes Go.ChangeAt

set_option maxRecDepth 100000 in
set_option maxHeartbeats 4000000 in
theorem walk_xwaymay (x y : StL) (A1 A2 A3 A4 B1 B2 B3 B4 : Option Addr) (c1 c2 c3 c4 d1 d2 d3 d4 : Nat) (k : Int) (w : World) (hx : StAt w x A1 A2 A3 A4) (hy : StAt w y B1 B2 B3 B4) (ht : Tabs w) :
    Calls Tryd.prog 3 #[stV x A1 A2 A3 A4 c1 c2 c3 c4, stV y B1 B2 B3 B4 d1 d2 d3 d4, .int .i64 k] w fun e w' => e = .returned (.bool true) ∧ Below w.heap.size w w' := by
  have HX := Lib.hid hx
  have HY := Lib.hid hy
  have HT := Lib.hid ht
  obtain ⟨m1, m2, m3, m4⟩ := hx.2
  obtain ⟨k1, k2, k3, k4⟩ := hy.2
  clear hx hy ht
  have HBa := Lib.hid ((Box.new w _ rfl 26 #[.int .i64 x.way, .int .i64 x.ver, .int .i64 x.want, .slice A1 x.sent.length c1, .slice A2 x.live.length c2, .slice A3 x.back.length c3, .slice A4 x.got.length c4]).alloc (.cells #[.int .i64 y.way, .int .i64 y.ver, .int .i64 y.want, .slice B1 y.sent.length d1, .slice B2 y.live.length d2, .slice B3 y.back.length d3, .slice B4 y.got.length d4] 26))
  have HBb := Lib.hid (Box.new (w.alloc (.cells #[.int .i64 x.way, .int .i64 x.ver, .int .i64 x.want, .slice A1 x.sent.length c1, .slice A2 x.live.length c2, .slice A3 x.back.length c3, .slice A4 x.got.length c4] 26)) (w.heap.size + 1) (by simp) 26 #[.int .i64 y.way, .int .i64 y.ver, .int .i64 y.want, .slice B1 y.sent.length d1, .slice B2 y.live.length d2, .slice B3 y.back.length d3, .slice B4 y.got.length d4])
  have HK := Lib.hid (((Keeps.refl noBlk w).alloc (.cells #[.int .i64 x.way, .int .i64 x.ver, .int .i64 x.want, .slice A1 x.sent.length c1, .slice A2 x.live.length c2, .slice A3 x.back.length c3, .slice A4 x.got.length c4] 26)).alloc (.cells #[.int .i64 y.way, .int .i64 y.ver, .int .i64 y.want, .slice B1 y.sent.length d1, .slice B2 y.live.length d2, .slice B3 y.back.length d3, .slice B4 y.got.length d4] 26))
  by_cases hs : (x.sent.length : Int) + x.live.length + x.back.length + x.got.length ≤ 1048576
  · have hneg : ¬ (1048576 - (x.sent.length : Int) - (x.live.length : Int) - (x.back.length : Int) - (x.got.length : Int)) < 0 := by omega
    by_cases hs2 : (y.sent.length : Int) + y.live.length + y.back.length + y.got.length ≤ (1048576 - (x.sent.length : Int) - (x.live.length : Int) - (x.back.length : Int) - (x.got.length : Int))
    · have hneg2 : ¬ ((1048576 - (x.sent.length : Int) - (x.live.length : Int) - (x.back.length : Int) - (x.got.length : Int)) - (y.sent.length : Int) - (y.live.length : Int) - (y.back.length : Int) - (y.got.length : Int)) < 0 := by omega
      have HTO := Lib.hid (fun W (hk : Keeps noBlk w W) => toState_any x A1 A2 A3 A4 c1 c2 c3 c4 W (HX.out.kept hk) (by omega) (by omega) (by omega) (by omega))
      have HTY := Lib.hid (fun W (hk : Keeps noBlk w W) => toState_any y B1 B2 B3 B4 d1 d2 d3 d4 W (HY.out.kept hk) (by omega) (by omega) (by omega) (by omega))
      obtain ⟨o, ho⟩ : ∃ o, wmayB x y k = o := ⟨_, rfl⟩
      have HSP := Lib.hid (fun W P1 P2 P3 P4 Q1 Q2 Q3 Q4 e1 e2 e3 e4 f1 f2 f3 f4 (h : StAt W x P1 P2 P3 P4) (h' : StAt W y Q1 Q2 Q3 Q4) => (show Calls Tryd.prog 13 #[stV x P1 P2 P3 P4 e1 e2 e3 e4, stV y Q1 Q2 Q3 Q4 f1 f2 f3 f4, .int .i64 k] W (fun e w' => e = .returned (.bool o) ∧ Keeps noBlk W w') from by rw [← ho]; exact specMay_any x y P1 P2 P3 P4 Q1 Q2 Q3 Q4 e1 e2 e3 e4 f1 f2 f3 f4 k W h h'))
      have HIM := Lib.hid (fun W P1 P2 P3 P4 Q1 Q2 Q3 Q4 e1 e2 e3 e4 f1 f2 f3 f4 (h : StAt W x P1 P2 P3 P4) (h' : StAt W y Q1 Q2 Q3 Q4) hT => (show Calls Tryd.prog 15 #[stV x P1 P2 P3 P4 e1 e2 e3 e4, stV y Q1 Q2 Q3 Q4 f1 f2 f3 f4, .int .i64 k] W (fun e w' => e = .returned (.bool o) ∧ Keeps noBlk W w') from by rw [← ho]; exact implMay_any x y P1 P2 P3 P4 Q1 Q2 Q3 Q4 e1 e2 e3 e4 f1 f2 f3 f4 k W h h' hT))
      clear ho
      unfold stV at HTO HTY HSP HIM ⊢
      go_enter Tryd.func3, Tryd.ntmps3
      go_wp2_with fail
      refine (szState_yes x.way x.ver x.want A1 A2 A3 A4 _ _ _ _ _ _ _ _ 1048576 _ hs (by omega)).mono ?_
      rintro e w1 ⟨rfl, hk1⟩
      have ha := HBa.out.keeps hk1 (fun h => h)
      clear HBa
      have HBa := Lib.hid ha
      clear ha
      have hb := HBb.out.keeps hk1 (fun h => h)
      clear HBb
      have HBb := Lib.hid hb
      clear hb
      have hr := HK.out.trans hk1
      clear HK
      have HK := Lib.hid hr
      clear hr
      have sz1 := hk1.size
      (try simp at sz1)
      clear hk1
      have hb := HBa.out
      have a0 := hb.cell 0
      have a1 := hb.cell 1
      have a2 := hb.cell 2
      have a3 := hb.cell 3
      have a4 := hb.cell 4
      have a5 := hb.cell 5
      have a6 := hb.cell 6
      simp at a0 a1 a2 a3 a4 a5 a6
      have za := hb.lt
      clear hb
      have hb := HBb.out
      have b0 := hb.cell 0
      have b1 := hb.cell 1
      have b2 := hb.cell 2
      have b3 := hb.cell 3
      have b4 := hb.cell 4
      have b5 := hb.cell 5
      have b6 := hb.cell 6
      simp at b0 b1 b2 b3 b4 b5 b6
      have zb := hb.lt
      clear hb
      go_wp2_with fail
      refine (szState_yes y.way y.ver y.want B1 B2 B3 B4 _ _ _ _ _ _ _ _ ((1048576 - (x.sent.length : Int) - (x.live.length : Int) - (x.back.length : Int) - (x.got.length : Int))) _ hs2 (by omega)).mono ?_
      rintro e w2 ⟨rfl, hk2⟩
      clear a0 a1 a2 a3 a4 a5 a6 b0 b1 b2 b3 b4 b5 b6 za zb
      have ha := HBa.out.keeps hk2 (fun h => h)
      clear HBa
      have HBa := Lib.hid ha
      clear ha
      have hb := HBb.out.keeps hk2 (fun h => h)
      clear HBb
      have HBb := Lib.hid hb
      clear hb
      have hr := HK.out.trans hk2
      clear HK
      have HK := Lib.hid hr
      clear hr
      have sz2 := hk2.size
      (try simp at sz2)
      clear hk2
      have hb := HBa.out
      have a0 := hb.cell 0
      have a1 := hb.cell 1
      have a2 := hb.cell 2
      have a3 := hb.cell 3
      have a4 := hb.cell 4
      have a5 := hb.cell 5
      have a6 := hb.cell 6
      simp at a0 a1 a2 a3 a4 a5 a6
      have za := hb.lt
      clear hb
      have hb := HBb.out
      have b0 := hb.cell 0
      have b1 := hb.cell 1
      have b2 := hb.cell 2
      have b3 := hb.cell 3
      have b4 := hb.cell 4
      have b5 := hb.cell 5
      have b6 := hb.cell 6
      simp at b0 b1 b2 b3 b4 b5 b6
      have zb := hb.lt
      clear hb
      have TK : True := trivial
      go_wp2_with fail
      go_region_held3 (fun w' => w'.cell? ⟨w.heap.size, 0, none⟩ = some (.int .i64 x.way) ∧ w'.cell? ⟨w.heap.size, 1, none⟩ = some (.int .i64 x.ver) ∧ w'.cell? ⟨w.heap.size, 2, none⟩ = some (.int .i64 x.want) ∧ w'.cell? ⟨w.heap.size, 3, none⟩ = some (.slice A1 x.sent.length c1) ∧ w'.cell? ⟨w.heap.size, 4, none⟩ = some (.slice A2 x.live.length c2) ∧ w'.cell? ⟨w.heap.size, 5, none⟩ = some (.slice A3 x.back.length c3) ∧ w'.cell? ⟨w.heap.size, 6, none⟩ = some (.slice A4 x.got.length c4) ∧ w'.cell? ⟨w.heap.size + 1, 0, none⟩ = some (.int .i64 y.way) ∧ w'.cell? ⟨w.heap.size + 1, 1, none⟩ = some (.int .i64 y.ver) ∧ w'.cell? ⟨w.heap.size + 1, 2, none⟩ = some (.int .i64 y.want) ∧ w'.cell? ⟨w.heap.size + 1, 3, none⟩ = some (.slice B1 y.sent.length d1) ∧ w'.cell? ⟨w.heap.size + 1, 4, none⟩ = some (.slice B2 y.live.length d2) ∧ w'.cell? ⟨w.heap.size + 1, 5, none⟩ = some (.slice B3 y.back.length d3) ∧ w'.cell? ⟨w.heap.size + 1, 6, none⟩ = some (.slice B4 y.got.length d4))
        (((try dsimp only); (repeat' apply And.intro) <;> (first | with_reducible assumption | (go_keep; done))))
        (first | (clear TK; go_at_call 14; refine (HTO.out _ (HK.out.drewN 1)).mono ?_; rintro e w3 ⟨P1, P2, P3, P4, rfl, ht9, hk3⟩; have hq := ((Keeps.refl noBlk w2).drewN 1).trans hk3; clear hk3; have hk3 := hq; clear hq; unfold stV; have HP := Lib.hid (ht9.at_ m1 m2 m3 m4); clear ht9; clear a0 a1 a2 a3 a4 a5 a6 b0 b1 b2 b3 b4 b5 b6 za zb; have ha := HBa.out.keeps hk3 (fun h => h); clear HBa; have HBa := Lib.hid ha; clear ha; have hb := HBb.out.keeps hk3 (fun h => h); clear HBb; have HBb := Lib.hid hb; clear hb; have hr := HK.out.trans hk3; clear HK; have HK := Lib.hid hr; clear hr; have sz3 := hk3.size; (try simp at sz3); clear hk3; have hb := HBa.out; have a0 := hb.cell 0; have a1 := hb.cell 1; have a2 := hb.cell 2; have a3 := hb.cell 3; have a4 := hb.cell 4; have a5 := hb.cell 5; have a6 := hb.cell 6; simp at a0 a1 a2 a3 a4 a5 a6; have za := hb.lt; clear hb; have hb := HBb.out; have b0 := hb.cell 0; have b1 := hb.cell 1; have b2 := hb.cell 2; have b3 := hb.cell 3; have b4 := hb.cell 4; have b5 := hb.cell 5; have b6 := hb.cell 6; simp at b0 b1 b2 b3 b4 b5 b6; have zb := hb.lt; clear hb) | (go_at_call 14; refine (HTY.out _ (HK.out)).mono ?_; rintro e w4 ⟨Q1, Q2, Q3, Q4, rfl, ht9, hk4⟩; unfold stV; have HQ := Lib.hid (ht9.at_ k1 k2 k3 k4); clear ht9; clear a0 a1 a2 a3 a4 a5 a6 b0 b1 b2 b3 b4 b5 b6 za zb; have ha := HBa.out.keeps hk4 (fun h => h); clear HBa; have HBa := Lib.hid ha; clear ha; have hb := HBb.out.keeps hk4 (fun h => h); clear HBb; have HBb := Lib.hid hb; clear hb; have hr := (HP.out).kept hk4; clear HP; have HP := Lib.hid hr; clear hr; have hr := HK.out.trans hk4; clear HK; have HK := Lib.hid hr; clear hr; have sz4 := hk4.size; (try simp at sz4); clear hk4; have hb := HBa.out; have a0 := hb.cell 0; have a1 := hb.cell 1; have a2 := hb.cell 2; have a3 := hb.cell 3; have a4 := hb.cell 4; have a5 := hb.cell 5; have a6 := hb.cell 6; simp at a0 a1 a2 a3 a4 a5 a6; have za := hb.lt; clear hb; have hb := HBb.out; have b0 := hb.cell 0; have b1 := hb.cell 1; have b2 := hb.cell 2; have b3 := hb.cell 3; have b4 := hb.cell 4; have b5 := hb.cell 5; have b6 := hb.cell 6; simp at b0 b1 b2 b3 b4 b5 b6; have zb := hb.lt; clear hb) | (go_at_call 13; refine (HSP.out _ P1 P2 P3 P4 Q1 Q2 Q3 Q4 _ _ _ _ _ _ _ _ HP.out HQ.out).mono ?_; rintro e w5 ⟨rfl, hk5⟩; clear a0 a1 a2 a3 a4 a5 a6 b0 b1 b2 b3 b4 b5 b6 za zb; have ha := HBa.out.keeps hk5 (fun h => h); clear HBa; have HBa := Lib.hid ha; clear ha; have hb := HBb.out.keeps hk5 (fun h => h); clear HBb; have HBb := Lib.hid hb; clear hb; have hr := (HP.out).kept hk5; clear HP; have HP := Lib.hid hr; clear hr; have hr := (HQ.out).kept hk5; clear HQ; have HQ := Lib.hid hr; clear hr; have hr := HK.out.trans hk5; clear HK; have HK := Lib.hid hr; clear hr; have sz5 := hk5.size; (try simp at sz5); clear hk5; have hb := HBa.out; have a0 := hb.cell 0; have a1 := hb.cell 1; have a2 := hb.cell 2; have a3 := hb.cell 3; have a4 := hb.cell 4; have a5 := hb.cell 5; have a6 := hb.cell 6; simp at a0 a1 a2 a3 a4 a5 a6; have za := hb.lt; clear hb; have hb := HBb.out; have b0 := hb.cell 0; have b1 := hb.cell 1; have b2 := hb.cell 2; have b3 := hb.cell 3; have b4 := hb.cell 4; have b5 := hb.cell 5; have b6 := hb.cell 6; simp at b0 b1 b2 b3 b4 b5 b6; have zb := hb.lt; clear hb))
      clear HP HQ
      go_wp2_with fail
      refine (HTO.out _ HK.out).mono ?_
      rintro e w6 ⟨C1, C2, C3, C4, rfl, ht9, hk6⟩
      unfold stV
      have HC := Lib.hid (ht9.at_ m1 m2 m3 m4)
      clear ht9
      clear a0 a1 a2 a3 a4 a5 a6 b0 b1 b2 b3 b4 b5 b6 za zb
      have ha := HBa.out.keeps hk6 (fun h => h)
      clear HBa
      have HBa := Lib.hid ha
      clear ha
      have hb := HBb.out.keeps hk6 (fun h => h)
      clear HBb
      have HBb := Lib.hid hb
      clear hb
      have hr := HK.out.trans hk6
      clear HK
      have HK := Lib.hid hr
      clear hr
      have sz6 := hk6.size
      (try simp at sz6)
      clear hk6
      have hb := HBb.out
      have b0 := hb.cell 0
      have b1 := hb.cell 1
      have b2 := hb.cell 2
      have b3 := hb.cell 3
      have b4 := hb.cell 4
      have b5 := hb.cell 5
      have b6 := hb.cell 6
      simp at b0 b1 b2 b3 b4 b5 b6
      have zb := hb.lt
      clear hb
      have ha := HBa.out.alloc (.cells #[.int .i64 x.way, .int .i64 x.ver, .int .i64 x.want, .slice C1 x.sent.length x.sent.length, .slice C2 x.live.length x.live.length, .slice C3 x.back.length x.back.length, .slice C4 x.got.length x.got.length] 31)
      clear HBa
      have HBa := Lib.hid ha
      clear ha
      have hb := HBb.out.alloc (.cells #[.int .i64 x.way, .int .i64 x.ver, .int .i64 x.want, .slice C1 x.sent.length x.sent.length, .slice C2 x.live.length x.live.length, .slice C3 x.back.length x.back.length, .slice C4 x.got.length x.got.length] 31)
      clear HBb
      have HBb := Lib.hid hb
      clear hb
      have hr := (HC.out).kept ((Keeps.refl noBlk w6).alloc (.cells #[.int .i64 x.way, .int .i64 x.ver, .int .i64 x.want, .slice C1 x.sent.length x.sent.length, .slice C2 x.live.length x.live.length, .slice C3 x.back.length x.back.length, .slice C4 x.got.length x.got.length] 31))
      clear HC
      have HC := Lib.hid hr
      clear hr
      have hr := HK.out.alloc (.cells #[.int .i64 x.way, .int .i64 x.ver, .int .i64 x.want, .slice C1 x.sent.length x.sent.length, .slice C2 x.live.length x.live.length, .slice C3 x.back.length x.back.length, .slice C4 x.got.length x.got.length] 31)
      clear HK
      have HK := Lib.hid hr
      clear hr
      have HBx := Lib.hid (Box.new w6 _ rfl 31 #[.int .i64 x.way, .int .i64 x.ver, .int .i64 x.want, .slice C1 x.sent.length x.sent.length, .slice C2 x.live.length x.live.length, .slice C3 x.back.length x.back.length, .slice C4 x.got.length x.got.length])
      go_wp2_with fail
      refine (HTY.out _ HK.out).mono ?_
      rintro e w7 ⟨D1, D2, D3, D4, rfl, ht9, hk7⟩
      unfold stV
      have HE := Lib.hid (ht9.at_ k1 k2 k3 k4)
      clear ht9
      clear b0 b1 b2 b3 b4 b5 b6 zb
      have ha := HBa.out.keeps hk7 (fun h => h)
      clear HBa
      have HBa := Lib.hid ha
      clear ha
      have hb := HBb.out.keeps hk7 (fun h => h)
      clear HBb
      have HBb := Lib.hid hb
      clear hb
      have hx := HBx.out.keeps hk7 (fun h => h)
      clear HBx
      have HBx := Lib.hid hx
      clear hx
      have hr := (HC.out).kept hk7
      clear HC
      have HC := Lib.hid hr
      clear hr
      have hr := HK.out.trans hk7
      clear HK
      have HK := Lib.hid hr
      clear hr
      have sz7 := hk7.size
      (try simp at sz7)
      clear hk7
      have hb := HBx.out
      have x0 := hb.cell 0
      have x1 := hb.cell 1
      have x2 := hb.cell 2
      have x3 := hb.cell 3
      have x4 := hb.cell 4
      have x5 := hb.cell 5
      have x6 := hb.cell 6
      simp at x0 x1 x2 x3 x4 x5 x6
      have zx := hb.lt
      clear hb
      have ha := HBa.out.alloc (.cells #[.int .i64 y.way, .int .i64 y.ver, .int .i64 y.want, .slice D1 y.sent.length y.sent.length, .slice D2 y.live.length y.live.length, .slice D3 y.back.length y.back.length, .slice D4 y.got.length y.got.length] 31)
      clear HBa
      have HBa := Lib.hid ha
      clear ha
      have hb := HBb.out.alloc (.cells #[.int .i64 y.way, .int .i64 y.ver, .int .i64 y.want, .slice D1 y.sent.length y.sent.length, .slice D2 y.live.length y.live.length, .slice D3 y.back.length y.back.length, .slice D4 y.got.length y.got.length] 31)
      clear HBb
      have HBb := Lib.hid hb
      clear hb
      have hx := HBx.out.alloc (.cells #[.int .i64 y.way, .int .i64 y.ver, .int .i64 y.want, .slice D1 y.sent.length y.sent.length, .slice D2 y.live.length y.live.length, .slice D3 y.back.length y.back.length, .slice D4 y.got.length y.got.length] 31)
      clear HBx
      have HBx := Lib.hid hx
      clear hx
      have hr := (HC.out).kept ((Keeps.refl noBlk w7).alloc (.cells #[.int .i64 y.way, .int .i64 y.ver, .int .i64 y.want, .slice D1 y.sent.length y.sent.length, .slice D2 y.live.length y.live.length, .slice D3 y.back.length y.back.length, .slice D4 y.got.length y.got.length] 31))
      clear HC
      have HC := Lib.hid hr
      clear hr
      have hr := (HE.out).kept ((Keeps.refl noBlk w7).alloc (.cells #[.int .i64 y.way, .int .i64 y.ver, .int .i64 y.want, .slice D1 y.sent.length y.sent.length, .slice D2 y.live.length y.live.length, .slice D3 y.back.length y.back.length, .slice D4 y.got.length y.got.length] 31))
      clear HE
      have HE := Lib.hid hr
      clear hr
      have hr := HK.out.alloc (.cells #[.int .i64 y.way, .int .i64 y.ver, .int .i64 y.want, .slice D1 y.sent.length y.sent.length, .slice D2 y.live.length y.live.length, .slice D3 y.back.length y.back.length, .slice D4 y.got.length y.got.length] 31)
      clear HK
      have HK := Lib.hid hr
      clear hr
      have HBy := Lib.hid (Box.new w7 _ rfl 31 #[.int .i64 y.way, .int .i64 y.ver, .int .i64 y.want, .slice D1 y.sent.length y.sent.length, .slice D2 y.live.length y.live.length, .slice D3 y.back.length y.back.length, .slice D4 y.got.length y.got.length])
      go_wp2_with fail
      refine (HIM.out _ C1 C2 C3 C4 D1 D2 D3 D4 _ _ _ _ _ _ _ _ HC.out HE.out (HT.out.keeps HK.out)).mono ?_
      rintro e w8 ⟨rfl, hk8⟩
      clear x0 x1 x2 x3 x4 x5 x6 zx
      have ha := HBa.out.keeps hk8 (fun h => h)
      clear HBa
      have HBa := Lib.hid ha
      clear ha
      have hb := HBb.out.keeps hk8 (fun h => h)
      clear HBb
      have HBb := Lib.hid hb
      clear hb
      have hx := HBx.out.keeps hk8 (fun h => h)
      clear HBx
      have HBx := Lib.hid hx
      clear hx
      have hy := HBy.out.keeps hk8 (fun h => h)
      clear HBy
      have HBy := Lib.hid hy
      clear hy
      have hr := (HC.out).kept hk8
      clear HC
      have HC := Lib.hid hr
      clear hr
      have hr := (HE.out).kept hk8
      clear HE
      have HE := Lib.hid hr
      clear hr
      have hr := HK.out.trans hk8
      clear HK
      have HK := Lib.hid hr
      clear hr
      have sz8 := hk8.size
      (try simp at sz8)
      clear hk8
      have hb := HBa.out
      have a0 := hb.cell 0
      have a1 := hb.cell 1
      have a2 := hb.cell 2
      have a3 := hb.cell 3
      have a4 := hb.cell 4
      have a5 := hb.cell 5
      have a6 := hb.cell 6
      simp at a0 a1 a2 a3 a4 a5 a6
      have za := hb.lt
      clear hb
      have hb := HBx.out
      have x0 := hb.cell 0
      have x1 := hb.cell 1
      have x2 := hb.cell 2
      have x3 := hb.cell 3
      have x4 := hb.cell 4
      have x5 := hb.cell 5
      have x6 := hb.cell 6
      simp at x0 x1 x2 x3 x4 x5 x6
      have zx := hb.lt
      clear hb
      go_wp2_with fail
      go_region_held3 (fun w' => w'.cell? ⟨w6.heap.size, 0, none⟩ = some (.int .i64 x.way) ∧ w'.cell? ⟨w6.heap.size, 1, none⟩ = some (.int .i64 x.ver) ∧ w'.cell? ⟨w6.heap.size, 2, none⟩ = some (.int .i64 x.want) ∧ w'.cell? ⟨w6.heap.size, 3, none⟩ = some (.slice C1 x.sent.length x.sent.length) ∧ w'.cell? ⟨w6.heap.size, 4, none⟩ = some (.slice C2 x.live.length x.live.length) ∧ w'.cell? ⟨w6.heap.size, 5, none⟩ = some (.slice C3 x.back.length x.back.length) ∧ w'.cell? ⟨w6.heap.size, 6, none⟩ = some (.slice C4 x.got.length x.got.length) ∧ w'.cell? ⟨w.heap.size, 0, none⟩ = some (.int .i64 x.way) ∧ w'.cell? ⟨w.heap.size, 1, none⟩ = some (.int .i64 x.ver) ∧ w'.cell? ⟨w.heap.size, 2, none⟩ = some (.int .i64 x.want) ∧ w'.cell? ⟨w.heap.size, 3, none⟩ = some (.slice A1 x.sent.length c1) ∧ w'.cell? ⟨w.heap.size, 4, none⟩ = some (.slice A2 x.live.length c2) ∧ w'.cell? ⟨w.heap.size, 5, none⟩ = some (.slice A3 x.back.length c3) ∧ w'.cell? ⟨w.heap.size, 6, none⟩ = some (.slice A4 x.got.length c4))
        (((try dsimp only); (repeat' apply And.intro) <;> (first | with_reducible assumption | (go_keep; done))))
        (first | (go_at_call 14; refine (HTO.out _ (HK.out.drewN 1)).mono ?_; rintro e w9 ⟨M1, M2, M3, M4, rfl, ht9, hk9⟩; have hq := ((Keeps.refl noBlk w8).drewN 1).trans hk9; clear hk9; have hk9 := hq; clear hq; unfold stV; have HD := Lib.hid (ht9.at_ m1 m2 m3 m4); clear ht9; clear a0 a1 a2 a3 a4 a5 a6 x0 x1 x2 x3 x4 x5 x6 za zx; have ha := HBa.out.keeps hk9 (fun h => h); clear HBa; have HBa := Lib.hid ha; clear ha; have hb := HBb.out.keeps hk9 (fun h => h); clear HBb; have HBb := Lib.hid hb; clear hb; have hx := HBx.out.keeps hk9 (fun h => h); clear HBx; have HBx := Lib.hid hx; clear hx; have hy := HBy.out.keeps hk9 (fun h => h); clear HBy; have HBy := Lib.hid hy; clear hy; have hr := (HC.out).kept hk9; clear HC; have HC := Lib.hid hr; clear hr; have hr := (HE.out).kept hk9; clear HE; have HE := Lib.hid hr; clear hr; have hr := HK.out.trans hk9; clear HK; have HK := Lib.hid hr; clear hr; have sz9 := hk9.size; (try simp at sz9); clear hk9; have hb := HBx.out; have x0 := hb.cell 0; have x1 := hb.cell 1; have x2 := hb.cell 2; have x3 := hb.cell 3; have x4 := hb.cell 4; have x5 := hb.cell 5; have x6 := hb.cell 6; simp at x0 x1 x2 x3 x4 x5 x6; have zx := hb.lt; clear hb; have hb := HBa.out; have a0 := hb.cell 0; have a1 := hb.cell 1; have a2 := hb.cell 2; have a3 := hb.cell 3; have a4 := hb.cell 4; have a5 := hb.cell 5; have a6 := hb.cell 6; simp at a0 a1 a2 a3 a4 a5 a6; have za := hb.lt; clear hb) | (go_at_call 16; refine (eqState_same x C1 C2 C3 C4 M1 M2 M3 M4 _ _ _ _ _ _ _ _ _ HC.out HD.out).mono ?_; rintro e w10 ⟨rfl, hk10⟩; clear x0 x1 x2 x3 x4 x5 x6 a0 a1 a2 a3 a4 a5 a6 zx za; have ha := HBa.out.keeps hk10 (fun h => h); clear HBa; have HBa := Lib.hid ha; clear ha; have hb := HBb.out.keeps hk10 (fun h => h); clear HBb; have HBb := Lib.hid hb; clear hb; have hx := HBx.out.keeps hk10 (fun h => h); clear HBx; have HBx := Lib.hid hx; clear hx; have hy := HBy.out.keeps hk10 (fun h => h); clear HBy; have HBy := Lib.hid hy; clear hy; have hr := (HC.out).kept hk10; clear HC; have HC := Lib.hid hr; clear hr; have hr := (HE.out).kept hk10; clear HE; have HE := Lib.hid hr; clear hr; have hr := (HD.out).kept hk10; clear HD; have HD := Lib.hid hr; clear hr; have hr := HK.out.trans hk10; clear HK; have HK := Lib.hid hr; clear hr; have sz10 := hk10.size; (try simp at sz10); clear hk10; have hb := HBx.out; have x0 := hb.cell 0; have x1 := hb.cell 1; have x2 := hb.cell 2; have x3 := hb.cell 3; have x4 := hb.cell 4; have x5 := hb.cell 5; have x6 := hb.cell 6; simp at x0 x1 x2 x3 x4 x5 x6; have zx := hb.lt; clear hb; have hb := HBa.out; have a0 := hb.cell 0; have a1 := hb.cell 1; have a2 := hb.cell 2; have a3 := hb.cell 3; have a4 := hb.cell 4; have a5 := hb.cell 5; have a6 := hb.cell 6; simp at a0 a1 a2 a3 a4 a5 a6; have za := hb.lt; clear hb))
      clear HD
      clear x0 x1 x2 x3 x4 x5 x6 a0 a1 a2 a3 a4 a5 a6 zx za
      have hb := HBb.out
      have b0 := hb.cell 0
      have b1 := hb.cell 1
      have b2 := hb.cell 2
      have b3 := hb.cell 3
      have b4 := hb.cell 4
      have b5 := hb.cell 5
      have b6 := hb.cell 6
      simp at b0 b1 b2 b3 b4 b5 b6
      have zb := hb.lt
      clear hb
      have hb := HBy.out
      have y0 := hb.cell 0
      have y1 := hb.cell 1
      have y2 := hb.cell 2
      have y3 := hb.cell 3
      have y4 := hb.cell 4
      have y5 := hb.cell 5
      have y6 := hb.cell 6
      simp at y0 y1 y2 y3 y4 y5 y6
      have zy := hb.lt
      clear hb
      go_wp2_with fail
      go_region_held3 (fun w' => w'.cell? ⟨w7.heap.size, 0, none⟩ = some (.int .i64 y.way) ∧ w'.cell? ⟨w7.heap.size, 1, none⟩ = some (.int .i64 y.ver) ∧ w'.cell? ⟨w7.heap.size, 2, none⟩ = some (.int .i64 y.want) ∧ w'.cell? ⟨w7.heap.size, 3, none⟩ = some (.slice D1 y.sent.length y.sent.length) ∧ w'.cell? ⟨w7.heap.size, 4, none⟩ = some (.slice D2 y.live.length y.live.length) ∧ w'.cell? ⟨w7.heap.size, 5, none⟩ = some (.slice D3 y.back.length y.back.length) ∧ w'.cell? ⟨w7.heap.size, 6, none⟩ = some (.slice D4 y.got.length y.got.length) ∧ w'.cell? ⟨w.heap.size + 1, 0, none⟩ = some (.int .i64 y.way) ∧ w'.cell? ⟨w.heap.size + 1, 1, none⟩ = some (.int .i64 y.ver) ∧ w'.cell? ⟨w.heap.size + 1, 2, none⟩ = some (.int .i64 y.want) ∧ w'.cell? ⟨w.heap.size + 1, 3, none⟩ = some (.slice B1 y.sent.length d1) ∧ w'.cell? ⟨w.heap.size + 1, 4, none⟩ = some (.slice B2 y.live.length d2) ∧ w'.cell? ⟨w.heap.size + 1, 5, none⟩ = some (.slice B3 y.back.length d3) ∧ w'.cell? ⟨w.heap.size + 1, 6, none⟩ = some (.slice B4 y.got.length d4))
        (((try dsimp only); (repeat' apply And.intro) <;> (first | with_reducible assumption | (go_keep; done))))
        (first | (go_at_call 14; refine (HTY.out _ (HK.out.drewN 1)).mono ?_; rintro e w11 ⟨N1, N2, N3, N4, rfl, ht9, hk11⟩; have hq := ((Keeps.refl noBlk w10).drewN 1).trans hk11; clear hk11; have hk11 := hq; clear hq; unfold stV; have HD := Lib.hid (ht9.at_ k1 k2 k3 k4); clear ht9; clear b0 b1 b2 b3 b4 b5 b6 y0 y1 y2 y3 y4 y5 y6 zb zy; have ha := HBa.out.keeps hk11 (fun h => h); clear HBa; have HBa := Lib.hid ha; clear ha; have hb := HBb.out.keeps hk11 (fun h => h); clear HBb; have HBb := Lib.hid hb; clear hb; have hx := HBx.out.keeps hk11 (fun h => h); clear HBx; have HBx := Lib.hid hx; clear hx; have hy := HBy.out.keeps hk11 (fun h => h); clear HBy; have HBy := Lib.hid hy; clear hy; have hr := (HC.out).kept hk11; clear HC; have HC := Lib.hid hr; clear hr; have hr := (HE.out).kept hk11; clear HE; have HE := Lib.hid hr; clear hr; have hr := HK.out.trans hk11; clear HK; have HK := Lib.hid hr; clear hr; have sz11 := hk11.size; (try simp at sz11); clear hk11; have hb := HBy.out; have y0 := hb.cell 0; have y1 := hb.cell 1; have y2 := hb.cell 2; have y3 := hb.cell 3; have y4 := hb.cell 4; have y5 := hb.cell 5; have y6 := hb.cell 6; simp at y0 y1 y2 y3 y4 y5 y6; have zy := hb.lt; clear hb; have hb := HBb.out; have b0 := hb.cell 0; have b1 := hb.cell 1; have b2 := hb.cell 2; have b3 := hb.cell 3; have b4 := hb.cell 4; have b5 := hb.cell 5; have b6 := hb.cell 6; simp at b0 b1 b2 b3 b4 b5 b6; have zb := hb.lt; clear hb) | (go_at_call 16; refine (eqState_same y D1 D2 D3 D4 N1 N2 N3 N4 _ _ _ _ _ _ _ _ _ HE.out HD.out).mono ?_; rintro e w12 ⟨rfl, hk12⟩; clear y0 y1 y2 y3 y4 y5 y6 b0 b1 b2 b3 b4 b5 b6 zy zb; have ha := HBa.out.keeps hk12 (fun h => h); clear HBa; have HBa := Lib.hid ha; clear ha; have hb := HBb.out.keeps hk12 (fun h => h); clear HBb; have HBb := Lib.hid hb; clear hb; have hx := HBx.out.keeps hk12 (fun h => h); clear HBx; have HBx := Lib.hid hx; clear hx; have hy := HBy.out.keeps hk12 (fun h => h); clear HBy; have HBy := Lib.hid hy; clear hy; have hr := (HC.out).kept hk12; clear HC; have HC := Lib.hid hr; clear hr; have hr := (HE.out).kept hk12; clear HE; have HE := Lib.hid hr; clear hr; have hr := (HD.out).kept hk12; clear HD; have HD := Lib.hid hr; clear hr; have hr := HK.out.trans hk12; clear HK; have HK := Lib.hid hr; clear hr; have sz12 := hk12.size; (try simp at sz12); clear hk12; have hb := HBy.out; have y0 := hb.cell 0; have y1 := hb.cell 1; have y2 := hb.cell 2; have y3 := hb.cell 3; have y4 := hb.cell 4; have y5 := hb.cell 5; have y6 := hb.cell 6; simp at y0 y1 y2 y3 y4 y5 y6; have zy := hb.lt; clear hb; have hb := HBb.out; have b0 := hb.cell 0; have b1 := hb.cell 1; have b2 := hb.cell 2; have b3 := hb.cell 3; have b4 := hb.cell 4; have b5 := hb.cell 5; have b6 := hb.cell 6; simp at b0 b1 b2 b3 b4 b5 b6; have zb := hb.lt; clear hb))
      clear HD
      go_wp2
      go_ret
      exact ⟨rfl, HK.out.below⟩
    · unfold stV
      go_enter Tryd.func3, Tryd.ntmps3
      go_wp2_with fail
      refine (szState_yes x.way x.ver x.want A1 A2 A3 A4 _ _ _ _ _ _ _ _ 1048576 _ hs (by omega)).mono ?_
      rintro e w1 ⟨rfl, hk1⟩
      have ha := HBa.out.keeps hk1 (fun h => h)
      clear HBa
      have HBa := Lib.hid ha
      clear ha
      have hb := HBb.out.keeps hk1 (fun h => h)
      clear HBb
      have HBb := Lib.hid hb
      clear hb
      have hr := HK.out.trans hk1
      clear HK
      have HK := Lib.hid hr
      clear hr
      have sz1 := hk1.size
      (try simp at sz1)
      clear hk1
      have hb := HBa.out
      have a0 := hb.cell 0
      have a1 := hb.cell 1
      have a2 := hb.cell 2
      have a3 := hb.cell 3
      have a4 := hb.cell 4
      have a5 := hb.cell 5
      have a6 := hb.cell 6
      simp at a0 a1 a2 a3 a4 a5 a6
      have za := hb.lt
      clear hb
      have hb := HBb.out
      have b0 := hb.cell 0
      have b1 := hb.cell 1
      have b2 := hb.cell 2
      have b3 := hb.cell 3
      have b4 := hb.cell 4
      have b5 := hb.cell 5
      have b6 := hb.cell 6
      simp at b0 b1 b2 b3 b4 b5 b6
      have zb := hb.lt
      clear hb
      go_wp2_with fail
      refine (szState_no y.way y.ver y.want B1 B2 B3 B4 _ _ _ _ _ _ _ _ ((1048576 - (x.sent.length : Int) - (x.live.length : Int) - (x.back.length : Int) - (x.got.length : Int))) _ (by omega) (by omega) (by omega) k1 k2 k3 k4).mono ?_
      rintro e w2 ⟨rfl, hk2⟩
      clear a0 a1 a2 a3 a4 a5 a6 b0 b1 b2 b3 b4 b5 b6 za zb
      have ha := HBa.out.keeps hk2 (fun h => h)
      clear HBa
      have HBa := Lib.hid ha
      clear ha
      have hb := HBb.out.keeps hk2 (fun h => h)
      clear HBb
      have HBb := Lib.hid hb
      clear hb
      have hr := HK.out.trans hk2
      clear HK
      have HK := Lib.hid hr
      clear hr
      have sz2 := hk2.size
      (try simp at sz2)
      clear hk2
      go_wp2
      go_ret
      exact ⟨rfl, HK.out.below⟩
  · unfold stV
    go_enter Tryd.func3, Tryd.ntmps3
    go_wp2_with fail
    refine (szState_no x.way x.ver x.want A1 A2 A3 A4 _ _ _ _ _ _ _ _ 1048576 _ (by omega) (by omega) (by omega) m1 m2 m3 m4).mono ?_
    rintro e w1 ⟨rfl, hk1⟩
    have HK1 := Lib.hid (HK.out.trans hk1)
    clear hk1
    go_wp2
    go_ret
    exact ⟨rfl, HK1.out.below⟩
end Go.Proofs.YtifocngajndnnaaDoor
