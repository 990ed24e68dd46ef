/- FnExactStateLive: the function answers as its model, for every argument; the state reads as it did; the two tables read as the program's text lays them. -/
import Derived.Test.YtedmkbiamjpdaaaDoorStF
import Derived.Test.YtedmkbiamjpdaaaDoorSEq
import Derived.Test.YtedmkbiamjpdaaaDoorSLive
import Derived.Test.YtedmkbiamjpdaaaDoorSMark
import Derived.Deep.RegionHeld3
set_option linter.unusedVariables false
set_option linter.unusedSimpArgs false
namespace Go.Proofs.YtedmkbiamjpdaaaDoor
open Go.RowKit Go.ChangeShapes Go.WideShapes Go.ChangeAt

set_option maxHeartbeats 2000000 in
theorem walk_xstlive (x : StL) (A1 A2 A3 A4 : Option Addr) (c1 c2 c3 c4 : Nat) (w : World) (hx : StAt w x A1 A2 A3 A4) (ht : Tabs w) :
    Calls Tryd.prog 7 #[stV x A1 A2 A3 A4 c1 c2 c3 c4] w fun e w' => e = .returned (.bool true) ∧ Below w.heap.size w w' := by
  have HX := Lib.hid hx
  have HT := Lib.hid ht
  obtain ⟨m1, m2, m3, m4⟩ := hx.2
  clear hx ht
  have hbox := Lib.hid (Box.new w _ rfl 26 #[.int .i64 x.way, .int .i64 x.ver, .int .i64 x.want, .slice A1 x.sent.length c1, .slice A2 x.live.length c2, .slice A3 x.back.length c3, .slice A4 x.got.length c4])
  have HK0 := Lib.hid ((Keeps.refl noBlk w).alloc (.cells #[.int .i64 x.way, .int .i64 x.ver, .int .i64 x.want, .slice A1 x.sent.length c1, .slice A2 x.live.length c2, .slice A3 x.back.length c3, .slice A4 x.got.length c4] 26))
  by_cases hs : (x.sent.length : Int) + x.live.length + x.back.length + x.got.length ≤ 1048576
  · have l1 : x.sent.length ≤ 1048576 := by omega
    have l2 : x.live.length ≤ 1048576 := by omega
    have l3 : x.back.length ≤ 1048576 := by omega
    have l4 : x.got.length ≤ 1048576 := by omega
    have hneg : ¬ (1048576 - (x.sent.length : Int) - (x.live.length : Int) - (x.back.length : Int) - (x.got.length : Int)) < 0 := by omega
    have HTO := Lib.hid (fun W (hk : Keeps noBlk w W) => toState_any x A1 A2 A3 A4 c1 c2 c3 c4 W (HX.out.kept hk) l1 l2 l3 l4)
    have HMK := Lib.hid (fun B1 B2 B3 B4 d1 d2 d3 d4 lo W (h : StOwn W lo x B1 B2 B3 B4) => markState_any x B1 B2 B3 B4 d1 d2 d3 d4 lo 1 W h (by decide) (by unfold stN; omega))
    have hN : (liveL x).length ≤ 1048576 := Nat.le_trans (liveL_len x) l1
    obtain ⟨o, ho⟩ : ∃ o, liveL x = o := ⟨_, rfl⟩
    have HSP := Lib.hid (fun W B1 B2 B3 B4 c1 c2 c3 c4 (h : StAt W x B1 B2 B3 B4) => (show Calls Tryd.prog 23 #[stV x B1 B2 B3 B4 c1 c2 c3 c4] W (RetOwn W o) from by rw [← ho]; exact specLive_any x B1 B2 B3 B4 c1 c2 c3 c4 W h))
    have HIM := Lib.hid (fun W B1 B2 B3 B4 c1 c2 c3 c4 (h : StAt W x B1 B2 B3 B4) hT => (show Calls Tryd.prog 24 #[stV x B1 B2 B3 B4 c1 c2 c3 c4] W (RetOwn W o) from by rw [← ho]; exact implLive_any x B1 B2 B3 B4 c1 c2 c3 c4 W h hT))
    rw [ho] at hN
    clear ho
    have hNm : o.length ≤ maxLen := by unfold maxLen; omega
    unfold stV at HTO HSP HIM HMK ⊢
    go_enter Tryd.func7, Tryd.ntmps7
    go_wp2_with fail
    refine (szState_yes x.way x.ver x.want A1 A2 A3 A4 _ _ _ _ _ _ _ _ 1048576 _ hs (by omega)).mono ?_
    rintro e w1 ⟨rfl, hk1⟩
    have hb := hbox.out.keeps hk1 fun h => h
    have a0 := hb.cell 0
    have a1 := hb.cell 1
    have a2 := hb.cell 2
    have a3 := hb.cell 3
    have a4 := hb.cell 4
    have a5 := hb.cell 5
    have a6 := hb.cell 6
    simp at a0 a1 a2 a3 a4 a5 a6
    have HB := Lib.hid hb
    have HK1 := Lib.hid (HK0.out.trans hk1)
    clear hb hk1
    go_wp2_with fail
    refine (HTO.out _ HK1.out).mono ?_
    rintro e w2 ⟨B1, B2, B3, B4, rfl, hr2, hk2⟩
    unfold stV
    have hb := HB.out.keeps hk2 fun h => h
    clear HB
    have HB := Lib.hid hb
    have HR2 := Lib.hid (hr2.at_ m1 m2 m3 m4)
    have HK2 := Lib.hid (HK1.out.trans hk2)
    clear hb hr2 hk2 a0 a1 a2 a3 a4 a5 a6
    go_wp2_with fail
    refine (HSP.out _ B1 B2 B3 B4 _ _ _ _ HR2.out).mono ?_
    rintro e w3 ⟨wv, rfl, hwo, hk3⟩
    obtain ⟨WA, wc, rfl, hw0, _⟩ := Row.of_own hwo
    have hb := HB.out.keeps hk3 fun h => h
    have a0 := hb.cell 0
    have a1 := hb.cell 1
    have a2 := hb.cell 2
    have a3 := hb.cell 3
    have a4 := hb.cell 4
    have a5 := hb.cell 5
    have a6 := hb.cell 6
    simp at a0 a1 a2 a3 a4 a5 a6
    have HK3 := Lib.hid (HK2.out.trans hk3)
    have HW3 := Lib.hid hw0
    have hA3 := hb.lt
    clear HB
    have HB := Lib.hid hb
    clear hb hk3 hwo hw0 HR2
    go_wp2_with fail
    refine (HTO.out _ HK3.out).mono ?_
    rintro e w4 ⟨C1, C2, C3, C4, rfl, hs4, hk4⟩
    unfold stV
    have hb := (HB.out.keeps hk4 fun h => h).alloc (.cells #[.int .i64 x.way, .int .i64 x.ver, .int .i64 x.want, .slice C1 x.sent.length x.sent.length, .slice C2 x.live.length x.live.length, .slice C3 x.back.length x.back.length, .slice C4 x.got.length x.got.length] 31)
    have hxx := Box.new w4 _ rfl 31 #[.int .i64 x.way, .int .i64 x.ver, .int .i64 x.want, .slice C1 x.sent.length x.sent.length, .slice C2 x.live.length x.live.length, .slice C3 x.back.length x.back.length, .slice C4 x.got.length x.got.length]
    clear HB
    have h34 := hk4.size
    have HLT4 := Lib.hid (fun b (h : stBlk x C1 C2 C3 C4 b) => And.intro (hs4.ge h) (hs4.lt h))
    have HO4 := Lib.hid (hs4.kept ((Keeps.refl noBlk w4).alloc (.cells #[.int .i64 x.way, .int .i64 x.ver, .int .i64 x.want, .slice C1 x.sent.length x.sent.length, .slice C2 x.live.length x.live.length, .slice C3 x.back.length x.back.length, .slice C4 x.got.length x.got.length] 31)))
    have HS4 := Lib.hid ((hs4.at_ m1 m2 m3 m4).alloc (.cells #[.int .i64 x.way, .int .i64 x.ver, .int .i64 x.want, .slice C1 x.sent.length x.sent.length, .slice C2 x.live.length x.live.length, .slice C3 x.back.length x.back.length, .slice C4 x.got.length x.got.length] 31))
    have HK4 := Lib.hid ((HK3.out.trans hk4).alloc (.cells #[.int .i64 x.way, .int .i64 x.ver, .int .i64 x.want, .slice C1 x.sent.length x.sent.length, .slice C2 x.live.length x.live.length, .slice C3 x.back.length x.back.length, .slice C4 x.got.length x.got.length] 31))
    have HKW4 := Lib.hid (hk4.alloc (.cells #[.int .i64 x.way, .int .i64 x.ver, .int .i64 x.want, .slice C1 x.sent.length x.sent.length, .slice C2 x.live.length x.live.length, .slice C3 x.back.length x.back.length, .slice C4 x.got.length x.got.length] 31))
    have HB := Lib.hid hb
    have HXX := Lib.hid hxx
    clear hb hxx hs4 hk4 a0 a1 a2 a3 a4 a5 a6
    go_wp2_with fail
    refine (HIM.out _ C1 C2 C3 C4 _ _ _ _ HS4.out (HT.out.keeps HK4.out)).mono ?_
    rintro e w5 ⟨gv, rfl, hgo, hk5⟩
    obtain ⟨GA, gc, rfl, hg0, _⟩ := Row.of_own hgo
    have hglo : w4.heap.size < (w4.alloc (.cells #[.int .i64 x.way, .int .i64 x.ver, .int .i64 x.want, .slice C1 x.sent.length x.sent.length, .slice C2 x.live.length x.live.length, .slice C3 x.back.length x.back.length, .slice C4 x.got.length x.got.length] 31)).heap.size := by simp
    have HG5 := Lib.hid hg0
    have HGE := Lib.hid (fun b (h : blk GA o.length b) => Nat.lt_of_lt_of_le hglo (hg0.ge h))
    have HW5 := Lib.hid ((HW3.out.keeps HKW4.out (fun _ _ h => h)).keeps hk5 (fun _ _ h => h))
    have HWL := Lib.hid (fun b (h : blk WA o.length b) => HW3.out.lt h)
    have hb := HB.out.keeps hk5 fun h => h
    have hxx := HXX.out.keeps hk5 fun h => h
    have HK5 := Lib.hid (HK4.out.trans hk5)
    have HS5 := Lib.hid (HS4.out.kept hk5)
    have HO5 := Lib.hid (HO4.out.kept hk5)
    clear HB HXX
    have HB := Lib.hid hb
    have HXX := Lib.hid hxx
    have h4lt := HXX.out.lt
    have h3w := HK3.out.size
    clear hb hxx hk5 hgo hg0
    go_wp2_with fail
    refine (eqIntS_yes GA WA _ _ _ o _ HG5.out.ints HW5.out.ints hNm).mono ?_
    rintro e w6 ⟨rfl, hq6⟩
    have hk6 := hq6.keeps noBlk
    have hb := HB.out.keeps hk6 fun h => h
    have hxx := HXX.out.keeps hk6 fun h => h
    have HK6 := Lib.hid (HK5.out.trans hk6)
    have HS6 := Lib.hid (HS5.out.kept hk6)
    have HO6 := Lib.hid (HO5.out.kept hk6)
    have HG6 := Lib.hid (HG5.out.keeps hk6 (fun _ _ h => h))
    have HW6 := Lib.hid (HW5.out.keeps hk6 (fun _ _ h => h))
    have a0 := hb.cell 0
    have a1 := hb.cell 1
    have a2 := hb.cell 2
    have a3 := hb.cell 3
    have a4 := hb.cell 4
    have a5 := hb.cell 5
    have a6 := hb.cell 6
    simp at a0 a1 a2 a3 a4 a5 a6
    have x0 := hxx.cell 0
    have x1 := hxx.cell 1
    have x2 := hxx.cell 2
    have x3 := hxx.cell 3
    have x4 := hxx.cell 4
    have x5 := hxx.cell 5
    have x6 := hxx.cell 6
    simp at x0 x1 x2 x3 x4 x5 x6
    have hzx := hxx.lt
    have hza := hb.lt
    clear HB HXX
    have HB := Lib.hid hb
    have HXX := Lib.hid hxx
    clear hb hxx hq6 hk6
    go_wp2_with fail
    go_region_held3 (fun w' => w'.cell? ⟨w4.heap.size, 0, none⟩ = some (.int .i64 x.way) ∧ w'.cell? ⟨w4.heap.size, 1, none⟩ = some (.int .i64 x.ver) ∧ w'.cell? ⟨w4.heap.size, 2, none⟩ = some (.int .i64 x.want) ∧ w'.cell? ⟨w4.heap.size, 3, none⟩ = some (.slice C1 x.sent.length x.sent.length) ∧ w'.cell? ⟨w4.heap.size, 4, none⟩ = some (.slice C2 x.live.length x.live.length) ∧ w'.cell? ⟨w4.heap.size, 5, none⟩ = some (.slice C3 x.back.length x.back.length) ∧ w'.cell? ⟨w4.heap.size, 6, none⟩ = some (.slice C4 x.got.length x.got.length) ∧ w'.cell? ⟨w.heap.size, 0, none⟩ = some (.int .i64 x.way) ∧ w'.cell? ⟨w.heap.size, 1, none⟩ = some (.int .i64 x.ver) ∧ w'.cell? ⟨w.heap.size, 2, none⟩ = some (.int .i64 x.want) ∧ w'.cell? ⟨w.heap.size, 3, none⟩ = some (.slice A1 x.sent.length c1) ∧ w'.cell? ⟨w.heap.size, 4, none⟩ = some (.slice A2 x.live.length c2) ∧ w'.cell? ⟨w.heap.size, 5, none⟩ = some (.slice A3 x.back.length c3) ∧ w'.cell? ⟨w.heap.size, 6, none⟩ = some (.slice A4 x.got.length c4))
      (((try dsimp only); (repeat' apply And.intro) <;> (first | with_reducible assumption | (go_keep; done))))
      (first | (go_at_call 13; refine (HTO.out _ (HK6.out.drewN 1)).mono ?_; rintro e w7 ⟨D1, D2, D3, D4, rfl, ht7, hk7⟩; unfold stV; have HT7 := Lib.hid (ht7.at_ m1 m2 m3 m4); clear ht7; have hzx7 := Nat.lt_of_lt_of_le hzx hk7.size; have hza7 := Nat.lt_of_lt_of_le hza hk7.size; have x0 := (hk7.cell hzx (fun h => h)).trans x0; have x1 := (hk7.cell hzx (fun h => h)).trans x1; have x2 := (hk7.cell hzx (fun h => h)).trans x2; have x3 := (hk7.cell hzx (fun h => h)).trans x3; have x4 := (hk7.cell hzx (fun h => h)).trans x4; have x5 := (hk7.cell hzx (fun h => h)).trans x5; have x6 := (hk7.cell hzx (fun h => h)).trans x6; have a0 := (hk7.cell hza (fun h => h)).trans a0; have a1 := (hk7.cell hza (fun h => h)).trans a1; have a2 := (hk7.cell hza (fun h => h)).trans a2; have a3 := (hk7.cell hza (fun h => h)).trans a3; have a4 := (hk7.cell hza (fun h => h)).trans a4; have a5 := (hk7.cell hza (fun h => h)).trans a5; have a6 := (hk7.cell hza (fun h => h)).trans a6) | (go_at_call 15; refine (eqState_same x C1 C2 C3 C4 D1 D2 D3 D4 _ _ _ _ _ _ _ _ _ ((HS6.out.drewN 1).kept hk7) HT7.out).mono ?_; rintro e w8 ⟨rfl, hk8⟩; have x0 := (hk8.cell hzx7 (fun h => h)).trans x0; have x1 := (hk8.cell hzx7 (fun h => h)).trans x1; have x2 := (hk8.cell hzx7 (fun h => h)).trans x2; have x3 := (hk8.cell hzx7 (fun h => h)).trans x3; have x4 := (hk8.cell hzx7 (fun h => h)).trans x4; have x5 := (hk8.cell hzx7 (fun h => h)).trans x5; have x6 := (hk8.cell hzx7 (fun h => h)).trans x6; have a0 := (hk8.cell hza7 (fun h => h)).trans a0; have a1 := (hk8.cell hza7 (fun h => h)).trans a1; have a2 := (hk8.cell hza7 (fun h => h)).trans a2; have a3 := (hk8.cell hza7 (fun h => h)).trans a3; have a4 := (hk8.cell hza7 (fun h => h)).trans a4; have a5 := (hk8.cell hza7 (fun h => h)).trans a5; have a6 := (hk8.cell hza7 (fun h => h)).trans a6))
    have hk8' := (((Keeps.refl noBlk w6).drewN 1).trans hk7).trans hk8
    have HK8 := Lib.hid (HK6.out.trans hk8')
    have HO8 := Lib.hid (HO6.out.kept hk8')
    have HG8 := Lib.hid (HG6.out.keeps hk8' (fun _ _ h => h))
    have HW8 := Lib.hid (HW6.out.keeps hk8' (fun _ _ h => h))
    have HB8 := Lib.hid (HB.out.keeps hk8' fun h => h)
    clear HB
    clear hk7 hk8 hk8' HXX HT7 HS6
    go_wp2_with fail
    refine (HMK.out C1 C2 C3 C4 _ _ _ _ _ _ HO8.out).mono ?_
    rintro e w9 ⟨rfl, _, hk9⟩
    have hn9 : ¬ (1 + (stN x : Int)) < 0 := by omega
    have HK9 := Lib.hid (HK8.out.then hk9 fun i hi h => by have := (HLT4.out i h).1; omega)
    have HG9 := Lib.hid (HG8.out.keeps hk9 fun b h h' => by have := HGE.out b h; have := (HLT4.out b h').2; omega)
    have HW9 := Lib.hid (HW8.out.keeps hk9 fun b h h' => by have := HWL.out b h; have := (HLT4.out b h').1; omega)
    have HB9 := Lib.hid (HB8.out.keeps hk9 fun h => by have := (HLT4.out _ h).1; omega)
    clear hk9
    go_wp2_with fail
    refine (eqIntS_yes GA WA _ _ _ o _ HG9.out.ints HW9.out.ints hNm).mono ?_
    rintro e w10 ⟨rfl, hq10⟩
    have hk10 := hq10.keeps noBlk
    have HK10 := Lib.hid (HK9.out.trans hk10)
    have HG10 := Lib.hid (HG9.out.keeps hk10 (fun _ _ h => h))
    have HW10 := Lib.hid (HW9.out.keeps hk10 (fun _ _ h => h))
    have HB10 := Lib.hid (HB9.out.keeps hk10 fun h => h)
    clear hq10 hk10
    go_wp2_with fail
    refine (markIntS_any GA o.length _ _ 1 o _ HG10.out (by decide) (by omega)).mono ?_
    rintro e w11 ⟨rfl, hg11, hk11⟩
    have HK11 := Lib.hid (HK10.out.then hk11 fun i hi h => by have := HGE.out i h; omega)
    have HG11 := Lib.hid hg11
    have HW11 := Lib.hid (HW10.out.keeps hk11 fun b h h' => by have := HGE.out b h'; have := HWL.out b h; omega)
    have HB11 := Lib.hid (HB10.out.keeps hk11 fun h => by have := HGE.out _ h; omega)
    clear hg11 hk11
    go_wp2_with fail
    refine (heldIntS_any GA o.length _ 1 _ HG11.out.ints (by decide) (by omega)).mono ?_
    rintro e w12 ⟨rfl, rfl⟩
    have hn12 : ¬ (1 + (o.length : Int)) < 0 := by omega
    have hn13 : ((1 + (o.length : Int)) != (1 + (o.length : Int))) = false := by simp
    have hb := HB11.out
    have a0 := hb.cell 0
    have a1 := hb.cell 1
    have a2 := hb.cell 2
    have a3 := hb.cell 3
    have a4 := hb.cell 4
    have a5 := hb.cell 5
    have a6 := hb.cell 6
    simp at a0 a1 a2 a3 a4 a5 a6
    clear hb
    go_wp2_with fail
    refine (HTO.out _ HK11.out).mono ?_
    rintro e w13 ⟨D1, D2, D3, D4, rfl, ht13, hk13⟩
    unfold stV
    have HD13 := Lib.hid (ht13.at_ m1 m2 m3 m4)
    have HK13 := Lib.hid (HK11.out.trans hk13)
    have HG13 := Lib.hid (HG11.out.keeps hk13 (fun _ _ h => h))
    have HW13 := Lib.hid (HW11.out.keeps hk13 (fun _ _ h => h))
    clear ht13 hk13 a0 a1 a2 a3 a4 a5 a6
    go_wp2_with fail
    refine (HIM.out _ D1 D2 D3 D4 _ _ _ _ HD13.out (HT.out.keeps HK13.out)).mono ?_
    rintro e w14 ⟨hv, rfl, hho, hk14⟩
    obtain ⟨HA, hc, rfl, hh0, _⟩ := Row.of_own hho
    have HK14 := Lib.hid (HK13.out.trans hk14)
    have HH14 := Lib.hid hh0
    have HG14 := Lib.hid (HG13.out.keeps hk14 (fun _ _ h => h))
    have HW14 := Lib.hid (HW13.out.keeps hk14 (fun _ _ h => h))
    clear hho hh0 hk14
    go_wp2_with fail
    refine (eqIntS_yes HA WA _ _ _ o _ HH14.out.ints HW14.out.ints hNm).mono ?_
    rintro e w15 ⟨rfl, hq15⟩
    have hk15 := hq15.keeps noBlk
    have HK15 := Lib.hid (HK14.out.trans hk15)
    have HG15 := Lib.hid (HG14.out.keeps hk15 (fun _ _ h => h))
    clear hq15 hk15
    go_wp2_with fail
    refine (heldIntS_any GA o.length _ 1 _ HG15.out.ints (by decide) (by omega)).mono ?_
    rintro e w16 ⟨rfl, rfl⟩
    go_wp2
    go_ret
    exact ⟨rfl, HK15.out.below⟩
  · unfold stV
    go_enter Tryd.func7, Tryd.ntmps7
    go_wp2_with fail
    refine (szState_no x.way x.ver x.want A1 A2 A3 A4 _ _ _ _ _ _ _ _ 1048576 _ (by omega) (by omega) (by omega) m1 m2 m3 m4).mono ?_
    rintro e w1 ⟨rfl, hk1⟩
    have HK1 := Lib.hid (HK0.out.trans hk1)
    clear hk1
    go_wp2
    go_ret
    exact ⟨rfl, HK1.out.below⟩

namespace xstlive
set_option maxRecDepth 100000 in
theorem lifted (os : Os) (started : os.Started) (H : Type) (enc : TypeId × Value → H) :
    ReturnsInHanded {} Tryd.checked os 7 .any (fun w args => (Rows.fnExactStateLiveSpec.pre enc Tryd.prog Tryd.f7 [] false w args ∧ laidMetH Tryd.prog Rows.fnExactStateLiveRow.laid w) ∧ sizedMet enc Tryd.prog Tryd.f7 (OpenSpec.ofChange Rows.fnExactStateLiveSpec) false w args)
      (Rows.fnExactStateLiveSpec.post enc Tryd.prog Tryd.f7 false true false false) := by
  refine returnsInHanded_of_change_and (C := Tryd.checked) (X := fun w _ => laidMetH Tryd.prog Rows.fnExactStateLiveRow.laid w) (fun _ _ _ hh h => h.of_heap hh) own started (by kernel_rfl) Tryd.func7
    (ChangeSpec.witness_shaped (enc := enc) (C := Tryd.checked) (os := os) (X := fun w _ => laidMetH Tryd.prog Rows.fnExactStateLiveRow.laid w) false (World.doorLaid Tryd.prog 101 os) #[.agg #[.int .i64 0, .int .i64 1, .int .i64 0, .slice none 0 0, .slice none 0 0, .slice none 0 0, .slice none 0 0]] 8 rfl (World.shaped_of_RefB (by kernel_rfl) (by kernel_rfl)) (by kernel_rfl) (by kernel_rfl) (by kernel_rfl) (door_met os _)) ?_
  intro W base args ds gs before hval0 hW _ _ hL _
  have hval : ∀ (j : Nat) t v, Tryd.f7.params[j]? = some t → args[j]? = some v → Value.okWide Tryd.prog W .any base t v := hval0
  have hW' := hW
  obtain ⟨p, q, hA0, hV, rfl, hfz, hnd⟩ := hW
  have hA : DataW.TrodAll enc Tryd.prog W 0 (fun _ => true) true Tryd.f7.params.toList args.toList ds p := hA0
  rw [Tryd.params7 ] at hA hval
  obtain ⟨g0, g1, rfl⟩ := vars2 hV
  obtain ⟨v0, d0, rfl, rfl, h0⟩ := trodAll_one hA
  have k0 := h0
  have lt0 : ∀ x ∈ p, x.block < W.heap.size := by obtain ⟨m, hm⟩ := k0; exact DataW.trod_lt m _ _ _ hm
  obtain ⟨x, A1, A2, A3, A4, c1, c2, c3, c4, rfl, hx, i0, i1, i2⟩ := st_of_trod (hval 0 26 v0 rfl rfl) h0
  clear hA0 hval0
  refine (walk_xstlive x A1 A2 A3 A4 c1 c2 c3 c4 W hx (tabs_of_laid hL)).mono fun e W' ⟨he, bel⟩ => ?_
  subst he
  exact ⟨_, rfl, _, _, _, [], _, _, hW', trodAll_mk1 (shut_bool Tryd.underlying4 _), (trodAll_mk1 (Below.trod laidOut (by kernel_rfl) (of_decide_eq_true (by kernel_rfl)) k0 bel lt0)), Below.trodVars laidOut bel (by kernel_rfl) hV, bel.frame _, fun h => by cases h⟩
end xstlive

theorem fnExactStateLive_row : Rows.FnExactStateLiveSaid :=
  OpenClaim.holds_of_wide 7 Tryd.f7 rfl rfl rfl rfl rfl rfl rfl ⟨rfl, rfl, rfl, rfl, rfl⟩ rfl rfl rfl rfl rfl (by kernel_rfl) Tryd.func7 (by kernel_rfl)
    (of_decide_eq_true (by kernel_rfl)) (by unfold Func.isWrapper; first | (rw [if_pos (by decide +kernel)]; kernel_rfl) | (rw [if_neg (by decide +kernel)]; exact ⟨rfl, rfl⟩))
    (fun os started H enc _ => xstlive.lifted os started H enc)

theorem fnExactStateLive_card : Rows.FnExactStateLiveCardSaid :=
  Claim7.holds_tied_plain_at .later [] Rows.fnExactStateLiveCard.laidKinds true Rows.fnExactStateLiveCard.stood.harness true
    fnExactStateLive_row (fun _ h => by cases h) (by kernel_rfl) (fun _ h => by cases h) fnExactStateLive_row_tie rfl ⟨rfl, rfl⟩ (by kernel_rfl) rfl
    (fun g fn hg hfn => by
      obtain rfl : g = 7 := Option.some.inj ((show Tryd.prog.funcNamed Rows.fnExactStateLiveRow.func = some 7 by kernel_rfl).symm.trans hg) |>.symm
      obtain rfl : fn = Tryd.f7 := (Option.some.inj (Tryd.func7.symm.trans hfn)).symm
      refine ⟨by kernel_rfl, fun j t ht => ?_⟩
      have h3 : ∀ t ∈ Tryd.f7.params.toList, Tryd.prog.wantsStandIn t = false := of_decide_eq_true (by kernel_rfl)
      exact h3 t (Array.mem_toList_iff.2 (Array.mem_of_getElem? ht)))
    (by kernel_rfl)
#print axioms fnExactStateLive_card
end Go.Proofs.YtedmkbiamjpdaaaDoor
