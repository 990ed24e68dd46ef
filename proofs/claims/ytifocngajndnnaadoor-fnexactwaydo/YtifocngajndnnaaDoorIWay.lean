/- The program's WayMay. The two tables read as the program's text lays them. -/
import Derived.Test.YtifocngajndnnaaDoorIMay
set_option linter.unusedVariables false
set_option linter.unusedSimpArgs false
namespace Go.Proofs.YtifocngajndnnaaDoor
open Go.RowKit

theorem stB_parts {x : StL} (h : stB x = true) : 0 ≤ x.way ∧ (-100 ≤ x.ver ∧ x.ver ≤ 100) ∧ x.live.length = x.sent.length := by
  have k := stB_ok h
  have := k.1.1
  exact ⟨k.1.2.1.1, ⟨by omega, by omega⟩, k.2.2.1.1⟩
set_option maxRecDepth 100000 in
set_option maxHeartbeats 2000000 in
theorem implMay_1 (x y : StL) (A1 A2 A3 A4 B1 B2 B3 B4 : Option Addr) (c1 c2 c3 c4 d1 d2 d3 d4 : Nat) (w : World) (hx : StAt w x A1 A2 A3 A4) (hy : StAt w y B1 B2 B3 B4) (ht : Tabs w) :
    Calls Tryd.prog 15 #[stV x A1 A2 A3 A4 c1 c2 c3 c4, stV y B1 B2 B3 B4 d1 d2 d3 d4, .int .i64 1] w fun e w' => e = .returned (.bool (wmayB x y 1)) ∧ Keeps noBlk w w' := by
  have HX := Lib.hid ((hx.alloc (.cells #[.int .i64 x.way, .int .i64 x.ver, .int .i64 x.want, .slice A1 x.sent.length c1, .slice A2 x.live.length c2, .slice A3 x.back.length c3, .slice A4 x.got.length c4] 31)).alloc (.cells #[.int .i64 y.way, .int .i64 y.ver, .int .i64 y.want, .slice B1 y.sent.length d1, .slice B2 y.live.length d2, .slice B3 y.back.length d3, .slice B4 y.got.length d4] 31))
  have HY := Lib.hid ((hy.alloc (.cells #[.int .i64 x.way, .int .i64 x.ver, .int .i64 x.want, .slice A1 x.sent.length c1, .slice A2 x.live.length c2, .slice A3 x.back.length c3, .slice A4 x.got.length c4] 31)).alloc (.cells #[.int .i64 y.way, .int .i64 y.ver, .int .i64 y.want, .slice B1 y.sent.length d1, .slice B2 y.live.length d2, .slice B3 y.back.length d3, .slice B4 y.got.length d4] 31))
  have HT := Lib.hid (ht.keeps (((Keeps.refl _ _).alloc (.cells #[.int .i64 x.way, .int .i64 x.ver, .int .i64 x.want, .slice A1 x.sent.length c1, .slice A2 x.live.length c2, .slice A3 x.back.length c3, .slice A4 x.got.length c4] 31)).alloc (.cells #[.int .i64 y.way, .int .i64 y.ver, .int .i64 y.want, .slice B1 y.sent.length d1, .slice B2 y.live.length d2, .slice B3 y.back.length d3, .slice B4 y.got.length d4] 31)))
  have HK := Lib.hid (((Keeps.refl noBlk w).alloc (.cells #[.int .i64 x.way, .int .i64 x.ver, .int .i64 x.want, .slice A1 x.sent.length c1, .slice A2 x.live.length c2, .slice A3 x.back.length c3, .slice A4 x.got.length c4] 31)).alloc (.cells #[.int .i64 y.way, .int .i64 y.ver, .int .i64 y.want, .slice B1 y.sent.length d1, .slice B2 y.live.length d2, .slice B3 y.back.length d3, .slice B4 y.got.length d4] 31))
  have HBX := Lib.hid ((Box.new w _ rfl 31 #[.int .i64 x.way, .int .i64 x.ver, .int .i64 x.want, .slice A1 x.sent.length c1, .slice A2 x.live.length c2, .slice A3 x.back.length c3, .slice A4 x.got.length c4]).alloc (.cells #[.int .i64 y.way, .int .i64 y.ver, .int .i64 y.want, .slice B1 y.sent.length d1, .slice B2 y.live.length d2, .slice B3 y.back.length d3, .slice B4 y.got.length d4] 31))
  have HBY := Lib.hid (Box.new (w.alloc (.cells #[.int .i64 x.way, .int .i64 x.ver, .int .i64 x.want, .slice A1 x.sent.length c1, .slice A2 x.live.length c2, .slice A3 x.back.length c3, .slice A4 x.got.length c4] 31)) (w.heap.size + 1) (by simp) 31 #[.int .i64 y.way, .int .i64 y.ver, .int .i64 y.want, .slice B1 y.sent.length d1, .slice B2 y.live.length d2, .slice B3 y.back.length d3, .slice B4 y.got.length d4])
  have HSX := Lib.hid (fun W (h : StAt W x A1 A2 A3 A4) hT => implSt_any x A1 A2 A3 A4 c1 c2 c3 c4 W h hT)
  have HSY := Lib.hid (fun W (h : StAt W y B1 B2 B3 B4) hT => implSt_any y B1 B2 B3 B4 d1 d2 d3 d4 W h hT)
  have HM := Lib.hid (fun W (hX : StAt W x A1 A2 A3 A4) (hY : StAt W y B1 B2 B3 B4) (hT : Tabs W) (h1 : stB x = true) (h2 : stB y = true) => impl_mayInit x y A1 A2 A3 A4 B1 B2 B3 B4 c1 c2 c3 c4 d1 d2 d3 d4 W (stB_parts h1).1 (stB_parts h1).2.1)
  clear hx hy ht
  have HF := Lib.hid (show wmayB x y 1 = (stB x && stB y && mayB x y 1) from rfl)
  generalize stB x = o1 at HSX HM HF
  generalize stB y = o2 at HSY HM HF
  generalize wmayB x y 1 = o at HF
  generalize mayB x y 1 = o3 at HM HF
  unfold stV at HSX HSY HM ⊢
  go_enter Tryd.func15, Tryd.ntmps15
  go_wp2_with fail
  refine (impl_stepAt_1 _).mono ?_
  rintro e w1 ⟨rfl, hk1⟩
  have hbx := HBX.out.keeps hk1 fun h => h
  have hby := HBY.out.keeps hk1 fun h => h
  have x0 := hbx.cell 0
  have y0 := hby.cell 0
  have x1 := hbx.cell 1
  have y1 := hby.cell 1
  have x2 := hbx.cell 2
  have y2 := hby.cell 2
  have x3 := hbx.cell 3
  have y3 := hby.cell 3
  have x4 := hbx.cell 4
  have y4 := hby.cell 4
  have x5 := hbx.cell 5
  have y5 := hby.cell 5
  have x6 := hbx.cell 6
  have y6 := hby.cell 6
  simp at x0 y0 x1 y1 x2 y2 x3 y3 x4 y4 x5 y5 x6 y6
  have zx := hbx.lt
  have zy := hby.lt
  clear HBX HBY
  have HBX := Lib.hid (hbx.alloc (.cells #[.func (.func 80) #[] #[], .func (.func 81) #[] #[]] 65))
  have HBY := Lib.hid (hby.alloc (.cells #[.func (.func 80) #[] #[], .func (.func 81) #[] #[]] 65))
  have HBR := Lib.hid (Box.new w1 _ rfl 65 #[.func (.func 80) #[] #[], .func (.func 81) #[] #[]])
  have HK1 := Lib.hid ((HK.out.trans hk1).alloc (.cells #[.func (.func 80) #[] #[], .func (.func 81) #[] #[]] 65))
  have HX1 := Lib.hid ((HX.out.kept hk1).alloc (.cells #[.func (.func 80) #[] #[], .func (.func 81) #[] #[]] 65))
  have HY1 := Lib.hid ((HY.out.kept hk1).alloc (.cells #[.func (.func 80) #[] #[], .func (.func 81) #[] #[]] 65))
  have HT1 := Lib.hid ((HT.out.keeps hk1).keeps ((Keeps.refl _ _).alloc (.cells #[.func (.func 80) #[] #[], .func (.func 81) #[] #[]] 65)))
  clear hbx hby hk1
  go_wp2_with fail
  refine (HSX.out _ HX1.out HT1.out).mono ?_
  rintro e w2 ⟨rfl, hk2⟩
  clear x0 y0 x1 y1 x2 y2 x3 y3 x4 y4 x5 y5 x6 y6 zx zy
  have hbx := HBX.out.keeps hk2 fun h => h
  have hby := HBY.out.keeps hk2 fun h => h
  have hbr := HBR.out.keeps hk2 fun h => h
  have x0 := hbx.cell 0
  have y0 := hby.cell 0
  have x1 := hbx.cell 1
  have y1 := hby.cell 1
  have x2 := hbx.cell 2
  have y2 := hby.cell 2
  have x3 := hbx.cell 3
  have y3 := hby.cell 3
  have x4 := hbx.cell 4
  have y4 := hby.cell 4
  have x5 := hbx.cell 5
  have y5 := hby.cell 5
  have x6 := hbx.cell 6
  have y6 := hby.cell 6
  simp at x0 y0 x1 y1 x2 y2 x3 y3 x4 y4 x5 y5 x6 y6
  have zx := hbx.lt
  have zy := hby.lt
  have r0 := hbr.cell 0
  have r1 := hbr.cell 1
  simp at r0 r1
  have zr := hbr.lt
  clear HBX HBY HBR
  have HBX := Lib.hid hbx
  have HBY := Lib.hid hby
  have HBR := Lib.hid hbr
  have HK2 := Lib.hid (HK1.out.trans hk2)
  have HX2 := Lib.hid (HX1.out.kept hk2)
  have HY2 := Lib.hid (HY1.out.kept hk2)
  have HT2 := Lib.hid (HT1.out.keeps hk2)
  clear hbx hby hbr hk2
  cases o1 with
  | false =>
    have HE := Lib.hid (show o = false by rw [HF.out]; rfl)
    go_wp2
    go_ret
    exact ⟨by simp [HE.out], HK2.out⟩
  | true =>
    go_wp2_with fail
    refine (HSY.out _ HY2.out HT2.out).mono ?_
    rintro e w3 ⟨rfl, hk3⟩
    clear x0 y0 x1 y1 x2 y2 x3 y3 x4 y4 x5 y5 x6 y6 zx zy r0 r1 zr
    have hbx := HBX.out.keeps hk3 fun h => h
    have hby := HBY.out.keeps hk3 fun h => h
    have hbr := HBR.out.keeps hk3 fun h => h
    have x0 := hbx.cell 0
    have y0 := hby.cell 0
    have x1 := hbx.cell 1
    have y1 := hby.cell 1
    have x2 := hbx.cell 2
    have y2 := hby.cell 2
    have x3 := hbx.cell 3
    have y3 := hby.cell 3
    have x4 := hbx.cell 4
    have y4 := hby.cell 4
    have x5 := hbx.cell 5
    have y5 := hby.cell 5
    have x6 := hbx.cell 6
    have y6 := hby.cell 6
    simp at x0 y0 x1 y1 x2 y2 x3 y3 x4 y4 x5 y5 x6 y6
    have zx := hbx.lt
    have zy := hby.lt
    have r0 := hbr.cell 0
    have r1 := hbr.cell 1
    simp at r0 r1
    have zr := hbr.lt
    have HK3 := Lib.hid (HK2.out.trans hk3)
    have HX3 := Lib.hid (HX2.out.kept hk3)
    have HY3 := Lib.hid (HY2.out.kept hk3)
    have HT3 := Lib.hid (HT2.out.keeps hk3)
    clear hbx hby hbr hk3
    cases o2 with
    | false =>
      have HE := Lib.hid (show o = false by rw [HF.out]; rfl)
      go_wp2
      go_ret
      exact ⟨by simp [HE.out], HK3.out⟩
    | true =>
      have HE := Lib.hid (show o = o3 by rw [HF.out]; rfl)
      have HM3 := Lib.hid (HM.out _ HX3.out HY3.out HT3.out (by first | rfl | trivial) (by first | rfl | trivial))
      go_wp2_with fail
      refine HM3.out.mono ?_
      rintro e w4 ⟨rfl, hk4⟩
      have HK4 := Lib.hid (HK3.out.trans hk4)
      clear hk4
      go_wp2
      go_ret
      exact ⟨by simp [HE.out], HK4.out⟩
set_option maxRecDepth 100000 in
set_option maxHeartbeats 2000000 in
theorem implMay_2 (x y : StL) (A1 A2 A3 A4 B1 B2 B3 B4 : Option Addr) (c1 c2 c3 c4 d1 d2 d3 d4 : Nat) (w : World) (hx : StAt w x A1 A2 A3 A4) (hy : StAt w y B1 B2 B3 B4) (ht : Tabs w) :
    Calls Tryd.prog 15 #[stV x A1 A2 A3 A4 c1 c2 c3 c4, stV y B1 B2 B3 B4 d1 d2 d3 d4, .int .i64 2] w fun e w' => e = .returned (.bool (wmayB x y 2)) ∧ Keeps noBlk w w' := by
  have HX := Lib.hid ((hx.alloc (.cells #[.int .i64 x.way, .int .i64 x.ver, .int .i64 x.want, .slice A1 x.sent.length c1, .slice A2 x.live.length c2, .slice A3 x.back.length c3, .slice A4 x.got.length c4] 31)).alloc (.cells #[.int .i64 y.way, .int .i64 y.ver, .int .i64 y.want, .slice B1 y.sent.length d1, .slice B2 y.live.length d2, .slice B3 y.back.length d3, .slice B4 y.got.length d4] 31))
  have HY := Lib.hid ((hy.alloc (.cells #[.int .i64 x.way, .int .i64 x.ver, .int .i64 x.want, .slice A1 x.sent.length c1, .slice A2 x.live.length c2, .slice A3 x.back.length c3, .slice A4 x.got.length c4] 31)).alloc (.cells #[.int .i64 y.way, .int .i64 y.ver, .int .i64 y.want, .slice B1 y.sent.length d1, .slice B2 y.live.length d2, .slice B3 y.back.length d3, .slice B4 y.got.length d4] 31))
  have HT := Lib.hid (ht.keeps (((Keeps.refl _ _).alloc (.cells #[.int .i64 x.way, .int .i64 x.ver, .int .i64 x.want, .slice A1 x.sent.length c1, .slice A2 x.live.length c2, .slice A3 x.back.length c3, .slice A4 x.got.length c4] 31)).alloc (.cells #[.int .i64 y.way, .int .i64 y.ver, .int .i64 y.want, .slice B1 y.sent.length d1, .slice B2 y.live.length d2, .slice B3 y.back.length d3, .slice B4 y.got.length d4] 31)))
  have HK := Lib.hid (((Keeps.refl noBlk w).alloc (.cells #[.int .i64 x.way, .int .i64 x.ver, .int .i64 x.want, .slice A1 x.sent.length c1, .slice A2 x.live.length c2, .slice A3 x.back.length c3, .slice A4 x.got.length c4] 31)).alloc (.cells #[.int .i64 y.way, .int .i64 y.ver, .int .i64 y.want, .slice B1 y.sent.length d1, .slice B2 y.live.length d2, .slice B3 y.back.length d3, .slice B4 y.got.length d4] 31))
  have HBX := Lib.hid ((Box.new w _ rfl 31 #[.int .i64 x.way, .int .i64 x.ver, .int .i64 x.want, .slice A1 x.sent.length c1, .slice A2 x.live.length c2, .slice A3 x.back.length c3, .slice A4 x.got.length c4]).alloc (.cells #[.int .i64 y.way, .int .i64 y.ver, .int .i64 y.want, .slice B1 y.sent.length d1, .slice B2 y.live.length d2, .slice B3 y.back.length d3, .slice B4 y.got.length d4] 31))
  have HBY := Lib.hid (Box.new (w.alloc (.cells #[.int .i64 x.way, .int .i64 x.ver, .int .i64 x.want, .slice A1 x.sent.length c1, .slice A2 x.live.length c2, .slice A3 x.back.length c3, .slice A4 x.got.length c4] 31)) (w.heap.size + 1) (by simp) 31 #[.int .i64 y.way, .int .i64 y.ver, .int .i64 y.want, .slice B1 y.sent.length d1, .slice B2 y.live.length d2, .slice B3 y.back.length d3, .slice B4 y.got.length d4])
  have HSX := Lib.hid (fun W (h : StAt W x A1 A2 A3 A4) hT => implSt_any x A1 A2 A3 A4 c1 c2 c3 c4 W h hT)
  have HSY := Lib.hid (fun W (h : StAt W y B1 B2 B3 B4) hT => implSt_any y B1 B2 B3 B4 d1 d2 d3 d4 W h hT)
  have HM := Lib.hid (fun W (hX : StAt W x A1 A2 A3 A4) (hY : StAt W y B1 B2 B3 B4) (hT : Tabs W) (h1 : stB x = true) (h2 : stB y = true) => impl_mayTry x y A1 A2 A3 A4 B1 B2 B3 B4 c1 c2 c3 c4 d1 d2 d3 d4 W (stB_parts h1).1 (stB_parts h1).2.1)
  clear hx hy ht
  have HF := Lib.hid (show wmayB x y 2 = (stB x && stB y && mayB x y 2) from rfl)
  generalize stB x = o1 at HSX HM HF
  generalize stB y = o2 at HSY HM HF
  generalize wmayB x y 2 = o at HF
  generalize mayB x y 2 = o3 at HM HF
  unfold stV at HSX HSY HM ⊢
  go_enter Tryd.func15, Tryd.ntmps15
  go_wp2_with fail
  refine (impl_stepAt_2 _).mono ?_
  rintro e w1 ⟨rfl, hk1⟩
  have hbx := HBX.out.keeps hk1 fun h => h
  have hby := HBY.out.keeps hk1 fun h => h
  have x0 := hbx.cell 0
  have y0 := hby.cell 0
  have x1 := hbx.cell 1
  have y1 := hby.cell 1
  have x2 := hbx.cell 2
  have y2 := hby.cell 2
  have x3 := hbx.cell 3
  have y3 := hby.cell 3
  have x4 := hbx.cell 4
  have y4 := hby.cell 4
  have x5 := hbx.cell 5
  have y5 := hby.cell 5
  have x6 := hbx.cell 6
  have y6 := hby.cell 6
  simp at x0 y0 x1 y1 x2 y2 x3 y3 x4 y4 x5 y5 x6 y6
  have zx := hbx.lt
  have zy := hby.lt
  clear HBX HBY
  have HBX := Lib.hid (hbx.alloc (.cells #[.func (.func 82) #[] #[], .func (.func 83) #[] #[]] 65))
  have HBY := Lib.hid (hby.alloc (.cells #[.func (.func 82) #[] #[], .func (.func 83) #[] #[]] 65))
  have HBR := Lib.hid (Box.new w1 _ rfl 65 #[.func (.func 82) #[] #[], .func (.func 83) #[] #[]])
  have HK1 := Lib.hid ((HK.out.trans hk1).alloc (.cells #[.func (.func 82) #[] #[], .func (.func 83) #[] #[]] 65))
  have HX1 := Lib.hid ((HX.out.kept hk1).alloc (.cells #[.func (.func 82) #[] #[], .func (.func 83) #[] #[]] 65))
  have HY1 := Lib.hid ((HY.out.kept hk1).alloc (.cells #[.func (.func 82) #[] #[], .func (.func 83) #[] #[]] 65))
  have HT1 := Lib.hid ((HT.out.keeps hk1).keeps ((Keeps.refl _ _).alloc (.cells #[.func (.func 82) #[] #[], .func (.func 83) #[] #[]] 65)))
  clear hbx hby hk1
  go_wp2_with fail
  refine (HSX.out _ HX1.out HT1.out).mono ?_
  rintro e w2 ⟨rfl, hk2⟩
  clear x0 y0 x1 y1 x2 y2 x3 y3 x4 y4 x5 y5 x6 y6 zx zy
  have hbx := HBX.out.keeps hk2 fun h => h
  have hby := HBY.out.keeps hk2 fun h => h
  have hbr := HBR.out.keeps hk2 fun h => h
  have x0 := hbx.cell 0
  have y0 := hby.cell 0
  have x1 := hbx.cell 1
  have y1 := hby.cell 1
  have x2 := hbx.cell 2
  have y2 := hby.cell 2
  have x3 := hbx.cell 3
  have y3 := hby.cell 3
  have x4 := hbx.cell 4
  have y4 := hby.cell 4
  have x5 := hbx.cell 5
  have y5 := hby.cell 5
  have x6 := hbx.cell 6
  have y6 := hby.cell 6
  simp at x0 y0 x1 y1 x2 y2 x3 y3 x4 y4 x5 y5 x6 y6
  have zx := hbx.lt
  have zy := hby.lt
  have r0 := hbr.cell 0
  have r1 := hbr.cell 1
  simp at r0 r1
  have zr := hbr.lt
  clear HBX HBY HBR
  have HBX := Lib.hid hbx
  have HBY := Lib.hid hby
  have HBR := Lib.hid hbr
  have HK2 := Lib.hid (HK1.out.trans hk2)
  have HX2 := Lib.hid (HX1.out.kept hk2)
  have HY2 := Lib.hid (HY1.out.kept hk2)
  have HT2 := Lib.hid (HT1.out.keeps hk2)
  clear hbx hby hbr hk2
  cases o1 with
  | false =>
    have HE := Lib.hid (show o = false by rw [HF.out]; rfl)
    go_wp2
    go_ret
    exact ⟨by simp [HE.out], HK2.out⟩
  | true =>
    go_wp2_with fail
    refine (HSY.out _ HY2.out HT2.out).mono ?_
    rintro e w3 ⟨rfl, hk3⟩
    clear x0 y0 x1 y1 x2 y2 x3 y3 x4 y4 x5 y5 x6 y6 zx zy r0 r1 zr
    have hbx := HBX.out.keeps hk3 fun h => h
    have hby := HBY.out.keeps hk3 fun h => h
    have hbr := HBR.out.keeps hk3 fun h => h
    have x0 := hbx.cell 0
    have y0 := hby.cell 0
    have x1 := hbx.cell 1
    have y1 := hby.cell 1
    have x2 := hbx.cell 2
    have y2 := hby.cell 2
    have x3 := hbx.cell 3
    have y3 := hby.cell 3
    have x4 := hbx.cell 4
    have y4 := hby.cell 4
    have x5 := hbx.cell 5
    have y5 := hby.cell 5
    have x6 := hbx.cell 6
    have y6 := hby.cell 6
    simp at x0 y0 x1 y1 x2 y2 x3 y3 x4 y4 x5 y5 x6 y6
    have zx := hbx.lt
    have zy := hby.lt
    have r0 := hbr.cell 0
    have r1 := hbr.cell 1
    simp at r0 r1
    have zr := hbr.lt
    have HK3 := Lib.hid (HK2.out.trans hk3)
    have HX3 := Lib.hid (HX2.out.kept hk3)
    have HY3 := Lib.hid (HY2.out.kept hk3)
    have HT3 := Lib.hid (HT2.out.keeps hk3)
    clear hbx hby hbr hk3
    cases o2 with
    | false =>
      have HE := Lib.hid (show o = false by rw [HF.out]; rfl)
      go_wp2
      go_ret
      exact ⟨by simp [HE.out], HK3.out⟩
    | true =>
      have HE := Lib.hid (show o = o3 by rw [HF.out]; rfl)
      have HM3 := Lib.hid (HM.out _ HX3.out HY3.out HT3.out (by first | rfl | trivial) (by first | rfl | trivial))
      go_wp2_with fail
      refine HM3.out.mono ?_
      rintro e w4 ⟨rfl, hk4⟩
      have HK4 := Lib.hid (HK3.out.trans hk4)
      clear hk4
      go_wp2
      go_ret
      exact ⟨by simp [HE.out], HK4.out⟩
set_option maxRecDepth 100000 in
set_option maxHeartbeats 2000000 in
theorem implMay_3 (x y : StL) (A1 A2 A3 A4 B1 B2 B3 B4 : Option Addr) (c1 c2 c3 c4 d1 d2 d3 d4 : Nat) (w : World) (hx : StAt w x A1 A2 A3 A4) (hy : StAt w y B1 B2 B3 B4) (ht : Tabs w) :
    Calls Tryd.prog 15 #[stV x A1 A2 A3 A4 c1 c2 c3 c4, stV y B1 B2 B3 B4 d1 d2 d3 d4, .int .i64 3] w fun e w' => e = .returned (.bool (wmayB x y 3)) ∧ Keeps noBlk w w' := by
  have HX := Lib.hid ((hx.alloc (.cells #[.int .i64 x.way, .int .i64 x.ver, .int .i64 x.want, .slice A1 x.sent.length c1, .slice A2 x.live.length c2, .slice A3 x.back.length c3, .slice A4 x.got.length c4] 31)).alloc (.cells #[.int .i64 y.way, .int .i64 y.ver, .int .i64 y.want, .slice B1 y.sent.length d1, .slice B2 y.live.length d2, .slice B3 y.back.length d3, .slice B4 y.got.length d4] 31))
  have HY := Lib.hid ((hy.alloc (.cells #[.int .i64 x.way, .int .i64 x.ver, .int .i64 x.want, .slice A1 x.sent.length c1, .slice A2 x.live.length c2, .slice A3 x.back.length c3, .slice A4 x.got.length c4] 31)).alloc (.cells #[.int .i64 y.way, .int .i64 y.ver, .int .i64 y.want, .slice B1 y.sent.length d1, .slice B2 y.live.length d2, .slice B3 y.back.length d3, .slice B4 y.got.length d4] 31))
  have HT := Lib.hid (ht.keeps (((Keeps.refl _ _).alloc (.cells #[.int .i64 x.way, .int .i64 x.ver, .int .i64 x.want, .slice A1 x.sent.length c1, .slice A2 x.live.length c2, .slice A3 x.back.length c3, .slice A4 x.got.length c4] 31)).alloc (.cells #[.int .i64 y.way, .int .i64 y.ver, .int .i64 y.want, .slice B1 y.sent.length d1, .slice B2 y.live.length d2, .slice B3 y.back.length d3, .slice B4 y.got.length d4] 31)))
  have HK := Lib.hid (((Keeps.refl noBlk w).alloc (.cells #[.int .i64 x.way, .int .i64 x.ver, .int .i64 x.want, .slice A1 x.sent.length c1, .slice A2 x.live.length c2, .slice A3 x.back.length c3, .slice A4 x.got.length c4] 31)).alloc (.cells #[.int .i64 y.way, .int .i64 y.ver, .int .i64 y.want, .slice B1 y.sent.length d1, .slice B2 y.live.length d2, .slice B3 y.back.length d3, .slice B4 y.got.length d4] 31))
  have HBX := Lib.hid ((Box.new w _ rfl 31 #[.int .i64 x.way, .int .i64 x.ver, .int .i64 x.want, .slice A1 x.sent.length c1, .slice A2 x.live.length c2, .slice A3 x.back.length c3, .slice A4 x.got.length c4]).alloc (.cells #[.int .i64 y.way, .int .i64 y.ver, .int .i64 y.want, .slice B1 y.sent.length d1, .slice B2 y.live.length d2, .slice B3 y.back.length d3, .slice B4 y.got.length d4] 31))
  have HBY := Lib.hid (Box.new (w.alloc (.cells #[.int .i64 x.way, .int .i64 x.ver, .int .i64 x.want, .slice A1 x.sent.length c1, .slice A2 x.live.length c2, .slice A3 x.back.length c3, .slice A4 x.got.length c4] 31)) (w.heap.size + 1) (by simp) 31 #[.int .i64 y.way, .int .i64 y.ver, .int .i64 y.want, .slice B1 y.sent.length d1, .slice B2 y.live.length d2, .slice B3 y.back.length d3, .slice B4 y.got.length d4])
  have HSX := Lib.hid (fun W (h : StAt W x A1 A2 A3 A4) hT => implSt_any x A1 A2 A3 A4 c1 c2 c3 c4 W h hT)
  have HSY := Lib.hid (fun W (h : StAt W y B1 B2 B3 B4) hT => implSt_any y B1 B2 B3 B4 d1 d2 d3 d4 W h hT)
  have HM := Lib.hid (fun W (hX : StAt W x A1 A2 A3 A4) (hY : StAt W y B1 B2 B3 B4) (hT : Tabs W) (h1 : stB x = true) (h2 : stB y = true) => impl_mayAck x y A1 A2 A3 A4 B1 B2 B3 B4 c1 c2 c3 c4 d1 d2 d3 d4 W (stB_parts h1).1 (stB_parts h1).2.1)
  clear hx hy ht
  have HF := Lib.hid (show wmayB x y 3 = (stB x && stB y && mayB x y 3) from rfl)
  generalize stB x = o1 at HSX HM HF
  generalize stB y = o2 at HSY HM HF
  generalize wmayB x y 3 = o at HF
  generalize mayB x y 3 = o3 at HM HF
  unfold stV at HSX HSY HM ⊢
  go_enter Tryd.func15, Tryd.ntmps15
  go_wp2_with fail
  refine (impl_stepAt_3 _).mono ?_
  rintro e w1 ⟨rfl, hk1⟩
  have hbx := HBX.out.keeps hk1 fun h => h
  have hby := HBY.out.keeps hk1 fun h => h
  have x0 := hbx.cell 0
  have y0 := hby.cell 0
  have x1 := hbx.cell 1
  have y1 := hby.cell 1
  have x2 := hbx.cell 2
  have y2 := hby.cell 2
  have x3 := hbx.cell 3
  have y3 := hby.cell 3
  have x4 := hbx.cell 4
  have y4 := hby.cell 4
  have x5 := hbx.cell 5
  have y5 := hby.cell 5
  have x6 := hbx.cell 6
  have y6 := hby.cell 6
  simp at x0 y0 x1 y1 x2 y2 x3 y3 x4 y4 x5 y5 x6 y6
  have zx := hbx.lt
  have zy := hby.lt
  clear HBX HBY
  have HBX := Lib.hid (hbx.alloc (.cells #[.func (.func 84) #[] #[], .func (.func 85) #[] #[]] 65))
  have HBY := Lib.hid (hby.alloc (.cells #[.func (.func 84) #[] #[], .func (.func 85) #[] #[]] 65))
  have HBR := Lib.hid (Box.new w1 _ rfl 65 #[.func (.func 84) #[] #[], .func (.func 85) #[] #[]])
  have HK1 := Lib.hid ((HK.out.trans hk1).alloc (.cells #[.func (.func 84) #[] #[], .func (.func 85) #[] #[]] 65))
  have HX1 := Lib.hid ((HX.out.kept hk1).alloc (.cells #[.func (.func 84) #[] #[], .func (.func 85) #[] #[]] 65))
  have HY1 := Lib.hid ((HY.out.kept hk1).alloc (.cells #[.func (.func 84) #[] #[], .func (.func 85) #[] #[]] 65))
  have HT1 := Lib.hid ((HT.out.keeps hk1).keeps ((Keeps.refl _ _).alloc (.cells #[.func (.func 84) #[] #[], .func (.func 85) #[] #[]] 65)))
  clear hbx hby hk1
  go_wp2_with fail
  refine (HSX.out _ HX1.out HT1.out).mono ?_
  rintro e w2 ⟨rfl, hk2⟩
  clear x0 y0 x1 y1 x2 y2 x3 y3 x4 y4 x5 y5 x6 y6 zx zy
  have hbx := HBX.out.keeps hk2 fun h => h
  have hby := HBY.out.keeps hk2 fun h => h
  have hbr := HBR.out.keeps hk2 fun h => h
  have x0 := hbx.cell 0
  have y0 := hby.cell 0
  have x1 := hbx.cell 1
  have y1 := hby.cell 1
  have x2 := hbx.cell 2
  have y2 := hby.cell 2
  have x3 := hbx.cell 3
  have y3 := hby.cell 3
  have x4 := hbx.cell 4
  have y4 := hby.cell 4
  have x5 := hbx.cell 5
  have y5 := hby.cell 5
  have x6 := hbx.cell 6
  have y6 := hby.cell 6
  simp at x0 y0 x1 y1 x2 y2 x3 y3 x4 y4 x5 y5 x6 y6
  have zx := hbx.lt
  have zy := hby.lt
  have r0 := hbr.cell 0
  have r1 := hbr.cell 1
  simp at r0 r1
  have zr := hbr.lt
  clear HBX HBY HBR
  have HBX := Lib.hid hbx
  have HBY := Lib.hid hby
  have HBR := Lib.hid hbr
  have HK2 := Lib.hid (HK1.out.trans hk2)
  have HX2 := Lib.hid (HX1.out.kept hk2)
  have HY2 := Lib.hid (HY1.out.kept hk2)
  have HT2 := Lib.hid (HT1.out.keeps hk2)
  clear hbx hby hbr hk2
  cases o1 with
  | false =>
    have HE := Lib.hid (show o = false by rw [HF.out]; rfl)
    go_wp2
    go_ret
    exact ⟨by simp [HE.out], HK2.out⟩
  | true =>
    go_wp2_with fail
    refine (HSY.out _ HY2.out HT2.out).mono ?_
    rintro e w3 ⟨rfl, hk3⟩
    clear x0 y0 x1 y1 x2 y2 x3 y3 x4 y4 x5 y5 x6 y6 zx zy r0 r1 zr
    have hbx := HBX.out.keeps hk3 fun h => h
    have hby := HBY.out.keeps hk3 fun h => h
    have hbr := HBR.out.keeps hk3 fun h => h
    have x0 := hbx.cell 0
    have y0 := hby.cell 0
    have x1 := hbx.cell 1
    have y1 := hby.cell 1
    have x2 := hbx.cell 2
    have y2 := hby.cell 2
    have x3 := hbx.cell 3
    have y3 := hby.cell 3
    have x4 := hbx.cell 4
    have y4 := hby.cell 4
    have x5 := hbx.cell 5
    have y5 := hby.cell 5
    have x6 := hbx.cell 6
    have y6 := hby.cell 6
    simp at x0 y0 x1 y1 x2 y2 x3 y3 x4 y4 x5 y5 x6 y6
    have zx := hbx.lt
    have zy := hby.lt
    have r0 := hbr.cell 0
    have r1 := hbr.cell 1
    simp at r0 r1
    have zr := hbr.lt
    have HK3 := Lib.hid (HK2.out.trans hk3)
    have HX3 := Lib.hid (HX2.out.kept hk3)
    have HY3 := Lib.hid (HY2.out.kept hk3)
    have HT3 := Lib.hid (HT2.out.keeps hk3)
    clear hbx hby hbr hk3
    cases o2 with
    | false =>
      have HE := Lib.hid (show o = false by rw [HF.out]; rfl)
      go_wp2
      go_ret
      exact ⟨by simp [HE.out], HK3.out⟩
    | true =>
      have HE := Lib.hid (show o = o3 by rw [HF.out]; rfl)
      have HM3 := Lib.hid (HM.out _ HX3.out HY3.out HT3.out (by first | rfl | trivial) (by first | rfl | trivial))
      go_wp2_with fail
      refine HM3.out.mono ?_
      rintro e w4 ⟨rfl, hk4⟩
      have HK4 := Lib.hid (HK3.out.trans hk4)
      clear hk4
      go_wp2
      go_ret
      exact ⟨by simp [HE.out], HK4.out⟩
set_option maxRecDepth 100000 in
set_option maxHeartbeats 2000000 in
theorem implMay_4 (x y : StL) (A1 A2 A3 A4 B1 B2 B3 B4 : Option Addr) (c1 c2 c3 c4 d1 d2 d3 d4 : Nat) (w : World) (hx : StAt w x A1 A2 A3 A4) (hy : StAt w y B1 B2 B3 B4) (ht : Tabs w) :
    Calls Tryd.prog 15 #[stV x A1 A2 A3 A4 c1 c2 c3 c4, stV y B1 B2 B3 B4 d1 d2 d3 d4, .int .i64 4] w fun e w' => e = .returned (.bool (wmayB x y 4)) ∧ Keeps noBlk w w' := by
  have HX := Lib.hid ((hx.alloc (.cells #[.int .i64 x.way, .int .i64 x.ver, .int .i64 x.want, .slice A1 x.sent.length c1, .slice A2 x.live.length c2, .slice A3 x.back.length c3, .slice A4 x.got.length c4] 31)).alloc (.cells #[.int .i64 y.way, .int .i64 y.ver, .int .i64 y.want, .slice B1 y.sent.length d1, .slice B2 y.live.length d2, .slice B3 y.back.length d3, .slice B4 y.got.length d4] 31))
  have HY := Lib.hid ((hy.alloc (.cells #[.int .i64 x.way, .int .i64 x.ver, .int .i64 x.want, .slice A1 x.sent.length c1, .slice A2 x.live.length c2, .slice A3 x.back.length c3, .slice A4 x.got.length c4] 31)).alloc (.cells #[.int .i64 y.way, .int .i64 y.ver, .int .i64 y.want, .slice B1 y.sent.length d1, .slice B2 y.live.length d2, .slice B3 y.back.length d3, .slice B4 y.got.length d4] 31))
  have HT := Lib.hid (ht.keeps (((Keeps.refl _ _).alloc (.cells #[.int .i64 x.way, .int .i64 x.ver, .int .i64 x.want, .slice A1 x.sent.length c1, .slice A2 x.live.length c2, .slice A3 x.back.length c3, .slice A4 x.got.length c4] 31)).alloc (.cells #[.int .i64 y.way, .int .i64 y.ver, .int .i64 y.want, .slice B1 y.sent.length d1, .slice B2 y.live.length d2, .slice B3 y.back.length d3, .slice B4 y.got.length d4] 31)))
  have HK := Lib.hid (((Keeps.refl noBlk w).alloc (.cells #[.int .i64 x.way, .int .i64 x.ver, .int .i64 x.want, .slice A1 x.sent.length c1, .slice A2 x.live.length c2, .slice A3 x.back.length c3, .slice A4 x.got.length c4] 31)).alloc (.cells #[.int .i64 y.way, .int .i64 y.ver, .int .i64 y.want, .slice B1 y.sent.length d1, .slice B2 y.live.length d2, .slice B3 y.back.length d3, .slice B4 y.got.length d4] 31))
  have HBX := Lib.hid ((Box.new w _ rfl 31 #[.int .i64 x.way, .int .i64 x.ver, .int .i64 x.want, .slice A1 x.sent.length c1, .slice A2 x.live.length c2, .slice A3 x.back.length c3, .slice A4 x.got.length c4]).alloc (.cells #[.int .i64 y.way, .int .i64 y.ver, .int .i64 y.want, .slice B1 y.sent.length d1, .slice B2 y.live.length d2, .slice B3 y.back.length d3, .slice B4 y.got.length d4] 31))
  have HBY := Lib.hid (Box.new (w.alloc (.cells #[.int .i64 x.way, .int .i64 x.ver, .int .i64 x.want, .slice A1 x.sent.length c1, .slice A2 x.live.length c2, .slice A3 x.back.length c3, .slice A4 x.got.length c4] 31)) (w.heap.size + 1) (by simp) 31 #[.int .i64 y.way, .int .i64 y.ver, .int .i64 y.want, .slice B1 y.sent.length d1, .slice B2 y.live.length d2, .slice B3 y.back.length d3, .slice B4 y.got.length d4])
  have HSX := Lib.hid (fun W (h : StAt W x A1 A2 A3 A4) hT => implSt_any x A1 A2 A3 A4 c1 c2 c3 c4 W h hT)
  have HSY := Lib.hid (fun W (h : StAt W y B1 B2 B3 B4) hT => implSt_any y B1 B2 B3 B4 d1 d2 d3 d4 W h hT)
  have HM := Lib.hid (fun W (hX : StAt W x A1 A2 A3 A4) (hY : StAt W y B1 B2 B3 B4) (hT : Tabs W) (h1 : stB x = true) (h2 : stB y = true) => impl_mayDone x y A1 A2 A3 A4 B1 B2 B3 B4 c1 c2 c3 c4 d1 d2 d3 d4 W (stB_parts h1).1 (stB_parts h1).2.1)
  clear hx hy ht
  have HF := Lib.hid (show wmayB x y 4 = (stB x && stB y && mayB x y 4) from rfl)
  generalize stB x = o1 at HSX HM HF
  generalize stB y = o2 at HSY HM HF
  generalize wmayB x y 4 = o at HF
  generalize mayB x y 4 = o3 at HM HF
  unfold stV at HSX HSY HM ⊢
  go_enter Tryd.func15, Tryd.ntmps15
  go_wp2_with fail
  refine (impl_stepAt_4 _).mono ?_
  rintro e w1 ⟨rfl, hk1⟩
  have hbx := HBX.out.keeps hk1 fun h => h
  have hby := HBY.out.keeps hk1 fun h => h
  have x0 := hbx.cell 0
  have y0 := hby.cell 0
  have x1 := hbx.cell 1
  have y1 := hby.cell 1
  have x2 := hbx.cell 2
  have y2 := hby.cell 2
  have x3 := hbx.cell 3
  have y3 := hby.cell 3
  have x4 := hbx.cell 4
  have y4 := hby.cell 4
  have x5 := hbx.cell 5
  have y5 := hby.cell 5
  have x6 := hbx.cell 6
  have y6 := hby.cell 6
  simp at x0 y0 x1 y1 x2 y2 x3 y3 x4 y4 x5 y5 x6 y6
  have zx := hbx.lt
  have zy := hby.lt
  clear HBX HBY
  have HBX := Lib.hid (hbx.alloc (.cells #[.func (.func 86) #[] #[], .func (.func 85) #[] #[]] 65))
  have HBY := Lib.hid (hby.alloc (.cells #[.func (.func 86) #[] #[], .func (.func 85) #[] #[]] 65))
  have HBR := Lib.hid (Box.new w1 _ rfl 65 #[.func (.func 86) #[] #[], .func (.func 85) #[] #[]])
  have HK1 := Lib.hid ((HK.out.trans hk1).alloc (.cells #[.func (.func 86) #[] #[], .func (.func 85) #[] #[]] 65))
  have HX1 := Lib.hid ((HX.out.kept hk1).alloc (.cells #[.func (.func 86) #[] #[], .func (.func 85) #[] #[]] 65))
  have HY1 := Lib.hid ((HY.out.kept hk1).alloc (.cells #[.func (.func 86) #[] #[], .func (.func 85) #[] #[]] 65))
  have HT1 := Lib.hid ((HT.out.keeps hk1).keeps ((Keeps.refl _ _).alloc (.cells #[.func (.func 86) #[] #[], .func (.func 85) #[] #[]] 65)))
  clear hbx hby hk1
  go_wp2_with fail
  refine (HSX.out _ HX1.out HT1.out).mono ?_
  rintro e w2 ⟨rfl, hk2⟩
  clear x0 y0 x1 y1 x2 y2 x3 y3 x4 y4 x5 y5 x6 y6 zx zy
  have hbx := HBX.out.keeps hk2 fun h => h
  have hby := HBY.out.keeps hk2 fun h => h
  have hbr := HBR.out.keeps hk2 fun h => h
  have x0 := hbx.cell 0
  have y0 := hby.cell 0
  have x1 := hbx.cell 1
  have y1 := hby.cell 1
  have x2 := hbx.cell 2
  have y2 := hby.cell 2
  have x3 := hbx.cell 3
  have y3 := hby.cell 3
  have x4 := hbx.cell 4
  have y4 := hby.cell 4
  have x5 := hbx.cell 5
  have y5 := hby.cell 5
  have x6 := hbx.cell 6
  have y6 := hby.cell 6
  simp at x0 y0 x1 y1 x2 y2 x3 y3 x4 y4 x5 y5 x6 y6
  have zx := hbx.lt
  have zy := hby.lt
  have r0 := hbr.cell 0
  have r1 := hbr.cell 1
  simp at r0 r1
  have zr := hbr.lt
  clear HBX HBY HBR
  have HBX := Lib.hid hbx
  have HBY := Lib.hid hby
  have HBR := Lib.hid hbr
  have HK2 := Lib.hid (HK1.out.trans hk2)
  have HX2 := Lib.hid (HX1.out.kept hk2)
  have HY2 := Lib.hid (HY1.out.kept hk2)
  have HT2 := Lib.hid (HT1.out.keeps hk2)
  clear hbx hby hbr hk2
  cases o1 with
  | false =>
    have HE := Lib.hid (show o = false by rw [HF.out]; rfl)
    go_wp2
    go_ret
    exact ⟨by simp [HE.out], HK2.out⟩
  | true =>
    go_wp2_with fail
    refine (HSY.out _ HY2.out HT2.out).mono ?_
    rintro e w3 ⟨rfl, hk3⟩
    clear x0 y0 x1 y1 x2 y2 x3 y3 x4 y4 x5 y5 x6 y6 zx zy r0 r1 zr
    have hbx := HBX.out.keeps hk3 fun h => h
    have hby := HBY.out.keeps hk3 fun h => h
    have hbr := HBR.out.keeps hk3 fun h => h
    have x0 := hbx.cell 0
    have y0 := hby.cell 0
    have x1 := hbx.cell 1
    have y1 := hby.cell 1
    have x2 := hbx.cell 2
    have y2 := hby.cell 2
    have x3 := hbx.cell 3
    have y3 := hby.cell 3
    have x4 := hbx.cell 4
    have y4 := hby.cell 4
    have x5 := hbx.cell 5
    have y5 := hby.cell 5
    have x6 := hbx.cell 6
    have y6 := hby.cell 6
    simp at x0 y0 x1 y1 x2 y2 x3 y3 x4 y4 x5 y5 x6 y6
    have zx := hbx.lt
    have zy := hby.lt
    have r0 := hbr.cell 0
    have r1 := hbr.cell 1
    simp at r0 r1
    have zr := hbr.lt
    have HK3 := Lib.hid (HK2.out.trans hk3)
    have HX3 := Lib.hid (HX2.out.kept hk3)
    have HY3 := Lib.hid (HY2.out.kept hk3)
    have HT3 := Lib.hid (HT2.out.keeps hk3)
    clear hbx hby hbr hk3
    cases o2 with
    | false =>
      have HE := Lib.hid (show o = false by rw [HF.out]; rfl)
      go_wp2
      go_ret
      exact ⟨by simp [HE.out], HK3.out⟩
    | true =>
      have HE := Lib.hid (show o = o3 by rw [HF.out]; rfl)
      have HM3 := Lib.hid (HM.out _ HX3.out HY3.out HT3.out (by first | rfl | trivial) (by first | rfl | trivial))
      go_wp2_with fail
      refine HM3.out.mono ?_
      rintro e w4 ⟨rfl, hk4⟩
      have HK4 := Lib.hid (HK3.out.trans hk4)
      clear hk4
      go_wp2
      go_ret
      exact ⟨by simp [HE.out], HK4.out⟩
set_option maxRecDepth 100000 in
set_option maxHeartbeats 2000000 in
theorem implMay_5 (x y : StL) (A1 A2 A3 A4 B1 B2 B3 B4 : Option Addr) (c1 c2 c3 c4 d1 d2 d3 d4 : Nat) (w : World) (hx : StAt w x A1 A2 A3 A4) (hy : StAt w y B1 B2 B3 B4) (ht : Tabs w) :
    Calls Tryd.prog 15 #[stV x A1 A2 A3 A4 c1 c2 c3 c4, stV y B1 B2 B3 B4 d1 d2 d3 d4, .int .i64 5] w fun e w' => e = .returned (.bool (wmayB x y 5)) ∧ Keeps noBlk w w' := by
  have HX := Lib.hid ((hx.alloc (.cells #[.int .i64 x.way, .int .i64 x.ver, .int .i64 x.want, .slice A1 x.sent.length c1, .slice A2 x.live.length c2, .slice A3 x.back.length c3, .slice A4 x.got.length c4] 31)).alloc (.cells #[.int .i64 y.way, .int .i64 y.ver, .int .i64 y.want, .slice B1 y.sent.length d1, .slice B2 y.live.length d2, .slice B3 y.back.length d3, .slice B4 y.got.length d4] 31))
  have HY := Lib.hid ((hy.alloc (.cells #[.int .i64 x.way, .int .i64 x.ver, .int .i64 x.want, .slice A1 x.sent.length c1, .slice A2 x.live.length c2, .slice A3 x.back.length c3, .slice A4 x.got.length c4] 31)).alloc (.cells #[.int .i64 y.way, .int .i64 y.ver, .int .i64 y.want, .slice B1 y.sent.length d1, .slice B2 y.live.length d2, .slice B3 y.back.length d3, .slice B4 y.got.length d4] 31))
  have HT := Lib.hid (ht.keeps (((Keeps.refl _ _).alloc (.cells #[.int .i64 x.way, .int .i64 x.ver, .int .i64 x.want, .slice A1 x.sent.length c1, .slice A2 x.live.length c2, .slice A3 x.back.length c3, .slice A4 x.got.length c4] 31)).alloc (.cells #[.int .i64 y.way, .int .i64 y.ver, .int .i64 y.want, .slice B1 y.sent.length d1, .slice B2 y.live.length d2, .slice B3 y.back.length d3, .slice B4 y.got.length d4] 31)))
  have HK := Lib.hid (((Keeps.refl noBlk w).alloc (.cells #[.int .i64 x.way, .int .i64 x.ver, .int .i64 x.want, .slice A1 x.sent.length c1, .slice A2 x.live.length c2, .slice A3 x.back.length c3, .slice A4 x.got.length c4] 31)).alloc (.cells #[.int .i64 y.way, .int .i64 y.ver, .int .i64 y.want, .slice B1 y.sent.length d1, .slice B2 y.live.length d2, .slice B3 y.back.length d3, .slice B4 y.got.length d4] 31))
  have HBX := Lib.hid ((Box.new w _ rfl 31 #[.int .i64 x.way, .int .i64 x.ver, .int .i64 x.want, .slice A1 x.sent.length c1, .slice A2 x.live.length c2, .slice A3 x.back.length c3, .slice A4 x.got.length c4]).alloc (.cells #[.int .i64 y.way, .int .i64 y.ver, .int .i64 y.want, .slice B1 y.sent.length d1, .slice B2 y.live.length d2, .slice B3 y.back.length d3, .slice B4 y.got.length d4] 31))
  have HBY := Lib.hid (Box.new (w.alloc (.cells #[.int .i64 x.way, .int .i64 x.ver, .int .i64 x.want, .slice A1 x.sent.length c1, .slice A2 x.live.length c2, .slice A3 x.back.length c3, .slice A4 x.got.length c4] 31)) (w.heap.size + 1) (by simp) 31 #[.int .i64 y.way, .int .i64 y.ver, .int .i64 y.want, .slice B1 y.sent.length d1, .slice B2 y.live.length d2, .slice B3 y.back.length d3, .slice B4 y.got.length d4])
  have HSX := Lib.hid (fun W (h : StAt W x A1 A2 A3 A4) hT => implSt_any x A1 A2 A3 A4 c1 c2 c3 c4 W h hT)
  have HSY := Lib.hid (fun W (h : StAt W y B1 B2 B3 B4) hT => implSt_any y B1 B2 B3 B4 d1 d2 d3 d4 W h hT)
  have HM := Lib.hid (fun W (hX : StAt W x A1 A2 A3 A4) (hY : StAt W y B1 B2 B3 B4) (hT : Tabs W) (h1 : stB x = true) (h2 : stB y = true) => impl_mayNew x y A1 A2 A3 A4 B1 B2 B3 B4 c1 c2 c3 c4 d1 d2 d3 d4 W (stB_parts h1).1 (stB_parts h1).2.1)
  clear hx hy ht
  have HF := Lib.hid (show wmayB x y 5 = (stB x && stB y && mayB x y 5) from rfl)
  generalize stB x = o1 at HSX HM HF
  generalize stB y = o2 at HSY HM HF
  generalize wmayB x y 5 = o at HF
  generalize mayB x y 5 = o3 at HM HF
  unfold stV at HSX HSY HM ⊢
  go_enter Tryd.func15, Tryd.ntmps15
  go_wp2_with fail
  refine (impl_stepAt_5 _).mono ?_
  rintro e w1 ⟨rfl, hk1⟩
  have hbx := HBX.out.keeps hk1 fun h => h
  have hby := HBY.out.keeps hk1 fun h => h
  have x0 := hbx.cell 0
  have y0 := hby.cell 0
  have x1 := hbx.cell 1
  have y1 := hby.cell 1
  have x2 := hbx.cell 2
  have y2 := hby.cell 2
  have x3 := hbx.cell 3
  have y3 := hby.cell 3
  have x4 := hbx.cell 4
  have y4 := hby.cell 4
  have x5 := hbx.cell 5
  have y5 := hby.cell 5
  have x6 := hbx.cell 6
  have y6 := hby.cell 6
  simp at x0 y0 x1 y1 x2 y2 x3 y3 x4 y4 x5 y5 x6 y6
  have zx := hbx.lt
  have zy := hby.lt
  clear HBX HBY
  have HBX := Lib.hid (hbx.alloc (.cells #[.func (.func 87) #[] #[], .func (.func 88) #[] #[]] 65))
  have HBY := Lib.hid (hby.alloc (.cells #[.func (.func 87) #[] #[], .func (.func 88) #[] #[]] 65))
  have HBR := Lib.hid (Box.new w1 _ rfl 65 #[.func (.func 87) #[] #[], .func (.func 88) #[] #[]])
  have HK1 := Lib.hid ((HK.out.trans hk1).alloc (.cells #[.func (.func 87) #[] #[], .func (.func 88) #[] #[]] 65))
  have HX1 := Lib.hid ((HX.out.kept hk1).alloc (.cells #[.func (.func 87) #[] #[], .func (.func 88) #[] #[]] 65))
  have HY1 := Lib.hid ((HY.out.kept hk1).alloc (.cells #[.func (.func 87) #[] #[], .func (.func 88) #[] #[]] 65))
  have HT1 := Lib.hid ((HT.out.keeps hk1).keeps ((Keeps.refl _ _).alloc (.cells #[.func (.func 87) #[] #[], .func (.func 88) #[] #[]] 65)))
  clear hbx hby hk1
  go_wp2_with fail
  refine (HSX.out _ HX1.out HT1.out).mono ?_
  rintro e w2 ⟨rfl, hk2⟩
  clear x0 y0 x1 y1 x2 y2 x3 y3 x4 y4 x5 y5 x6 y6 zx zy
  have hbx := HBX.out.keeps hk2 fun h => h
  have hby := HBY.out.keeps hk2 fun h => h
  have hbr := HBR.out.keeps hk2 fun h => h
  have x0 := hbx.cell 0
  have y0 := hby.cell 0
  have x1 := hbx.cell 1
  have y1 := hby.cell 1
  have x2 := hbx.cell 2
  have y2 := hby.cell 2
  have x3 := hbx.cell 3
  have y3 := hby.cell 3
  have x4 := hbx.cell 4
  have y4 := hby.cell 4
  have x5 := hbx.cell 5
  have y5 := hby.cell 5
  have x6 := hbx.cell 6
  have y6 := hby.cell 6
  simp at x0 y0 x1 y1 x2 y2 x3 y3 x4 y4 x5 y5 x6 y6
  have zx := hbx.lt
  have zy := hby.lt
  have r0 := hbr.cell 0
  have r1 := hbr.cell 1
  simp at r0 r1
  have zr := hbr.lt
  clear HBX HBY HBR
  have HBX := Lib.hid hbx
  have HBY := Lib.hid hby
  have HBR := Lib.hid hbr
  have HK2 := Lib.hid (HK1.out.trans hk2)
  have HX2 := Lib.hid (HX1.out.kept hk2)
  have HY2 := Lib.hid (HY1.out.kept hk2)
  have HT2 := Lib.hid (HT1.out.keeps hk2)
  clear hbx hby hbr hk2
  cases o1 with
  | false =>
    have HE := Lib.hid (show o = false by rw [HF.out]; rfl)
    go_wp2
    go_ret
    exact ⟨by simp [HE.out], HK2.out⟩
  | true =>
    go_wp2_with fail
    refine (HSY.out _ HY2.out HT2.out).mono ?_
    rintro e w3 ⟨rfl, hk3⟩
    clear x0 y0 x1 y1 x2 y2 x3 y3 x4 y4 x5 y5 x6 y6 zx zy r0 r1 zr
    have hbx := HBX.out.keeps hk3 fun h => h
    have hby := HBY.out.keeps hk3 fun h => h
    have hbr := HBR.out.keeps hk3 fun h => h
    have x0 := hbx.cell 0
    have y0 := hby.cell 0
    have x1 := hbx.cell 1
    have y1 := hby.cell 1
    have x2 := hbx.cell 2
    have y2 := hby.cell 2
    have x3 := hbx.cell 3
    have y3 := hby.cell 3
    have x4 := hbx.cell 4
    have y4 := hby.cell 4
    have x5 := hbx.cell 5
    have y5 := hby.cell 5
    have x6 := hbx.cell 6
    have y6 := hby.cell 6
    simp at x0 y0 x1 y1 x2 y2 x3 y3 x4 y4 x5 y5 x6 y6
    have zx := hbx.lt
    have zy := hby.lt
    have r0 := hbr.cell 0
    have r1 := hbr.cell 1
    simp at r0 r1
    have zr := hbr.lt
    have HK3 := Lib.hid (HK2.out.trans hk3)
    have HX3 := Lib.hid (HX2.out.kept hk3)
    have HY3 := Lib.hid (HY2.out.kept hk3)
    have HT3 := Lib.hid (HT2.out.keeps hk3)
    clear hbx hby hbr hk3
    cases o2 with
    | false =>
      have HE := Lib.hid (show o = false by rw [HF.out]; rfl)
      go_wp2
      go_ret
      exact ⟨by simp [HE.out], HK3.out⟩
    | true =>
      have HE := Lib.hid (show o = o3 by rw [HF.out]; rfl)
      have HM3 := Lib.hid (HM.out _ HX3.out HY3.out HT3.out (by first | rfl | trivial) (by first | rfl | trivial))
      go_wp2_with fail
      refine HM3.out.mono ?_
      rintro e w4 ⟨rfl, hk4⟩
      have HK4 := Lib.hid (HK3.out.trans hk4)
      clear hk4
      go_wp2
      go_ret
      exact ⟨by simp [HE.out], HK4.out⟩
set_option maxRecDepth 100000 in
set_option maxHeartbeats 2000000 in
theorem implMay_6 (x y : StL) (A1 A2 A3 A4 B1 B2 B3 B4 : Option Addr) (c1 c2 c3 c4 d1 d2 d3 d4 : Nat) (w : World) (hx : StAt w x A1 A2 A3 A4) (hy : StAt w y B1 B2 B3 B4) (ht : Tabs w) :
    Calls Tryd.prog 15 #[stV x A1 A2 A3 A4 c1 c2 c3 c4, stV y B1 B2 B3 B4 d1 d2 d3 d4, .int .i64 6] w fun e w' => e = .returned (.bool (wmayB x y 6)) ∧ Keeps noBlk w w' := by
  have HX := Lib.hid ((hx.alloc (.cells #[.int .i64 x.way, .int .i64 x.ver, .int .i64 x.want, .slice A1 x.sent.length c1, .slice A2 x.live.length c2, .slice A3 x.back.length c3, .slice A4 x.got.length c4] 31)).alloc (.cells #[.int .i64 y.way, .int .i64 y.ver, .int .i64 y.want, .slice B1 y.sent.length d1, .slice B2 y.live.length d2, .slice B3 y.back.length d3, .slice B4 y.got.length d4] 31))
  have HY := Lib.hid ((hy.alloc (.cells #[.int .i64 x.way, .int .i64 x.ver, .int .i64 x.want, .slice A1 x.sent.length c1, .slice A2 x.live.length c2, .slice A3 x.back.length c3, .slice A4 x.got.length c4] 31)).alloc (.cells #[.int .i64 y.way, .int .i64 y.ver, .int .i64 y.want, .slice B1 y.sent.length d1, .slice B2 y.live.length d2, .slice B3 y.back.length d3, .slice B4 y.got.length d4] 31))
  have HT := Lib.hid (ht.keeps (((Keeps.refl _ _).alloc (.cells #[.int .i64 x.way, .int .i64 x.ver, .int .i64 x.want, .slice A1 x.sent.length c1, .slice A2 x.live.length c2, .slice A3 x.back.length c3, .slice A4 x.got.length c4] 31)).alloc (.cells #[.int .i64 y.way, .int .i64 y.ver, .int .i64 y.want, .slice B1 y.sent.length d1, .slice B2 y.live.length d2, .slice B3 y.back.length d3, .slice B4 y.got.length d4] 31)))
  have HK := Lib.hid (((Keeps.refl noBlk w).alloc (.cells #[.int .i64 x.way, .int .i64 x.ver, .int .i64 x.want, .slice A1 x.sent.length c1, .slice A2 x.live.length c2, .slice A3 x.back.length c3, .slice A4 x.got.length c4] 31)).alloc (.cells #[.int .i64 y.way, .int .i64 y.ver, .int .i64 y.want, .slice B1 y.sent.length d1, .slice B2 y.live.length d2, .slice B3 y.back.length d3, .slice B4 y.got.length d4] 31))
  have HBX := Lib.hid ((Box.new w _ rfl 31 #[.int .i64 x.way, .int .i64 x.ver, .int .i64 x.want, .slice A1 x.sent.length c1, .slice A2 x.live.length c2, .slice A3 x.back.length c3, .slice A4 x.got.length c4]).alloc (.cells #[.int .i64 y.way, .int .i64 y.ver, .int .i64 y.want, .slice B1 y.sent.length d1, .slice B2 y.live.length d2, .slice B3 y.back.length d3, .slice B4 y.got.length d4] 31))
  have HBY := Lib.hid (Box.new (w.alloc (.cells #[.int .i64 x.way, .int .i64 x.ver, .int .i64 x.want, .slice A1 x.sent.length c1, .slice A2 x.live.length c2, .slice A3 x.back.length c3, .slice A4 x.got.length c4] 31)) (w.heap.size + 1) (by simp) 31 #[.int .i64 y.way, .int .i64 y.ver, .int .i64 y.want, .slice B1 y.sent.length d1, .slice B2 y.live.length d2, .slice B3 y.back.length d3, .slice B4 y.got.length d4])
  have HSX := Lib.hid (fun W (h : StAt W x A1 A2 A3 A4) hT => implSt_any x A1 A2 A3 A4 c1 c2 c3 c4 W h hT)
  have HSY := Lib.hid (fun W (h : StAt W y B1 B2 B3 B4) hT => implSt_any y B1 B2 B3 B4 d1 d2 d3 d4 W h hT)
  have HM := Lib.hid (fun W (hX : StAt W x A1 A2 A3 A4) (hY : StAt W y B1 B2 B3 B4) (hT : Tabs W) (h1 : stB x = true) (h2 : stB y = true) => impl_mayAlso x y A1 A2 A3 A4 B1 B2 B3 B4 c1 c2 c3 c4 d1 d2 d3 d4 W (stB_parts h1).1 (stB_parts h1).2.1)
  clear hx hy ht
  have HF := Lib.hid (show wmayB x y 6 = (stB x && stB y && mayB x y 6) from rfl)
  generalize stB x = o1 at HSX HM HF
  generalize stB y = o2 at HSY HM HF
  generalize wmayB x y 6 = o at HF
  generalize mayB x y 6 = o3 at HM HF
  unfold stV at HSX HSY HM ⊢
  go_enter Tryd.func15, Tryd.ntmps15
  go_wp2_with fail
  refine (impl_stepAt_6 _).mono ?_
  rintro e w1 ⟨rfl, hk1⟩
  have hbx := HBX.out.keeps hk1 fun h => h
  have hby := HBY.out.keeps hk1 fun h => h
  have x0 := hbx.cell 0
  have y0 := hby.cell 0
  have x1 := hbx.cell 1
  have y1 := hby.cell 1
  have x2 := hbx.cell 2
  have y2 := hby.cell 2
  have x3 := hbx.cell 3
  have y3 := hby.cell 3
  have x4 := hbx.cell 4
  have y4 := hby.cell 4
  have x5 := hbx.cell 5
  have y5 := hby.cell 5
  have x6 := hbx.cell 6
  have y6 := hby.cell 6
  simp at x0 y0 x1 y1 x2 y2 x3 y3 x4 y4 x5 y5 x6 y6
  have zx := hbx.lt
  have zy := hby.lt
  clear HBX HBY
  have HBX := Lib.hid (hbx.alloc (.cells #[.func (.func 89) #[] #[], .func (.func 88) #[] #[]] 65))
  have HBY := Lib.hid (hby.alloc (.cells #[.func (.func 89) #[] #[], .func (.func 88) #[] #[]] 65))
  have HBR := Lib.hid (Box.new w1 _ rfl 65 #[.func (.func 89) #[] #[], .func (.func 88) #[] #[]])
  have HK1 := Lib.hid ((HK.out.trans hk1).alloc (.cells #[.func (.func 89) #[] #[], .func (.func 88) #[] #[]] 65))
  have HX1 := Lib.hid ((HX.out.kept hk1).alloc (.cells #[.func (.func 89) #[] #[], .func (.func 88) #[] #[]] 65))
  have HY1 := Lib.hid ((HY.out.kept hk1).alloc (.cells #[.func (.func 89) #[] #[], .func (.func 88) #[] #[]] 65))
  have HT1 := Lib.hid ((HT.out.keeps hk1).keeps ((Keeps.refl _ _).alloc (.cells #[.func (.func 89) #[] #[], .func (.func 88) #[] #[]] 65)))
  clear hbx hby hk1
  go_wp2_with fail
  refine (HSX.out _ HX1.out HT1.out).mono ?_
  rintro e w2 ⟨rfl, hk2⟩
  clear x0 y0 x1 y1 x2 y2 x3 y3 x4 y4 x5 y5 x6 y6 zx zy
  have hbx := HBX.out.keeps hk2 fun h => h
  have hby := HBY.out.keeps hk2 fun h => h
  have hbr := HBR.out.keeps hk2 fun h => h
  have x0 := hbx.cell 0
  have y0 := hby.cell 0
  have x1 := hbx.cell 1
  have y1 := hby.cell 1
  have x2 := hbx.cell 2
  have y2 := hby.cell 2
  have x3 := hbx.cell 3
  have y3 := hby.cell 3
  have x4 := hbx.cell 4
  have y4 := hby.cell 4
  have x5 := hbx.cell 5
  have y5 := hby.cell 5
  have x6 := hbx.cell 6
  have y6 := hby.cell 6
  simp at x0 y0 x1 y1 x2 y2 x3 y3 x4 y4 x5 y5 x6 y6
  have zx := hbx.lt
  have zy := hby.lt
  have r0 := hbr.cell 0
  have r1 := hbr.cell 1
  simp at r0 r1
  have zr := hbr.lt
  clear HBX HBY HBR
  have HBX := Lib.hid hbx
  have HBY := Lib.hid hby
  have HBR := Lib.hid hbr
  have HK2 := Lib.hid (HK1.out.trans hk2)
  have HX2 := Lib.hid (HX1.out.kept hk2)
  have HY2 := Lib.hid (HY1.out.kept hk2)
  have HT2 := Lib.hid (HT1.out.keeps hk2)
  clear hbx hby hbr hk2
  cases o1 with
  | false =>
    have HE := Lib.hid (show o = false by rw [HF.out]; rfl)
    go_wp2
    go_ret
    exact ⟨by simp [HE.out], HK2.out⟩
  | true =>
    go_wp2_with fail
    refine (HSY.out _ HY2.out HT2.out).mono ?_
    rintro e w3 ⟨rfl, hk3⟩
    clear x0 y0 x1 y1 x2 y2 x3 y3 x4 y4 x5 y5 x6 y6 zx zy r0 r1 zr
    have hbx := HBX.out.keeps hk3 fun h => h
    have hby := HBY.out.keeps hk3 fun h => h
    have hbr := HBR.out.keeps hk3 fun h => h
    have x0 := hbx.cell 0
    have y0 := hby.cell 0
    have x1 := hbx.cell 1
    have y1 := hby.cell 1
    have x2 := hbx.cell 2
    have y2 := hby.cell 2
    have x3 := hbx.cell 3
    have y3 := hby.cell 3
    have x4 := hbx.cell 4
    have y4 := hby.cell 4
    have x5 := hbx.cell 5
    have y5 := hby.cell 5
    have x6 := hbx.cell 6
    have y6 := hby.cell 6
    simp at x0 y0 x1 y1 x2 y2 x3 y3 x4 y4 x5 y5 x6 y6
    have zx := hbx.lt
    have zy := hby.lt
    have r0 := hbr.cell 0
    have r1 := hbr.cell 1
    simp at r0 r1
    have zr := hbr.lt
    have HK3 := Lib.hid (HK2.out.trans hk3)
    have HX3 := Lib.hid (HX2.out.kept hk3)
    have HY3 := Lib.hid (HY2.out.kept hk3)
    have HT3 := Lib.hid (HT2.out.keeps hk3)
    clear hbx hby hbr hk3
    cases o2 with
    | false =>
      have HE := Lib.hid (show o = false by rw [HF.out]; rfl)
      go_wp2
      go_ret
      exact ⟨by simp [HE.out], HK3.out⟩
    | true =>
      have HE := Lib.hid (show o = o3 by rw [HF.out]; rfl)
      have HM3 := Lib.hid (HM.out _ HX3.out HY3.out HT3.out (by first | rfl | trivial) (by first | rfl | trivial))
      go_wp2_with fail
      refine HM3.out.mono ?_
      rintro e w4 ⟨rfl, hk4⟩
      have HK4 := Lib.hid (HK3.out.trans hk4)
      clear hk4
      go_wp2
      go_ret
      exact ⟨by simp [HE.out], HK4.out⟩
set_option maxRecDepth 100000 in
set_option maxHeartbeats 2000000 in
theorem implMay_7 (x y : StL) (A1 A2 A3 A4 B1 B2 B3 B4 : Option Addr) (c1 c2 c3 c4 d1 d2 d3 d4 : Nat) (w : World) (hx : StAt w x A1 A2 A3 A4) (hy : StAt w y B1 B2 B3 B4) (ht : Tabs w) :
    Calls Tryd.prog 15 #[stV x A1 A2 A3 A4 c1 c2 c3 c4, stV y B1 B2 B3 B4 d1 d2 d3 d4, .int .i64 7] w fun e w' => e = .returned (.bool (wmayB x y 7)) ∧ Keeps noBlk w w' := by
  have HX := Lib.hid ((hx.alloc (.cells #[.int .i64 x.way, .int .i64 x.ver, .int .i64 x.want, .slice A1 x.sent.length c1, .slice A2 x.live.length c2, .slice A3 x.back.length c3, .slice A4 x.got.length c4] 31)).alloc (.cells #[.int .i64 y.way, .int .i64 y.ver, .int .i64 y.want, .slice B1 y.sent.length d1, .slice B2 y.live.length d2, .slice B3 y.back.length d3, .slice B4 y.got.length d4] 31))
  have HY := Lib.hid ((hy.alloc (.cells #[.int .i64 x.way, .int .i64 x.ver, .int .i64 x.want, .slice A1 x.sent.length c1, .slice A2 x.live.length c2, .slice A3 x.back.length c3, .slice A4 x.got.length c4] 31)).alloc (.cells #[.int .i64 y.way, .int .i64 y.ver, .int .i64 y.want, .slice B1 y.sent.length d1, .slice B2 y.live.length d2, .slice B3 y.back.length d3, .slice B4 y.got.length d4] 31))
  have HT := Lib.hid (ht.keeps (((Keeps.refl _ _).alloc (.cells #[.int .i64 x.way, .int .i64 x.ver, .int .i64 x.want, .slice A1 x.sent.length c1, .slice A2 x.live.length c2, .slice A3 x.back.length c3, .slice A4 x.got.length c4] 31)).alloc (.cells #[.int .i64 y.way, .int .i64 y.ver, .int .i64 y.want, .slice B1 y.sent.length d1, .slice B2 y.live.length d2, .slice B3 y.back.length d3, .slice B4 y.got.length d4] 31)))
  have HK := Lib.hid (((Keeps.refl noBlk w).alloc (.cells #[.int .i64 x.way, .int .i64 x.ver, .int .i64 x.want, .slice A1 x.sent.length c1, .slice A2 x.live.length c2, .slice A3 x.back.length c3, .slice A4 x.got.length c4] 31)).alloc (.cells #[.int .i64 y.way, .int .i64 y.ver, .int .i64 y.want, .slice B1 y.sent.length d1, .slice B2 y.live.length d2, .slice B3 y.back.length d3, .slice B4 y.got.length d4] 31))
  have HBX := Lib.hid ((Box.new w _ rfl 31 #[.int .i64 x.way, .int .i64 x.ver, .int .i64 x.want, .slice A1 x.sent.length c1, .slice A2 x.live.length c2, .slice A3 x.back.length c3, .slice A4 x.got.length c4]).alloc (.cells #[.int .i64 y.way, .int .i64 y.ver, .int .i64 y.want, .slice B1 y.sent.length d1, .slice B2 y.live.length d2, .slice B3 y.back.length d3, .slice B4 y.got.length d4] 31))
  have HBY := Lib.hid (Box.new (w.alloc (.cells #[.int .i64 x.way, .int .i64 x.ver, .int .i64 x.want, .slice A1 x.sent.length c1, .slice A2 x.live.length c2, .slice A3 x.back.length c3, .slice A4 x.got.length c4] 31)) (w.heap.size + 1) (by simp) 31 #[.int .i64 y.way, .int .i64 y.ver, .int .i64 y.want, .slice B1 y.sent.length d1, .slice B2 y.live.length d2, .slice B3 y.back.length d3, .slice B4 y.got.length d4])
  have HSX := Lib.hid (fun W (h : StAt W x A1 A2 A3 A4) hT => implSt_any x A1 A2 A3 A4 c1 c2 c3 c4 W h hT)
  have HSY := Lib.hid (fun W (h : StAt W y B1 B2 B3 B4) hT => implSt_any y B1 B2 B3 B4 d1 d2 d3 d4 W h hT)
  have HM := Lib.hid (fun W (hX : StAt W x A1 A2 A3 A4) (hY : StAt W y B1 B2 B3 B4) (hT : Tabs W) (h1 : stB x = true) (h2 : stB y = true) => impl_mayFresh x y A1 A2 A3 A4 B1 B2 B3 B4 c1 c2 c3 c4 d1 d2 d3 d4 W hX hY hT h1 h2 (stB_parts h1).2.2 (stB_parts h2).2.2)
  clear hx hy ht
  have HF := Lib.hid (show wmayB x y 7 = (stB x && stB y && mayB x y 7) from rfl)
  generalize stB x = o1 at HSX HM HF
  generalize stB y = o2 at HSY HM HF
  generalize wmayB x y 7 = o at HF
  generalize mayB x y 7 = o3 at HM HF
  unfold stV at HSX HSY HM ⊢
  go_enter Tryd.func15, Tryd.ntmps15
  go_wp2_with fail
  refine (impl_stepAt_7 _).mono ?_
  rintro e w1 ⟨rfl, hk1⟩
  have hbx := HBX.out.keeps hk1 fun h => h
  have hby := HBY.out.keeps hk1 fun h => h
  have x0 := hbx.cell 0
  have y0 := hby.cell 0
  have x1 := hbx.cell 1
  have y1 := hby.cell 1
  have x2 := hbx.cell 2
  have y2 := hby.cell 2
  have x3 := hbx.cell 3
  have y3 := hby.cell 3
  have x4 := hbx.cell 4
  have y4 := hby.cell 4
  have x5 := hbx.cell 5
  have y5 := hby.cell 5
  have x6 := hbx.cell 6
  have y6 := hby.cell 6
  simp at x0 y0 x1 y1 x2 y2 x3 y3 x4 y4 x5 y5 x6 y6
  have zx := hbx.lt
  have zy := hby.lt
  clear HBX HBY
  have HBX := Lib.hid (hbx.alloc (.cells #[.func (.func 90) #[] #[], .func (.func 91) #[] #[]] 65))
  have HBY := Lib.hid (hby.alloc (.cells #[.func (.func 90) #[] #[], .func (.func 91) #[] #[]] 65))
  have HBR := Lib.hid (Box.new w1 _ rfl 65 #[.func (.func 90) #[] #[], .func (.func 91) #[] #[]])
  have HK1 := Lib.hid ((HK.out.trans hk1).alloc (.cells #[.func (.func 90) #[] #[], .func (.func 91) #[] #[]] 65))
  have HX1 := Lib.hid ((HX.out.kept hk1).alloc (.cells #[.func (.func 90) #[] #[], .func (.func 91) #[] #[]] 65))
  have HY1 := Lib.hid ((HY.out.kept hk1).alloc (.cells #[.func (.func 90) #[] #[], .func (.func 91) #[] #[]] 65))
  have HT1 := Lib.hid ((HT.out.keeps hk1).keeps ((Keeps.refl _ _).alloc (.cells #[.func (.func 90) #[] #[], .func (.func 91) #[] #[]] 65)))
  clear hbx hby hk1
  go_wp2_with fail
  refine (HSX.out _ HX1.out HT1.out).mono ?_
  rintro e w2 ⟨rfl, hk2⟩
  clear x0 y0 x1 y1 x2 y2 x3 y3 x4 y4 x5 y5 x6 y6 zx zy
  have hbx := HBX.out.keeps hk2 fun h => h
  have hby := HBY.out.keeps hk2 fun h => h
  have hbr := HBR.out.keeps hk2 fun h => h
  have x0 := hbx.cell 0
  have y0 := hby.cell 0
  have x1 := hbx.cell 1
  have y1 := hby.cell 1
  have x2 := hbx.cell 2
  have y2 := hby.cell 2
  have x3 := hbx.cell 3
  have y3 := hby.cell 3
  have x4 := hbx.cell 4
  have y4 := hby.cell 4
  have x5 := hbx.cell 5
  have y5 := hby.cell 5
  have x6 := hbx.cell 6
  have y6 := hby.cell 6
  simp at x0 y0 x1 y1 x2 y2 x3 y3 x4 y4 x5 y5 x6 y6
  have zx := hbx.lt
  have zy := hby.lt
  have r0 := hbr.cell 0
  have r1 := hbr.cell 1
  simp at r0 r1
  have zr := hbr.lt
  clear HBX HBY HBR
  have HBX := Lib.hid hbx
  have HBY := Lib.hid hby
  have HBR := Lib.hid hbr
  have HK2 := Lib.hid (HK1.out.trans hk2)
  have HX2 := Lib.hid (HX1.out.kept hk2)
  have HY2 := Lib.hid (HY1.out.kept hk2)
  have HT2 := Lib.hid (HT1.out.keeps hk2)
  clear hbx hby hbr hk2
  cases o1 with
  | false =>
    have HE := Lib.hid (show o = false by rw [HF.out]; rfl)
    go_wp2
    go_ret
    exact ⟨by simp [HE.out], HK2.out⟩
  | true =>
    go_wp2_with fail
    refine (HSY.out _ HY2.out HT2.out).mono ?_
    rintro e w3 ⟨rfl, hk3⟩
    clear x0 y0 x1 y1 x2 y2 x3 y3 x4 y4 x5 y5 x6 y6 zx zy r0 r1 zr
    have hbx := HBX.out.keeps hk3 fun h => h
    have hby := HBY.out.keeps hk3 fun h => h
    have hbr := HBR.out.keeps hk3 fun h => h
    have x0 := hbx.cell 0
    have y0 := hby.cell 0
    have x1 := hbx.cell 1
    have y1 := hby.cell 1
    have x2 := hbx.cell 2
    have y2 := hby.cell 2
    have x3 := hbx.cell 3
    have y3 := hby.cell 3
    have x4 := hbx.cell 4
    have y4 := hby.cell 4
    have x5 := hbx.cell 5
    have y5 := hby.cell 5
    have x6 := hbx.cell 6
    have y6 := hby.cell 6
    simp at x0 y0 x1 y1 x2 y2 x3 y3 x4 y4 x5 y5 x6 y6
    have zx := hbx.lt
    have zy := hby.lt
    have r0 := hbr.cell 0
    have r1 := hbr.cell 1
    simp at r0 r1
    have zr := hbr.lt
    have HK3 := Lib.hid (HK2.out.trans hk3)
    have HX3 := Lib.hid (HX2.out.kept hk3)
    have HY3 := Lib.hid (HY2.out.kept hk3)
    have HT3 := Lib.hid (HT2.out.keeps hk3)
    clear hbx hby hbr hk3
    cases o2 with
    | false =>
      have HE := Lib.hid (show o = false by rw [HF.out]; rfl)
      go_wp2
      go_ret
      exact ⟨by simp [HE.out], HK3.out⟩
    | true =>
      have HE := Lib.hid (show o = o3 by rw [HF.out]; rfl)
      have HM3 := Lib.hid (HM.out _ HX3.out HY3.out HT3.out (by first | rfl | trivial) (by first | rfl | trivial))
      go_wp2_with fail
      refine HM3.out.mono ?_
      rintro e w4 ⟨rfl, hk4⟩
      have HK4 := Lib.hid (HK3.out.trans hk4)
      clear hk4
      go_wp2
      go_ret
      exact ⟨by simp [HE.out], HK4.out⟩
set_option maxRecDepth 100000 in
set_option maxHeartbeats 2000000 in
theorem implMay_no (x y : StL) (A1 A2 A3 A4 B1 B2 B3 B4 : Option Addr) (c1 c2 c3 c4 d1 d2 d3 d4 : Nat) (k : Int) (hn : k < 1 ∨ 7 < k) (w : World) (hx : StAt w x A1 A2 A3 A4) (hy : StAt w y B1 B2 B3 B4) (ht : Tabs w) :
    Calls Tryd.prog 15 #[stV x A1 A2 A3 A4 c1 c2 c3 c4, stV y B1 B2 B3 B4 d1 d2 d3 d4, .int .i64 k] w fun e w' => e = .returned (.bool (wmayB x y k)) ∧ Keeps noBlk w w' := by
  have HK := Lib.hid (((Keeps.refl noBlk w).alloc (.cells #[.int .i64 x.way, .int .i64 x.ver, .int .i64 x.want, .slice A1 x.sent.length c1, .slice A2 x.live.length c2, .slice A3 x.back.length c3, .slice A4 x.got.length c4] 31)).alloc (.cells #[.int .i64 y.way, .int .i64 y.ver, .int .i64 y.want, .slice B1 y.sent.length d1, .slice B2 y.live.length d2, .slice B3 y.back.length d3, .slice B4 y.got.length d4] 31))
  have HF := Lib.hid (show wmayB x y k = false by
    have : mayB x y k = false := by unfold mayB; rw [if_neg (by omega), if_neg (by omega), if_neg (by omega), if_neg (by omega), if_neg (by omega), if_neg (by omega), if_neg (by omega)]
    simp [wmayB, this])
  clear hx hy ht
  have HN := Lib.hid hn
  clear hn
  unfold stV
  go_enter Tryd.func15, Tryd.ntmps15
  go_wp2_with fail
  refine (impl_stepAt_no k HN.out _).mono ?_
  rintro e w1 ⟨rfl, hk1⟩
  have HK1 := Lib.hid ((HK.out.trans hk1).alloc (.cells #[.nilFunc, .nilFunc] 65))
  clear hk1
  go_wp2
  go_ret
  exact ⟨by simp [HF.out], HK1.out⟩
theorem implMay_any (x y : StL) (A1 A2 A3 A4 B1 B2 B3 B4 : Option Addr) (c1 c2 c3 c4 d1 d2 d3 d4 : Nat) (k : Int) (w : World) (hx : StAt w x A1 A2 A3 A4) (hy : StAt w y B1 B2 B3 B4) (ht : Tabs w) :
    Calls Tryd.prog 15 #[stV x A1 A2 A3 A4 c1 c2 c3 c4, stV y B1 B2 B3 B4 d1 d2 d3 d4, .int .i64 k] w fun e w' => e = .returned (.bool (wmayB x y k)) ∧ Keeps noBlk w w' := by
  by_cases hn : k < 1 ∨ 7 < k
  · exact implMay_no x y A1 A2 A3 A4 B1 B2 B3 B4 c1 c2 c3 c4 d1 d2 d3 d4 k hn w hx hy ht
  · have h7 : k = 1 ∨ k = 2 ∨ k = 3 ∨ k = 4 ∨ k = 5 ∨ k = 6 ∨ k = 7 := by omega
    rcases h7 with rfl | rfl | rfl | rfl | rfl | rfl | rfl
    · exact implMay_1 x y A1 A2 A3 A4 B1 B2 B3 B4 c1 c2 c3 c4 d1 d2 d3 d4 w hx hy ht
    · exact implMay_2 x y A1 A2 A3 A4 B1 B2 B3 B4 c1 c2 c3 c4 d1 d2 d3 d4 w hx hy ht
    · exact implMay_3 x y A1 A2 A3 A4 B1 B2 B3 B4 c1 c2 c3 c4 d1 d2 d3 d4 w hx hy ht
    · exact implMay_4 x y A1 A2 A3 A4 B1 B2 B3 B4 c1 c2 c3 c4 d1 d2 d3 d4 w hx hy ht
    · exact implMay_5 x y A1 A2 A3 A4 B1 B2 B3 B4 c1 c2 c3 c4 d1 d2 d3 d4 w hx hy ht
    · exact implMay_6 x y A1 A2 A3 A4 B1 B2 B3 B4 c1 c2 c3 c4 d1 d2 d3 d4 w hx hy ht
    · exact implMay_7 x y A1 A2 A3 A4 B1 B2 B3 B4 c1 c2 c3 c4 d1 d2 d3 d4 w hx hy ht
end Go.Proofs.YtifocngajndnnaaDoor
