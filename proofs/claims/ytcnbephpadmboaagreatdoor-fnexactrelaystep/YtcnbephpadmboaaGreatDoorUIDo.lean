/- WayDo of the program and of the model. The two tables read as the program's text lays them. WayDo of the program and of the model. The two tables read as the program's text lays them. WayDo of the program and of the model. The two tables read as the program's text lays them. WayDo of the program and of the model, both ways out under one form. -/
import Derived.Test.YtcnbephpadmboaaGreatDoorUIDoA
import Derived.Deep.RegionHeld3
set_option linter.unusedVariables false
set_option linter.unusedSimpArgs false
/-! IDoC -/
namespace Go.Proofs.YtcnbephpadmboaaGreatDoor
open Go.RowKit

set_option maxRecDepth 100000 in
set_option maxHeartbeats 2000000 in
theorem implDo_no (x y : StL) (A1 A2 A3 A4 B1 B2 B3 B4 : Option Addr) (c1 c2 c3 c4 d1 d2 d3 d4 : Nat) (k : Int) (w : World) (hx : StAt w x A1 A2 A3 A4) (hy : StAt w y B1 B2 B3 B4) (ht : Tabs w) (hm : wmayB x y k = false) :
    Calls Tryz.prog 69 #[stV x A1 A2 A3 A4 c1 c2 c3 c4, stV y B1 B2 B3 B4 d1 d2 d3 d4, .int .i64 k] w (RetNoD w) := by
  have HM := Lib.hid (fun W h h' hT => (show Calls Tryz.prog 95 #[stV x A1 A2 A3 A4 c1 c2 c3 c4, stV y B1 B2 B3 B4 d1 d2 d3 d4, .int .i64 k] W (fun e w' => e = .returned (.bool false) ∧ Keeps noBlk W w') from by rw [← hm]; exact implMay_any x y A1 A2 A3 A4 B1 B2 B3 B4 c1 c2 c3 c4 d1 d2 d3 d4 k W h h' hT))
  have HX := Lib.hid hx
  have HY := Lib.hid hy
  have HT := Lib.hid ht
  have HBx := Lib.hid (((Box.new w _ rfl 39 #[.int .i64 x.way, .int .i64 x.ver, .int .i64 x.want, .slice A1 x.sent.length c1, .slice A2 x.live.length c2, .slice A3 x.back.length c3, .slice A4 x.got.length c4]).alloc (.cells #[.int .i64 y.way, .int .i64 y.ver, .int .i64 y.want, .slice B1 y.sent.length d1, .slice B2 y.live.length d2, .slice B3 y.back.length d3, .slice B4 y.got.length d4] 39)).alloc (.cells #[.int .i64 0, .int .i64 0, .int .i64 0, .slice none 0 0, .slice none 0 0, .slice none 0 0, .slice none 0 0] 39))
  have HBy := Lib.hid ((Box.new (w.alloc (.cells #[.int .i64 x.way, .int .i64 x.ver, .int .i64 x.want, .slice A1 x.sent.length c1, .slice A2 x.live.length c2, .slice A3 x.back.length c3, .slice A4 x.got.length c4] 39)) (w.heap.size + 1) (by simp) 39 #[.int .i64 y.way, .int .i64 y.ver, .int .i64 y.want, .slice B1 y.sent.length d1, .slice B2 y.live.length d2, .slice B3 y.back.length d3, .slice B4 y.got.length d4]).alloc (.cells #[.int .i64 0, .int .i64 0, .int .i64 0, .slice none 0 0, .slice none 0 0, .slice none 0 0, .slice none 0 0] 39))
  have HBz := Lib.hid (Box.new ((w.alloc (.cells #[.int .i64 x.way, .int .i64 x.ver, .int .i64 x.want, .slice A1 x.sent.length c1, .slice A2 x.live.length c2, .slice A3 x.back.length c3, .slice A4 x.got.length c4] 39)).alloc (.cells #[.int .i64 y.way, .int .i64 y.ver, .int .i64 y.want, .slice B1 y.sent.length d1, .slice B2 y.live.length d2, .slice B3 y.back.length d3, .slice B4 y.got.length d4] 39)) (w.heap.size + 1 + 1) (by simp) 39 #[.int .i64 0, .int .i64 0, .int .i64 0, .slice none 0 0, .slice none 0 0, .slice none 0 0, .slice none 0 0])
  have HK := Lib.hid ((((Keeps.refl noBlk w).alloc (.cells #[.int .i64 x.way, .int .i64 x.ver, .int .i64 x.want, .slice A1 x.sent.length c1, .slice A2 x.live.length c2, .slice A3 x.back.length c3, .slice A4 x.got.length c4] 39)).alloc (.cells #[.int .i64 y.way, .int .i64 y.ver, .int .i64 y.want, .slice B1 y.sent.length d1, .slice B2 y.live.length d2, .slice B3 y.back.length d3, .slice B4 y.got.length d4] 39)).alloc (.cells #[.int .i64 0, .int .i64 0, .int .i64 0, .slice none 0 0, .slice none 0 0, .slice none 0 0, .slice none 0 0] 39))
  clear hx hy ht hm
  unfold stV at HM ⊢
  by_cases hn : k < 1 ∨ 7 < k
  · have HN := Lib.hid hn
    clear hn
    go_enter Tryz.func69, Tryz.ntmps69
    go_wp2_with fail
    refine (impl_stepAt_no k HN.out _).mono ?_
    rintro e w1 ⟨rfl, hk1⟩
    have hx := HBx.out.keeps hk1 (fun h => h)
    clear HBx
    have HBx := Lib.hid hx
    clear hx
    have hy := HBy.out.keeps hk1 (fun h => h)
    clear HBy
    have HBy := Lib.hid hy
    clear hy
    have hz := HBz.out.keeps hk1 (fun h => h)
    clear HBz
    have HBz := Lib.hid hz
    clear hz
    have hr := HK.out.trans hk1
    clear HK
    have HK := Lib.hid hr
    clear hr
    have sz1 := hk1.size
    (try simp at sz1)
    clear hk1
    have hb := HBz.out
    have z0 := hb.cell 0
    have z1 := hb.cell 1
    have z2 := hb.cell 2
    have z3 := hb.cell 3
    have z4 := hb.cell 4
    have z5 := hb.cell 5
    have z6 := hb.cell 6
    simp at z0 z1 z2 z3 z4 z5 z6
    have zz := hb.lt
    clear hb
    have hb := HBz.out
    have zf0 := hb.frozen 0
    have zf1 := hb.frozen 1
    have zf2 := hb.frozen 2
    have zf3 := hb.frozen 3
    have zf4 := hb.frozen 4
    have zf5 := hb.frozen 5
    have zf6 := hb.frozen 6
    clear hb
    go_wp2
    refine bodyPost_ret (v := .tuple #[.agg #[.int .i64 0, .int .i64 0, .int .i64 0, .slice none 0 0, .slice none 0 0, .slice none 0 0, .slice none 0 0], .bool false]) (by simp [results, Tryz.results69, go_sem, *]) rfl ⟨rfl, ?_⟩
    exact ((((((((HK.out).new (g := w.heap.size + 1 + 1) (by omega) _ _).new (g := w.heap.size + 1 + 1) (by omega) _ _).new (g := w.heap.size + 1 + 1) (by omega) _ _).new (g := w.heap.size + 1 + 1) (by omega) _ _).new (g := w.heap.size + 1 + 1) (by omega) _ _).new (g := w.heap.size + 1 + 1) (by omega) _ _).new (g := w.heap.size + 1 + 1) (by omega) _ _).alloc _
  · have h7 : k = 1 ∨ k = 2 ∨ k = 3 ∨ k = 4 ∨ k = 5 ∨ k = 6 ∨ k = 7 := by omega
    clear hn
    rcases h7 with rfl | rfl | rfl | rfl | rfl | rfl | rfl
    · go_enter Tryz.func69, Tryz.ntmps69
      go_wp2_with fail
      refine (impl_stepAt_1 _).mono ?_
      rintro e w1 ⟨rfl, hk1⟩
      have hx := HBx.out.keeps hk1 (fun h => h)
      clear HBx
      have HBx := Lib.hid hx
      clear hx
      have hy := HBy.out.keeps hk1 (fun h => h)
      clear HBy
      have HBy := Lib.hid hy
      clear hy
      have hz := HBz.out.keeps hk1 (fun h => h)
      clear HBz
      have HBz := Lib.hid hz
      clear hz
      have hr := HK.out.trans hk1
      clear HK
      have HK := Lib.hid hr
      clear hr
      have sz1 := hk1.size
      (try simp at sz1)
      clear hk1
      have hb := HBx.out
      have x0 := hb.cell 0
      have x1 := hb.cell 1
      have x2 := hb.cell 2
      have x3 := hb.cell 3
      have x4 := hb.cell 4
      have x5 := hb.cell 5
      have x6 := hb.cell 6
      simp at x0 x1 x2 x3 x4 x5 x6
      have zx := hb.lt
      clear hb
      have hb := HBy.out
      have y0 := hb.cell 0
      have y1 := hb.cell 1
      have y2 := hb.cell 2
      have y3 := hb.cell 3
      have y4 := hb.cell 4
      have y5 := hb.cell 5
      have y6 := hb.cell 6
      simp at y0 y1 y2 y3 y4 y5 y6
      have zy := hb.lt
      clear hb
      have hx := HBx.out.alloc (.cells #[.func (.func 112) #[] #[], .func (.func 113) #[] #[]] 124)
      clear HBx
      have HBx := Lib.hid hx
      clear hx
      have hy := HBy.out.alloc (.cells #[.func (.func 112) #[] #[], .func (.func 113) #[] #[]] 124)
      clear HBy
      have HBy := Lib.hid hy
      clear hy
      have hz := HBz.out.alloc (.cells #[.func (.func 112) #[] #[], .func (.func 113) #[] #[]] 124)
      clear HBz
      have HBz := Lib.hid hz
      clear hz
      have hr := HK.out.alloc (.cells #[.func (.func 112) #[] #[], .func (.func 113) #[] #[]] 124)
      clear HK
      have HK := Lib.hid hr
      clear hr
      have HBr := Lib.hid (Box.new w1 _ rfl 124 #[.func (.func 112) #[] #[], .func (.func 113) #[] #[]])
      go_wp2_with fail
      refine (HM.out _ (HX.out.kept HK.out) (HY.out.kept HK.out) (HT.out.keeps HK.out)).mono ?_
      rintro e w2 ⟨rfl, hk2⟩
      clear x0 x1 x2 x3 x4 x5 x6 y0 y1 y2 y3 y4 y5 y6 zx zy
      have hx := HBx.out.keeps hk2 (fun h => h)
      clear HBx
      have HBx := Lib.hid hx
      clear hx
      have hy := HBy.out.keeps hk2 (fun h => h)
      clear HBy
      have HBy := Lib.hid hy
      clear hy
      have hz := HBz.out.keeps hk2 (fun h => h)
      clear HBz
      have HBz := Lib.hid hz
      clear hz
      have hr := HBr.out.keeps hk2 (fun h => h)
      clear HBr
      have HBr := Lib.hid hr
      clear hr
      have hr := HK.out.trans hk2
      clear HK
      have HK := Lib.hid hr
      clear hr
      have sz2 := hk2.size
      (try simp at sz2)
      clear hk2
      have hb := HBz.out
      have z0 := hb.cell 0
      have z1 := hb.cell 1
      have z2 := hb.cell 2
      have z3 := hb.cell 3
      have z4 := hb.cell 4
      have z5 := hb.cell 5
      have z6 := hb.cell 6
      simp at z0 z1 z2 z3 z4 z5 z6
      have zz := hb.lt
      clear hb
      have hb := HBz.out
      have zf0 := hb.frozen 0
      have zf1 := hb.frozen 1
      have zf2 := hb.frozen 2
      have zf3 := hb.frozen 3
      have zf4 := hb.frozen 4
      have zf5 := hb.frozen 5
      have zf6 := hb.frozen 6
      clear hb
      go_wp2
      refine bodyPost_ret (v := .tuple #[.agg #[.int .i64 0, .int .i64 0, .int .i64 0, .slice none 0 0, .slice none 0 0, .slice none 0 0, .slice none 0 0], .bool false]) (by simp [results, Tryz.results69, go_sem, *]) rfl ⟨rfl, ?_⟩
      exact (((((((HK.out).new (g := w.heap.size + 1 + 1) (by omega) _ _).new (g := w.heap.size + 1 + 1) (by omega) _ _).new (g := w.heap.size + 1 + 1) (by omega) _ _).new (g := w.heap.size + 1 + 1) (by omega) _ _).new (g := w.heap.size + 1 + 1) (by omega) _ _).new (g := w.heap.size + 1 + 1) (by omega) _ _).new (g := w.heap.size + 1 + 1) (by omega) _ _
    · go_enter Tryz.func69, Tryz.ntmps69
      go_wp2_with fail
      refine (impl_stepAt_2 _).mono ?_
      rintro e w1 ⟨rfl, hk1⟩
      have hx := HBx.out.keeps hk1 (fun h => h)
      clear HBx
      have HBx := Lib.hid hx
      clear hx
      have hy := HBy.out.keeps hk1 (fun h => h)
      clear HBy
      have HBy := Lib.hid hy
      clear hy
      have hz := HBz.out.keeps hk1 (fun h => h)
      clear HBz
      have HBz := Lib.hid hz
      clear hz
      have hr := HK.out.trans hk1
      clear HK
      have HK := Lib.hid hr
      clear hr
      have sz1 := hk1.size
      (try simp at sz1)
      clear hk1
      have hb := HBx.out
      have x0 := hb.cell 0
      have x1 := hb.cell 1
      have x2 := hb.cell 2
      have x3 := hb.cell 3
      have x4 := hb.cell 4
      have x5 := hb.cell 5
      have x6 := hb.cell 6
      simp at x0 x1 x2 x3 x4 x5 x6
      have zx := hb.lt
      clear hb
      have hb := HBy.out
      have y0 := hb.cell 0
      have y1 := hb.cell 1
      have y2 := hb.cell 2
      have y3 := hb.cell 3
      have y4 := hb.cell 4
      have y5 := hb.cell 5
      have y6 := hb.cell 6
      simp at y0 y1 y2 y3 y4 y5 y6
      have zy := hb.lt
      clear hb
      have hx := HBx.out.alloc (.cells #[.func (.func 114) #[] #[], .func (.func 115) #[] #[]] 124)
      clear HBx
      have HBx := Lib.hid hx
      clear hx
      have hy := HBy.out.alloc (.cells #[.func (.func 114) #[] #[], .func (.func 115) #[] #[]] 124)
      clear HBy
      have HBy := Lib.hid hy
      clear hy
      have hz := HBz.out.alloc (.cells #[.func (.func 114) #[] #[], .func (.func 115) #[] #[]] 124)
      clear HBz
      have HBz := Lib.hid hz
      clear hz
      have hr := HK.out.alloc (.cells #[.func (.func 114) #[] #[], .func (.func 115) #[] #[]] 124)
      clear HK
      have HK := Lib.hid hr
      clear hr
      have HBr := Lib.hid (Box.new w1 _ rfl 124 #[.func (.func 114) #[] #[], .func (.func 115) #[] #[]])
      go_wp2_with fail
      refine (HM.out _ (HX.out.kept HK.out) (HY.out.kept HK.out) (HT.out.keeps HK.out)).mono ?_
      rintro e w2 ⟨rfl, hk2⟩
      clear x0 x1 x2 x3 x4 x5 x6 y0 y1 y2 y3 y4 y5 y6 zx zy
      have hx := HBx.out.keeps hk2 (fun h => h)
      clear HBx
      have HBx := Lib.hid hx
      clear hx
      have hy := HBy.out.keeps hk2 (fun h => h)
      clear HBy
      have HBy := Lib.hid hy
      clear hy
      have hz := HBz.out.keeps hk2 (fun h => h)
      clear HBz
      have HBz := Lib.hid hz
      clear hz
      have hr := HBr.out.keeps hk2 (fun h => h)
      clear HBr
      have HBr := Lib.hid hr
      clear hr
      have hr := HK.out.trans hk2
      clear HK
      have HK := Lib.hid hr
      clear hr
      have sz2 := hk2.size
      (try simp at sz2)
      clear hk2
      have hb := HBz.out
      have z0 := hb.cell 0
      have z1 := hb.cell 1
      have z2 := hb.cell 2
      have z3 := hb.cell 3
      have z4 := hb.cell 4
      have z5 := hb.cell 5
      have z6 := hb.cell 6
      simp at z0 z1 z2 z3 z4 z5 z6
      have zz := hb.lt
      clear hb
      have hb := HBz.out
      have zf0 := hb.frozen 0
      have zf1 := hb.frozen 1
      have zf2 := hb.frozen 2
      have zf3 := hb.frozen 3
      have zf4 := hb.frozen 4
      have zf5 := hb.frozen 5
      have zf6 := hb.frozen 6
      clear hb
      go_wp2
      refine bodyPost_ret (v := .tuple #[.agg #[.int .i64 0, .int .i64 0, .int .i64 0, .slice none 0 0, .slice none 0 0, .slice none 0 0, .slice none 0 0], .bool false]) (by simp [results, Tryz.results69, go_sem, *]) rfl ⟨rfl, ?_⟩
      exact (((((((HK.out).new (g := w.heap.size + 1 + 1) (by omega) _ _).new (g := w.heap.size + 1 + 1) (by omega) _ _).new (g := w.heap.size + 1 + 1) (by omega) _ _).new (g := w.heap.size + 1 + 1) (by omega) _ _).new (g := w.heap.size + 1 + 1) (by omega) _ _).new (g := w.heap.size + 1 + 1) (by omega) _ _).new (g := w.heap.size + 1 + 1) (by omega) _ _
    · go_enter Tryz.func69, Tryz.ntmps69
      go_wp2_with fail
      refine (impl_stepAt_3 _).mono ?_
      rintro e w1 ⟨rfl, hk1⟩
      have hx := HBx.out.keeps hk1 (fun h => h)
      clear HBx
      have HBx := Lib.hid hx
      clear hx
      have hy := HBy.out.keeps hk1 (fun h => h)
      clear HBy
      have HBy := Lib.hid hy
      clear hy
      have hz := HBz.out.keeps hk1 (fun h => h)
      clear HBz
      have HBz := Lib.hid hz
      clear hz
      have hr := HK.out.trans hk1
      clear HK
      have HK := Lib.hid hr
      clear hr
      have sz1 := hk1.size
      (try simp at sz1)
      clear hk1
      have hb := HBx.out
      have x0 := hb.cell 0
      have x1 := hb.cell 1
      have x2 := hb.cell 2
      have x3 := hb.cell 3
      have x4 := hb.cell 4
      have x5 := hb.cell 5
      have x6 := hb.cell 6
      simp at x0 x1 x2 x3 x4 x5 x6
      have zx := hb.lt
      clear hb
      have hb := HBy.out
      have y0 := hb.cell 0
      have y1 := hb.cell 1
      have y2 := hb.cell 2
      have y3 := hb.cell 3
      have y4 := hb.cell 4
      have y5 := hb.cell 5
      have y6 := hb.cell 6
      simp at y0 y1 y2 y3 y4 y5 y6
      have zy := hb.lt
      clear hb
      have hx := HBx.out.alloc (.cells #[.func (.func 116) #[] #[], .func (.func 117) #[] #[]] 124)
      clear HBx
      have HBx := Lib.hid hx
      clear hx
      have hy := HBy.out.alloc (.cells #[.func (.func 116) #[] #[], .func (.func 117) #[] #[]] 124)
      clear HBy
      have HBy := Lib.hid hy
      clear hy
      have hz := HBz.out.alloc (.cells #[.func (.func 116) #[] #[], .func (.func 117) #[] #[]] 124)
      clear HBz
      have HBz := Lib.hid hz
      clear hz
      have hr := HK.out.alloc (.cells #[.func (.func 116) #[] #[], .func (.func 117) #[] #[]] 124)
      clear HK
      have HK := Lib.hid hr
      clear hr
      have HBr := Lib.hid (Box.new w1 _ rfl 124 #[.func (.func 116) #[] #[], .func (.func 117) #[] #[]])
      go_wp2_with fail
      refine (HM.out _ (HX.out.kept HK.out) (HY.out.kept HK.out) (HT.out.keeps HK.out)).mono ?_
      rintro e w2 ⟨rfl, hk2⟩
      clear x0 x1 x2 x3 x4 x5 x6 y0 y1 y2 y3 y4 y5 y6 zx zy
      have hx := HBx.out.keeps hk2 (fun h => h)
      clear HBx
      have HBx := Lib.hid hx
      clear hx
      have hy := HBy.out.keeps hk2 (fun h => h)
      clear HBy
      have HBy := Lib.hid hy
      clear hy
      have hz := HBz.out.keeps hk2 (fun h => h)
      clear HBz
      have HBz := Lib.hid hz
      clear hz
      have hr := HBr.out.keeps hk2 (fun h => h)
      clear HBr
      have HBr := Lib.hid hr
      clear hr
      have hr := HK.out.trans hk2
      clear HK
      have HK := Lib.hid hr
      clear hr
      have sz2 := hk2.size
      (try simp at sz2)
      clear hk2
      have hb := HBz.out
      have z0 := hb.cell 0
      have z1 := hb.cell 1
      have z2 := hb.cell 2
      have z3 := hb.cell 3
      have z4 := hb.cell 4
      have z5 := hb.cell 5
      have z6 := hb.cell 6
      simp at z0 z1 z2 z3 z4 z5 z6
      have zz := hb.lt
      clear hb
      have hb := HBz.out
      have zf0 := hb.frozen 0
      have zf1 := hb.frozen 1
      have zf2 := hb.frozen 2
      have zf3 := hb.frozen 3
      have zf4 := hb.frozen 4
      have zf5 := hb.frozen 5
      have zf6 := hb.frozen 6
      clear hb
      go_wp2
      refine bodyPost_ret (v := .tuple #[.agg #[.int .i64 0, .int .i64 0, .int .i64 0, .slice none 0 0, .slice none 0 0, .slice none 0 0, .slice none 0 0], .bool false]) (by simp [results, Tryz.results69, go_sem, *]) rfl ⟨rfl, ?_⟩
      exact (((((((HK.out).new (g := w.heap.size + 1 + 1) (by omega) _ _).new (g := w.heap.size + 1 + 1) (by omega) _ _).new (g := w.heap.size + 1 + 1) (by omega) _ _).new (g := w.heap.size + 1 + 1) (by omega) _ _).new (g := w.heap.size + 1 + 1) (by omega) _ _).new (g := w.heap.size + 1 + 1) (by omega) _ _).new (g := w.heap.size + 1 + 1) (by omega) _ _
    · go_enter Tryz.func69, Tryz.ntmps69
      go_wp2_with fail
      refine (impl_stepAt_4 _).mono ?_
      rintro e w1 ⟨rfl, hk1⟩
      have hx := HBx.out.keeps hk1 (fun h => h)
      clear HBx
      have HBx := Lib.hid hx
      clear hx
      have hy := HBy.out.keeps hk1 (fun h => h)
      clear HBy
      have HBy := Lib.hid hy
      clear hy
      have hz := HBz.out.keeps hk1 (fun h => h)
      clear HBz
      have HBz := Lib.hid hz
      clear hz
      have hr := HK.out.trans hk1
      clear HK
      have HK := Lib.hid hr
      clear hr
      have sz1 := hk1.size
      (try simp at sz1)
      clear hk1
      have hb := HBx.out
      have x0 := hb.cell 0
      have x1 := hb.cell 1
      have x2 := hb.cell 2
      have x3 := hb.cell 3
      have x4 := hb.cell 4
      have x5 := hb.cell 5
      have x6 := hb.cell 6
      simp at x0 x1 x2 x3 x4 x5 x6
      have zx := hb.lt
      clear hb
      have hb := HBy.out
      have y0 := hb.cell 0
      have y1 := hb.cell 1
      have y2 := hb.cell 2
      have y3 := hb.cell 3
      have y4 := hb.cell 4
      have y5 := hb.cell 5
      have y6 := hb.cell 6
      simp at y0 y1 y2 y3 y4 y5 y6
      have zy := hb.lt
      clear hb
      have hx := HBx.out.alloc (.cells #[.func (.func 118) #[] #[], .func (.func 117) #[] #[]] 124)
      clear HBx
      have HBx := Lib.hid hx
      clear hx
      have hy := HBy.out.alloc (.cells #[.func (.func 118) #[] #[], .func (.func 117) #[] #[]] 124)
      clear HBy
      have HBy := Lib.hid hy
      clear hy
      have hz := HBz.out.alloc (.cells #[.func (.func 118) #[] #[], .func (.func 117) #[] #[]] 124)
      clear HBz
      have HBz := Lib.hid hz
      clear hz
      have hr := HK.out.alloc (.cells #[.func (.func 118) #[] #[], .func (.func 117) #[] #[]] 124)
      clear HK
      have HK := Lib.hid hr
      clear hr
      have HBr := Lib.hid (Box.new w1 _ rfl 124 #[.func (.func 118) #[] #[], .func (.func 117) #[] #[]])
      go_wp2_with fail
      refine (HM.out _ (HX.out.kept HK.out) (HY.out.kept HK.out) (HT.out.keeps HK.out)).mono ?_
      rintro e w2 ⟨rfl, hk2⟩
      clear x0 x1 x2 x3 x4 x5 x6 y0 y1 y2 y3 y4 y5 y6 zx zy
      have hx := HBx.out.keeps hk2 (fun h => h)
      clear HBx
      have HBx := Lib.hid hx
      clear hx
      have hy := HBy.out.keeps hk2 (fun h => h)
      clear HBy
      have HBy := Lib.hid hy
      clear hy
      have hz := HBz.out.keeps hk2 (fun h => h)
      clear HBz
      have HBz := Lib.hid hz
      clear hz
      have hr := HBr.out.keeps hk2 (fun h => h)
      clear HBr
      have HBr := Lib.hid hr
      clear hr
      have hr := HK.out.trans hk2
      clear HK
      have HK := Lib.hid hr
      clear hr
      have sz2 := hk2.size
      (try simp at sz2)
      clear hk2
      have hb := HBz.out
      have z0 := hb.cell 0
      have z1 := hb.cell 1
      have z2 := hb.cell 2
      have z3 := hb.cell 3
      have z4 := hb.cell 4
      have z5 := hb.cell 5
      have z6 := hb.cell 6
      simp at z0 z1 z2 z3 z4 z5 z6
      have zz := hb.lt
      clear hb
      have hb := HBz.out
      have zf0 := hb.frozen 0
      have zf1 := hb.frozen 1
      have zf2 := hb.frozen 2
      have zf3 := hb.frozen 3
      have zf4 := hb.frozen 4
      have zf5 := hb.frozen 5
      have zf6 := hb.frozen 6
      clear hb
      go_wp2
      refine bodyPost_ret (v := .tuple #[.agg #[.int .i64 0, .int .i64 0, .int .i64 0, .slice none 0 0, .slice none 0 0, .slice none 0 0, .slice none 0 0], .bool false]) (by simp [results, Tryz.results69, go_sem, *]) rfl ⟨rfl, ?_⟩
      exact (((((((HK.out).new (g := w.heap.size + 1 + 1) (by omega) _ _).new (g := w.heap.size + 1 + 1) (by omega) _ _).new (g := w.heap.size + 1 + 1) (by omega) _ _).new (g := w.heap.size + 1 + 1) (by omega) _ _).new (g := w.heap.size + 1 + 1) (by omega) _ _).new (g := w.heap.size + 1 + 1) (by omega) _ _).new (g := w.heap.size + 1 + 1) (by omega) _ _
    · go_enter Tryz.func69, Tryz.ntmps69
      go_wp2_with fail
      refine (impl_stepAt_5 _).mono ?_
      rintro e w1 ⟨rfl, hk1⟩
      have hx := HBx.out.keeps hk1 (fun h => h)
      clear HBx
      have HBx := Lib.hid hx
      clear hx
      have hy := HBy.out.keeps hk1 (fun h => h)
      clear HBy
      have HBy := Lib.hid hy
      clear hy
      have hz := HBz.out.keeps hk1 (fun h => h)
      clear HBz
      have HBz := Lib.hid hz
      clear hz
      have hr := HK.out.trans hk1
      clear HK
      have HK := Lib.hid hr
      clear hr
      have sz1 := hk1.size
      (try simp at sz1)
      clear hk1
      have hb := HBx.out
      have x0 := hb.cell 0
      have x1 := hb.cell 1
      have x2 := hb.cell 2
      have x3 := hb.cell 3
      have x4 := hb.cell 4
      have x5 := hb.cell 5
      have x6 := hb.cell 6
      simp at x0 x1 x2 x3 x4 x5 x6
      have zx := hb.lt
      clear hb
      have hb := HBy.out
      have y0 := hb.cell 0
      have y1 := hb.cell 1
      have y2 := hb.cell 2
      have y3 := hb.cell 3
      have y4 := hb.cell 4
      have y5 := hb.cell 5
      have y6 := hb.cell 6
      simp at y0 y1 y2 y3 y4 y5 y6
      have zy := hb.lt
      clear hb
      have hx := HBx.out.alloc (.cells #[.func (.func 119) #[] #[], .func (.func 120) #[] #[]] 124)
      clear HBx
      have HBx := Lib.hid hx
      clear hx
      have hy := HBy.out.alloc (.cells #[.func (.func 119) #[] #[], .func (.func 120) #[] #[]] 124)
      clear HBy
      have HBy := Lib.hid hy
      clear hy
      have hz := HBz.out.alloc (.cells #[.func (.func 119) #[] #[], .func (.func 120) #[] #[]] 124)
      clear HBz
      have HBz := Lib.hid hz
      clear hz
      have hr := HK.out.alloc (.cells #[.func (.func 119) #[] #[], .func (.func 120) #[] #[]] 124)
      clear HK
      have HK := Lib.hid hr
      clear hr
      have HBr := Lib.hid (Box.new w1 _ rfl 124 #[.func (.func 119) #[] #[], .func (.func 120) #[] #[]])
      go_wp2_with fail
      refine (HM.out _ (HX.out.kept HK.out) (HY.out.kept HK.out) (HT.out.keeps HK.out)).mono ?_
      rintro e w2 ⟨rfl, hk2⟩
      clear x0 x1 x2 x3 x4 x5 x6 y0 y1 y2 y3 y4 y5 y6 zx zy
      have hx := HBx.out.keeps hk2 (fun h => h)
      clear HBx
      have HBx := Lib.hid hx
      clear hx
      have hy := HBy.out.keeps hk2 (fun h => h)
      clear HBy
      have HBy := Lib.hid hy
      clear hy
      have hz := HBz.out.keeps hk2 (fun h => h)
      clear HBz
      have HBz := Lib.hid hz
      clear hz
      have hr := HBr.out.keeps hk2 (fun h => h)
      clear HBr
      have HBr := Lib.hid hr
      clear hr
      have hr := HK.out.trans hk2
      clear HK
      have HK := Lib.hid hr
      clear hr
      have sz2 := hk2.size
      (try simp at sz2)
      clear hk2
      have hb := HBz.out
      have z0 := hb.cell 0
      have z1 := hb.cell 1
      have z2 := hb.cell 2
      have z3 := hb.cell 3
      have z4 := hb.cell 4
      have z5 := hb.cell 5
      have z6 := hb.cell 6
      simp at z0 z1 z2 z3 z4 z5 z6
      have zz := hb.lt
      clear hb
      have hb := HBz.out
      have zf0 := hb.frozen 0
      have zf1 := hb.frozen 1
      have zf2 := hb.frozen 2
      have zf3 := hb.frozen 3
      have zf4 := hb.frozen 4
      have zf5 := hb.frozen 5
      have zf6 := hb.frozen 6
      clear hb
      go_wp2
      refine bodyPost_ret (v := .tuple #[.agg #[.int .i64 0, .int .i64 0, .int .i64 0, .slice none 0 0, .slice none 0 0, .slice none 0 0, .slice none 0 0], .bool false]) (by simp [results, Tryz.results69, go_sem, *]) rfl ⟨rfl, ?_⟩
      exact (((((((HK.out).new (g := w.heap.size + 1 + 1) (by omega) _ _).new (g := w.heap.size + 1 + 1) (by omega) _ _).new (g := w.heap.size + 1 + 1) (by omega) _ _).new (g := w.heap.size + 1 + 1) (by omega) _ _).new (g := w.heap.size + 1 + 1) (by omega) _ _).new (g := w.heap.size + 1 + 1) (by omega) _ _).new (g := w.heap.size + 1 + 1) (by omega) _ _
    · go_enter Tryz.func69, Tryz.ntmps69
      go_wp2_with fail
      refine (impl_stepAt_6 _).mono ?_
      rintro e w1 ⟨rfl, hk1⟩
      have hx := HBx.out.keeps hk1 (fun h => h)
      clear HBx
      have HBx := Lib.hid hx
      clear hx
      have hy := HBy.out.keeps hk1 (fun h => h)
      clear HBy
      have HBy := Lib.hid hy
      clear hy
      have hz := HBz.out.keeps hk1 (fun h => h)
      clear HBz
      have HBz := Lib.hid hz
      clear hz
      have hr := HK.out.trans hk1
      clear HK
      have HK := Lib.hid hr
      clear hr
      have sz1 := hk1.size
      (try simp at sz1)
      clear hk1
      have hb := HBx.out
      have x0 := hb.cell 0
      have x1 := hb.cell 1
      have x2 := hb.cell 2
      have x3 := hb.cell 3
      have x4 := hb.cell 4
      have x5 := hb.cell 5
      have x6 := hb.cell 6
      simp at x0 x1 x2 x3 x4 x5 x6
      have zx := hb.lt
      clear hb
      have hb := HBy.out
      have y0 := hb.cell 0
      have y1 := hb.cell 1
      have y2 := hb.cell 2
      have y3 := hb.cell 3
      have y4 := hb.cell 4
      have y5 := hb.cell 5
      have y6 := hb.cell 6
      simp at y0 y1 y2 y3 y4 y5 y6
      have zy := hb.lt
      clear hb
      have hx := HBx.out.alloc (.cells #[.func (.func 121) #[] #[], .func (.func 120) #[] #[]] 124)
      clear HBx
      have HBx := Lib.hid hx
      clear hx
      have hy := HBy.out.alloc (.cells #[.func (.func 121) #[] #[], .func (.func 120) #[] #[]] 124)
      clear HBy
      have HBy := Lib.hid hy
      clear hy
      have hz := HBz.out.alloc (.cells #[.func (.func 121) #[] #[], .func (.func 120) #[] #[]] 124)
      clear HBz
      have HBz := Lib.hid hz
      clear hz
      have hr := HK.out.alloc (.cells #[.func (.func 121) #[] #[], .func (.func 120) #[] #[]] 124)
      clear HK
      have HK := Lib.hid hr
      clear hr
      have HBr := Lib.hid (Box.new w1 _ rfl 124 #[.func (.func 121) #[] #[], .func (.func 120) #[] #[]])
      go_wp2_with fail
      refine (HM.out _ (HX.out.kept HK.out) (HY.out.kept HK.out) (HT.out.keeps HK.out)).mono ?_
      rintro e w2 ⟨rfl, hk2⟩
      clear x0 x1 x2 x3 x4 x5 x6 y0 y1 y2 y3 y4 y5 y6 zx zy
      have hx := HBx.out.keeps hk2 (fun h => h)
      clear HBx
      have HBx := Lib.hid hx
      clear hx
      have hy := HBy.out.keeps hk2 (fun h => h)
      clear HBy
      have HBy := Lib.hid hy
      clear hy
      have hz := HBz.out.keeps hk2 (fun h => h)
      clear HBz
      have HBz := Lib.hid hz
      clear hz
      have hr := HBr.out.keeps hk2 (fun h => h)
      clear HBr
      have HBr := Lib.hid hr
      clear hr
      have hr := HK.out.trans hk2
      clear HK
      have HK := Lib.hid hr
      clear hr
      have sz2 := hk2.size
      (try simp at sz2)
      clear hk2
      have hb := HBz.out
      have z0 := hb.cell 0
      have z1 := hb.cell 1
      have z2 := hb.cell 2
      have z3 := hb.cell 3
      have z4 := hb.cell 4
      have z5 := hb.cell 5
      have z6 := hb.cell 6
      simp at z0 z1 z2 z3 z4 z5 z6
      have zz := hb.lt
      clear hb
      have hb := HBz.out
      have zf0 := hb.frozen 0
      have zf1 := hb.frozen 1
      have zf2 := hb.frozen 2
      have zf3 := hb.frozen 3
      have zf4 := hb.frozen 4
      have zf5 := hb.frozen 5
      have zf6 := hb.frozen 6
      clear hb
      go_wp2
      refine bodyPost_ret (v := .tuple #[.agg #[.int .i64 0, .int .i64 0, .int .i64 0, .slice none 0 0, .slice none 0 0, .slice none 0 0, .slice none 0 0], .bool false]) (by simp [results, Tryz.results69, go_sem, *]) rfl ⟨rfl, ?_⟩
      exact (((((((HK.out).new (g := w.heap.size + 1 + 1) (by omega) _ _).new (g := w.heap.size + 1 + 1) (by omega) _ _).new (g := w.heap.size + 1 + 1) (by omega) _ _).new (g := w.heap.size + 1 + 1) (by omega) _ _).new (g := w.heap.size + 1 + 1) (by omega) _ _).new (g := w.heap.size + 1 + 1) (by omega) _ _).new (g := w.heap.size + 1 + 1) (by omega) _ _
    · go_enter Tryz.func69, Tryz.ntmps69
      go_wp2_with fail
      refine (impl_stepAt_7 _).mono ?_
      rintro e w1 ⟨rfl, hk1⟩
      have hx := HBx.out.keeps hk1 (fun h => h)
      clear HBx
      have HBx := Lib.hid hx
      clear hx
      have hy := HBy.out.keeps hk1 (fun h => h)
      clear HBy
      have HBy := Lib.hid hy
      clear hy
      have hz := HBz.out.keeps hk1 (fun h => h)
      clear HBz
      have HBz := Lib.hid hz
      clear hz
      have hr := HK.out.trans hk1
      clear HK
      have HK := Lib.hid hr
      clear hr
      have sz1 := hk1.size
      (try simp at sz1)
      clear hk1
      have hb := HBx.out
      have x0 := hb.cell 0
      have x1 := hb.cell 1
      have x2 := hb.cell 2
      have x3 := hb.cell 3
      have x4 := hb.cell 4
      have x5 := hb.cell 5
      have x6 := hb.cell 6
      simp at x0 x1 x2 x3 x4 x5 x6
      have zx := hb.lt
      clear hb
      have hb := HBy.out
      have y0 := hb.cell 0
      have y1 := hb.cell 1
      have y2 := hb.cell 2
      have y3 := hb.cell 3
      have y4 := hb.cell 4
      have y5 := hb.cell 5
      have y6 := hb.cell 6
      simp at y0 y1 y2 y3 y4 y5 y6
      have zy := hb.lt
      clear hb
      have hx := HBx.out.alloc (.cells #[.func (.func 122) #[] #[], .func (.func 123) #[] #[]] 124)
      clear HBx
      have HBx := Lib.hid hx
      clear hx
      have hy := HBy.out.alloc (.cells #[.func (.func 122) #[] #[], .func (.func 123) #[] #[]] 124)
      clear HBy
      have HBy := Lib.hid hy
      clear hy
      have hz := HBz.out.alloc (.cells #[.func (.func 122) #[] #[], .func (.func 123) #[] #[]] 124)
      clear HBz
      have HBz := Lib.hid hz
      clear hz
      have hr := HK.out.alloc (.cells #[.func (.func 122) #[] #[], .func (.func 123) #[] #[]] 124)
      clear HK
      have HK := Lib.hid hr
      clear hr
      have HBr := Lib.hid (Box.new w1 _ rfl 124 #[.func (.func 122) #[] #[], .func (.func 123) #[] #[]])
      go_wp2_with fail
      refine (HM.out _ (HX.out.kept HK.out) (HY.out.kept HK.out) (HT.out.keeps HK.out)).mono ?_
      rintro e w2 ⟨rfl, hk2⟩
      clear x0 x1 x2 x3 x4 x5 x6 y0 y1 y2 y3 y4 y5 y6 zx zy
      have hx := HBx.out.keeps hk2 (fun h => h)
      clear HBx
      have HBx := Lib.hid hx
      clear hx
      have hy := HBy.out.keeps hk2 (fun h => h)
      clear HBy
      have HBy := Lib.hid hy
      clear hy
      have hz := HBz.out.keeps hk2 (fun h => h)
      clear HBz
      have HBz := Lib.hid hz
      clear hz
      have hr := HBr.out.keeps hk2 (fun h => h)
      clear HBr
      have HBr := Lib.hid hr
      clear hr
      have hr := HK.out.trans hk2
      clear HK
      have HK := Lib.hid hr
      clear hr
      have sz2 := hk2.size
      (try simp at sz2)
      clear hk2
      have hb := HBz.out
      have z0 := hb.cell 0
      have z1 := hb.cell 1
      have z2 := hb.cell 2
      have z3 := hb.cell 3
      have z4 := hb.cell 4
      have z5 := hb.cell 5
      have z6 := hb.cell 6
      simp at z0 z1 z2 z3 z4 z5 z6
      have zz := hb.lt
      clear hb
      have hb := HBz.out
      have zf0 := hb.frozen 0
      have zf1 := hb.frozen 1
      have zf2 := hb.frozen 2
      have zf3 := hb.frozen 3
      have zf4 := hb.frozen 4
      have zf5 := hb.frozen 5
      have zf6 := hb.frozen 6
      clear hb
      go_wp2
      refine bodyPost_ret (v := .tuple #[.agg #[.int .i64 0, .int .i64 0, .int .i64 0, .slice none 0 0, .slice none 0 0, .slice none 0 0, .slice none 0 0], .bool false]) (by simp [results, Tryz.results69, go_sem, *]) rfl ⟨rfl, ?_⟩
      exact (((((((HK.out).new (g := w.heap.size + 1 + 1) (by omega) _ _).new (g := w.heap.size + 1 + 1) (by omega) _ _).new (g := w.heap.size + 1 + 1) (by omega) _ _).new (g := w.heap.size + 1 + 1) (by omega) _ _).new (g := w.heap.size + 1 + 1) (by omega) _ _).new (g := w.heap.size + 1 + 1) (by omega) _ _).new (g := w.heap.size + 1 + 1) (by omega) _ _
end Go.Proofs.YtcnbephpadmboaaGreatDoor

/-! IDoD -/
namespace Go.Proofs.YtcnbephpadmboaaGreatDoor
open Go.RowKit

end Go.Proofs.YtcnbephpadmboaaGreatDoor

/-! IDo -/
namespace Go.Proofs.YtcnbephpadmboaaGreatDoor
open Go.RowKit

theorem implDo_any (x y : StL) (A1 A2 A3 A4 B1 B2 B3 B4 : Option Addr) (c1 c2 c3 c4 d1 d2 d3 d4 : Nat) (k : Int) (w : World) (hx : StAt w x A1 A2 A3 A4) (hy : StAt w y B1 B2 B3 B4) (ht : Tabs w) (hm : wmayB x y k = true) :
    Calls Tryz.prog 69 #[stV x A1 A2 A3 A4 c1 c2 c3 c4, stV y B1 B2 B3 B4 d1 d2 d3 d4, .int .i64 k] w (RetDoO w (doSt x y k)) := by
  have h7 : k = 1 ∨ k = 2 ∨ k = 3 ∨ k = 4 ∨ k = 5 ∨ k = 6 ∨ k = 7 := by
    by_cases hn : k < 1 ∨ 7 < k
    · have : mayB x y k = false := by unfold mayB; rw [if_neg (by omega), if_neg (by omega), if_neg (by omega), if_neg (by omega), if_neg (by omega), if_neg (by omega), if_neg (by omega)]
      simp [wmayB, this] at hm
    · omega
  rcases h7 with rfl | rfl | rfl | rfl | rfl | rfl | rfl
  · exact implDo_1 x y A1 A2 A3 A4 B1 B2 B3 B4 c1 c2 c3 c4 d1 d2 d3 d4 w hx hy ht hm
  · exact implDo_2 x y A1 A2 A3 A4 B1 B2 B3 B4 c1 c2 c3 c4 d1 d2 d3 d4 w hx hy ht hm
  · exact implDo_3 x y A1 A2 A3 A4 B1 B2 B3 B4 c1 c2 c3 c4 d1 d2 d3 d4 w hx hy ht hm
  · exact implDo_4 x y A1 A2 A3 A4 B1 B2 B3 B4 c1 c2 c3 c4 d1 d2 d3 d4 w hx hy ht hm
  · exact implDo_5 x y A1 A2 A3 A4 B1 B2 B3 B4 c1 c2 c3 c4 d1 d2 d3 d4 w hx hy ht hm
  · exact implDo_6 x y A1 A2 A3 A4 B1 B2 B3 B4 c1 c2 c3 c4 d1 d2 d3 d4 w hx hy ht hm
  · exact implDo_7 x y A1 A2 A3 A4 B1 B2 B3 B4 c1 c2 c3 c4 d1 d2 d3 d4 w hx hy ht hm
end Go.Proofs.YtcnbephpadmboaaGreatDoor

/-! IDW -/
namespace Go.Proofs.YtcnbephpadmboaaGreatDoor
open Go.RowKit

def zeroS : StL := ⟨0, 0, 0, [], [], [], []⟩
/-- What WayDo makes of a state. -/
def wdS (x y : StL) (k : Int) : StL := if wmayB x y k = true then doSt x y k else zeroS
def RetDI (w : World) (z : StL) (o : Bool) (e : Ending) (w' : World) : Prop :=
  ∃ A1 A2 A3 A4 c1 c2 c3 c4, e = .returned (.tuple #[stV z A1 A2 A3 A4 c1 c2 c3 c4, .bool o]) ∧ StOwn w' w.heap.size z A1 A2 A3 A4 ∧ StAt w' z A1 A2 A3 A4 ∧ Keeps noBlk w w'
theorem zero_at (w : World) : StAt w zeroS none none none none := ⟨⟨Pks.nil w none, Bools.nil w none, Bools.nil w none, Ints.nil w none⟩, Nat.zero_le _, Nat.zero_le _, Nat.zero_le _, Nat.zero_le _⟩
theorem zero_own (w : World) (lo : Nat) : StOwn w lo zeroS none none none none :=
  ⟨lo, lo, lo, ⟨PRow.nil _ _ _, BRow.nil _ _ _, BRow.nil _ _ _, Row.nil _ _ _⟩, fun _ h => absurd h.1 (by decide), fun _ h => absurd h.1 (by decide), fun _ h => absurd h.1 (by decide), Nat.le_refl _, Nat.le_refl _, Nat.le_refl _⟩
theorem wdS_len (x y : StL) (k : Int) : (wdS x y k).sent.length ≤ 8 ∧ (wdS x y k).live.length ≤ 8 ∧ (wdS x y k).back.length ≤ 8 ∧ (wdS x y k).got.length ≤ 8 := by
  unfold wdS
  split
  · rename_i hm
    have kk := stB_ok (show stB x = true by simp only [wmayB, Bool.and_eq_true] at hm; exact hm.1.1)
    have := kk.2.1.small
    have := kk.2.2.1.1
    have := kk.2.2.1.2.1
    have := kk.2.2.2.1
    obtain ⟨a, b, c, e⟩ := doSt_lists x y k
    rw [e]
    exact ⟨by dsimp only; omega, by dsimp only; omega, by dsimp only; omega, by dsimp only; omega⟩
  · exact ⟨Nat.zero_le _, Nat.zero_le _, Nat.zero_le _, Nat.zero_le _⟩
theorem implDI_any (x y : StL) (A1 A2 A3 A4 B1 B2 B3 B4 : Option Addr) (c1 c2 c3 c4 d1 d2 d3 d4 : Nat) (k : Int) (w : World) (hx : StAt w x A1 A2 A3 A4) (hy : StAt w y B1 B2 B3 B4) (ht : Tabs w) :
    Calls Tryz.prog 69 #[stV x A1 A2 A3 A4 c1 c2 c3 c4, stV y B1 B2 B3 B4 d1 d2 d3 d4, .int .i64 k] w (RetDI w (wdS x y k) (wmayB x y k)) := by
  obtain ⟨l1, l2, l3, l4⟩ := wdS_len x y k
  cases hm : wmayB x y k with
  | true =>
    refine (implDo_any x y A1 A2 A3 A4 B1 B2 B3 B4 c1 c2 c3 c4 d1 d2 d3 d4 k w hx hy ht hm).mono ?_
    rintro e w' ⟨⟨z, P1, P2, P3, P4, e1, e2, e3, e4⟩, rfl, hz, hk, -, ho⟩
    have hw : wdS x y k = z := by unfold wdS; rw [if_pos hm]; exact hz.symm
    rw [hw] at l1 l2 l3 l4 ⊢
    exact ⟨P1, P2, P3, P4, e1, e2, e3, e4, rfl, ho, ho.at_ (by unfold maxLen; dsimp only; omega) (by unfold maxLen; dsimp only; omega) (by unfold maxLen; dsimp only; omega) (by unfold maxLen; dsimp only; omega), hk⟩
  | false =>
    refine (implDo_no x y A1 A2 A3 A4 B1 B2 B3 B4 c1 c2 c3 c4 d1 d2 d3 d4 k w hx hy ht hm).mono ?_
    rintro e w' ⟨rfl, hk⟩
    rw [show wdS x y k = zeroS by unfold wdS; rw [hm]; rfl]
    exact ⟨none, none, none, none, 0, 0, 0, 0, rfl, zero_own _ _, zero_at _, hk⟩
end Go.Proofs.YtcnbephpadmboaaGreatDoor
