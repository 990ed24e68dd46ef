/- WayDo of the program and of the model. The two tables read as the program's text lays them. -/
import Derived.Test.YtifocngajndnnaaDoorIDoH
import Derived.Deep.RegionHeld3
set_option linter.unusedVariables false
set_option linter.unusedSimpArgs false
namespace Go.Proofs.YtifocngajndnnaaDoor
open Go.RowKit

set_option maxRecDepth 100000 in
set_option maxHeartbeats 2000000 in
theorem implDo_no (x y : StL) (A1 A2 A3 A4 B1 B2 B3 B4 : Option Addr) (c1 c2 c3 c4 d1 d2 d3 d4 : Nat) (k : Int) (w : World) (hx : StAt w x A1 A2 A3 A4) (hy : StAt w y B1 B2 B3 B4) (ht : Tabs w) (hm : wmayB x y k = false) :
    Calls Tryd.prog 18 #[stV x A1 A2 A3 A4 c1 c2 c3 c4, stV y B1 B2 B3 B4 d1 d2 d3 d4, .int .i64 k] w (RetNoD w) := by
  have HM := Lib.hid (fun W h h' hT => (show Calls Tryd.prog 15 #[stV x A1 A2 A3 A4 c1 c2 c3 c4, stV y B1 B2 B3 B4 d1 d2 d3 d4, .int .i64 k] W (fun e w' => e = .returned (.bool false) ∧ Keeps noBlk W w') from by rw [← hm]; exact implMay_any x y A1 A2 A3 A4 B1 B2 B3 B4 c1 c2 c3 c4 d1 d2 d3 d4 k W h h' hT))
  have HX := Lib.hid hx
  have HY := Lib.hid hy
  have HT := Lib.hid ht
  have HBx := Lib.hid (((Box.new w _ rfl 31 #[.int .i64 x.way, .int .i64 x.ver, .int .i64 x.want, .slice A1 x.sent.length c1, .slice A2 x.live.length c2, .slice A3 x.back.length c3, .slice A4 x.got.length c4]).alloc (.cells #[.int .i64 y.way, .int .i64 y.ver, .int .i64 y.want, .slice B1 y.sent.length d1, .slice B2 y.live.length d2, .slice B3 y.back.length d3, .slice B4 y.got.length d4] 31)).alloc (.cells #[.int .i64 0, .int .i64 0, .int .i64 0, .slice none 0 0, .slice none 0 0, .slice none 0 0, .slice none 0 0] 31))
  have HBy := Lib.hid ((Box.new (w.alloc (.cells #[.int .i64 x.way, .int .i64 x.ver, .int .i64 x.want, .slice A1 x.sent.length c1, .slice A2 x.live.length c2, .slice A3 x.back.length c3, .slice A4 x.got.length c4] 31)) (w.heap.size + 1) (by simp) 31 #[.int .i64 y.way, .int .i64 y.ver, .int .i64 y.want, .slice B1 y.sent.length d1, .slice B2 y.live.length d2, .slice B3 y.back.length d3, .slice B4 y.got.length d4]).alloc (.cells #[.int .i64 0, .int .i64 0, .int .i64 0, .slice none 0 0, .slice none 0 0, .slice none 0 0, .slice none 0 0] 31))
  have HBz := Lib.hid (Box.new ((w.alloc (.cells #[.int .i64 x.way, .int .i64 x.ver, .int .i64 x.want, .slice A1 x.sent.length c1, .slice A2 x.live.length c2, .slice A3 x.back.length c3, .slice A4 x.got.length c4] 31)).alloc (.cells #[.int .i64 y.way, .int .i64 y.ver, .int .i64 y.want, .slice B1 y.sent.length d1, .slice B2 y.live.length d2, .slice B3 y.back.length d3, .slice B4 y.got.length d4] 31)) (w.heap.size + 1 + 1) (by simp) 31 #[.int .i64 0, .int .i64 0, .int .i64 0, .slice none 0 0, .slice none 0 0, .slice none 0 0, .slice none 0 0])
  have HK := Lib.hid ((((Keeps.refl noBlk w).alloc (.cells #[.int .i64 x.way, .int .i64 x.ver, .int .i64 x.want, .slice A1 x.sent.length c1, .slice A2 x.live.length c2, .slice A3 x.back.length c3, .slice A4 x.got.length c4] 31)).alloc (.cells #[.int .i64 y.way, .int .i64 y.ver, .int .i64 y.want, .slice B1 y.sent.length d1, .slice B2 y.live.length d2, .slice B3 y.back.length d3, .slice B4 y.got.length d4] 31)).alloc (.cells #[.int .i64 0, .int .i64 0, .int .i64 0, .slice none 0 0, .slice none 0 0, .slice none 0 0, .slice none 0 0] 31))
  clear hx hy ht hm
  unfold stV at HM ⊢
  by_cases hn : k < 1 ∨ 7 < k
  · have HN := Lib.hid hn
    clear hn
    go_enter Tryd.func18, Tryd.ntmps18
    go_wp2_with fail
    refine (impl_stepAt_no k HN.out _).mono ?_
    rintro e w1 ⟨rfl, hk1⟩
    have hx := HBx.out.keeps hk1 (fun h => h)
    clear HBx
    have HBx := Lib.hid hx
    clear hx
    have hy := HBy.out.keeps hk1 (fun h => h)
    clear HBy
    have HBy := Lib.hid hy
    clear hy
    have hz := HBz.out.keeps hk1 (fun h => h)
    clear HBz
    have HBz := Lib.hid hz
    clear hz
    have hr := HK.out.trans hk1
    clear HK
    have HK := Lib.hid hr
    clear hr
    have sz1 := hk1.size
    (try simp at sz1)
    clear hk1
    have hb := HBz.out
    have z0 := hb.cell 0
    have z1 := hb.cell 1
    have z2 := hb.cell 2
    have z3 := hb.cell 3
    have z4 := hb.cell 4
    have z5 := hb.cell 5
    have z6 := hb.cell 6
    simp at z0 z1 z2 z3 z4 z5 z6
    have zz := hb.lt
    clear hb
    have hb := HBz.out
    have zf0 := hb.frozen 0
    have zf1 := hb.frozen 1
    have zf2 := hb.frozen 2
    have zf3 := hb.frozen 3
    have zf4 := hb.frozen 4
    have zf5 := hb.frozen 5
    have zf6 := hb.frozen 6
    clear hb
    go_wp2
    refine bodyPost_ret (v := .tuple #[.agg #[.int .i64 0, .int .i64 0, .int .i64 0, .slice none 0 0, .slice none 0 0, .slice none 0 0, .slice none 0 0], .bool false]) (by simp [results, Tryd.results18, go_sem, *]) rfl ⟨rfl, ?_⟩
    exact ((((((((HK.out).new (g := w.heap.size + 1 + 1) (by omega) _ _).new (g := w.heap.size + 1 + 1) (by omega) _ _).new (g := w.heap.size + 1 + 1) (by omega) _ _).new (g := w.heap.size + 1 + 1) (by omega) _ _).new (g := w.heap.size + 1 + 1) (by omega) _ _).new (g := w.heap.size + 1 + 1) (by omega) _ _).new (g := w.heap.size + 1 + 1) (by omega) _ _).alloc _
  · have h7 : k = 1 ∨ k = 2 ∨ k = 3 ∨ k = 4 ∨ k = 5 ∨ k = 6 ∨ k = 7 := by omega
    clear hn
    rcases h7 with rfl | rfl | rfl | rfl | rfl | rfl | rfl
    · go_enter Tryd.func18, Tryd.ntmps18
      go_wp2_with fail
      refine (impl_stepAt_1 _).mono ?_
      rintro e w1 ⟨rfl, hk1⟩
      have hx := HBx.out.keeps hk1 (fun h => h)
      clear HBx
      have HBx := Lib.hid hx
      clear hx
      have hy := HBy.out.keeps hk1 (fun h => h)
      clear HBy
      have HBy := Lib.hid hy
      clear hy
      have hz := HBz.out.keeps hk1 (fun h => h)
      clear HBz
      have HBz := Lib.hid hz
      clear hz
      have hr := HK.out.trans hk1
      clear HK
      have HK := Lib.hid hr
      clear hr
      have sz1 := hk1.size
      (try simp at sz1)
      clear hk1
      have hb := HBx.out
      have x0 := hb.cell 0
      have x1 := hb.cell 1
      have x2 := hb.cell 2
      have x3 := hb.cell 3
      have x4 := hb.cell 4
      have x5 := hb.cell 5
      have x6 := hb.cell 6
      simp at x0 x1 x2 x3 x4 x5 x6
      have zx := hb.lt
      clear hb
      have hb := HBy.out
      have y0 := hb.cell 0
      have y1 := hb.cell 1
      have y2 := hb.cell 2
      have y3 := hb.cell 3
      have y4 := hb.cell 4
      have y5 := hb.cell 5
      have y6 := hb.cell 6
      simp at y0 y1 y2 y3 y4 y5 y6
      have zy := hb.lt
      clear hb
      have hx := HBx.out.alloc (.cells #[.func (.func 80) #[] #[], .func (.func 81) #[] #[]] 65)
      clear HBx
      have HBx := Lib.hid hx
      clear hx
      have hy := HBy.out.alloc (.cells #[.func (.func 80) #[] #[], .func (.func 81) #[] #[]] 65)
      clear HBy
      have HBy := Lib.hid hy
      clear hy
      have hz := HBz.out.alloc (.cells #[.func (.func 80) #[] #[], .func (.func 81) #[] #[]] 65)
      clear HBz
      have HBz := Lib.hid hz
      clear hz
      have hr := HK.out.alloc (.cells #[.func (.func 80) #[] #[], .func (.func 81) #[] #[]] 65)
      clear HK
      have HK := Lib.hid hr
      clear hr
      have HBr := Lib.hid (Box.new w1 _ rfl 65 #[.func (.func 80) #[] #[], .func (.func 81) #[] #[]])
      go_wp2_with fail
      refine (HM.out _ (HX.out.kept HK.out) (HY.out.kept HK.out) (HT.out.keeps HK.out)).mono ?_
      rintro e w2 ⟨rfl, hk2⟩
      clear x0 x1 x2 x3 x4 x5 x6 y0 y1 y2 y3 y4 y5 y6 zx zy
      have hx := HBx.out.keeps hk2 (fun h => h)
      clear HBx
      have HBx := Lib.hid hx
      clear hx
      have hy := HBy.out.keeps hk2 (fun h => h)
      clear HBy
      have HBy := Lib.hid hy
      clear hy
      have hz := HBz.out.keeps hk2 (fun h => h)
      clear HBz
      have HBz := Lib.hid hz
      clear hz
      have hr := HBr.out.keeps hk2 (fun h => h)
      clear HBr
      have HBr := Lib.hid hr
      clear hr
      have hr := HK.out.trans hk2
      clear HK
      have HK := Lib.hid hr
      clear hr
      have sz2 := hk2.size
      (try simp at sz2)
      clear hk2
      have hb := HBz.out
      have z0 := hb.cell 0
      have z1 := hb.cell 1
      have z2 := hb.cell 2
      have z3 := hb.cell 3
      have z4 := hb.cell 4
      have z5 := hb.cell 5
      have z6 := hb.cell 6
      simp at z0 z1 z2 z3 z4 z5 z6
      have zz := hb.lt
      clear hb
      have hb := HBz.out
      have zf0 := hb.frozen 0
      have zf1 := hb.frozen 1
      have zf2 := hb.frozen 2
      have zf3 := hb.frozen 3
      have zf4 := hb.frozen 4
      have zf5 := hb.frozen 5
      have zf6 := hb.frozen 6
      clear hb
      go_wp2
      refine bodyPost_ret (v := .tuple #[.agg #[.int .i64 0, .int .i64 0, .int .i64 0, .slice none 0 0, .slice none 0 0, .slice none 0 0, .slice none 0 0], .bool false]) (by simp [results, Tryd.results18, go_sem, *]) rfl ⟨rfl, ?_⟩
      exact (((((((HK.out).new (g := w.heap.size + 1 + 1) (by omega) _ _).new (g := w.heap.size + 1 + 1) (by omega) _ _).new (g := w.heap.size + 1 + 1) (by omega) _ _).new (g := w.heap.size + 1 + 1) (by omega) _ _).new (g := w.heap.size + 1 + 1) (by omega) _ _).new (g := w.heap.size + 1 + 1) (by omega) _ _).new (g := w.heap.size + 1 + 1) (by omega) _ _
    · go_enter Tryd.func18, Tryd.ntmps18
      go_wp2_with fail
      refine (impl_stepAt_2 _).mono ?_
      rintro e w1 ⟨rfl, hk1⟩
      have hx := HBx.out.keeps hk1 (fun h => h)
      clear HBx
      have HBx := Lib.hid hx
      clear hx
      have hy := HBy.out.keeps hk1 (fun h => h)
      clear HBy
      have HBy := Lib.hid hy
      clear hy
      have hz := HBz.out.keeps hk1 (fun h => h)
      clear HBz
      have HBz := Lib.hid hz
      clear hz
      have hr := HK.out.trans hk1
      clear HK
      have HK := Lib.hid hr
      clear hr
      have sz1 := hk1.size
      (try simp at sz1)
      clear hk1
      have hb := HBx.out
      have x0 := hb.cell 0
      have x1 := hb.cell 1
      have x2 := hb.cell 2
      have x3 := hb.cell 3
      have x4 := hb.cell 4
      have x5 := hb.cell 5
      have x6 := hb.cell 6
      simp at x0 x1 x2 x3 x4 x5 x6
      have zx := hb.lt
      clear hb
      have hb := HBy.out
      have y0 := hb.cell 0
      have y1 := hb.cell 1
      have y2 := hb.cell 2
      have y3 := hb.cell 3
      have y4 := hb.cell 4
      have y5 := hb.cell 5
      have y6 := hb.cell 6
      simp at y0 y1 y2 y3 y4 y5 y6
      have zy := hb.lt
      clear hb
      have hx := HBx.out.alloc (.cells #[.func (.func 82) #[] #[], .func (.func 83) #[] #[]] 65)
      clear HBx
      have HBx := Lib.hid hx
      clear hx
      have hy := HBy.out.alloc (.cells #[.func (.func 82) #[] #[], .func (.func 83) #[] #[]] 65)
      clear HBy
      have HBy := Lib.hid hy
      clear hy
      have hz := HBz.out.alloc (.cells #[.func (.func 82) #[] #[], .func (.func 83) #[] #[]] 65)
      clear HBz
      have HBz := Lib.hid hz
      clear hz
      have hr := HK.out.alloc (.cells #[.func (.func 82) #[] #[], .func (.func 83) #[] #[]] 65)
      clear HK
      have HK := Lib.hid hr
      clear hr
      have HBr := Lib.hid (Box.new w1 _ rfl 65 #[.func (.func 82) #[] #[], .func (.func 83) #[] #[]])
      go_wp2_with fail
      refine (HM.out _ (HX.out.kept HK.out) (HY.out.kept HK.out) (HT.out.keeps HK.out)).mono ?_
      rintro e w2 ⟨rfl, hk2⟩
      clear x0 x1 x2 x3 x4 x5 x6 y0 y1 y2 y3 y4 y5 y6 zx zy
      have hx := HBx.out.keeps hk2 (fun h => h)
      clear HBx
      have HBx := Lib.hid hx
      clear hx
      have hy := HBy.out.keeps hk2 (fun h => h)
      clear HBy
      have HBy := Lib.hid hy
      clear hy
      have hz := HBz.out.keeps hk2 (fun h => h)
      clear HBz
      have HBz := Lib.hid hz
      clear hz
      have hr := HBr.out.keeps hk2 (fun h => h)
      clear HBr
      have HBr := Lib.hid hr
      clear hr
      have hr := HK.out.trans hk2
      clear HK
      have HK := Lib.hid hr
      clear hr
      have sz2 := hk2.size
      (try simp at sz2)
      clear hk2
      have hb := HBz.out
      have z0 := hb.cell 0
      have z1 := hb.cell 1
      have z2 := hb.cell 2
      have z3 := hb.cell 3
      have z4 := hb.cell 4
      have z5 := hb.cell 5
      have z6 := hb.cell 6
      simp at z0 z1 z2 z3 z4 z5 z6
      have zz := hb.lt
      clear hb
      have hb := HBz.out
      have zf0 := hb.frozen 0
      have zf1 := hb.frozen 1
      have zf2 := hb.frozen 2
      have zf3 := hb.frozen 3
      have zf4 := hb.frozen 4
      have zf5 := hb.frozen 5
      have zf6 := hb.frozen 6
      clear hb
      go_wp2
      refine bodyPost_ret (v := .tuple #[.agg #[.int .i64 0, .int .i64 0, .int .i64 0, .slice none 0 0, .slice none 0 0, .slice none 0 0, .slice none 0 0], .bool false]) (by simp [results, Tryd.results18, go_sem, *]) rfl ⟨rfl, ?_⟩
      exact (((((((HK.out).new (g := w.heap.size + 1 + 1) (by omega) _ _).new (g := w.heap.size + 1 + 1) (by omega) _ _).new (g := w.heap.size + 1 + 1) (by omega) _ _).new (g := w.heap.size + 1 + 1) (by omega) _ _).new (g := w.heap.size + 1 + 1) (by omega) _ _).new (g := w.heap.size + 1 + 1) (by omega) _ _).new (g := w.heap.size + 1 + 1) (by omega) _ _
    · go_enter Tryd.func18, Tryd.ntmps18
      go_wp2_with fail
      refine (impl_stepAt_3 _).mono ?_
      rintro e w1 ⟨rfl, hk1⟩
      have hx := HBx.out.keeps hk1 (fun h => h)
      clear HBx
      have HBx := Lib.hid hx
      clear hx
      have hy := HBy.out.keeps hk1 (fun h => h)
      clear HBy
      have HBy := Lib.hid hy
      clear hy
      have hz := HBz.out.keeps hk1 (fun h => h)
      clear HBz
      have HBz := Lib.hid hz
      clear hz
      have hr := HK.out.trans hk1
      clear HK
      have HK := Lib.hid hr
      clear hr
      have sz1 := hk1.size
      (try simp at sz1)
      clear hk1
      have hb := HBx.out
      have x0 := hb.cell 0
      have x1 := hb.cell 1
      have x2 := hb.cell 2
      have x3 := hb.cell 3
      have x4 := hb.cell 4
      have x5 := hb.cell 5
      have x6 := hb.cell 6
      simp at x0 x1 x2 x3 x4 x5 x6
      have zx := hb.lt
      clear hb
      have hb := HBy.out
      have y0 := hb.cell 0
      have y1 := hb.cell 1
      have y2 := hb.cell 2
      have y3 := hb.cell 3
      have y4 := hb.cell 4
      have y5 := hb.cell 5
      have y6 := hb.cell 6
      simp at y0 y1 y2 y3 y4 y5 y6
      have zy := hb.lt
      clear hb
      have hx := HBx.out.alloc (.cells #[.func (.func 84) #[] #[], .func (.func 85) #[] #[]] 65)
      clear HBx
      have HBx := Lib.hid hx
      clear hx
      have hy := HBy.out.alloc (.cells #[.func (.func 84) #[] #[], .func (.func 85) #[] #[]] 65)
      clear HBy
      have HBy := Lib.hid hy
      clear hy
      have hz := HBz.out.alloc (.cells #[.func (.func 84) #[] #[], .func (.func 85) #[] #[]] 65)
      clear HBz
      have HBz := Lib.hid hz
      clear hz
      have hr := HK.out.alloc (.cells #[.func (.func 84) #[] #[], .func (.func 85) #[] #[]] 65)
      clear HK
      have HK := Lib.hid hr
      clear hr
      have HBr := Lib.hid (Box.new w1 _ rfl 65 #[.func (.func 84) #[] #[], .func (.func 85) #[] #[]])
      go_wp2_with fail
      refine (HM.out _ (HX.out.kept HK.out) (HY.out.kept HK.out) (HT.out.keeps HK.out)).mono ?_
      rintro e w2 ⟨rfl, hk2⟩
      clear x0 x1 x2 x3 x4 x5 x6 y0 y1 y2 y3 y4 y5 y6 zx zy
      have hx := HBx.out.keeps hk2 (fun h => h)
      clear HBx
      have HBx := Lib.hid hx
      clear hx
      have hy := HBy.out.keeps hk2 (fun h => h)
      clear HBy
      have HBy := Lib.hid hy
      clear hy
      have hz := HBz.out.keeps hk2 (fun h => h)
      clear HBz
      have HBz := Lib.hid hz
      clear hz
      have hr := HBr.out.keeps hk2 (fun h => h)
      clear HBr
      have HBr := Lib.hid hr
      clear hr
      have hr := HK.out.trans hk2
      clear HK
      have HK := Lib.hid hr
      clear hr
      have sz2 := hk2.size
      (try simp at sz2)
      clear hk2
      have hb := HBz.out
      have z0 := hb.cell 0
      have z1 := hb.cell 1
      have z2 := hb.cell 2
      have z3 := hb.cell 3
      have z4 := hb.cell 4
      have z5 := hb.cell 5
      have z6 := hb.cell 6
      simp at z0 z1 z2 z3 z4 z5 z6
      have zz := hb.lt
      clear hb
      have hb := HBz.out
      have zf0 := hb.frozen 0
      have zf1 := hb.frozen 1
      have zf2 := hb.frozen 2
      have zf3 := hb.frozen 3
      have zf4 := hb.frozen 4
      have zf5 := hb.frozen 5
      have zf6 := hb.frozen 6
      clear hb
      go_wp2
      refine bodyPost_ret (v := .tuple #[.agg #[.int .i64 0, .int .i64 0, .int .i64 0, .slice none 0 0, .slice none 0 0, .slice none 0 0, .slice none 0 0], .bool false]) (by simp [results, Tryd.results18, go_sem, *]) rfl ⟨rfl, ?_⟩
      exact (((((((HK.out).new (g := w.heap.size + 1 + 1) (by omega) _ _).new (g := w.heap.size + 1 + 1) (by omega) _ _).new (g := w.heap.size + 1 + 1) (by omega) _ _).new (g := w.heap.size + 1 + 1) (by omega) _ _).new (g := w.heap.size + 1 + 1) (by omega) _ _).new (g := w.heap.size + 1 + 1) (by omega) _ _).new (g := w.heap.size + 1 + 1) (by omega) _ _
    · go_enter Tryd.func18, Tryd.ntmps18
      go_wp2_with fail
      refine (impl_stepAt_4 _).mono ?_
      rintro e w1 ⟨rfl, hk1⟩
      have hx := HBx.out.keeps hk1 (fun h => h)
      clear HBx
      have HBx := Lib.hid hx
      clear hx
      have hy := HBy.out.keeps hk1 (fun h => h)
      clear HBy
      have HBy := Lib.hid hy
      clear hy
      have hz := HBz.out.keeps hk1 (fun h => h)
      clear HBz
      have HBz := Lib.hid hz
      clear hz
      have hr := HK.out.trans hk1
      clear HK
      have HK := Lib.hid hr
      clear hr
      have sz1 := hk1.size
      (try simp at sz1)
      clear hk1
      have hb := HBx.out
      have x0 := hb.cell 0
      have x1 := hb.cell 1
      have x2 := hb.cell 2
      have x3 := hb.cell 3
      have x4 := hb.cell 4
      have x5 := hb.cell 5
      have x6 := hb.cell 6
      simp at x0 x1 x2 x3 x4 x5 x6
      have zx := hb.lt
      clear hb
      have hb := HBy.out
      have y0 := hb.cell 0
      have y1 := hb.cell 1
      have y2 := hb.cell 2
      have y3 := hb.cell 3
      have y4 := hb.cell 4
      have y5 := hb.cell 5
      have y6 := hb.cell 6
      simp at y0 y1 y2 y3 y4 y5 y6
      have zy := hb.lt
      clear hb
      have hx := HBx.out.alloc (.cells #[.func (.func 86) #[] #[], .func (.func 85) #[] #[]] 65)
      clear HBx
      have HBx := Lib.hid hx
      clear hx
      have hy := HBy.out.alloc (.cells #[.func (.func 86) #[] #[], .func (.func 85) #[] #[]] 65)
      clear HBy
      have HBy := Lib.hid hy
      clear hy
      have hz := HBz.out.alloc (.cells #[.func (.func 86) #[] #[], .func (.func 85) #[] #[]] 65)
      clear HBz
      have HBz := Lib.hid hz
      clear hz
      have hr := HK.out.alloc (.cells #[.func (.func 86) #[] #[], .func (.func 85) #[] #[]] 65)
      clear HK
      have HK := Lib.hid hr
      clear hr
      have HBr := Lib.hid (Box.new w1 _ rfl 65 #[.func (.func 86) #[] #[], .func (.func 85) #[] #[]])
      go_wp2_with fail
      refine (HM.out _ (HX.out.kept HK.out) (HY.out.kept HK.out) (HT.out.keeps HK.out)).mono ?_
      rintro e w2 ⟨rfl, hk2⟩
      clear x0 x1 x2 x3 x4 x5 x6 y0 y1 y2 y3 y4 y5 y6 zx zy
      have hx := HBx.out.keeps hk2 (fun h => h)
      clear HBx
      have HBx := Lib.hid hx
      clear hx
      have hy := HBy.out.keeps hk2 (fun h => h)
      clear HBy
      have HBy := Lib.hid hy
      clear hy
      have hz := HBz.out.keeps hk2 (fun h => h)
      clear HBz
      have HBz := Lib.hid hz
      clear hz
      have hr := HBr.out.keeps hk2 (fun h => h)
      clear HBr
      have HBr := Lib.hid hr
      clear hr
      have hr := HK.out.trans hk2
      clear HK
      have HK := Lib.hid hr
      clear hr
      have sz2 := hk2.size
      (try simp at sz2)
      clear hk2
      have hb := HBz.out
      have z0 := hb.cell 0
      have z1 := hb.cell 1
      have z2 := hb.cell 2
      have z3 := hb.cell 3
      have z4 := hb.cell 4
      have z5 := hb.cell 5
      have z6 := hb.cell 6
      simp at z0 z1 z2 z3 z4 z5 z6
      have zz := hb.lt
      clear hb
      have hb := HBz.out
      have zf0 := hb.frozen 0
      have zf1 := hb.frozen 1
      have zf2 := hb.frozen 2
      have zf3 := hb.frozen 3
      have zf4 := hb.frozen 4
      have zf5 := hb.frozen 5
      have zf6 := hb.frozen 6
      clear hb
      go_wp2
      refine bodyPost_ret (v := .tuple #[.agg #[.int .i64 0, .int .i64 0, .int .i64 0, .slice none 0 0, .slice none 0 0, .slice none 0 0, .slice none 0 0], .bool false]) (by simp [results, Tryd.results18, go_sem, *]) rfl ⟨rfl, ?_⟩
      exact (((((((HK.out).new (g := w.heap.size + 1 + 1) (by omega) _ _).new (g := w.heap.size + 1 + 1) (by omega) _ _).new (g := w.heap.size + 1 + 1) (by omega) _ _).new (g := w.heap.size + 1 + 1) (by omega) _ _).new (g := w.heap.size + 1 + 1) (by omega) _ _).new (g := w.heap.size + 1 + 1) (by omega) _ _).new (g := w.heap.size + 1 + 1) (by omega) _ _
    · go_enter Tryd.func18, Tryd.ntmps18
      go_wp2_with fail
      refine (impl_stepAt_5 _).mono ?_
      rintro e w1 ⟨rfl, hk1⟩
      have hx := HBx.out.keeps hk1 (fun h => h)
      clear HBx
      have HBx := Lib.hid hx
      clear hx
      have hy := HBy.out.keeps hk1 (fun h => h)
      clear HBy
      have HBy := Lib.hid hy
      clear hy
      have hz := HBz.out.keeps hk1 (fun h => h)
      clear HBz
      have HBz := Lib.hid hz
      clear hz
      have hr := HK.out.trans hk1
      clear HK
      have HK := Lib.hid hr
      clear hr
      have sz1 := hk1.size
      (try simp at sz1)
      clear hk1
      have hb := HBx.out
      have x0 := hb.cell 0
      have x1 := hb.cell 1
      have x2 := hb.cell 2
      have x3 := hb.cell 3
      have x4 := hb.cell 4
      have x5 := hb.cell 5
      have x6 := hb.cell 6
      simp at x0 x1 x2 x3 x4 x5 x6
      have zx := hb.lt
      clear hb
      have hb := HBy.out
      have y0 := hb.cell 0
      have y1 := hb.cell 1
      have y2 := hb.cell 2
      have y3 := hb.cell 3
      have y4 := hb.cell 4
      have y5 := hb.cell 5
      have y6 := hb.cell 6
      simp at y0 y1 y2 y3 y4 y5 y6
      have zy := hb.lt
      clear hb
      have hx := HBx.out.alloc (.cells #[.func (.func 87) #[] #[], .func (.func 88) #[] #[]] 65)
      clear HBx
      have HBx := Lib.hid hx
      clear hx
      have hy := HBy.out.alloc (.cells #[.func (.func 87) #[] #[], .func (.func 88) #[] #[]] 65)
      clear HBy
      have HBy := Lib.hid hy
      clear hy
      have hz := HBz.out.alloc (.cells #[.func (.func 87) #[] #[], .func (.func 88) #[] #[]] 65)
      clear HBz
      have HBz := Lib.hid hz
      clear hz
      have hr := HK.out.alloc (.cells #[.func (.func 87) #[] #[], .func (.func 88) #[] #[]] 65)
      clear HK
      have HK := Lib.hid hr
      clear hr
      have HBr := Lib.hid (Box.new w1 _ rfl 65 #[.func (.func 87) #[] #[], .func (.func 88) #[] #[]])
      go_wp2_with fail
      refine (HM.out _ (HX.out.kept HK.out) (HY.out.kept HK.out) (HT.out.keeps HK.out)).mono ?_
      rintro e w2 ⟨rfl, hk2⟩
      clear x0 x1 x2 x3 x4 x5 x6 y0 y1 y2 y3 y4 y5 y6 zx zy
      have hx := HBx.out.keeps hk2 (fun h => h)
      clear HBx
      have HBx := Lib.hid hx
      clear hx
      have hy := HBy.out.keeps hk2 (fun h => h)
      clear HBy
      have HBy := Lib.hid hy
      clear hy
      have hz := HBz.out.keeps hk2 (fun h => h)
      clear HBz
      have HBz := Lib.hid hz
      clear hz
      have hr := HBr.out.keeps hk2 (fun h => h)
      clear HBr
      have HBr := Lib.hid hr
      clear hr
      have hr := HK.out.trans hk2
      clear HK
      have HK := Lib.hid hr
      clear hr
      have sz2 := hk2.size
      (try simp at sz2)
      clear hk2
      have hb := HBz.out
      have z0 := hb.cell 0
      have z1 := hb.cell 1
      have z2 := hb.cell 2
      have z3 := hb.cell 3
      have z4 := hb.cell 4
      have z5 := hb.cell 5
      have z6 := hb.cell 6
      simp at z0 z1 z2 z3 z4 z5 z6
      have zz := hb.lt
      clear hb
      have hb := HBz.out
      have zf0 := hb.frozen 0
      have zf1 := hb.frozen 1
      have zf2 := hb.frozen 2
      have zf3 := hb.frozen 3
      have zf4 := hb.frozen 4
      have zf5 := hb.frozen 5
      have zf6 := hb.frozen 6
      clear hb
      go_wp2
      refine bodyPost_ret (v := .tuple #[.agg #[.int .i64 0, .int .i64 0, .int .i64 0, .slice none 0 0, .slice none 0 0, .slice none 0 0, .slice none 0 0], .bool false]) (by simp [results, Tryd.results18, go_sem, *]) rfl ⟨rfl, ?_⟩
      exact (((((((HK.out).new (g := w.heap.size + 1 + 1) (by omega) _ _).new (g := w.heap.size + 1 + 1) (by omega) _ _).new (g := w.heap.size + 1 + 1) (by omega) _ _).new (g := w.heap.size + 1 + 1) (by omega) _ _).new (g := w.heap.size + 1 + 1) (by omega) _ _).new (g := w.heap.size + 1 + 1) (by omega) _ _).new (g := w.heap.size + 1 + 1) (by omega) _ _
    · go_enter Tryd.func18, Tryd.ntmps18
      go_wp2_with fail
      refine (impl_stepAt_6 _).mono ?_
      rintro e w1 ⟨rfl, hk1⟩
      have hx := HBx.out.keeps hk1 (fun h => h)
      clear HBx
      have HBx := Lib.hid hx
      clear hx
      have hy := HBy.out.keeps hk1 (fun h => h)
      clear HBy
      have HBy := Lib.hid hy
      clear hy
      have hz := HBz.out.keeps hk1 (fun h => h)
      clear HBz
      have HBz := Lib.hid hz
      clear hz
      have hr := HK.out.trans hk1
      clear HK
      have HK := Lib.hid hr
      clear hr
      have sz1 := hk1.size
      (try simp at sz1)
      clear hk1
      have hb := HBx.out
      have x0 := hb.cell 0
      have x1 := hb.cell 1
      have x2 := hb.cell 2
      have x3 := hb.cell 3
      have x4 := hb.cell 4
      have x5 := hb.cell 5
      have x6 := hb.cell 6
      simp at x0 x1 x2 x3 x4 x5 x6
      have zx := hb.lt
      clear hb
      have hb := HBy.out
      have y0 := hb.cell 0
      have y1 := hb.cell 1
      have y2 := hb.cell 2
      have y3 := hb.cell 3
      have y4 := hb.cell 4
      have y5 := hb.cell 5
      have y6 := hb.cell 6
      simp at y0 y1 y2 y3 y4 y5 y6
      have zy := hb.lt
      clear hb
      have hx := HBx.out.alloc (.cells #[.func (.func 89) #[] #[], .func (.func 88) #[] #[]] 65)
      clear HBx
      have HBx := Lib.hid hx
      clear hx
      have hy := HBy.out.alloc (.cells #[.func (.func 89) #[] #[], .func (.func 88) #[] #[]] 65)
      clear HBy
      have HBy := Lib.hid hy
      clear hy
      have hz := HBz.out.alloc (.cells #[.func (.func 89) #[] #[], .func (.func 88) #[] #[]] 65)
      clear HBz
      have HBz := Lib.hid hz
      clear hz
      have hr := HK.out.alloc (.cells #[.func (.func 89) #[] #[], .func (.func 88) #[] #[]] 65)
      clear HK
      have HK := Lib.hid hr
      clear hr
      have HBr := Lib.hid (Box.new w1 _ rfl 65 #[.func (.func 89) #[] #[], .func (.func 88) #[] #[]])
      go_wp2_with fail
      refine (HM.out _ (HX.out.kept HK.out) (HY.out.kept HK.out) (HT.out.keeps HK.out)).mono ?_
      rintro e w2 ⟨rfl, hk2⟩
      clear x0 x1 x2 x3 x4 x5 x6 y0 y1 y2 y3 y4 y5 y6 zx zy
      have hx := HBx.out.keeps hk2 (fun h => h)
      clear HBx
      have HBx := Lib.hid hx
      clear hx
      have hy := HBy.out.keeps hk2 (fun h => h)
      clear HBy
      have HBy := Lib.hid hy
      clear hy
      have hz := HBz.out.keeps hk2 (fun h => h)
      clear HBz
      have HBz := Lib.hid hz
      clear hz
      have hr := HBr.out.keeps hk2 (fun h => h)
      clear HBr
      have HBr := Lib.hid hr
      clear hr
      have hr := HK.out.trans hk2
      clear HK
      have HK := Lib.hid hr
      clear hr
      have sz2 := hk2.size
      (try simp at sz2)
      clear hk2
      have hb := HBz.out
      have z0 := hb.cell 0
      have z1 := hb.cell 1
      have z2 := hb.cell 2
      have z3 := hb.cell 3
      have z4 := hb.cell 4
      have z5 := hb.cell 5
      have z6 := hb.cell 6
      simp at z0 z1 z2 z3 z4 z5 z6
      have zz := hb.lt
      clear hb
      have hb := HBz.out
      have zf0 := hb.frozen 0
      have zf1 := hb.frozen 1
      have zf2 := hb.frozen 2
      have zf3 := hb.frozen 3
      have zf4 := hb.frozen 4
      have zf5 := hb.frozen 5
      have zf6 := hb.frozen 6
      clear hb
      go_wp2
      refine bodyPost_ret (v := .tuple #[.agg #[.int .i64 0, .int .i64 0, .int .i64 0, .slice none 0 0, .slice none 0 0, .slice none 0 0, .slice none 0 0], .bool false]) (by simp [results, Tryd.results18, go_sem, *]) rfl ⟨rfl, ?_⟩
      exact (((((((HK.out).new (g := w.heap.size + 1 + 1) (by omega) _ _).new (g := w.heap.size + 1 + 1) (by omega) _ _).new (g := w.heap.size + 1 + 1) (by omega) _ _).new (g := w.heap.size + 1 + 1) (by omega) _ _).new (g := w.heap.size + 1 + 1) (by omega) _ _).new (g := w.heap.size + 1 + 1) (by omega) _ _).new (g := w.heap.size + 1 + 1) (by omega) _ _
    · go_enter Tryd.func18, Tryd.ntmps18
      go_wp2_with fail
      refine (impl_stepAt_7 _).mono ?_
      rintro e w1 ⟨rfl, hk1⟩
      have hx := HBx.out.keeps hk1 (fun h => h)
      clear HBx
      have HBx := Lib.hid hx
      clear hx
      have hy := HBy.out.keeps hk1 (fun h => h)
      clear HBy
      have HBy := Lib.hid hy
      clear hy
      have hz := HBz.out.keeps hk1 (fun h => h)
      clear HBz
      have HBz := Lib.hid hz
      clear hz
      have hr := HK.out.trans hk1
      clear HK
      have HK := Lib.hid hr
      clear hr
      have sz1 := hk1.size
      (try simp at sz1)
      clear hk1
      have hb := HBx.out
      have x0 := hb.cell 0
      have x1 := hb.cell 1
      have x2 := hb.cell 2
      have x3 := hb.cell 3
      have x4 := hb.cell 4
      have x5 := hb.cell 5
      have x6 := hb.cell 6
      simp at x0 x1 x2 x3 x4 x5 x6
      have zx := hb.lt
      clear hb
      have hb := HBy.out
      have y0 := hb.cell 0
      have y1 := hb.cell 1
      have y2 := hb.cell 2
      have y3 := hb.cell 3
      have y4 := hb.cell 4
      have y5 := hb.cell 5
      have y6 := hb.cell 6
      simp at y0 y1 y2 y3 y4 y5 y6
      have zy := hb.lt
      clear hb
      have hx := HBx.out.alloc (.cells #[.func (.func 90) #[] #[], .func (.func 91) #[] #[]] 65)
      clear HBx
      have HBx := Lib.hid hx
      clear hx
      have hy := HBy.out.alloc (.cells #[.func (.func 90) #[] #[], .func (.func 91) #[] #[]] 65)
      clear HBy
      have HBy := Lib.hid hy
      clear hy
      have hz := HBz.out.alloc (.cells #[.func (.func 90) #[] #[], .func (.func 91) #[] #[]] 65)
      clear HBz
      have HBz := Lib.hid hz
      clear hz
      have hr := HK.out.alloc (.cells #[.func (.func 90) #[] #[], .func (.func 91) #[] #[]] 65)
      clear HK
      have HK := Lib.hid hr
      clear hr
      have HBr := Lib.hid (Box.new w1 _ rfl 65 #[.func (.func 90) #[] #[], .func (.func 91) #[] #[]])
      go_wp2_with fail
      refine (HM.out _ (HX.out.kept HK.out) (HY.out.kept HK.out) (HT.out.keeps HK.out)).mono ?_
      rintro e w2 ⟨rfl, hk2⟩
      clear x0 x1 x2 x3 x4 x5 x6 y0 y1 y2 y3 y4 y5 y6 zx zy
      have hx := HBx.out.keeps hk2 (fun h => h)
      clear HBx
      have HBx := Lib.hid hx
      clear hx
      have hy := HBy.out.keeps hk2 (fun h => h)
      clear HBy
      have HBy := Lib.hid hy
      clear hy
      have hz := HBz.out.keeps hk2 (fun h => h)
      clear HBz
      have HBz := Lib.hid hz
      clear hz
      have hr := HBr.out.keeps hk2 (fun h => h)
      clear HBr
      have HBr := Lib.hid hr
      clear hr
      have hr := HK.out.trans hk2
      clear HK
      have HK := Lib.hid hr
      clear hr
      have sz2 := hk2.size
      (try simp at sz2)
      clear hk2
      have hb := HBz.out
      have z0 := hb.cell 0
      have z1 := hb.cell 1
      have z2 := hb.cell 2
      have z3 := hb.cell 3
      have z4 := hb.cell 4
      have z5 := hb.cell 5
      have z6 := hb.cell 6
      simp at z0 z1 z2 z3 z4 z5 z6
      have zz := hb.lt
      clear hb
      have hb := HBz.out
      have zf0 := hb.frozen 0
      have zf1 := hb.frozen 1
      have zf2 := hb.frozen 2
      have zf3 := hb.frozen 3
      have zf4 := hb.frozen 4
      have zf5 := hb.frozen 5
      have zf6 := hb.frozen 6
      clear hb
      go_wp2
      refine bodyPost_ret (v := .tuple #[.agg #[.int .i64 0, .int .i64 0, .int .i64 0, .slice none 0 0, .slice none 0 0, .slice none 0 0, .slice none 0 0], .bool false]) (by simp [results, Tryd.results18, go_sem, *]) rfl ⟨rfl, ?_⟩
      exact (((((((HK.out).new (g := w.heap.size + 1 + 1) (by omega) _ _).new (g := w.heap.size + 1 + 1) (by omega) _ _).new (g := w.heap.size + 1 + 1) (by omega) _ _).new (g := w.heap.size + 1 + 1) (by omega) _ _).new (g := w.heap.size + 1 + 1) (by omega) _ _).new (g := w.heap.size + 1 + 1) (by omega) _ _).new (g := w.heap.size + 1 + 1) (by omega) _ _
end Go.Proofs.YtifocngajndnnaaDoor
