/- WayDo of the program and of the model. The two tables read as the program's text lays them. WayDo of the program and of the model. The two tables read as the program's text lays them. WayDo of the program and of the model. The two tables read as the program's text lays them. -/
import Derived.Test.YtcnbephpadmboaaGreatDoorUIWy
import Derived.Test.YtcnbephpadmboaaGreatDoorICopy
import Derived.Test.YtcnbephpadmboaaGreatDoorUEM
import Derived.Deep.RegionHeld3
set_option linter.unusedVariables false
set_option linter.unusedSimpArgs false
/-! IDoH -/
namespace Go.Proofs.YtcnbephpadmboaaGreatDoor
open Go.RowKit

def RetNoD (w : World) (e : Ending) (w' : World) : Prop := e = .returned (.tuple #[.agg #[.int .i64 0, .int .i64 0, .int .i64 0, .slice none 0 0, .slice none 0 0, .slice none 0 0, .slice none 0 0], .bool false]) ∧ Keeps noBlk w w'
theorem do_end {w w2 w3 w4 WF : World} {s : StM} (hst : ∀ G ρ : Nat → Nat, ∃ G' : Nat → Nat, (∀ b, b < w2.heap.size → G' b = G b) ∧ StR G' ρ w3 s) (hk4 : Keeps noBlk w3 w4) (hK : Keeps (fun b => w.heap.size ≤ b ∧ b < w2.heap.size) w4 WF) (hw : w.heap.size ≤ w2.heap.size) :
    ∀ G ρ : Nat → Nat, ∃ G' : Nat → Nat, (∀ b, b < w.heap.size → G' b = G b) ∧ StR G' ρ WF s := by
  intro G ρ
  obtain ⟨G', hG, hS⟩ := hst (up G w.heap.size (ρ 0 + ρ 1 + ρ 2 + ρ 3 + 1)) ρ
  refine ⟨G', fun b hb => (hG b (by omega)).trans (up_old hb), (hS.kept hk4).keeps hK fun b k hk e e' => ?_⟩
  rw [hG b e'.2, up_new e'.1] at e
  match k, hk with
  | 0, _ => omega
  | 1, _ => omega
  | 2, _ => omega
  | 3, _ => omega
/-- The same, its rows one behind the other. -/
def RetDoO (w : World) (z : StL) (e : Ending) (w' : World) : Prop :=
  ∃ s : StM, e = .returned (.tuple #[s.val, .bool true]) ∧ s.x = z ∧ Keeps noBlk w w' ∧ (∀ G ρ : Nat → Nat, ∃ G' : Nat → Nat, (∀ b, b < w.heap.size → G' b = G b) ∧ StR G' ρ w' s) ∧ StOwn w' w.heap.size s.x s.A1 s.A2 s.A3 s.A4
theorem StOwn.less {w : World} {lo lo' : Nat} {x : StL} {A1 A2 A3 A4 : Option Addr} (h : StOwn w lo x A1 A2 A3 A4) (hl : lo' ≤ lo) : StOwn w lo' x A1 A2 A3 A4 := by
  obtain ⟨s1, s2, s3, ⟨h1, h2⟩, a, b, c, d, r⟩ := h
  exact ⟨s1, s2, s3, ⟨h1.less hl, h2⟩, a, b, c, Nat.le_trans hl d, r⟩
theorem do_own {w w2 w3 w4 WF : World} {x : StL} {A1 A2 A3 A4 : Option Addr} (h : StOwn w3 w2.heap.size x A1 A2 A3 A4) (hk4 : Keeps noBlk w3 w4) (hK : Keeps (fun b => w.heap.size ≤ b ∧ b < w2.heap.size) w4 WF) (hw : w.heap.size ≤ w2.heap.size) : StOwn WF w.heap.size x A1 A2 A3 A4 :=
  ((h.kept hk4).keeps hK fun b hb e => by have := h.ge hb; omega).less hw
theorem may6 {x y : StL} (h : wmayB x y 6 = true) : y.want = x.ver + 1 := by
  simp only [wmayB, Bool.and_eq_true] at h
  have := h.2
  simp [mayB] at this
  exact this.2.2
theorem doSt_lists (x y : StL) (k : Int) : ∃ a b c, doSt x y k = ⟨a, b, c, x.sent, x.live, x.back, x.got⟩ := by
  unfold doSt
  repeat' split
  all_goals exact ⟨_, _, _, rfl⟩
end Go.Proofs.YtcnbephpadmboaaGreatDoor

/-! IDoA -/
namespace Go.Proofs.YtcnbephpadmboaaGreatDoor
open Go.RowKit

set_option maxRecDepth 100000 in
set_option maxHeartbeats 4000000 in
theorem implDo_1 (x y : StL) (A1 A2 A3 A4 B1 B2 B3 B4 : Option Addr) (c1 c2 c3 c4 d1 d2 d3 d4 : Nat) (w : World) (hx : StAt w x A1 A2 A3 A4) (hy : StAt w y B1 B2 B3 B4) (ht : Tabs w) (hm : wmayB x y 1 = true) :
    Calls Tryz.prog 69 #[stV x A1 A2 A3 A4 c1 c2 c3 c4, stV y B1 B2 B3 B4 d1 d2 d3 d4, .int .i64 1] w (RetDoO w (doSt x y 1)) := by
  have HX := Lib.hid hx
  have HY := Lib.hid hy
  have HT := Lib.hid ht
  have HBx := Lib.hid (((Box.new w _ rfl 39 #[.int .i64 x.way, .int .i64 x.ver, .int .i64 x.want, .slice A1 x.sent.length c1, .slice A2 x.live.length c2, .slice A3 x.back.length c3, .slice A4 x.got.length c4]).alloc (.cells #[.int .i64 y.way, .int .i64 y.ver, .int .i64 y.want, .slice B1 y.sent.length d1, .slice B2 y.live.length d2, .slice B3 y.back.length d3, .slice B4 y.got.length d4] 39)).alloc (.cells #[.int .i64 0, .int .i64 0, .int .i64 0, .slice none 0 0, .slice none 0 0, .slice none 0 0, .slice none 0 0] 39))
  have HBy := Lib.hid ((Box.new (w.alloc (.cells #[.int .i64 x.way, .int .i64 x.ver, .int .i64 x.want, .slice A1 x.sent.length c1, .slice A2 x.live.length c2, .slice A3 x.back.length c3, .slice A4 x.got.length c4] 39)) (w.heap.size + 1) (by simp) 39 #[.int .i64 y.way, .int .i64 y.ver, .int .i64 y.want, .slice B1 y.sent.length d1, .slice B2 y.live.length d2, .slice B3 y.back.length d3, .slice B4 y.got.length d4]).alloc (.cells #[.int .i64 0, .int .i64 0, .int .i64 0, .slice none 0 0, .slice none 0 0, .slice none 0 0, .slice none 0 0] 39))
  have HBz := Lib.hid (Box.new ((w.alloc (.cells #[.int .i64 x.way, .int .i64 x.ver, .int .i64 x.want, .slice A1 x.sent.length c1, .slice A2 x.live.length c2, .slice A3 x.back.length c3, .slice A4 x.got.length c4] 39)).alloc (.cells #[.int .i64 y.way, .int .i64 y.ver, .int .i64 y.want, .slice B1 y.sent.length d1, .slice B2 y.live.length d2, .slice B3 y.back.length d3, .slice B4 y.got.length d4] 39)) (w.heap.size + 1 + 1) (by simp) 39 #[.int .i64 0, .int .i64 0, .int .i64 0, .slice none 0 0, .slice none 0 0, .slice none 0 0, .slice none 0 0])
  have HK := Lib.hid ((((Keeps.refl noBlk w).alloc (.cells #[.int .i64 x.way, .int .i64 x.ver, .int .i64 x.want, .slice A1 x.sent.length c1, .slice A2 x.live.length c2, .slice A3 x.back.length c3, .slice A4 x.got.length c4] 39)).alloc (.cells #[.int .i64 y.way, .int .i64 y.ver, .int .i64 y.want, .slice B1 y.sent.length d1, .slice B2 y.live.length d2, .slice B3 y.back.length d3, .slice B4 y.got.length d4] 39)).alloc (.cells #[.int .i64 0, .int .i64 0, .int .i64 0, .slice none 0 0, .slice none 0 0, .slice none 0 0, .slice none 0 0] 39))
  have hz0 : w.heap.size + 3 ≤ (((w.alloc (.cells #[.int .i64 x.way, .int .i64 x.ver, .int .i64 x.want, .slice A1 x.sent.length c1, .slice A2 x.live.length c2, .slice A3 x.back.length c3, .slice A4 x.got.length c4] 39)).alloc (.cells #[.int .i64 y.way, .int .i64 y.ver, .int .i64 y.want, .slice B1 y.sent.length d1, .slice B2 y.live.length d2, .slice B3 y.back.length d3, .slice B4 y.got.length d4] 39)).alloc (.cells #[.int .i64 0, .int .i64 0, .int .i64 0, .slice none 0 0, .slice none 0 0, .slice none 0 0, .slice none 0 0] 39)).heap.size := by simp
  have HV := Lib.hid (stB_parts (show stB x = true by simp only [wmayB, Bool.and_eq_true] at hm; exact hm.1.1)).2.1
  have HN8 := Lib.hid (show x.sent.length ≤ 1048576 ∧ x.live.length ≤ 1048576 ∧ x.back.length ≤ 1048576 ∧ x.got.length ≤ 1048576 by
    have k := stB_ok (show stB x = true by simp only [wmayB, Bool.and_eq_true] at hm; exact hm.1.1)
    have := k.2.1.small
    have := k.2.2.1.1
    have := k.2.2.1.2.1
    have := k.2.2.2.1
    exact ⟨by omega, by omega, by omega, by omega⟩)
  clear hx hy ht
  have HE := Lib.hid (show doSt x y 1 = ⟨1, x.ver, x.want, x.sent, x.live, x.back, x.got⟩ by simp [doSt])
  have HM := Lib.hid (fun W h h' hT => (show Calls Tryz.prog 95 #[stV x A1 A2 A3 A4 c1 c2 c3 c4, stV y B1 B2 B3 B4 d1 d2 d3 d4, .int .i64 1] W (fun e w' => e = .returned (.bool true) ∧ Keeps noBlk W w') from by rw [← hm]; exact implMay_any x y A1 A2 A3 A4 B1 B2 B3 B4 c1 c2 c3 c4 d1 d2 d3 d4 1 W h h' hT))
  have HCO := Lib.hid (fun W h => implCopy_any x A1 A2 A3 A4 c1 c2 c3 c4 W h HN8.out.1 HN8.out.2.1 HN8.out.2.2.1 HN8.out.2.2.2)
  have HDO := Lib.hid (fun W P1 P2 P3 P4 e1 e2 e3 e4 => impl_begun x P1 P2 P3 P4 e1 e2 e3 e4 W HV.out)
  clear hm
  unfold stV at HM HCO HDO ⊢
  go_enter Tryz.func69, Tryz.ntmps69
  go_wp2_with fail
  refine (impl_stepAt_1 _).mono ?_
  rintro e w1 ⟨rfl, hk1⟩
  have hx := HBx.out.keeps hk1 (fun h => h)
  clear HBx
  have HBx := Lib.hid hx
  clear hx
  have hy := HBy.out.keeps hk1 (fun h => h)
  clear HBy
  have HBy := Lib.hid hy
  clear hy
  have hz := HBz.out.keeps hk1 (fun h => h)
  clear HBz
  have HBz := Lib.hid hz
  clear hz
  have hr := HK.out.trans hk1
  clear HK
  have HK := Lib.hid hr
  clear hr
  have sz1 := hk1.size
  (try simp at sz1)
  clear hk1
  have hb := HBx.out
  have x0 := hb.cell 0
  have x1 := hb.cell 1
  have x2 := hb.cell 2
  have x3 := hb.cell 3
  have x4 := hb.cell 4
  have x5 := hb.cell 5
  have x6 := hb.cell 6
  simp at x0 x1 x2 x3 x4 x5 x6
  have zx := hb.lt
  clear hb
  have hb := HBy.out
  have y0 := hb.cell 0
  have y1 := hb.cell 1
  have y2 := hb.cell 2
  have y3 := hb.cell 3
  have y4 := hb.cell 4
  have y5 := hb.cell 5
  have y6 := hb.cell 6
  simp at y0 y1 y2 y3 y4 y5 y6
  have zy := hb.lt
  clear hb
  have hx := HBx.out.alloc (.cells #[.func (.func 112) #[] #[], .func (.func 113) #[] #[]] 124)
  clear HBx
  have HBx := Lib.hid hx
  clear hx
  have hy := HBy.out.alloc (.cells #[.func (.func 112) #[] #[], .func (.func 113) #[] #[]] 124)
  clear HBy
  have HBy := Lib.hid hy
  clear hy
  have hz := HBz.out.alloc (.cells #[.func (.func 112) #[] #[], .func (.func 113) #[] #[]] 124)
  clear HBz
  have HBz := Lib.hid hz
  clear hz
  have hr := HK.out.alloc (.cells #[.func (.func 112) #[] #[], .func (.func 113) #[] #[]] 124)
  clear HK
  have HK := Lib.hid hr
  clear hr
  have HBr := Lib.hid (Box.new w1 _ rfl 124 #[.func (.func 112) #[] #[], .func (.func 113) #[] #[]])
  go_wp2_with fail
  refine (HM.out _ (HX.out.kept HK.out) (HY.out.kept HK.out) (HT.out.keeps HK.out)).mono ?_
  rintro e w2 ⟨rfl, hk2⟩
  clear x0 x1 x2 x3 x4 x5 x6 y0 y1 y2 y3 y4 y5 y6 zx zy
  have hx := HBx.out.keeps hk2 (fun h => h)
  clear HBx
  have HBx := Lib.hid hx
  clear hx
  have hy := HBy.out.keeps hk2 (fun h => h)
  clear HBy
  have HBy := Lib.hid hy
  clear hy
  have hz := HBz.out.keeps hk2 (fun h => h)
  clear HBz
  have HBz := Lib.hid hz
  clear hz
  have hr := HBr.out.keeps hk2 (fun h => h)
  clear HBr
  have HBr := Lib.hid hr
  clear hr
  have hr := HK.out.trans hk2
  clear HK
  have HK := Lib.hid hr
  clear hr
  have sz2 := hk2.size
  (try simp at sz2)
  clear hk2
  have hb := HBx.out
  have x0 := hb.cell 0
  have x1 := hb.cell 1
  have x2 := hb.cell 2
  have x3 := hb.cell 3
  have x4 := hb.cell 4
  have x5 := hb.cell 5
  have x6 := hb.cell 6
  simp at x0 x1 x2 x3 x4 x5 x6
  have zx := hb.lt
  clear hb
  have hb := HBr.out
  have r0 := hb.cell 0
  have r1 := hb.cell 1
  simp at r0 r1
  have zr := hb.lt
  clear hb
  have : ¬ w1.heap.size = w.heap.size + 1 + 1 := by omega
  have : ¬ w.heap.size + 1 + 1 = w1.heap.size := by omega
  have : ¬ w.heap.size = w.heap.size + 1 + 1 := by omega
  have : ¬ w.heap.size + 1 + 1 = w.heap.size := by omega
  go_wp2_with fail
  go_region_held3 (fun w' => w'.cell? ⟨w.heap.size, 0, none⟩ = some (.int .i64 x.way) ∧ w'.cell? ⟨w.heap.size, 1, none⟩ = some (.int .i64 x.ver) ∧ w'.cell? ⟨w.heap.size, 2, none⟩ = some (.int .i64 x.want) ∧ w'.cell? ⟨w.heap.size, 3, none⟩ = some (.slice A1 x.sent.length c1) ∧ w'.cell? ⟨w.heap.size, 4, none⟩ = some (.slice A2 x.live.length c2) ∧ w'.cell? ⟨w.heap.size, 5, none⟩ = some (.slice A3 x.back.length c3) ∧ w'.cell? ⟨w.heap.size, 6, none⟩ = some (.slice A4 x.got.length c4) ∧ w'.cell? ⟨w1.heap.size, 0, none⟩ = some (.func (.func 112) #[] #[]) ∧ w'.cell? ⟨w1.heap.size, 1, none⟩ = some (.func (.func 113) #[] #[]))
    (((try dsimp only); (repeat' apply And.intro) <;> (first | with_reducible assumption | (go_keep; done))))
    (first | (go_at_call 82; refine (HCO.out _ (HX.out.kept (HK.out.drewN 1))).mono ?_; rintro e w3 ⟨⟨xx, P1, P2, P3, P4, e1, e2, e3, e4⟩, rfl, hxx, hk3, hst, hso⟩; have hq := ((Keeps.refl noBlk w2).drewN 1).trans hk3; clear hk3; have hk3 := hq; clear hq; dsimp only at hxx; replace hxx := hxx.symm; subst hxx; unfold StM.val; have HST := Lib.hid hst; have HSO := Lib.hid hso; clear hst hso; clear x0 x1 x2 x3 x4 x5 x6 r0 r1 zx zr; have hx := HBx.out.keeps hk3 (fun h => h); clear HBx; have HBx := Lib.hid hx; clear hx; have hy := HBy.out.keeps hk3 (fun h => h); clear HBy; have HBy := Lib.hid hy; clear hy; have hz := HBz.out.keeps hk3 (fun h => h); clear HBz; have HBz := Lib.hid hz; clear hz; have hr := HBr.out.keeps hk3 (fun h => h); clear HBr; have HBr := Lib.hid hr; clear hr; have hr := HK.out.trans hk3; clear HK; have HK := Lib.hid hr; clear hr; have sz3 := hk3.size; (try simp at sz3); clear hk3; have hb := HBx.out; have x0 := hb.cell 0; have x1 := hb.cell 1; have x2 := hb.cell 2; have x3 := hb.cell 3; have x4 := hb.cell 4; have x5 := hb.cell 5; have x6 := hb.cell 6; simp at x0 x1 x2 x3 x4 x5 x6; have zx := hb.lt; clear hb; have hb := HBr.out; have r0 := hb.cell 0; have r1 := hb.cell 1; simp at r0 r1; have zr := hb.lt; clear hb; have hb := HBz.out; have z0 := hb.cell 0; have z1 := hb.cell 1; have z2 := hb.cell 2; have z3 := hb.cell 3; have z4 := hb.cell 4; have z5 := hb.cell 5; have z6 := hb.cell 6; simp at z0 z1 z2 z3 z4 z5 z6; have zz := hb.lt; clear hb) | (go_at_call 113; refine (HDO.out _ P1 P2 P3 P4 e1 e2 e3 e4).mono ?_; rintro e w4 ⟨rfl, hk4⟩; have HK4 := Lib.hid hk4; clear x0 x1 x2 x3 x4 x5 x6 r0 r1 z0 z1 z2 z3 z4 z5 z6 zx zr zz; have hx := HBx.out.keeps hk4 (fun h => h); clear HBx; have HBx := Lib.hid hx; clear hx; have hy := HBy.out.keeps hk4 (fun h => h); clear HBy; have HBy := Lib.hid hy; clear hy; have hz := HBz.out.keeps hk4 (fun h => h); clear HBz; have HBz := Lib.hid hz; clear hz; have hr := HBr.out.keeps hk4 (fun h => h); clear HBr; have HBr := Lib.hid hr; clear hr; have hr := HK.out.trans hk4; clear HK; have HK := Lib.hid hr; clear hr; have sz4 := hk4.size; (try simp at sz4); clear hk4; have hb := HBx.out; have x0 := hb.cell 0; have x1 := hb.cell 1; have x2 := hb.cell 2; have x3 := hb.cell 3; have x4 := hb.cell 4; have x5 := hb.cell 5; have x6 := hb.cell 6; simp at x0 x1 x2 x3 x4 x5 x6; have zx := hb.lt; clear hb; have hb := HBr.out; have r0 := hb.cell 0; have r1 := hb.cell 1; simp at r0 r1; have zr := hb.lt; clear hb; have hb := HBz.out; have z0 := hb.cell 0; have z1 := hb.cell 1; have z2 := hb.cell 2; have z3 := hb.cell 3; have z4 := hb.cell 4; have z5 := hb.cell 5; have z6 := hb.cell 6; simp at z0 z1 z2 z3 z4 z5 z6; have zz := hb.lt; clear hb; have hb := HBz.out; have zf0 := hb.frozen 0; have zf1 := hb.frozen 1; have zf2 := hb.frozen 2; have zf3 := hb.frozen 3; have zf4 := hb.frozen 4; have zf5 := hb.frozen 5; have zf6 := hb.frozen 6; clear hb))
  go_wp2
  refine bodyPost_ret (v := .tuple #[.agg #[.int .i64 (1), .int .i64 (x.ver), .int .i64 (x.want), .slice P1 x.sent.length e1, .slice P2 x.live.length e2, .slice P3 x.back.length e3, .slice P4 x.got.length e4], .bool true]) (by simp [results, Tryz.results69, go_sem, *]) rfl ?_
  exact ⟨⟨⟨1, x.ver, x.want, x.sent, x.live, x.back, x.got⟩, P1, P2, P3, P4, e1, e2, e3, e4⟩, rfl, HE.out.symm, (((((((HK.out).new (g := w.heap.size + 1 + 1) (by omega) _ _).new (g := w.heap.size + 1 + 1) (by omega) _ _).new (g := w.heap.size + 1 + 1) (by omega) _ _).new (g := w.heap.size + 1 + 1) (by omega) _ _).new (g := w.heap.size + 1 + 1) (by omega) _ _).new (g := w.heap.size + 1 + 1) (by omega) _ _).new (g := w.heap.size + 1 + 1) (by omega) _ _, do_end (w := w) (w2 := w2) (s := ⟨⟨1, x.ver, x.want, x.sent, x.live, x.back, x.got⟩, P1, P2, P3, P4, e1, e2, e3, e4⟩) HST.out HK4.out (((((((((Keeps.refl (fun b => w.heap.size ≤ b ∧ b < w2.heap.size) w4)).setCell (p := ⟨w.heap.size + 1 + 1, 0, none⟩) (.inr ⟨by dsimp only; omega, by dsimp only; omega⟩) _).setCell (p := ⟨w.heap.size + 1 + 1, 1, none⟩) (.inr ⟨by dsimp only; omega, by dsimp only; omega⟩) _).setCell (p := ⟨w.heap.size + 1 + 1, 2, none⟩) (.inr ⟨by dsimp only; omega, by dsimp only; omega⟩) _).setCell (p := ⟨w.heap.size + 1 + 1, 3, none⟩) (.inr ⟨by dsimp only; omega, by dsimp only; omega⟩) _).setCell (p := ⟨w.heap.size + 1 + 1, 4, none⟩) (.inr ⟨by dsimp only; omega, by dsimp only; omega⟩) _).setCell (p := ⟨w.heap.size + 1 + 1, 5, none⟩) (.inr ⟨by dsimp only; omega, by dsimp only; omega⟩) _).setCell (p := ⟨w.heap.size + 1 + 1, 6, none⟩) (.inr ⟨by dsimp only; omega, by dsimp only; omega⟩) _) (by omega), do_own (w := w) (w2 := w2) (x := ⟨1, x.ver, x.want, x.sent, x.live, x.back, x.got⟩) HSO.out HK4.out (((((((((Keeps.refl (fun b => w.heap.size ≤ b ∧ b < w2.heap.size) w4)).setCell (p := ⟨w.heap.size + 1 + 1, 0, none⟩) (.inr ⟨by dsimp only; omega, by dsimp only; omega⟩) _).setCell (p := ⟨w.heap.size + 1 + 1, 1, none⟩) (.inr ⟨by dsimp only; omega, by dsimp only; omega⟩) _).setCell (p := ⟨w.heap.size + 1 + 1, 2, none⟩) (.inr ⟨by dsimp only; omega, by dsimp only; omega⟩) _).setCell (p := ⟨w.heap.size + 1 + 1, 3, none⟩) (.inr ⟨by dsimp only; omega, by dsimp only; omega⟩) _).setCell (p := ⟨w.heap.size + 1 + 1, 4, none⟩) (.inr ⟨by dsimp only; omega, by dsimp only; omega⟩) _).setCell (p := ⟨w.heap.size + 1 + 1, 5, none⟩) (.inr ⟨by dsimp only; omega, by dsimp only; omega⟩) _).setCell (p := ⟨w.heap.size + 1 + 1, 6, none⟩) (.inr ⟨by dsimp only; omega, by dsimp only; omega⟩) _) (by omega)⟩
set_option maxRecDepth 100000 in
set_option maxHeartbeats 4000000 in
theorem implDo_2 (x y : StL) (A1 A2 A3 A4 B1 B2 B3 B4 : Option Addr) (c1 c2 c3 c4 d1 d2 d3 d4 : Nat) (w : World) (hx : StAt w x A1 A2 A3 A4) (hy : StAt w y B1 B2 B3 B4) (ht : Tabs w) (hm : wmayB x y 2 = true) :
    Calls Tryz.prog 69 #[stV x A1 A2 A3 A4 c1 c2 c3 c4, stV y B1 B2 B3 B4 d1 d2 d3 d4, .int .i64 2] w (RetDoO w (doSt x y 2)) := by
  have HX := Lib.hid hx
  have HY := Lib.hid hy
  have HT := Lib.hid ht
  have HBx := Lib.hid (((Box.new w _ rfl 39 #[.int .i64 x.way, .int .i64 x.ver, .int .i64 x.want, .slice A1 x.sent.length c1, .slice A2 x.live.length c2, .slice A3 x.back.length c3, .slice A4 x.got.length c4]).alloc (.cells #[.int .i64 y.way, .int .i64 y.ver, .int .i64 y.want, .slice B1 y.sent.length d1, .slice B2 y.live.length d2, .slice B3 y.back.length d3, .slice B4 y.got.length d4] 39)).alloc (.cells #[.int .i64 0, .int .i64 0, .int .i64 0, .slice none 0 0, .slice none 0 0, .slice none 0 0, .slice none 0 0] 39))
  have HBy := Lib.hid ((Box.new (w.alloc (.cells #[.int .i64 x.way, .int .i64 x.ver, .int .i64 x.want, .slice A1 x.sent.length c1, .slice A2 x.live.length c2, .slice A3 x.back.length c3, .slice A4 x.got.length c4] 39)) (w.heap.size + 1) (by simp) 39 #[.int .i64 y.way, .int .i64 y.ver, .int .i64 y.want, .slice B1 y.sent.length d1, .slice B2 y.live.length d2, .slice B3 y.back.length d3, .slice B4 y.got.length d4]).alloc (.cells #[.int .i64 0, .int .i64 0, .int .i64 0, .slice none 0 0, .slice none 0 0, .slice none 0 0, .slice none 0 0] 39))
  have HBz := Lib.hid (Box.new ((w.alloc (.cells #[.int .i64 x.way, .int .i64 x.ver, .int .i64 x.want, .slice A1 x.sent.length c1, .slice A2 x.live.length c2, .slice A3 x.back.length c3, .slice A4 x.got.length c4] 39)).alloc (.cells #[.int .i64 y.way, .int .i64 y.ver, .int .i64 y.want, .slice B1 y.sent.length d1, .slice B2 y.live.length d2, .slice B3 y.back.length d3, .slice B4 y.got.length d4] 39)) (w.heap.size + 1 + 1) (by simp) 39 #[.int .i64 0, .int .i64 0, .int .i64 0, .slice none 0 0, .slice none 0 0, .slice none 0 0, .slice none 0 0])
  have HK := Lib.hid ((((Keeps.refl noBlk w).alloc (.cells #[.int .i64 x.way, .int .i64 x.ver, .int .i64 x.want, .slice A1 x.sent.length c1, .slice A2 x.live.length c2, .slice A3 x.back.length c3, .slice A4 x.got.length c4] 39)).alloc (.cells #[.int .i64 y.way, .int .i64 y.ver, .int .i64 y.want, .slice B1 y.sent.length d1, .slice B2 y.live.length d2, .slice B3 y.back.length d3, .slice B4 y.got.length d4] 39)).alloc (.cells #[.int .i64 0, .int .i64 0, .int .i64 0, .slice none 0 0, .slice none 0 0, .slice none 0 0, .slice none 0 0] 39))
  have hz0 : w.heap.size + 3 ≤ (((w.alloc (.cells #[.int .i64 x.way, .int .i64 x.ver, .int .i64 x.want, .slice A1 x.sent.length c1, .slice A2 x.live.length c2, .slice A3 x.back.length c3, .slice A4 x.got.length c4] 39)).alloc (.cells #[.int .i64 y.way, .int .i64 y.ver, .int .i64 y.want, .slice B1 y.sent.length d1, .slice B2 y.live.length d2, .slice B3 y.back.length d3, .slice B4 y.got.length d4] 39)).alloc (.cells #[.int .i64 0, .int .i64 0, .int .i64 0, .slice none 0 0, .slice none 0 0, .slice none 0 0, .slice none 0 0] 39)).heap.size := by simp
  have HV := Lib.hid (stB_parts (show stB x = true by simp only [wmayB, Bool.and_eq_true] at hm; exact hm.1.1)).2.1
  have HN8 := Lib.hid (show x.sent.length ≤ 1048576 ∧ x.live.length ≤ 1048576 ∧ x.back.length ≤ 1048576 ∧ x.got.length ≤ 1048576 by
    have k := stB_ok (show stB x = true by simp only [wmayB, Bool.and_eq_true] at hm; exact hm.1.1)
    have := k.2.1.small
    have := k.2.2.1.1
    have := k.2.2.1.2.1
    have := k.2.2.2.1
    exact ⟨by omega, by omega, by omega, by omega⟩)
  clear hx hy ht
  have HE := Lib.hid (show doSt x y 2 = ⟨2, x.ver, x.want, x.sent, x.live, x.back, x.got⟩ by simp [doSt])
  have HM := Lib.hid (fun W h h' hT => (show Calls Tryz.prog 95 #[stV x A1 A2 A3 A4 c1 c2 c3 c4, stV y B1 B2 B3 B4 d1 d2 d3 d4, .int .i64 2] W (fun e w' => e = .returned (.bool true) ∧ Keeps noBlk W w') from by rw [← hm]; exact implMay_any x y A1 A2 A3 A4 B1 B2 B3 B4 c1 c2 c3 c4 d1 d2 d3 d4 2 W h h' hT))
  have HCO := Lib.hid (fun W h => implCopy_any x A1 A2 A3 A4 c1 c2 c3 c4 W h HN8.out.1 HN8.out.2.1 HN8.out.2.2.1 HN8.out.2.2.2)
  have HDO := Lib.hid (fun W P1 P2 P3 P4 e1 e2 e3 e4 => impl_tried x P1 P2 P3 P4 e1 e2 e3 e4 W HV.out)
  clear hm
  unfold stV at HM HCO HDO ⊢
  go_enter Tryz.func69, Tryz.ntmps69
  go_wp2_with fail
  refine (impl_stepAt_2 _).mono ?_
  rintro e w1 ⟨rfl, hk1⟩
  have hx := HBx.out.keeps hk1 (fun h => h)
  clear HBx
  have HBx := Lib.hid hx
  clear hx
  have hy := HBy.out.keeps hk1 (fun h => h)
  clear HBy
  have HBy := Lib.hid hy
  clear hy
  have hz := HBz.out.keeps hk1 (fun h => h)
  clear HBz
  have HBz := Lib.hid hz
  clear hz
  have hr := HK.out.trans hk1
  clear HK
  have HK := Lib.hid hr
  clear hr
  have sz1 := hk1.size
  (try simp at sz1)
  clear hk1
  have hb := HBx.out
  have x0 := hb.cell 0
  have x1 := hb.cell 1
  have x2 := hb.cell 2
  have x3 := hb.cell 3
  have x4 := hb.cell 4
  have x5 := hb.cell 5
  have x6 := hb.cell 6
  simp at x0 x1 x2 x3 x4 x5 x6
  have zx := hb.lt
  clear hb
  have hb := HBy.out
  have y0 := hb.cell 0
  have y1 := hb.cell 1
  have y2 := hb.cell 2
  have y3 := hb.cell 3
  have y4 := hb.cell 4
  have y5 := hb.cell 5
  have y6 := hb.cell 6
  simp at y0 y1 y2 y3 y4 y5 y6
  have zy := hb.lt
  clear hb
  have hx := HBx.out.alloc (.cells #[.func (.func 114) #[] #[], .func (.func 115) #[] #[]] 124)
  clear HBx
  have HBx := Lib.hid hx
  clear hx
  have hy := HBy.out.alloc (.cells #[.func (.func 114) #[] #[], .func (.func 115) #[] #[]] 124)
  clear HBy
  have HBy := Lib.hid hy
  clear hy
  have hz := HBz.out.alloc (.cells #[.func (.func 114) #[] #[], .func (.func 115) #[] #[]] 124)
  clear HBz
  have HBz := Lib.hid hz
  clear hz
  have hr := HK.out.alloc (.cells #[.func (.func 114) #[] #[], .func (.func 115) #[] #[]] 124)
  clear HK
  have HK := Lib.hid hr
  clear hr
  have HBr := Lib.hid (Box.new w1 _ rfl 124 #[.func (.func 114) #[] #[], .func (.func 115) #[] #[]])
  go_wp2_with fail
  refine (HM.out _ (HX.out.kept HK.out) (HY.out.kept HK.out) (HT.out.keeps HK.out)).mono ?_
  rintro e w2 ⟨rfl, hk2⟩
  clear x0 x1 x2 x3 x4 x5 x6 y0 y1 y2 y3 y4 y5 y6 zx zy
  have hx := HBx.out.keeps hk2 (fun h => h)
  clear HBx
  have HBx := Lib.hid hx
  clear hx
  have hy := HBy.out.keeps hk2 (fun h => h)
  clear HBy
  have HBy := Lib.hid hy
  clear hy
  have hz := HBz.out.keeps hk2 (fun h => h)
  clear HBz
  have HBz := Lib.hid hz
  clear hz
  have hr := HBr.out.keeps hk2 (fun h => h)
  clear HBr
  have HBr := Lib.hid hr
  clear hr
  have hr := HK.out.trans hk2
  clear HK
  have HK := Lib.hid hr
  clear hr
  have sz2 := hk2.size
  (try simp at sz2)
  clear hk2
  have hb := HBx.out
  have x0 := hb.cell 0
  have x1 := hb.cell 1
  have x2 := hb.cell 2
  have x3 := hb.cell 3
  have x4 := hb.cell 4
  have x5 := hb.cell 5
  have x6 := hb.cell 6
  simp at x0 x1 x2 x3 x4 x5 x6
  have zx := hb.lt
  clear hb
  have hb := HBr.out
  have r0 := hb.cell 0
  have r1 := hb.cell 1
  simp at r0 r1
  have zr := hb.lt
  clear hb
  have : ¬ w1.heap.size = w.heap.size + 1 + 1 := by omega
  have : ¬ w.heap.size + 1 + 1 = w1.heap.size := by omega
  have : ¬ w.heap.size = w.heap.size + 1 + 1 := by omega
  have : ¬ w.heap.size + 1 + 1 = w.heap.size := by omega
  go_wp2_with fail
  go_region_held3 (fun w' => w'.cell? ⟨w.heap.size, 0, none⟩ = some (.int .i64 x.way) ∧ w'.cell? ⟨w.heap.size, 1, none⟩ = some (.int .i64 x.ver) ∧ w'.cell? ⟨w.heap.size, 2, none⟩ = some (.int .i64 x.want) ∧ w'.cell? ⟨w.heap.size, 3, none⟩ = some (.slice A1 x.sent.length c1) ∧ w'.cell? ⟨w.heap.size, 4, none⟩ = some (.slice A2 x.live.length c2) ∧ w'.cell? ⟨w.heap.size, 5, none⟩ = some (.slice A3 x.back.length c3) ∧ w'.cell? ⟨w.heap.size, 6, none⟩ = some (.slice A4 x.got.length c4) ∧ w'.cell? ⟨w1.heap.size, 0, none⟩ = some (.func (.func 114) #[] #[]) ∧ w'.cell? ⟨w1.heap.size, 1, none⟩ = some (.func (.func 115) #[] #[]))
    (((try dsimp only); (repeat' apply And.intro) <;> (first | with_reducible assumption | (go_keep; done))))
    (first | (go_at_call 82; refine (HCO.out _ (HX.out.kept (HK.out.drewN 1))).mono ?_; rintro e w3 ⟨⟨xx, P1, P2, P3, P4, e1, e2, e3, e4⟩, rfl, hxx, hk3, hst, hso⟩; have hq := ((Keeps.refl noBlk w2).drewN 1).trans hk3; clear hk3; have hk3 := hq; clear hq; dsimp only at hxx; replace hxx := hxx.symm; subst hxx; unfold StM.val; have HST := Lib.hid hst; have HSO := Lib.hid hso; clear hst hso; clear x0 x1 x2 x3 x4 x5 x6 r0 r1 zx zr; have hx := HBx.out.keeps hk3 (fun h => h); clear HBx; have HBx := Lib.hid hx; clear hx; have hy := HBy.out.keeps hk3 (fun h => h); clear HBy; have HBy := Lib.hid hy; clear hy; have hz := HBz.out.keeps hk3 (fun h => h); clear HBz; have HBz := Lib.hid hz; clear hz; have hr := HBr.out.keeps hk3 (fun h => h); clear HBr; have HBr := Lib.hid hr; clear hr; have hr := HK.out.trans hk3; clear HK; have HK := Lib.hid hr; clear hr; have sz3 := hk3.size; (try simp at sz3); clear hk3; have hb := HBx.out; have x0 := hb.cell 0; have x1 := hb.cell 1; have x2 := hb.cell 2; have x3 := hb.cell 3; have x4 := hb.cell 4; have x5 := hb.cell 5; have x6 := hb.cell 6; simp at x0 x1 x2 x3 x4 x5 x6; have zx := hb.lt; clear hb; have hb := HBr.out; have r0 := hb.cell 0; have r1 := hb.cell 1; simp at r0 r1; have zr := hb.lt; clear hb; have hb := HBz.out; have z0 := hb.cell 0; have z1 := hb.cell 1; have z2 := hb.cell 2; have z3 := hb.cell 3; have z4 := hb.cell 4; have z5 := hb.cell 5; have z6 := hb.cell 6; simp at z0 z1 z2 z3 z4 z5 z6; have zz := hb.lt; clear hb) | (go_at_call 115; refine (HDO.out _ P1 P2 P3 P4 e1 e2 e3 e4).mono ?_; rintro e w4 ⟨rfl, hk4⟩; have HK4 := Lib.hid hk4; clear x0 x1 x2 x3 x4 x5 x6 r0 r1 z0 z1 z2 z3 z4 z5 z6 zx zr zz; have hx := HBx.out.keeps hk4 (fun h => h); clear HBx; have HBx := Lib.hid hx; clear hx; have hy := HBy.out.keeps hk4 (fun h => h); clear HBy; have HBy := Lib.hid hy; clear hy; have hz := HBz.out.keeps hk4 (fun h => h); clear HBz; have HBz := Lib.hid hz; clear hz; have hr := HBr.out.keeps hk4 (fun h => h); clear HBr; have HBr := Lib.hid hr; clear hr; have hr := HK.out.trans hk4; clear HK; have HK := Lib.hid hr; clear hr; have sz4 := hk4.size; (try simp at sz4); clear hk4; have hb := HBx.out; have x0 := hb.cell 0; have x1 := hb.cell 1; have x2 := hb.cell 2; have x3 := hb.cell 3; have x4 := hb.cell 4; have x5 := hb.cell 5; have x6 := hb.cell 6; simp at x0 x1 x2 x3 x4 x5 x6; have zx := hb.lt; clear hb; have hb := HBr.out; have r0 := hb.cell 0; have r1 := hb.cell 1; simp at r0 r1; have zr := hb.lt; clear hb; have hb := HBz.out; have z0 := hb.cell 0; have z1 := hb.cell 1; have z2 := hb.cell 2; have z3 := hb.cell 3; have z4 := hb.cell 4; have z5 := hb.cell 5; have z6 := hb.cell 6; simp at z0 z1 z2 z3 z4 z5 z6; have zz := hb.lt; clear hb; have hb := HBz.out; have zf0 := hb.frozen 0; have zf1 := hb.frozen 1; have zf2 := hb.frozen 2; have zf3 := hb.frozen 3; have zf4 := hb.frozen 4; have zf5 := hb.frozen 5; have zf6 := hb.frozen 6; clear hb))
  go_wp2
  refine bodyPost_ret (v := .tuple #[.agg #[.int .i64 (2), .int .i64 (x.ver), .int .i64 (x.want), .slice P1 x.sent.length e1, .slice P2 x.live.length e2, .slice P3 x.back.length e3, .slice P4 x.got.length e4], .bool true]) (by simp [results, Tryz.results69, go_sem, *]) rfl ?_
  exact ⟨⟨⟨2, x.ver, x.want, x.sent, x.live, x.back, x.got⟩, P1, P2, P3, P4, e1, e2, e3, e4⟩, rfl, HE.out.symm, (((((((HK.out).new (g := w.heap.size + 1 + 1) (by omega) _ _).new (g := w.heap.size + 1 + 1) (by omega) _ _).new (g := w.heap.size + 1 + 1) (by omega) _ _).new (g := w.heap.size + 1 + 1) (by omega) _ _).new (g := w.heap.size + 1 + 1) (by omega) _ _).new (g := w.heap.size + 1 + 1) (by omega) _ _).new (g := w.heap.size + 1 + 1) (by omega) _ _, do_end (w := w) (w2 := w2) (s := ⟨⟨2, x.ver, x.want, x.sent, x.live, x.back, x.got⟩, P1, P2, P3, P4, e1, e2, e3, e4⟩) HST.out HK4.out (((((((((Keeps.refl (fun b => w.heap.size ≤ b ∧ b < w2.heap.size) w4)).setCell (p := ⟨w.heap.size + 1 + 1, 0, none⟩) (.inr ⟨by dsimp only; omega, by dsimp only; omega⟩) _).setCell (p := ⟨w.heap.size + 1 + 1, 1, none⟩) (.inr ⟨by dsimp only; omega, by dsimp only; omega⟩) _).setCell (p := ⟨w.heap.size + 1 + 1, 2, none⟩) (.inr ⟨by dsimp only; omega, by dsimp only; omega⟩) _).setCell (p := ⟨w.heap.size + 1 + 1, 3, none⟩) (.inr ⟨by dsimp only; omega, by dsimp only; omega⟩) _).setCell (p := ⟨w.heap.size + 1 + 1, 4, none⟩) (.inr ⟨by dsimp only; omega, by dsimp only; omega⟩) _).setCell (p := ⟨w.heap.size + 1 + 1, 5, none⟩) (.inr ⟨by dsimp only; omega, by dsimp only; omega⟩) _).setCell (p := ⟨w.heap.size + 1 + 1, 6, none⟩) (.inr ⟨by dsimp only; omega, by dsimp only; omega⟩) _) (by omega), do_own (w := w) (w2 := w2) (x := ⟨2, x.ver, x.want, x.sent, x.live, x.back, x.got⟩) HSO.out HK4.out (((((((((Keeps.refl (fun b => w.heap.size ≤ b ∧ b < w2.heap.size) w4)).setCell (p := ⟨w.heap.size + 1 + 1, 0, none⟩) (.inr ⟨by dsimp only; omega, by dsimp only; omega⟩) _).setCell (p := ⟨w.heap.size + 1 + 1, 1, none⟩) (.inr ⟨by dsimp only; omega, by dsimp only; omega⟩) _).setCell (p := ⟨w.heap.size + 1 + 1, 2, none⟩) (.inr ⟨by dsimp only; omega, by dsimp only; omega⟩) _).setCell (p := ⟨w.heap.size + 1 + 1, 3, none⟩) (.inr ⟨by dsimp only; omega, by dsimp only; omega⟩) _).setCell (p := ⟨w.heap.size + 1 + 1, 4, none⟩) (.inr ⟨by dsimp only; omega, by dsimp only; omega⟩) _).setCell (p := ⟨w.heap.size + 1 + 1, 5, none⟩) (.inr ⟨by dsimp only; omega, by dsimp only; omega⟩) _).setCell (p := ⟨w.heap.size + 1 + 1, 6, none⟩) (.inr ⟨by dsimp only; omega, by dsimp only; omega⟩) _) (by omega)⟩
set_option maxRecDepth 100000 in
set_option maxHeartbeats 4000000 in
theorem implDo_3 (x y : StL) (A1 A2 A3 A4 B1 B2 B3 B4 : Option Addr) (c1 c2 c3 c4 d1 d2 d3 d4 : Nat) (w : World) (hx : StAt w x A1 A2 A3 A4) (hy : StAt w y B1 B2 B3 B4) (ht : Tabs w) (hm : wmayB x y 3 = true) :
    Calls Tryz.prog 69 #[stV x A1 A2 A3 A4 c1 c2 c3 c4, stV y B1 B2 B3 B4 d1 d2 d3 d4, .int .i64 3] w (RetDoO w (doSt x y 3)) := by
  have HX := Lib.hid hx
  have HY := Lib.hid hy
  have HT := Lib.hid ht
  have HBx := Lib.hid (((Box.new w _ rfl 39 #[.int .i64 x.way, .int .i64 x.ver, .int .i64 x.want, .slice A1 x.sent.length c1, .slice A2 x.live.length c2, .slice A3 x.back.length c3, .slice A4 x.got.length c4]).alloc (.cells #[.int .i64 y.way, .int .i64 y.ver, .int .i64 y.want, .slice B1 y.sent.length d1, .slice B2 y.live.length d2, .slice B3 y.back.length d3, .slice B4 y.got.length d4] 39)).alloc (.cells #[.int .i64 0, .int .i64 0, .int .i64 0, .slice none 0 0, .slice none 0 0, .slice none 0 0, .slice none 0 0] 39))
  have HBy := Lib.hid ((Box.new (w.alloc (.cells #[.int .i64 x.way, .int .i64 x.ver, .int .i64 x.want, .slice A1 x.sent.length c1, .slice A2 x.live.length c2, .slice A3 x.back.length c3, .slice A4 x.got.length c4] 39)) (w.heap.size + 1) (by simp) 39 #[.int .i64 y.way, .int .i64 y.ver, .int .i64 y.want, .slice B1 y.sent.length d1, .slice B2 y.live.length d2, .slice B3 y.back.length d3, .slice B4 y.got.length d4]).alloc (.cells #[.int .i64 0, .int .i64 0, .int .i64 0, .slice none 0 0, .slice none 0 0, .slice none 0 0, .slice none 0 0] 39))
  have HBz := Lib.hid (Box.new ((w.alloc (.cells #[.int .i64 x.way, .int .i64 x.ver, .int .i64 x.want, .slice A1 x.sent.length c1, .slice A2 x.live.length c2, .slice A3 x.back.length c3, .slice A4 x.got.length c4] 39)).alloc (.cells #[.int .i64 y.way, .int .i64 y.ver, .int .i64 y.want, .slice B1 y.sent.length d1, .slice B2 y.live.length d2, .slice B3 y.back.length d3, .slice B4 y.got.length d4] 39)) (w.heap.size + 1 + 1) (by simp) 39 #[.int .i64 0, .int .i64 0, .int .i64 0, .slice none 0 0, .slice none 0 0, .slice none 0 0, .slice none 0 0])
  have HK := Lib.hid ((((Keeps.refl noBlk w).alloc (.cells #[.int .i64 x.way, .int .i64 x.ver, .int .i64 x.want, .slice A1 x.sent.length c1, .slice A2 x.live.length c2, .slice A3 x.back.length c3, .slice A4 x.got.length c4] 39)).alloc (.cells #[.int .i64 y.way, .int .i64 y.ver, .int .i64 y.want, .slice B1 y.sent.length d1, .slice B2 y.live.length d2, .slice B3 y.back.length d3, .slice B4 y.got.length d4] 39)).alloc (.cells #[.int .i64 0, .int .i64 0, .int .i64 0, .slice none 0 0, .slice none 0 0, .slice none 0 0, .slice none 0 0] 39))
  have hz0 : w.heap.size + 3 ≤ (((w.alloc (.cells #[.int .i64 x.way, .int .i64 x.ver, .int .i64 x.want, .slice A1 x.sent.length c1, .slice A2 x.live.length c2, .slice A3 x.back.length c3, .slice A4 x.got.length c4] 39)).alloc (.cells #[.int .i64 y.way, .int .i64 y.ver, .int .i64 y.want, .slice B1 y.sent.length d1, .slice B2 y.live.length d2, .slice B3 y.back.length d3, .slice B4 y.got.length d4] 39)).alloc (.cells #[.int .i64 0, .int .i64 0, .int .i64 0, .slice none 0 0, .slice none 0 0, .slice none 0 0, .slice none 0 0] 39)).heap.size := by simp
  have HV := Lib.hid (stB_parts (show stB x = true by simp only [wmayB, Bool.and_eq_true] at hm; exact hm.1.1)).2.1
  have HN8 := Lib.hid (show x.sent.length ≤ 1048576 ∧ x.live.length ≤ 1048576 ∧ x.back.length ≤ 1048576 ∧ x.got.length ≤ 1048576 by
    have k := stB_ok (show stB x = true by simp only [wmayB, Bool.and_eq_true] at hm; exact hm.1.1)
    have := k.2.1.small
    have := k.2.2.1.1
    have := k.2.2.1.2.1
    have := k.2.2.2.1
    exact ⟨by omega, by omega, by omega, by omega⟩)
  clear hx hy ht
  have HE := Lib.hid (show doSt x y 3 = ⟨3, x.ver, x.want, x.sent, x.live, x.back, x.got⟩ by simp [doSt])
  have HM := Lib.hid (fun W h h' hT => (show Calls Tryz.prog 95 #[stV x A1 A2 A3 A4 c1 c2 c3 c4, stV y B1 B2 B3 B4 d1 d2 d3 d4, .int .i64 3] W (fun e w' => e = .returned (.bool true) ∧ Keeps noBlk W w') from by rw [← hm]; exact implMay_any x y A1 A2 A3 A4 B1 B2 B3 B4 c1 c2 c3 c4 d1 d2 d3 d4 3 W h h' hT))
  have HCO := Lib.hid (fun W h => implCopy_any x A1 A2 A3 A4 c1 c2 c3 c4 W h HN8.out.1 HN8.out.2.1 HN8.out.2.2.1 HN8.out.2.2.2)
  have HDO := Lib.hid (fun W P1 P2 P3 P4 e1 e2 e3 e4 => impl_opened x P1 P2 P3 P4 e1 e2 e3 e4 W HV.out)
  clear hm
  unfold stV at HM HCO HDO ⊢
  go_enter Tryz.func69, Tryz.ntmps69
  go_wp2_with fail
  refine (impl_stepAt_3 _).mono ?_
  rintro e w1 ⟨rfl, hk1⟩
  have hx := HBx.out.keeps hk1 (fun h => h)
  clear HBx
  have HBx := Lib.hid hx
  clear hx
  have hy := HBy.out.keeps hk1 (fun h => h)
  clear HBy
  have HBy := Lib.hid hy
  clear hy
  have hz := HBz.out.keeps hk1 (fun h => h)
  clear HBz
  have HBz := Lib.hid hz
  clear hz
  have hr := HK.out.trans hk1
  clear HK
  have HK := Lib.hid hr
  clear hr
  have sz1 := hk1.size
  (try simp at sz1)
  clear hk1
  have hb := HBx.out
  have x0 := hb.cell 0
  have x1 := hb.cell 1
  have x2 := hb.cell 2
  have x3 := hb.cell 3
  have x4 := hb.cell 4
  have x5 := hb.cell 5
  have x6 := hb.cell 6
  simp at x0 x1 x2 x3 x4 x5 x6
  have zx := hb.lt
  clear hb
  have hb := HBy.out
  have y0 := hb.cell 0
  have y1 := hb.cell 1
  have y2 := hb.cell 2
  have y3 := hb.cell 3
  have y4 := hb.cell 4
  have y5 := hb.cell 5
  have y6 := hb.cell 6
  simp at y0 y1 y2 y3 y4 y5 y6
  have zy := hb.lt
  clear hb
  have hx := HBx.out.alloc (.cells #[.func (.func 116) #[] #[], .func (.func 117) #[] #[]] 124)
  clear HBx
  have HBx := Lib.hid hx
  clear hx
  have hy := HBy.out.alloc (.cells #[.func (.func 116) #[] #[], .func (.func 117) #[] #[]] 124)
  clear HBy
  have HBy := Lib.hid hy
  clear hy
  have hz := HBz.out.alloc (.cells #[.func (.func 116) #[] #[], .func (.func 117) #[] #[]] 124)
  clear HBz
  have HBz := Lib.hid hz
  clear hz
  have hr := HK.out.alloc (.cells #[.func (.func 116) #[] #[], .func (.func 117) #[] #[]] 124)
  clear HK
  have HK := Lib.hid hr
  clear hr
  have HBr := Lib.hid (Box.new w1 _ rfl 124 #[.func (.func 116) #[] #[], .func (.func 117) #[] #[]])
  go_wp2_with fail
  refine (HM.out _ (HX.out.kept HK.out) (HY.out.kept HK.out) (HT.out.keeps HK.out)).mono ?_
  rintro e w2 ⟨rfl, hk2⟩
  clear x0 x1 x2 x3 x4 x5 x6 y0 y1 y2 y3 y4 y5 y6 zx zy
  have hx := HBx.out.keeps hk2 (fun h => h)
  clear HBx
  have HBx := Lib.hid hx
  clear hx
  have hy := HBy.out.keeps hk2 (fun h => h)
  clear HBy
  have HBy := Lib.hid hy
  clear hy
  have hz := HBz.out.keeps hk2 (fun h => h)
  clear HBz
  have HBz := Lib.hid hz
  clear hz
  have hr := HBr.out.keeps hk2 (fun h => h)
  clear HBr
  have HBr := Lib.hid hr
  clear hr
  have hr := HK.out.trans hk2
  clear HK
  have HK := Lib.hid hr
  clear hr
  have sz2 := hk2.size
  (try simp at sz2)
  clear hk2
  have hb := HBx.out
  have x0 := hb.cell 0
  have x1 := hb.cell 1
  have x2 := hb.cell 2
  have x3 := hb.cell 3
  have x4 := hb.cell 4
  have x5 := hb.cell 5
  have x6 := hb.cell 6
  simp at x0 x1 x2 x3 x4 x5 x6
  have zx := hb.lt
  clear hb
  have hb := HBr.out
  have r0 := hb.cell 0
  have r1 := hb.cell 1
  simp at r0 r1
  have zr := hb.lt
  clear hb
  have : ¬ w1.heap.size = w.heap.size + 1 + 1 := by omega
  have : ¬ w.heap.size + 1 + 1 = w1.heap.size := by omega
  have : ¬ w.heap.size = w.heap.size + 1 + 1 := by omega
  have : ¬ w.heap.size + 1 + 1 = w.heap.size := by omega
  go_wp2_with fail
  go_region_held3 (fun w' => w'.cell? ⟨w.heap.size, 0, none⟩ = some (.int .i64 x.way) ∧ w'.cell? ⟨w.heap.size, 1, none⟩ = some (.int .i64 x.ver) ∧ w'.cell? ⟨w.heap.size, 2, none⟩ = some (.int .i64 x.want) ∧ w'.cell? ⟨w.heap.size, 3, none⟩ = some (.slice A1 x.sent.length c1) ∧ w'.cell? ⟨w.heap.size, 4, none⟩ = some (.slice A2 x.live.length c2) ∧ w'.cell? ⟨w.heap.size, 5, none⟩ = some (.slice A3 x.back.length c3) ∧ w'.cell? ⟨w.heap.size, 6, none⟩ = some (.slice A4 x.got.length c4) ∧ w'.cell? ⟨w1.heap.size, 0, none⟩ = some (.func (.func 116) #[] #[]) ∧ w'.cell? ⟨w1.heap.size, 1, none⟩ = some (.func (.func 117) #[] #[]))
    (((try dsimp only); (repeat' apply And.intro) <;> (first | with_reducible assumption | (go_keep; done))))
    (first | (go_at_call 82; refine (HCO.out _ (HX.out.kept (HK.out.drewN 1))).mono ?_; rintro e w3 ⟨⟨xx, P1, P2, P3, P4, e1, e2, e3, e4⟩, rfl, hxx, hk3, hst, hso⟩; have hq := ((Keeps.refl noBlk w2).drewN 1).trans hk3; clear hk3; have hk3 := hq; clear hq; dsimp only at hxx; replace hxx := hxx.symm; subst hxx; unfold StM.val; have HST := Lib.hid hst; have HSO := Lib.hid hso; clear hst hso; clear x0 x1 x2 x3 x4 x5 x6 r0 r1 zx zr; have hx := HBx.out.keeps hk3 (fun h => h); clear HBx; have HBx := Lib.hid hx; clear hx; have hy := HBy.out.keeps hk3 (fun h => h); clear HBy; have HBy := Lib.hid hy; clear hy; have hz := HBz.out.keeps hk3 (fun h => h); clear HBz; have HBz := Lib.hid hz; clear hz; have hr := HBr.out.keeps hk3 (fun h => h); clear HBr; have HBr := Lib.hid hr; clear hr; have hr := HK.out.trans hk3; clear HK; have HK := Lib.hid hr; clear hr; have sz3 := hk3.size; (try simp at sz3); clear hk3; have hb := HBx.out; have x0 := hb.cell 0; have x1 := hb.cell 1; have x2 := hb.cell 2; have x3 := hb.cell 3; have x4 := hb.cell 4; have x5 := hb.cell 5; have x6 := hb.cell 6; simp at x0 x1 x2 x3 x4 x5 x6; have zx := hb.lt; clear hb; have hb := HBr.out; have r0 := hb.cell 0; have r1 := hb.cell 1; simp at r0 r1; have zr := hb.lt; clear hb; have hb := HBz.out; have z0 := hb.cell 0; have z1 := hb.cell 1; have z2 := hb.cell 2; have z3 := hb.cell 3; have z4 := hb.cell 4; have z5 := hb.cell 5; have z6 := hb.cell 6; simp at z0 z1 z2 z3 z4 z5 z6; have zz := hb.lt; clear hb) | (go_at_call 117; refine (HDO.out _ P1 P2 P3 P4 e1 e2 e3 e4).mono ?_; rintro e w4 ⟨rfl, hk4⟩; have HK4 := Lib.hid hk4; clear x0 x1 x2 x3 x4 x5 x6 r0 r1 z0 z1 z2 z3 z4 z5 z6 zx zr zz; have hx := HBx.out.keeps hk4 (fun h => h); clear HBx; have HBx := Lib.hid hx; clear hx; have hy := HBy.out.keeps hk4 (fun h => h); clear HBy; have HBy := Lib.hid hy; clear hy; have hz := HBz.out.keeps hk4 (fun h => h); clear HBz; have HBz := Lib.hid hz; clear hz; have hr := HBr.out.keeps hk4 (fun h => h); clear HBr; have HBr := Lib.hid hr; clear hr; have hr := HK.out.trans hk4; clear HK; have HK := Lib.hid hr; clear hr; have sz4 := hk4.size; (try simp at sz4); clear hk4; have hb := HBx.out; have x0 := hb.cell 0; have x1 := hb.cell 1; have x2 := hb.cell 2; have x3 := hb.cell 3; have x4 := hb.cell 4; have x5 := hb.cell 5; have x6 := hb.cell 6; simp at x0 x1 x2 x3 x4 x5 x6; have zx := hb.lt; clear hb; have hb := HBr.out; have r0 := hb.cell 0; have r1 := hb.cell 1; simp at r0 r1; have zr := hb.lt; clear hb; have hb := HBz.out; have z0 := hb.cell 0; have z1 := hb.cell 1; have z2 := hb.cell 2; have z3 := hb.cell 3; have z4 := hb.cell 4; have z5 := hb.cell 5; have z6 := hb.cell 6; simp at z0 z1 z2 z3 z4 z5 z6; have zz := hb.lt; clear hb; have hb := HBz.out; have zf0 := hb.frozen 0; have zf1 := hb.frozen 1; have zf2 := hb.frozen 2; have zf3 := hb.frozen 3; have zf4 := hb.frozen 4; have zf5 := hb.frozen 5; have zf6 := hb.frozen 6; clear hb))
  go_wp2
  refine bodyPost_ret (v := .tuple #[.agg #[.int .i64 (3), .int .i64 (x.ver), .int .i64 (x.want), .slice P1 x.sent.length e1, .slice P2 x.live.length e2, .slice P3 x.back.length e3, .slice P4 x.got.length e4], .bool true]) (by simp [results, Tryz.results69, go_sem, *]) rfl ?_
  exact ⟨⟨⟨3, x.ver, x.want, x.sent, x.live, x.back, x.got⟩, P1, P2, P3, P4, e1, e2, e3, e4⟩, rfl, HE.out.symm, (((((((HK.out).new (g := w.heap.size + 1 + 1) (by omega) _ _).new (g := w.heap.size + 1 + 1) (by omega) _ _).new (g := w.heap.size + 1 + 1) (by omega) _ _).new (g := w.heap.size + 1 + 1) (by omega) _ _).new (g := w.heap.size + 1 + 1) (by omega) _ _).new (g := w.heap.size + 1 + 1) (by omega) _ _).new (g := w.heap.size + 1 + 1) (by omega) _ _, do_end (w := w) (w2 := w2) (s := ⟨⟨3, x.ver, x.want, x.sent, x.live, x.back, x.got⟩, P1, P2, P3, P4, e1, e2, e3, e4⟩) HST.out HK4.out (((((((((Keeps.refl (fun b => w.heap.size ≤ b ∧ b < w2.heap.size) w4)).setCell (p := ⟨w.heap.size + 1 + 1, 0, none⟩) (.inr ⟨by dsimp only; omega, by dsimp only; omega⟩) _).setCell (p := ⟨w.heap.size + 1 + 1, 1, none⟩) (.inr ⟨by dsimp only; omega, by dsimp only; omega⟩) _).setCell (p := ⟨w.heap.size + 1 + 1, 2, none⟩) (.inr ⟨by dsimp only; omega, by dsimp only; omega⟩) _).setCell (p := ⟨w.heap.size + 1 + 1, 3, none⟩) (.inr ⟨by dsimp only; omega, by dsimp only; omega⟩) _).setCell (p := ⟨w.heap.size + 1 + 1, 4, none⟩) (.inr ⟨by dsimp only; omega, by dsimp only; omega⟩) _).setCell (p := ⟨w.heap.size + 1 + 1, 5, none⟩) (.inr ⟨by dsimp only; omega, by dsimp only; omega⟩) _).setCell (p := ⟨w.heap.size + 1 + 1, 6, none⟩) (.inr ⟨by dsimp only; omega, by dsimp only; omega⟩) _) (by omega), do_own (w := w) (w2 := w2) (x := ⟨3, x.ver, x.want, x.sent, x.live, x.back, x.got⟩) HSO.out HK4.out (((((((((Keeps.refl (fun b => w.heap.size ≤ b ∧ b < w2.heap.size) w4)).setCell (p := ⟨w.heap.size + 1 + 1, 0, none⟩) (.inr ⟨by dsimp only; omega, by dsimp only; omega⟩) _).setCell (p := ⟨w.heap.size + 1 + 1, 1, none⟩) (.inr ⟨by dsimp only; omega, by dsimp only; omega⟩) _).setCell (p := ⟨w.heap.size + 1 + 1, 2, none⟩) (.inr ⟨by dsimp only; omega, by dsimp only; omega⟩) _).setCell (p := ⟨w.heap.size + 1 + 1, 3, none⟩) (.inr ⟨by dsimp only; omega, by dsimp only; omega⟩) _).setCell (p := ⟨w.heap.size + 1 + 1, 4, none⟩) (.inr ⟨by dsimp only; omega, by dsimp only; omega⟩) _).setCell (p := ⟨w.heap.size + 1 + 1, 5, none⟩) (.inr ⟨by dsimp only; omega, by dsimp only; omega⟩) _).setCell (p := ⟨w.heap.size + 1 + 1, 6, none⟩) (.inr ⟨by dsimp only; omega, by dsimp only; omega⟩) _) (by omega)⟩
set_option maxRecDepth 100000 in
set_option maxHeartbeats 4000000 in
theorem implDo_4 (x y : StL) (A1 A2 A3 A4 B1 B2 B3 B4 : Option Addr) (c1 c2 c3 c4 d1 d2 d3 d4 : Nat) (w : World) (hx : StAt w x A1 A2 A3 A4) (hy : StAt w y B1 B2 B3 B4) (ht : Tabs w) (hm : wmayB x y 4 = true) :
    Calls Tryz.prog 69 #[stV x A1 A2 A3 A4 c1 c2 c3 c4, stV y B1 B2 B3 B4 d1 d2 d3 d4, .int .i64 4] w (RetDoO w (doSt x y 4)) := by
  have HX := Lib.hid hx
  have HY := Lib.hid hy
  have HT := Lib.hid ht
  have HBx := Lib.hid (((Box.new w _ rfl 39 #[.int .i64 x.way, .int .i64 x.ver, .int .i64 x.want, .slice A1 x.sent.length c1, .slice A2 x.live.length c2, .slice A3 x.back.length c3, .slice A4 x.got.length c4]).alloc (.cells #[.int .i64 y.way, .int .i64 y.ver, .int .i64 y.want, .slice B1 y.sent.length d1, .slice B2 y.live.length d2, .slice B3 y.back.length d3, .slice B4 y.got.length d4] 39)).alloc (.cells #[.int .i64 0, .int .i64 0, .int .i64 0, .slice none 0 0, .slice none 0 0, .slice none 0 0, .slice none 0 0] 39))
  have HBy := Lib.hid ((Box.new (w.alloc (.cells #[.int .i64 x.way, .int .i64 x.ver, .int .i64 x.want, .slice A1 x.sent.length c1, .slice A2 x.live.length c2, .slice A3 x.back.length c3, .slice A4 x.got.length c4] 39)) (w.heap.size + 1) (by simp) 39 #[.int .i64 y.way, .int .i64 y.ver, .int .i64 y.want, .slice B1 y.sent.length d1, .slice B2 y.live.length d2, .slice B3 y.back.length d3, .slice B4 y.got.length d4]).alloc (.cells #[.int .i64 0, .int .i64 0, .int .i64 0, .slice none 0 0, .slice none 0 0, .slice none 0 0, .slice none 0 0] 39))
  have HBz := Lib.hid (Box.new ((w.alloc (.cells #[.int .i64 x.way, .int .i64 x.ver, .int .i64 x.want, .slice A1 x.sent.length c1, .slice A2 x.live.length c2, .slice A3 x.back.length c3, .slice A4 x.got.length c4] 39)).alloc (.cells #[.int .i64 y.way, .int .i64 y.ver, .int .i64 y.want, .slice B1 y.sent.length d1, .slice B2 y.live.length d2, .slice B3 y.back.length d3, .slice B4 y.got.length d4] 39)) (w.heap.size + 1 + 1) (by simp) 39 #[.int .i64 0, .int .i64 0, .int .i64 0, .slice none 0 0, .slice none 0 0, .slice none 0 0, .slice none 0 0])
  have HK := Lib.hid ((((Keeps.refl noBlk w).alloc (.cells #[.int .i64 x.way, .int .i64 x.ver, .int .i64 x.want, .slice A1 x.sent.length c1, .slice A2 x.live.length c2, .slice A3 x.back.length c3, .slice A4 x.got.length c4] 39)).alloc (.cells #[.int .i64 y.way, .int .i64 y.ver, .int .i64 y.want, .slice B1 y.sent.length d1, .slice B2 y.live.length d2, .slice B3 y.back.length d3, .slice B4 y.got.length d4] 39)).alloc (.cells #[.int .i64 0, .int .i64 0, .int .i64 0, .slice none 0 0, .slice none 0 0, .slice none 0 0, .slice none 0 0] 39))
  have hz0 : w.heap.size + 3 ≤ (((w.alloc (.cells #[.int .i64 x.way, .int .i64 x.ver, .int .i64 x.want, .slice A1 x.sent.length c1, .slice A2 x.live.length c2, .slice A3 x.back.length c3, .slice A4 x.got.length c4] 39)).alloc (.cells #[.int .i64 y.way, .int .i64 y.ver, .int .i64 y.want, .slice B1 y.sent.length d1, .slice B2 y.live.length d2, .slice B3 y.back.length d3, .slice B4 y.got.length d4] 39)).alloc (.cells #[.int .i64 0, .int .i64 0, .int .i64 0, .slice none 0 0, .slice none 0 0, .slice none 0 0, .slice none 0 0] 39)).heap.size := by simp
  have HV := Lib.hid (stB_parts (show stB x = true by simp only [wmayB, Bool.and_eq_true] at hm; exact hm.1.1)).2.1
  have HN8 := Lib.hid (show x.sent.length ≤ 1048576 ∧ x.live.length ≤ 1048576 ∧ x.back.length ≤ 1048576 ∧ x.got.length ≤ 1048576 by
    have k := stB_ok (show stB x = true by simp only [wmayB, Bool.and_eq_true] at hm; exact hm.1.1)
    have := k.2.1.small
    have := k.2.2.1.1
    have := k.2.2.1.2.1
    have := k.2.2.2.1
    exact ⟨by omega, by omega, by omega, by omega⟩)
  clear hx hy ht
  have HE := Lib.hid (show doSt x y 4 = ⟨3, x.ver, x.want, x.sent, x.live, x.back, x.got⟩ by simp [doSt])
  have HM := Lib.hid (fun W h h' hT => (show Calls Tryz.prog 95 #[stV x A1 A2 A3 A4 c1 c2 c3 c4, stV y B1 B2 B3 B4 d1 d2 d3 d4, .int .i64 4] W (fun e w' => e = .returned (.bool true) ∧ Keeps noBlk W w') from by rw [← hm]; exact implMay_any x y A1 A2 A3 A4 B1 B2 B3 B4 c1 c2 c3 c4 d1 d2 d3 d4 4 W h h' hT))
  have HCO := Lib.hid (fun W h => implCopy_any x A1 A2 A3 A4 c1 c2 c3 c4 W h HN8.out.1 HN8.out.2.1 HN8.out.2.2.1 HN8.out.2.2.2)
  have HDO := Lib.hid (fun W P1 P2 P3 P4 e1 e2 e3 e4 => impl_opened x P1 P2 P3 P4 e1 e2 e3 e4 W HV.out)
  clear hm
  unfold stV at HM HCO HDO ⊢
  go_enter Tryz.func69, Tryz.ntmps69
  go_wp2_with fail
  refine (impl_stepAt_4 _).mono ?_
  rintro e w1 ⟨rfl, hk1⟩
  have hx := HBx.out.keeps hk1 (fun h => h)
  clear HBx
  have HBx := Lib.hid hx
  clear hx
  have hy := HBy.out.keeps hk1 (fun h => h)
  clear HBy
  have HBy := Lib.hid hy
  clear hy
  have hz := HBz.out.keeps hk1 (fun h => h)
  clear HBz
  have HBz := Lib.hid hz
  clear hz
  have hr := HK.out.trans hk1
  clear HK
  have HK := Lib.hid hr
  clear hr
  have sz1 := hk1.size
  (try simp at sz1)
  clear hk1
  have hb := HBx.out
  have x0 := hb.cell 0
  have x1 := hb.cell 1
  have x2 := hb.cell 2
  have x3 := hb.cell 3
  have x4 := hb.cell 4
  have x5 := hb.cell 5
  have x6 := hb.cell 6
  simp at x0 x1 x2 x3 x4 x5 x6
  have zx := hb.lt
  clear hb
  have hb := HBy.out
  have y0 := hb.cell 0
  have y1 := hb.cell 1
  have y2 := hb.cell 2
  have y3 := hb.cell 3
  have y4 := hb.cell 4
  have y5 := hb.cell 5
  have y6 := hb.cell 6
  simp at y0 y1 y2 y3 y4 y5 y6
  have zy := hb.lt
  clear hb
  have hx := HBx.out.alloc (.cells #[.func (.func 118) #[] #[], .func (.func 117) #[] #[]] 124)
  clear HBx
  have HBx := Lib.hid hx
  clear hx
  have hy := HBy.out.alloc (.cells #[.func (.func 118) #[] #[], .func (.func 117) #[] #[]] 124)
  clear HBy
  have HBy := Lib.hid hy
  clear hy
  have hz := HBz.out.alloc (.cells #[.func (.func 118) #[] #[], .func (.func 117) #[] #[]] 124)
  clear HBz
  have HBz := Lib.hid hz
  clear hz
  have hr := HK.out.alloc (.cells #[.func (.func 118) #[] #[], .func (.func 117) #[] #[]] 124)
  clear HK
  have HK := Lib.hid hr
  clear hr
  have HBr := Lib.hid (Box.new w1 _ rfl 124 #[.func (.func 118) #[] #[], .func (.func 117) #[] #[]])
  go_wp2_with fail
  refine (HM.out _ (HX.out.kept HK.out) (HY.out.kept HK.out) (HT.out.keeps HK.out)).mono ?_
  rintro e w2 ⟨rfl, hk2⟩
  clear x0 x1 x2 x3 x4 x5 x6 y0 y1 y2 y3 y4 y5 y6 zx zy
  have hx := HBx.out.keeps hk2 (fun h => h)
  clear HBx
  have HBx := Lib.hid hx
  clear hx
  have hy := HBy.out.keeps hk2 (fun h => h)
  clear HBy
  have HBy := Lib.hid hy
  clear hy
  have hz := HBz.out.keeps hk2 (fun h => h)
  clear HBz
  have HBz := Lib.hid hz
  clear hz
  have hr := HBr.out.keeps hk2 (fun h => h)
  clear HBr
  have HBr := Lib.hid hr
  clear hr
  have hr := HK.out.trans hk2
  clear HK
  have HK := Lib.hid hr
  clear hr
  have sz2 := hk2.size
  (try simp at sz2)
  clear hk2
  have hb := HBx.out
  have x0 := hb.cell 0
  have x1 := hb.cell 1
  have x2 := hb.cell 2
  have x3 := hb.cell 3
  have x4 := hb.cell 4
  have x5 := hb.cell 5
  have x6 := hb.cell 6
  simp at x0 x1 x2 x3 x4 x5 x6
  have zx := hb.lt
  clear hb
  have hb := HBr.out
  have r0 := hb.cell 0
  have r1 := hb.cell 1
  simp at r0 r1
  have zr := hb.lt
  clear hb
  have : ¬ w1.heap.size = w.heap.size + 1 + 1 := by omega
  have : ¬ w.heap.size + 1 + 1 = w1.heap.size := by omega
  have : ¬ w.heap.size = w.heap.size + 1 + 1 := by omega
  have : ¬ w.heap.size + 1 + 1 = w.heap.size := by omega
  go_wp2_with fail
  go_region_held3 (fun w' => w'.cell? ⟨w.heap.size, 0, none⟩ = some (.int .i64 x.way) ∧ w'.cell? ⟨w.heap.size, 1, none⟩ = some (.int .i64 x.ver) ∧ w'.cell? ⟨w.heap.size, 2, none⟩ = some (.int .i64 x.want) ∧ w'.cell? ⟨w.heap.size, 3, none⟩ = some (.slice A1 x.sent.length c1) ∧ w'.cell? ⟨w.heap.size, 4, none⟩ = some (.slice A2 x.live.length c2) ∧ w'.cell? ⟨w.heap.size, 5, none⟩ = some (.slice A3 x.back.length c3) ∧ w'.cell? ⟨w.heap.size, 6, none⟩ = some (.slice A4 x.got.length c4) ∧ w'.cell? ⟨w1.heap.size, 0, none⟩ = some (.func (.func 118) #[] #[]) ∧ w'.cell? ⟨w1.heap.size, 1, none⟩ = some (.func (.func 117) #[] #[]))
    (((try dsimp only); (repeat' apply And.intro) <;> (first | with_reducible assumption | (go_keep; done))))
    (first | (go_at_call 82; refine (HCO.out _ (HX.out.kept (HK.out.drewN 1))).mono ?_; rintro e w3 ⟨⟨xx, P1, P2, P3, P4, e1, e2, e3, e4⟩, rfl, hxx, hk3, hst, hso⟩; have hq := ((Keeps.refl noBlk w2).drewN 1).trans hk3; clear hk3; have hk3 := hq; clear hq; dsimp only at hxx; replace hxx := hxx.symm; subst hxx; unfold StM.val; have HST := Lib.hid hst; have HSO := Lib.hid hso; clear hst hso; clear x0 x1 x2 x3 x4 x5 x6 r0 r1 zx zr; have hx := HBx.out.keeps hk3 (fun h => h); clear HBx; have HBx := Lib.hid hx; clear hx; have hy := HBy.out.keeps hk3 (fun h => h); clear HBy; have HBy := Lib.hid hy; clear hy; have hz := HBz.out.keeps hk3 (fun h => h); clear HBz; have HBz := Lib.hid hz; clear hz; have hr := HBr.out.keeps hk3 (fun h => h); clear HBr; have HBr := Lib.hid hr; clear hr; have hr := HK.out.trans hk3; clear HK; have HK := Lib.hid hr; clear hr; have sz3 := hk3.size; (try simp at sz3); clear hk3; have hb := HBx.out; have x0 := hb.cell 0; have x1 := hb.cell 1; have x2 := hb.cell 2; have x3 := hb.cell 3; have x4 := hb.cell 4; have x5 := hb.cell 5; have x6 := hb.cell 6; simp at x0 x1 x2 x3 x4 x5 x6; have zx := hb.lt; clear hb; have hb := HBr.out; have r0 := hb.cell 0; have r1 := hb.cell 1; simp at r0 r1; have zr := hb.lt; clear hb; have hb := HBz.out; have z0 := hb.cell 0; have z1 := hb.cell 1; have z2 := hb.cell 2; have z3 := hb.cell 3; have z4 := hb.cell 4; have z5 := hb.cell 5; have z6 := hb.cell 6; simp at z0 z1 z2 z3 z4 z5 z6; have zz := hb.lt; clear hb) | (go_at_call 117; refine (HDO.out _ P1 P2 P3 P4 e1 e2 e3 e4).mono ?_; rintro e w4 ⟨rfl, hk4⟩; have HK4 := Lib.hid hk4; clear x0 x1 x2 x3 x4 x5 x6 r0 r1 z0 z1 z2 z3 z4 z5 z6 zx zr zz; have hx := HBx.out.keeps hk4 (fun h => h); clear HBx; have HBx := Lib.hid hx; clear hx; have hy := HBy.out.keeps hk4 (fun h => h); clear HBy; have HBy := Lib.hid hy; clear hy; have hz := HBz.out.keeps hk4 (fun h => h); clear HBz; have HBz := Lib.hid hz; clear hz; have hr := HBr.out.keeps hk4 (fun h => h); clear HBr; have HBr := Lib.hid hr; clear hr; have hr := HK.out.trans hk4; clear HK; have HK := Lib.hid hr; clear hr; have sz4 := hk4.size; (try simp at sz4); clear hk4; have hb := HBx.out; have x0 := hb.cell 0; have x1 := hb.cell 1; have x2 := hb.cell 2; have x3 := hb.cell 3; have x4 := hb.cell 4; have x5 := hb.cell 5; have x6 := hb.cell 6; simp at x0 x1 x2 x3 x4 x5 x6; have zx := hb.lt; clear hb; have hb := HBr.out; have r0 := hb.cell 0; have r1 := hb.cell 1; simp at r0 r1; have zr := hb.lt; clear hb; have hb := HBz.out; have z0 := hb.cell 0; have z1 := hb.cell 1; have z2 := hb.cell 2; have z3 := hb.cell 3; have z4 := hb.cell 4; have z5 := hb.cell 5; have z6 := hb.cell 6; simp at z0 z1 z2 z3 z4 z5 z6; have zz := hb.lt; clear hb; have hb := HBz.out; have zf0 := hb.frozen 0; have zf1 := hb.frozen 1; have zf2 := hb.frozen 2; have zf3 := hb.frozen 3; have zf4 := hb.frozen 4; have zf5 := hb.frozen 5; have zf6 := hb.frozen 6; clear hb))
  go_wp2
  refine bodyPost_ret (v := .tuple #[.agg #[.int .i64 (3), .int .i64 (x.ver), .int .i64 (x.want), .slice P1 x.sent.length e1, .slice P2 x.live.length e2, .slice P3 x.back.length e3, .slice P4 x.got.length e4], .bool true]) (by simp [results, Tryz.results69, go_sem, *]) rfl ?_
  exact ⟨⟨⟨3, x.ver, x.want, x.sent, x.live, x.back, x.got⟩, P1, P2, P3, P4, e1, e2, e3, e4⟩, rfl, HE.out.symm, (((((((HK.out).new (g := w.heap.size + 1 + 1) (by omega) _ _).new (g := w.heap.size + 1 + 1) (by omega) _ _).new (g := w.heap.size + 1 + 1) (by omega) _ _).new (g := w.heap.size + 1 + 1) (by omega) _ _).new (g := w.heap.size + 1 + 1) (by omega) _ _).new (g := w.heap.size + 1 + 1) (by omega) _ _).new (g := w.heap.size + 1 + 1) (by omega) _ _, do_end (w := w) (w2 := w2) (s := ⟨⟨3, x.ver, x.want, x.sent, x.live, x.back, x.got⟩, P1, P2, P3, P4, e1, e2, e3, e4⟩) HST.out HK4.out (((((((((Keeps.refl (fun b => w.heap.size ≤ b ∧ b < w2.heap.size) w4)).setCell (p := ⟨w.heap.size + 1 + 1, 0, none⟩) (.inr ⟨by dsimp only; omega, by dsimp only; omega⟩) _).setCell (p := ⟨w.heap.size + 1 + 1, 1, none⟩) (.inr ⟨by dsimp only; omega, by dsimp only; omega⟩) _).setCell (p := ⟨w.heap.size + 1 + 1, 2, none⟩) (.inr ⟨by dsimp only; omega, by dsimp only; omega⟩) _).setCell (p := ⟨w.heap.size + 1 + 1, 3, none⟩) (.inr ⟨by dsimp only; omega, by dsimp only; omega⟩) _).setCell (p := ⟨w.heap.size + 1 + 1, 4, none⟩) (.inr ⟨by dsimp only; omega, by dsimp only; omega⟩) _).setCell (p := ⟨w.heap.size + 1 + 1, 5, none⟩) (.inr ⟨by dsimp only; omega, by dsimp only; omega⟩) _).setCell (p := ⟨w.heap.size + 1 + 1, 6, none⟩) (.inr ⟨by dsimp only; omega, by dsimp only; omega⟩) _) (by omega), do_own (w := w) (w2 := w2) (x := ⟨3, x.ver, x.want, x.sent, x.live, x.back, x.got⟩) HSO.out HK4.out (((((((((Keeps.refl (fun b => w.heap.size ≤ b ∧ b < w2.heap.size) w4)).setCell (p := ⟨w.heap.size + 1 + 1, 0, none⟩) (.inr ⟨by dsimp only; omega, by dsimp only; omega⟩) _).setCell (p := ⟨w.heap.size + 1 + 1, 1, none⟩) (.inr ⟨by dsimp only; omega, by dsimp only; omega⟩) _).setCell (p := ⟨w.heap.size + 1 + 1, 2, none⟩) (.inr ⟨by dsimp only; omega, by dsimp only; omega⟩) _).setCell (p := ⟨w.heap.size + 1 + 1, 3, none⟩) (.inr ⟨by dsimp only; omega, by dsimp only; omega⟩) _).setCell (p := ⟨w.heap.size + 1 + 1, 4, none⟩) (.inr ⟨by dsimp only; omega, by dsimp only; omega⟩) _).setCell (p := ⟨w.heap.size + 1 + 1, 5, none⟩) (.inr ⟨by dsimp only; omega, by dsimp only; omega⟩) _).setCell (p := ⟨w.heap.size + 1 + 1, 6, none⟩) (.inr ⟨by dsimp only; omega, by dsimp only; omega⟩) _) (by omega)⟩
end Go.Proofs.YtcnbephpadmboaaGreatDoor

/-! IDoB -/
namespace Go.Proofs.YtcnbephpadmboaaGreatDoor
open Go.RowKit

set_option maxRecDepth 100000 in
set_option maxHeartbeats 4000000 in
theorem implDo_5 (x y : StL) (A1 A2 A3 A4 B1 B2 B3 B4 : Option Addr) (c1 c2 c3 c4 d1 d2 d3 d4 : Nat) (w : World) (hx : StAt w x A1 A2 A3 A4) (hy : StAt w y B1 B2 B3 B4) (ht : Tabs w) (hm : wmayB x y 5 = true) :
    Calls Tryz.prog 69 #[stV x A1 A2 A3 A4 c1 c2 c3 c4, stV y B1 B2 B3 B4 d1 d2 d3 d4, .int .i64 5] w (RetDoO w (doSt x y 5)) := by
  have HX := Lib.hid hx
  have HY := Lib.hid hy
  have HT := Lib.hid ht
  have HBx := Lib.hid (((Box.new w _ rfl 39 #[.int .i64 x.way, .int .i64 x.ver, .int .i64 x.want, .slice A1 x.sent.length c1, .slice A2 x.live.length c2, .slice A3 x.back.length c3, .slice A4 x.got.length c4]).alloc (.cells #[.int .i64 y.way, .int .i64 y.ver, .int .i64 y.want, .slice B1 y.sent.length d1, .slice B2 y.live.length d2, .slice B3 y.back.length d3, .slice B4 y.got.length d4] 39)).alloc (.cells #[.int .i64 0, .int .i64 0, .int .i64 0, .slice none 0 0, .slice none 0 0, .slice none 0 0, .slice none 0 0] 39))
  have HBy := Lib.hid ((Box.new (w.alloc (.cells #[.int .i64 x.way, .int .i64 x.ver, .int .i64 x.want, .slice A1 x.sent.length c1, .slice A2 x.live.length c2, .slice A3 x.back.length c3, .slice A4 x.got.length c4] 39)) (w.heap.size + 1) (by simp) 39 #[.int .i64 y.way, .int .i64 y.ver, .int .i64 y.want, .slice B1 y.sent.length d1, .slice B2 y.live.length d2, .slice B3 y.back.length d3, .slice B4 y.got.length d4]).alloc (.cells #[.int .i64 0, .int .i64 0, .int .i64 0, .slice none 0 0, .slice none 0 0, .slice none 0 0, .slice none 0 0] 39))
  have HBz := Lib.hid (Box.new ((w.alloc (.cells #[.int .i64 x.way, .int .i64 x.ver, .int .i64 x.want, .slice A1 x.sent.length c1, .slice A2 x.live.length c2, .slice A3 x.back.length c3, .slice A4 x.got.length c4] 39)).alloc (.cells #[.int .i64 y.way, .int .i64 y.ver, .int .i64 y.want, .slice B1 y.sent.length d1, .slice B2 y.live.length d2, .slice B3 y.back.length d3, .slice B4 y.got.length d4] 39)) (w.heap.size + 1 + 1) (by simp) 39 #[.int .i64 0, .int .i64 0, .int .i64 0, .slice none 0 0, .slice none 0 0, .slice none 0 0, .slice none 0 0])
  have HK := Lib.hid ((((Keeps.refl noBlk w).alloc (.cells #[.int .i64 x.way, .int .i64 x.ver, .int .i64 x.want, .slice A1 x.sent.length c1, .slice A2 x.live.length c2, .slice A3 x.back.length c3, .slice A4 x.got.length c4] 39)).alloc (.cells #[.int .i64 y.way, .int .i64 y.ver, .int .i64 y.want, .slice B1 y.sent.length d1, .slice B2 y.live.length d2, .slice B3 y.back.length d3, .slice B4 y.got.length d4] 39)).alloc (.cells #[.int .i64 0, .int .i64 0, .int .i64 0, .slice none 0 0, .slice none 0 0, .slice none 0 0, .slice none 0 0] 39))
  have hz0 : w.heap.size + 3 ≤ (((w.alloc (.cells #[.int .i64 x.way, .int .i64 x.ver, .int .i64 x.want, .slice A1 x.sent.length c1, .slice A2 x.live.length c2, .slice A3 x.back.length c3, .slice A4 x.got.length c4] 39)).alloc (.cells #[.int .i64 y.way, .int .i64 y.ver, .int .i64 y.want, .slice B1 y.sent.length d1, .slice B2 y.live.length d2, .slice B3 y.back.length d3, .slice B4 y.got.length d4] 39)).alloc (.cells #[.int .i64 0, .int .i64 0, .int .i64 0, .slice none 0 0, .slice none 0 0, .slice none 0 0, .slice none 0 0] 39)).heap.size := by simp
  have HV := Lib.hid (stB_parts (show stB x = true by simp only [wmayB, Bool.and_eq_true] at hm; exact hm.1.1)).2.1
  have HN8 := Lib.hid (show x.sent.length ≤ 1048576 ∧ x.live.length ≤ 1048576 ∧ x.back.length ≤ 1048576 ∧ x.got.length ≤ 1048576 by
    have k := stB_ok (show stB x = true by simp only [wmayB, Bool.and_eq_true] at hm; exact hm.1.1)
    have := k.2.1.small
    have := k.2.2.1.1
    have := k.2.2.1.2.1
    have := k.2.2.2.1
    exact ⟨by omega, by omega, by omega, by omega⟩)
  clear hx hy ht
  have HE := Lib.hid (show doSt x y 5 = ⟨4, x.ver, x.ver + 1, x.sent, x.live, x.back, x.got⟩ by simp [doSt])
  have HM := Lib.hid (fun W h h' hT => (show Calls Tryz.prog 95 #[stV x A1 A2 A3 A4 c1 c2 c3 c4, stV y B1 B2 B3 B4 d1 d2 d3 d4, .int .i64 5] W (fun e w' => e = .returned (.bool true) ∧ Keeps noBlk W w') from by rw [← hm]; exact implMay_any x y A1 A2 A3 A4 B1 B2 B3 B4 c1 c2 c3 c4 d1 d2 d3 d4 5 W h h' hT))
  have HCO := Lib.hid (fun W h => implCopy_any x A1 A2 A3 A4 c1 c2 c3 c4 W h HN8.out.1 HN8.out.2.1 HN8.out.2.2.1 HN8.out.2.2.2)
  have HDO := Lib.hid (fun W P1 P2 P3 P4 e1 e2 e3 e4 => impl_flushing x P1 P2 P3 P4 e1 e2 e3 e4 W HV.out)
  clear hm
  unfold stV at HM HCO HDO ⊢
  go_enter Tryz.func69, Tryz.ntmps69
  go_wp2_with fail
  refine (impl_stepAt_5 _).mono ?_
  rintro e w1 ⟨rfl, hk1⟩
  have hx := HBx.out.keeps hk1 (fun h => h)
  clear HBx
  have HBx := Lib.hid hx
  clear hx
  have hy := HBy.out.keeps hk1 (fun h => h)
  clear HBy
  have HBy := Lib.hid hy
  clear hy
  have hz := HBz.out.keeps hk1 (fun h => h)
  clear HBz
  have HBz := Lib.hid hz
  clear hz
  have hr := HK.out.trans hk1
  clear HK
  have HK := Lib.hid hr
  clear hr
  have sz1 := hk1.size
  (try simp at sz1)
  clear hk1
  have hb := HBx.out
  have x0 := hb.cell 0
  have x1 := hb.cell 1
  have x2 := hb.cell 2
  have x3 := hb.cell 3
  have x4 := hb.cell 4
  have x5 := hb.cell 5
  have x6 := hb.cell 6
  simp at x0 x1 x2 x3 x4 x5 x6
  have zx := hb.lt
  clear hb
  have hb := HBy.out
  have y0 := hb.cell 0
  have y1 := hb.cell 1
  have y2 := hb.cell 2
  have y3 := hb.cell 3
  have y4 := hb.cell 4
  have y5 := hb.cell 5
  have y6 := hb.cell 6
  simp at y0 y1 y2 y3 y4 y5 y6
  have zy := hb.lt
  clear hb
  have hx := HBx.out.alloc (.cells #[.func (.func 119) #[] #[], .func (.func 120) #[] #[]] 124)
  clear HBx
  have HBx := Lib.hid hx
  clear hx
  have hy := HBy.out.alloc (.cells #[.func (.func 119) #[] #[], .func (.func 120) #[] #[]] 124)
  clear HBy
  have HBy := Lib.hid hy
  clear hy
  have hz := HBz.out.alloc (.cells #[.func (.func 119) #[] #[], .func (.func 120) #[] #[]] 124)
  clear HBz
  have HBz := Lib.hid hz
  clear hz
  have hr := HK.out.alloc (.cells #[.func (.func 119) #[] #[], .func (.func 120) #[] #[]] 124)
  clear HK
  have HK := Lib.hid hr
  clear hr
  have HBr := Lib.hid (Box.new w1 _ rfl 124 #[.func (.func 119) #[] #[], .func (.func 120) #[] #[]])
  go_wp2_with fail
  refine (HM.out _ (HX.out.kept HK.out) (HY.out.kept HK.out) (HT.out.keeps HK.out)).mono ?_
  rintro e w2 ⟨rfl, hk2⟩
  clear x0 x1 x2 x3 x4 x5 x6 y0 y1 y2 y3 y4 y5 y6 zx zy
  have hx := HBx.out.keeps hk2 (fun h => h)
  clear HBx
  have HBx := Lib.hid hx
  clear hx
  have hy := HBy.out.keeps hk2 (fun h => h)
  clear HBy
  have HBy := Lib.hid hy
  clear hy
  have hz := HBz.out.keeps hk2 (fun h => h)
  clear HBz
  have HBz := Lib.hid hz
  clear hz
  have hr := HBr.out.keeps hk2 (fun h => h)
  clear HBr
  have HBr := Lib.hid hr
  clear hr
  have hr := HK.out.trans hk2
  clear HK
  have HK := Lib.hid hr
  clear hr
  have sz2 := hk2.size
  (try simp at sz2)
  clear hk2
  have hb := HBx.out
  have x0 := hb.cell 0
  have x1 := hb.cell 1
  have x2 := hb.cell 2
  have x3 := hb.cell 3
  have x4 := hb.cell 4
  have x5 := hb.cell 5
  have x6 := hb.cell 6
  simp at x0 x1 x2 x3 x4 x5 x6
  have zx := hb.lt
  clear hb
  have hb := HBr.out
  have r0 := hb.cell 0
  have r1 := hb.cell 1
  simp at r0 r1
  have zr := hb.lt
  clear hb
  have : ¬ w1.heap.size = w.heap.size + 1 + 1 := by omega
  have : ¬ w.heap.size + 1 + 1 = w1.heap.size := by omega
  have : ¬ w.heap.size = w.heap.size + 1 + 1 := by omega
  have : ¬ w.heap.size + 1 + 1 = w.heap.size := by omega
  go_wp2_with fail
  go_region_held3 (fun w' => w'.cell? ⟨w.heap.size, 0, none⟩ = some (.int .i64 x.way) ∧ w'.cell? ⟨w.heap.size, 1, none⟩ = some (.int .i64 x.ver) ∧ w'.cell? ⟨w.heap.size, 2, none⟩ = some (.int .i64 x.want) ∧ w'.cell? ⟨w.heap.size, 3, none⟩ = some (.slice A1 x.sent.length c1) ∧ w'.cell? ⟨w.heap.size, 4, none⟩ = some (.slice A2 x.live.length c2) ∧ w'.cell? ⟨w.heap.size, 5, none⟩ = some (.slice A3 x.back.length c3) ∧ w'.cell? ⟨w.heap.size, 6, none⟩ = some (.slice A4 x.got.length c4) ∧ w'.cell? ⟨w1.heap.size, 0, none⟩ = some (.func (.func 119) #[] #[]) ∧ w'.cell? ⟨w1.heap.size, 1, none⟩ = some (.func (.func 120) #[] #[]))
    (((try dsimp only); (repeat' apply And.intro) <;> (first | with_reducible assumption | (go_keep; done))))
    (first | (go_at_call 82; refine (HCO.out _ (HX.out.kept (HK.out.drewN 1))).mono ?_; rintro e w3 ⟨⟨xx, P1, P2, P3, P4, e1, e2, e3, e4⟩, rfl, hxx, hk3, hst, hso⟩; have hq := ((Keeps.refl noBlk w2).drewN 1).trans hk3; clear hk3; have hk3 := hq; clear hq; dsimp only at hxx; replace hxx := hxx.symm; subst hxx; unfold StM.val; have HST := Lib.hid hst; have HSO := Lib.hid hso; clear hst hso; clear x0 x1 x2 x3 x4 x5 x6 r0 r1 zx zr; have hx := HBx.out.keeps hk3 (fun h => h); clear HBx; have HBx := Lib.hid hx; clear hx; have hy := HBy.out.keeps hk3 (fun h => h); clear HBy; have HBy := Lib.hid hy; clear hy; have hz := HBz.out.keeps hk3 (fun h => h); clear HBz; have HBz := Lib.hid hz; clear hz; have hr := HBr.out.keeps hk3 (fun h => h); clear HBr; have HBr := Lib.hid hr; clear hr; have hr := HK.out.trans hk3; clear HK; have HK := Lib.hid hr; clear hr; have sz3 := hk3.size; (try simp at sz3); clear hk3; have hb := HBx.out; have x0 := hb.cell 0; have x1 := hb.cell 1; have x2 := hb.cell 2; have x3 := hb.cell 3; have x4 := hb.cell 4; have x5 := hb.cell 5; have x6 := hb.cell 6; simp at x0 x1 x2 x3 x4 x5 x6; have zx := hb.lt; clear hb; have hb := HBr.out; have r0 := hb.cell 0; have r1 := hb.cell 1; simp at r0 r1; have zr := hb.lt; clear hb; have hb := HBz.out; have z0 := hb.cell 0; have z1 := hb.cell 1; have z2 := hb.cell 2; have z3 := hb.cell 3; have z4 := hb.cell 4; have z5 := hb.cell 5; have z6 := hb.cell 6; simp at z0 z1 z2 z3 z4 z5 z6; have zz := hb.lt; clear hb) | (go_at_call 120; refine (HDO.out _ P1 P2 P3 P4 e1 e2 e3 e4).mono ?_; rintro e w4 ⟨rfl, hk4⟩; have HK4 := Lib.hid hk4; clear x0 x1 x2 x3 x4 x5 x6 r0 r1 z0 z1 z2 z3 z4 z5 z6 zx zr zz; have hx := HBx.out.keeps hk4 (fun h => h); clear HBx; have HBx := Lib.hid hx; clear hx; have hy := HBy.out.keeps hk4 (fun h => h); clear HBy; have HBy := Lib.hid hy; clear hy; have hz := HBz.out.keeps hk4 (fun h => h); clear HBz; have HBz := Lib.hid hz; clear hz; have hr := HBr.out.keeps hk4 (fun h => h); clear HBr; have HBr := Lib.hid hr; clear hr; have hr := HK.out.trans hk4; clear HK; have HK := Lib.hid hr; clear hr; have sz4 := hk4.size; (try simp at sz4); clear hk4; have hb := HBx.out; have x0 := hb.cell 0; have x1 := hb.cell 1; have x2 := hb.cell 2; have x3 := hb.cell 3; have x4 := hb.cell 4; have x5 := hb.cell 5; have x6 := hb.cell 6; simp at x0 x1 x2 x3 x4 x5 x6; have zx := hb.lt; clear hb; have hb := HBr.out; have r0 := hb.cell 0; have r1 := hb.cell 1; simp at r0 r1; have zr := hb.lt; clear hb; have hb := HBz.out; have z0 := hb.cell 0; have z1 := hb.cell 1; have z2 := hb.cell 2; have z3 := hb.cell 3; have z4 := hb.cell 4; have z5 := hb.cell 5; have z6 := hb.cell 6; simp at z0 z1 z2 z3 z4 z5 z6; have zz := hb.lt; clear hb; have hb := HBz.out; have zf0 := hb.frozen 0; have zf1 := hb.frozen 1; have zf2 := hb.frozen 2; have zf3 := hb.frozen 3; have zf4 := hb.frozen 4; have zf5 := hb.frozen 5; have zf6 := hb.frozen 6; clear hb))
  go_wp2
  refine bodyPost_ret (v := .tuple #[.agg #[.int .i64 (4), .int .i64 (x.ver), .int .i64 (x.ver + 1), .slice P1 x.sent.length e1, .slice P2 x.live.length e2, .slice P3 x.back.length e3, .slice P4 x.got.length e4], .bool true]) (by simp [results, Tryz.results69, go_sem, *]) rfl ?_
  exact ⟨⟨⟨4, x.ver, x.ver + 1, x.sent, x.live, x.back, x.got⟩, P1, P2, P3, P4, e1, e2, e3, e4⟩, rfl, HE.out.symm, (((((((HK.out).new (g := w.heap.size + 1 + 1) (by omega) _ _).new (g := w.heap.size + 1 + 1) (by omega) _ _).new (g := w.heap.size + 1 + 1) (by omega) _ _).new (g := w.heap.size + 1 + 1) (by omega) _ _).new (g := w.heap.size + 1 + 1) (by omega) _ _).new (g := w.heap.size + 1 + 1) (by omega) _ _).new (g := w.heap.size + 1 + 1) (by omega) _ _, do_end (w := w) (w2 := w2) (s := ⟨⟨4, x.ver, x.ver + 1, x.sent, x.live, x.back, x.got⟩, P1, P2, P3, P4, e1, e2, e3, e4⟩) HST.out HK4.out (((((((((Keeps.refl (fun b => w.heap.size ≤ b ∧ b < w2.heap.size) w4)).setCell (p := ⟨w.heap.size + 1 + 1, 0, none⟩) (.inr ⟨by dsimp only; omega, by dsimp only; omega⟩) _).setCell (p := ⟨w.heap.size + 1 + 1, 1, none⟩) (.inr ⟨by dsimp only; omega, by dsimp only; omega⟩) _).setCell (p := ⟨w.heap.size + 1 + 1, 2, none⟩) (.inr ⟨by dsimp only; omega, by dsimp only; omega⟩) _).setCell (p := ⟨w.heap.size + 1 + 1, 3, none⟩) (.inr ⟨by dsimp only; omega, by dsimp only; omega⟩) _).setCell (p := ⟨w.heap.size + 1 + 1, 4, none⟩) (.inr ⟨by dsimp only; omega, by dsimp only; omega⟩) _).setCell (p := ⟨w.heap.size + 1 + 1, 5, none⟩) (.inr ⟨by dsimp only; omega, by dsimp only; omega⟩) _).setCell (p := ⟨w.heap.size + 1 + 1, 6, none⟩) (.inr ⟨by dsimp only; omega, by dsimp only; omega⟩) _) (by omega), do_own (w := w) (w2 := w2) (x := ⟨4, x.ver, x.ver + 1, x.sent, x.live, x.back, x.got⟩) HSO.out HK4.out (((((((((Keeps.refl (fun b => w.heap.size ≤ b ∧ b < w2.heap.size) w4)).setCell (p := ⟨w.heap.size + 1 + 1, 0, none⟩) (.inr ⟨by dsimp only; omega, by dsimp only; omega⟩) _).setCell (p := ⟨w.heap.size + 1 + 1, 1, none⟩) (.inr ⟨by dsimp only; omega, by dsimp only; omega⟩) _).setCell (p := ⟨w.heap.size + 1 + 1, 2, none⟩) (.inr ⟨by dsimp only; omega, by dsimp only; omega⟩) _).setCell (p := ⟨w.heap.size + 1 + 1, 3, none⟩) (.inr ⟨by dsimp only; omega, by dsimp only; omega⟩) _).setCell (p := ⟨w.heap.size + 1 + 1, 4, none⟩) (.inr ⟨by dsimp only; omega, by dsimp only; omega⟩) _).setCell (p := ⟨w.heap.size + 1 + 1, 5, none⟩) (.inr ⟨by dsimp only; omega, by dsimp only; omega⟩) _).setCell (p := ⟨w.heap.size + 1 + 1, 6, none⟩) (.inr ⟨by dsimp only; omega, by dsimp only; omega⟩) _) (by omega)⟩
set_option maxRecDepth 100000 in
set_option maxHeartbeats 4000000 in
theorem implDo_6 (x y : StL) (A1 A2 A3 A4 B1 B2 B3 B4 : Option Addr) (c1 c2 c3 c4 d1 d2 d3 d4 : Nat) (w : World) (hx : StAt w x A1 A2 A3 A4) (hy : StAt w y B1 B2 B3 B4) (ht : Tabs w) (hm : wmayB x y 6 = true) :
    Calls Tryz.prog 69 #[stV x A1 A2 A3 A4 c1 c2 c3 c4, stV y B1 B2 B3 B4 d1 d2 d3 d4, .int .i64 6] w (RetDoO w (doSt x y 6)) := by
  have HX := Lib.hid hx
  have HY := Lib.hid hy
  have HT := Lib.hid ht
  have HBx := Lib.hid (((Box.new w _ rfl 39 #[.int .i64 x.way, .int .i64 x.ver, .int .i64 x.want, .slice A1 x.sent.length c1, .slice A2 x.live.length c2, .slice A3 x.back.length c3, .slice A4 x.got.length c4]).alloc (.cells #[.int .i64 y.way, .int .i64 y.ver, .int .i64 y.want, .slice B1 y.sent.length d1, .slice B2 y.live.length d2, .slice B3 y.back.length d3, .slice B4 y.got.length d4] 39)).alloc (.cells #[.int .i64 0, .int .i64 0, .int .i64 0, .slice none 0 0, .slice none 0 0, .slice none 0 0, .slice none 0 0] 39))
  have HBy := Lib.hid ((Box.new (w.alloc (.cells #[.int .i64 x.way, .int .i64 x.ver, .int .i64 x.want, .slice A1 x.sent.length c1, .slice A2 x.live.length c2, .slice A3 x.back.length c3, .slice A4 x.got.length c4] 39)) (w.heap.size + 1) (by simp) 39 #[.int .i64 y.way, .int .i64 y.ver, .int .i64 y.want, .slice B1 y.sent.length d1, .slice B2 y.live.length d2, .slice B3 y.back.length d3, .slice B4 y.got.length d4]).alloc (.cells #[.int .i64 0, .int .i64 0, .int .i64 0, .slice none 0 0, .slice none 0 0, .slice none 0 0, .slice none 0 0] 39))
  have HBz := Lib.hid (Box.new ((w.alloc (.cells #[.int .i64 x.way, .int .i64 x.ver, .int .i64 x.want, .slice A1 x.sent.length c1, .slice A2 x.live.length c2, .slice A3 x.back.length c3, .slice A4 x.got.length c4] 39)).alloc (.cells #[.int .i64 y.way, .int .i64 y.ver, .int .i64 y.want, .slice B1 y.sent.length d1, .slice B2 y.live.length d2, .slice B3 y.back.length d3, .slice B4 y.got.length d4] 39)) (w.heap.size + 1 + 1) (by simp) 39 #[.int .i64 0, .int .i64 0, .int .i64 0, .slice none 0 0, .slice none 0 0, .slice none 0 0, .slice none 0 0])
  have HK := Lib.hid ((((Keeps.refl noBlk w).alloc (.cells #[.int .i64 x.way, .int .i64 x.ver, .int .i64 x.want, .slice A1 x.sent.length c1, .slice A2 x.live.length c2, .slice A3 x.back.length c3, .slice A4 x.got.length c4] 39)).alloc (.cells #[.int .i64 y.way, .int .i64 y.ver, .int .i64 y.want, .slice B1 y.sent.length d1, .slice B2 y.live.length d2, .slice B3 y.back.length d3, .slice B4 y.got.length d4] 39)).alloc (.cells #[.int .i64 0, .int .i64 0, .int .i64 0, .slice none 0 0, .slice none 0 0, .slice none 0 0, .slice none 0 0] 39))
  have hz0 : w.heap.size + 3 ≤ (((w.alloc (.cells #[.int .i64 x.way, .int .i64 x.ver, .int .i64 x.want, .slice A1 x.sent.length c1, .slice A2 x.live.length c2, .slice A3 x.back.length c3, .slice A4 x.got.length c4] 39)).alloc (.cells #[.int .i64 y.way, .int .i64 y.ver, .int .i64 y.want, .slice B1 y.sent.length d1, .slice B2 y.live.length d2, .slice B3 y.back.length d3, .slice B4 y.got.length d4] 39)).alloc (.cells #[.int .i64 0, .int .i64 0, .int .i64 0, .slice none 0 0, .slice none 0 0, .slice none 0 0, .slice none 0 0] 39)).heap.size := by simp
  have HV := Lib.hid (stB_parts (show stB x = true by simp only [wmayB, Bool.and_eq_true] at hm; exact hm.1.1)).2.1
  have HN8 := Lib.hid (show x.sent.length ≤ 1048576 ∧ x.live.length ≤ 1048576 ∧ x.back.length ≤ 1048576 ∧ x.got.length ≤ 1048576 by
    have k := stB_ok (show stB x = true by simp only [wmayB, Bool.and_eq_true] at hm; exact hm.1.1)
    have := k.2.1.small
    have := k.2.2.1.1
    have := k.2.2.1.2.1
    have := k.2.2.2.1
    exact ⟨by omega, by omega, by omega, by omega⟩)
  clear hx hy ht
  have HE := Lib.hid (show doSt x y 6 = ⟨4, x.ver, x.ver + 1, x.sent, x.live, x.back, x.got⟩ by have e6 := may6 hm; simp [doSt, e6])
  have HM := Lib.hid (fun W h h' hT => (show Calls Tryz.prog 95 #[stV x A1 A2 A3 A4 c1 c2 c3 c4, stV y B1 B2 B3 B4 d1 d2 d3 d4, .int .i64 6] W (fun e w' => e = .returned (.bool true) ∧ Keeps noBlk W w') from by rw [← hm]; exact implMay_any x y A1 A2 A3 A4 B1 B2 B3 B4 c1 c2 c3 c4 d1 d2 d3 d4 6 W h h' hT))
  have HCO := Lib.hid (fun W h => implCopy_any x A1 A2 A3 A4 c1 c2 c3 c4 W h HN8.out.1 HN8.out.2.1 HN8.out.2.2.1 HN8.out.2.2.2)
  have HDO := Lib.hid (fun W P1 P2 P3 P4 e1 e2 e3 e4 => impl_flushing x P1 P2 P3 P4 e1 e2 e3 e4 W HV.out)
  clear hm
  unfold stV at HM HCO HDO ⊢
  go_enter Tryz.func69, Tryz.ntmps69
  go_wp2_with fail
  refine (impl_stepAt_6 _).mono ?_
  rintro e w1 ⟨rfl, hk1⟩
  have hx := HBx.out.keeps hk1 (fun h => h)
  clear HBx
  have HBx := Lib.hid hx
  clear hx
  have hy := HBy.out.keeps hk1 (fun h => h)
  clear HBy
  have HBy := Lib.hid hy
  clear hy
  have hz := HBz.out.keeps hk1 (fun h => h)
  clear HBz
  have HBz := Lib.hid hz
  clear hz
  have hr := HK.out.trans hk1
  clear HK
  have HK := Lib.hid hr
  clear hr
  have sz1 := hk1.size
  (try simp at sz1)
  clear hk1
  have hb := HBx.out
  have x0 := hb.cell 0
  have x1 := hb.cell 1
  have x2 := hb.cell 2
  have x3 := hb.cell 3
  have x4 := hb.cell 4
  have x5 := hb.cell 5
  have x6 := hb.cell 6
  simp at x0 x1 x2 x3 x4 x5 x6
  have zx := hb.lt
  clear hb
  have hb := HBy.out
  have y0 := hb.cell 0
  have y1 := hb.cell 1
  have y2 := hb.cell 2
  have y3 := hb.cell 3
  have y4 := hb.cell 4
  have y5 := hb.cell 5
  have y6 := hb.cell 6
  simp at y0 y1 y2 y3 y4 y5 y6
  have zy := hb.lt
  clear hb
  have hx := HBx.out.alloc (.cells #[.func (.func 121) #[] #[], .func (.func 120) #[] #[]] 124)
  clear HBx
  have HBx := Lib.hid hx
  clear hx
  have hy := HBy.out.alloc (.cells #[.func (.func 121) #[] #[], .func (.func 120) #[] #[]] 124)
  clear HBy
  have HBy := Lib.hid hy
  clear hy
  have hz := HBz.out.alloc (.cells #[.func (.func 121) #[] #[], .func (.func 120) #[] #[]] 124)
  clear HBz
  have HBz := Lib.hid hz
  clear hz
  have hr := HK.out.alloc (.cells #[.func (.func 121) #[] #[], .func (.func 120) #[] #[]] 124)
  clear HK
  have HK := Lib.hid hr
  clear hr
  have HBr := Lib.hid (Box.new w1 _ rfl 124 #[.func (.func 121) #[] #[], .func (.func 120) #[] #[]])
  go_wp2_with fail
  refine (HM.out _ (HX.out.kept HK.out) (HY.out.kept HK.out) (HT.out.keeps HK.out)).mono ?_
  rintro e w2 ⟨rfl, hk2⟩
  clear x0 x1 x2 x3 x4 x5 x6 y0 y1 y2 y3 y4 y5 y6 zx zy
  have hx := HBx.out.keeps hk2 (fun h => h)
  clear HBx
  have HBx := Lib.hid hx
  clear hx
  have hy := HBy.out.keeps hk2 (fun h => h)
  clear HBy
  have HBy := Lib.hid hy
  clear hy
  have hz := HBz.out.keeps hk2 (fun h => h)
  clear HBz
  have HBz := Lib.hid hz
  clear hz
  have hr := HBr.out.keeps hk2 (fun h => h)
  clear HBr
  have HBr := Lib.hid hr
  clear hr
  have hr := HK.out.trans hk2
  clear HK
  have HK := Lib.hid hr
  clear hr
  have sz2 := hk2.size
  (try simp at sz2)
  clear hk2
  have hb := HBx.out
  have x0 := hb.cell 0
  have x1 := hb.cell 1
  have x2 := hb.cell 2
  have x3 := hb.cell 3
  have x4 := hb.cell 4
  have x5 := hb.cell 5
  have x6 := hb.cell 6
  simp at x0 x1 x2 x3 x4 x5 x6
  have zx := hb.lt
  clear hb
  have hb := HBr.out
  have r0 := hb.cell 0
  have r1 := hb.cell 1
  simp at r0 r1
  have zr := hb.lt
  clear hb
  have : ¬ w1.heap.size = w.heap.size + 1 + 1 := by omega
  have : ¬ w.heap.size + 1 + 1 = w1.heap.size := by omega
  have : ¬ w.heap.size = w.heap.size + 1 + 1 := by omega
  have : ¬ w.heap.size + 1 + 1 = w.heap.size := by omega
  go_wp2_with fail
  go_region_held3 (fun w' => w'.cell? ⟨w.heap.size, 0, none⟩ = some (.int .i64 x.way) ∧ w'.cell? ⟨w.heap.size, 1, none⟩ = some (.int .i64 x.ver) ∧ w'.cell? ⟨w.heap.size, 2, none⟩ = some (.int .i64 x.want) ∧ w'.cell? ⟨w.heap.size, 3, none⟩ = some (.slice A1 x.sent.length c1) ∧ w'.cell? ⟨w.heap.size, 4, none⟩ = some (.slice A2 x.live.length c2) ∧ w'.cell? ⟨w.heap.size, 5, none⟩ = some (.slice A3 x.back.length c3) ∧ w'.cell? ⟨w.heap.size, 6, none⟩ = some (.slice A4 x.got.length c4) ∧ w'.cell? ⟨w1.heap.size, 0, none⟩ = some (.func (.func 121) #[] #[]) ∧ w'.cell? ⟨w1.heap.size, 1, none⟩ = some (.func (.func 120) #[] #[]))
    (((try dsimp only); (repeat' apply And.intro) <;> (first | with_reducible assumption | (go_keep; done))))
    (first | (go_at_call 82; refine (HCO.out _ (HX.out.kept (HK.out.drewN 1))).mono ?_; rintro e w3 ⟨⟨xx, P1, P2, P3, P4, e1, e2, e3, e4⟩, rfl, hxx, hk3, hst, hso⟩; have hq := ((Keeps.refl noBlk w2).drewN 1).trans hk3; clear hk3; have hk3 := hq; clear hq; dsimp only at hxx; replace hxx := hxx.symm; subst hxx; unfold StM.val; have HST := Lib.hid hst; have HSO := Lib.hid hso; clear hst hso; clear x0 x1 x2 x3 x4 x5 x6 r0 r1 zx zr; have hx := HBx.out.keeps hk3 (fun h => h); clear HBx; have HBx := Lib.hid hx; clear hx; have hy := HBy.out.keeps hk3 (fun h => h); clear HBy; have HBy := Lib.hid hy; clear hy; have hz := HBz.out.keeps hk3 (fun h => h); clear HBz; have HBz := Lib.hid hz; clear hz; have hr := HBr.out.keeps hk3 (fun h => h); clear HBr; have HBr := Lib.hid hr; clear hr; have hr := HK.out.trans hk3; clear HK; have HK := Lib.hid hr; clear hr; have sz3 := hk3.size; (try simp at sz3); clear hk3; have hb := HBx.out; have x0 := hb.cell 0; have x1 := hb.cell 1; have x2 := hb.cell 2; have x3 := hb.cell 3; have x4 := hb.cell 4; have x5 := hb.cell 5; have x6 := hb.cell 6; simp at x0 x1 x2 x3 x4 x5 x6; have zx := hb.lt; clear hb; have hb := HBr.out; have r0 := hb.cell 0; have r1 := hb.cell 1; simp at r0 r1; have zr := hb.lt; clear hb; have hb := HBz.out; have z0 := hb.cell 0; have z1 := hb.cell 1; have z2 := hb.cell 2; have z3 := hb.cell 3; have z4 := hb.cell 4; have z5 := hb.cell 5; have z6 := hb.cell 6; simp at z0 z1 z2 z3 z4 z5 z6; have zz := hb.lt; clear hb) | (go_at_call 120; refine (HDO.out _ P1 P2 P3 P4 e1 e2 e3 e4).mono ?_; rintro e w4 ⟨rfl, hk4⟩; have HK4 := Lib.hid hk4; clear x0 x1 x2 x3 x4 x5 x6 r0 r1 z0 z1 z2 z3 z4 z5 z6 zx zr zz; have hx := HBx.out.keeps hk4 (fun h => h); clear HBx; have HBx := Lib.hid hx; clear hx; have hy := HBy.out.keeps hk4 (fun h => h); clear HBy; have HBy := Lib.hid hy; clear hy; have hz := HBz.out.keeps hk4 (fun h => h); clear HBz; have HBz := Lib.hid hz; clear hz; have hr := HBr.out.keeps hk4 (fun h => h); clear HBr; have HBr := Lib.hid hr; clear hr; have hr := HK.out.trans hk4; clear HK; have HK := Lib.hid hr; clear hr; have sz4 := hk4.size; (try simp at sz4); clear hk4; have hb := HBx.out; have x0 := hb.cell 0; have x1 := hb.cell 1; have x2 := hb.cell 2; have x3 := hb.cell 3; have x4 := hb.cell 4; have x5 := hb.cell 5; have x6 := hb.cell 6; simp at x0 x1 x2 x3 x4 x5 x6; have zx := hb.lt; clear hb; have hb := HBr.out; have r0 := hb.cell 0; have r1 := hb.cell 1; simp at r0 r1; have zr := hb.lt; clear hb; have hb := HBz.out; have z0 := hb.cell 0; have z1 := hb.cell 1; have z2 := hb.cell 2; have z3 := hb.cell 3; have z4 := hb.cell 4; have z5 := hb.cell 5; have z6 := hb.cell 6; simp at z0 z1 z2 z3 z4 z5 z6; have zz := hb.lt; clear hb; have hb := HBz.out; have zf0 := hb.frozen 0; have zf1 := hb.frozen 1; have zf2 := hb.frozen 2; have zf3 := hb.frozen 3; have zf4 := hb.frozen 4; have zf5 := hb.frozen 5; have zf6 := hb.frozen 6; clear hb))
  go_wp2
  refine bodyPost_ret (v := .tuple #[.agg #[.int .i64 (4), .int .i64 (x.ver), .int .i64 (x.ver + 1), .slice P1 x.sent.length e1, .slice P2 x.live.length e2, .slice P3 x.back.length e3, .slice P4 x.got.length e4], .bool true]) (by simp [results, Tryz.results69, go_sem, *]) rfl ?_
  exact ⟨⟨⟨4, x.ver, x.ver + 1, x.sent, x.live, x.back, x.got⟩, P1, P2, P3, P4, e1, e2, e3, e4⟩, rfl, HE.out.symm, (((((((HK.out).new (g := w.heap.size + 1 + 1) (by omega) _ _).new (g := w.heap.size + 1 + 1) (by omega) _ _).new (g := w.heap.size + 1 + 1) (by omega) _ _).new (g := w.heap.size + 1 + 1) (by omega) _ _).new (g := w.heap.size + 1 + 1) (by omega) _ _).new (g := w.heap.size + 1 + 1) (by omega) _ _).new (g := w.heap.size + 1 + 1) (by omega) _ _, do_end (w := w) (w2 := w2) (s := ⟨⟨4, x.ver, x.ver + 1, x.sent, x.live, x.back, x.got⟩, P1, P2, P3, P4, e1, e2, e3, e4⟩) HST.out HK4.out (((((((((Keeps.refl (fun b => w.heap.size ≤ b ∧ b < w2.heap.size) w4)).setCell (p := ⟨w.heap.size + 1 + 1, 0, none⟩) (.inr ⟨by dsimp only; omega, by dsimp only; omega⟩) _).setCell (p := ⟨w.heap.size + 1 + 1, 1, none⟩) (.inr ⟨by dsimp only; omega, by dsimp only; omega⟩) _).setCell (p := ⟨w.heap.size + 1 + 1, 2, none⟩) (.inr ⟨by dsimp only; omega, by dsimp only; omega⟩) _).setCell (p := ⟨w.heap.size + 1 + 1, 3, none⟩) (.inr ⟨by dsimp only; omega, by dsimp only; omega⟩) _).setCell (p := ⟨w.heap.size + 1 + 1, 4, none⟩) (.inr ⟨by dsimp only; omega, by dsimp only; omega⟩) _).setCell (p := ⟨w.heap.size + 1 + 1, 5, none⟩) (.inr ⟨by dsimp only; omega, by dsimp only; omega⟩) _).setCell (p := ⟨w.heap.size + 1 + 1, 6, none⟩) (.inr ⟨by dsimp only; omega, by dsimp only; omega⟩) _) (by omega), do_own (w := w) (w2 := w2) (x := ⟨4, x.ver, x.ver + 1, x.sent, x.live, x.back, x.got⟩) HSO.out HK4.out (((((((((Keeps.refl (fun b => w.heap.size ≤ b ∧ b < w2.heap.size) w4)).setCell (p := ⟨w.heap.size + 1 + 1, 0, none⟩) (.inr ⟨by dsimp only; omega, by dsimp only; omega⟩) _).setCell (p := ⟨w.heap.size + 1 + 1, 1, none⟩) (.inr ⟨by dsimp only; omega, by dsimp only; omega⟩) _).setCell (p := ⟨w.heap.size + 1 + 1, 2, none⟩) (.inr ⟨by dsimp only; omega, by dsimp only; omega⟩) _).setCell (p := ⟨w.heap.size + 1 + 1, 3, none⟩) (.inr ⟨by dsimp only; omega, by dsimp only; omega⟩) _).setCell (p := ⟨w.heap.size + 1 + 1, 4, none⟩) (.inr ⟨by dsimp only; omega, by dsimp only; omega⟩) _).setCell (p := ⟨w.heap.size + 1 + 1, 5, none⟩) (.inr ⟨by dsimp only; omega, by dsimp only; omega⟩) _).setCell (p := ⟨w.heap.size + 1 + 1, 6, none⟩) (.inr ⟨by dsimp only; omega, by dsimp only; omega⟩) _) (by omega)⟩
set_option maxRecDepth 100000 in
set_option maxHeartbeats 4000000 in
theorem implDo_7 (x y : StL) (A1 A2 A3 A4 B1 B2 B3 B4 : Option Addr) (c1 c2 c3 c4 d1 d2 d3 d4 : Nat) (w : World) (hx : StAt w x A1 A2 A3 A4) (hy : StAt w y B1 B2 B3 B4) (ht : Tabs w) (hm : wmayB x y 7 = true) :
    Calls Tryz.prog 69 #[stV x A1 A2 A3 A4 c1 c2 c3 c4, stV y B1 B2 B3 B4 d1 d2 d3 d4, .int .i64 7] w (RetDoO w (doSt x y 7)) := by
  have HX := Lib.hid hx
  have HY := Lib.hid hy
  have HT := Lib.hid ht
  have HBx := Lib.hid (((Box.new w _ rfl 39 #[.int .i64 x.way, .int .i64 x.ver, .int .i64 x.want, .slice A1 x.sent.length c1, .slice A2 x.live.length c2, .slice A3 x.back.length c3, .slice A4 x.got.length c4]).alloc (.cells #[.int .i64 y.way, .int .i64 y.ver, .int .i64 y.want, .slice B1 y.sent.length d1, .slice B2 y.live.length d2, .slice B3 y.back.length d3, .slice B4 y.got.length d4] 39)).alloc (.cells #[.int .i64 0, .int .i64 0, .int .i64 0, .slice none 0 0, .slice none 0 0, .slice none 0 0, .slice none 0 0] 39))
  have HBy := Lib.hid ((Box.new (w.alloc (.cells #[.int .i64 x.way, .int .i64 x.ver, .int .i64 x.want, .slice A1 x.sent.length c1, .slice A2 x.live.length c2, .slice A3 x.back.length c3, .slice A4 x.got.length c4] 39)) (w.heap.size + 1) (by simp) 39 #[.int .i64 y.way, .int .i64 y.ver, .int .i64 y.want, .slice B1 y.sent.length d1, .slice B2 y.live.length d2, .slice B3 y.back.length d3, .slice B4 y.got.length d4]).alloc (.cells #[.int .i64 0, .int .i64 0, .int .i64 0, .slice none 0 0, .slice none 0 0, .slice none 0 0, .slice none 0 0] 39))
  have HBz := Lib.hid (Box.new ((w.alloc (.cells #[.int .i64 x.way, .int .i64 x.ver, .int .i64 x.want, .slice A1 x.sent.length c1, .slice A2 x.live.length c2, .slice A3 x.back.length c3, .slice A4 x.got.length c4] 39)).alloc (.cells #[.int .i64 y.way, .int .i64 y.ver, .int .i64 y.want, .slice B1 y.sent.length d1, .slice B2 y.live.length d2, .slice B3 y.back.length d3, .slice B4 y.got.length d4] 39)) (w.heap.size + 1 + 1) (by simp) 39 #[.int .i64 0, .int .i64 0, .int .i64 0, .slice none 0 0, .slice none 0 0, .slice none 0 0, .slice none 0 0])
  have HK := Lib.hid ((((Keeps.refl noBlk w).alloc (.cells #[.int .i64 x.way, .int .i64 x.ver, .int .i64 x.want, .slice A1 x.sent.length c1, .slice A2 x.live.length c2, .slice A3 x.back.length c3, .slice A4 x.got.length c4] 39)).alloc (.cells #[.int .i64 y.way, .int .i64 y.ver, .int .i64 y.want, .slice B1 y.sent.length d1, .slice B2 y.live.length d2, .slice B3 y.back.length d3, .slice B4 y.got.length d4] 39)).alloc (.cells #[.int .i64 0, .int .i64 0, .int .i64 0, .slice none 0 0, .slice none 0 0, .slice none 0 0, .slice none 0 0] 39))
  have hz0 : w.heap.size + 3 ≤ (((w.alloc (.cells #[.int .i64 x.way, .int .i64 x.ver, .int .i64 x.want, .slice A1 x.sent.length c1, .slice A2 x.live.length c2, .slice A3 x.back.length c3, .slice A4 x.got.length c4] 39)).alloc (.cells #[.int .i64 y.way, .int .i64 y.ver, .int .i64 y.want, .slice B1 y.sent.length d1, .slice B2 y.live.length d2, .slice B3 y.back.length d3, .slice B4 y.got.length d4] 39)).alloc (.cells #[.int .i64 0, .int .i64 0, .int .i64 0, .slice none 0 0, .slice none 0 0, .slice none 0 0, .slice none 0 0] 39)).heap.size := by simp
  have HV := Lib.hid (stB_parts (show stB x = true by simp only [wmayB, Bool.and_eq_true] at hm; exact hm.1.1)).2.1
  have HN8 := Lib.hid (show x.sent.length ≤ 1048576 ∧ x.live.length ≤ 1048576 ∧ x.back.length ≤ 1048576 ∧ x.got.length ≤ 1048576 by
    have k := stB_ok (show stB x = true by simp only [wmayB, Bool.and_eq_true] at hm; exact hm.1.1)
    have := k.2.1.small
    have := k.2.2.1.1
    have := k.2.2.1.2.1
    have := k.2.2.2.1
    exact ⟨by omega, by omega, by omega, by omega⟩)
  clear hx hy ht
  have HE := Lib.hid (show doSt x y 7 = ⟨3, x.want, 0, x.sent, x.live, x.back, x.got⟩ by simp [doSt])
  have HM := Lib.hid (fun W h h' hT => (show Calls Tryz.prog 95 #[stV x A1 A2 A3 A4 c1 c2 c3 c4, stV y B1 B2 B3 B4 d1 d2 d3 d4, .int .i64 7] W (fun e w' => e = .returned (.bool true) ∧ Keeps noBlk W w') from by rw [← hm]; exact implMay_any x y A1 A2 A3 A4 B1 B2 B3 B4 c1 c2 c3 c4 d1 d2 d3 d4 7 W h h' hT))
  have HCO := Lib.hid (fun W h => implCopy_any x A1 A2 A3 A4 c1 c2 c3 c4 W h HN8.out.1 HN8.out.2.1 HN8.out.2.2.1 HN8.out.2.2.2)
  have HDO := Lib.hid (fun W P1 P2 P3 P4 e1 e2 e3 e4 => impl_renewed x P1 P2 P3 P4 e1 e2 e3 e4 W HV.out)
  clear hm
  unfold stV at HM HCO HDO ⊢
  go_enter Tryz.func69, Tryz.ntmps69
  go_wp2_with fail
  refine (impl_stepAt_7 _).mono ?_
  rintro e w1 ⟨rfl, hk1⟩
  have hx := HBx.out.keeps hk1 (fun h => h)
  clear HBx
  have HBx := Lib.hid hx
  clear hx
  have hy := HBy.out.keeps hk1 (fun h => h)
  clear HBy
  have HBy := Lib.hid hy
  clear hy
  have hz := HBz.out.keeps hk1 (fun h => h)
  clear HBz
  have HBz := Lib.hid hz
  clear hz
  have hr := HK.out.trans hk1
  clear HK
  have HK := Lib.hid hr
  clear hr
  have sz1 := hk1.size
  (try simp at sz1)
  clear hk1
  have hb := HBx.out
  have x0 := hb.cell 0
  have x1 := hb.cell 1
  have x2 := hb.cell 2
  have x3 := hb.cell 3
  have x4 := hb.cell 4
  have x5 := hb.cell 5
  have x6 := hb.cell 6
  simp at x0 x1 x2 x3 x4 x5 x6
  have zx := hb.lt
  clear hb
  have hb := HBy.out
  have y0 := hb.cell 0
  have y1 := hb.cell 1
  have y2 := hb.cell 2
  have y3 := hb.cell 3
  have y4 := hb.cell 4
  have y5 := hb.cell 5
  have y6 := hb.cell 6
  simp at y0 y1 y2 y3 y4 y5 y6
  have zy := hb.lt
  clear hb
  have hx := HBx.out.alloc (.cells #[.func (.func 122) #[] #[], .func (.func 123) #[] #[]] 124)
  clear HBx
  have HBx := Lib.hid hx
  clear hx
  have hy := HBy.out.alloc (.cells #[.func (.func 122) #[] #[], .func (.func 123) #[] #[]] 124)
  clear HBy
  have HBy := Lib.hid hy
  clear hy
  have hz := HBz.out.alloc (.cells #[.func (.func 122) #[] #[], .func (.func 123) #[] #[]] 124)
  clear HBz
  have HBz := Lib.hid hz
  clear hz
  have hr := HK.out.alloc (.cells #[.func (.func 122) #[] #[], .func (.func 123) #[] #[]] 124)
  clear HK
  have HK := Lib.hid hr
  clear hr
  have HBr := Lib.hid (Box.new w1 _ rfl 124 #[.func (.func 122) #[] #[], .func (.func 123) #[] #[]])
  go_wp2_with fail
  refine (HM.out _ (HX.out.kept HK.out) (HY.out.kept HK.out) (HT.out.keeps HK.out)).mono ?_
  rintro e w2 ⟨rfl, hk2⟩
  clear x0 x1 x2 x3 x4 x5 x6 y0 y1 y2 y3 y4 y5 y6 zx zy
  have hx := HBx.out.keeps hk2 (fun h => h)
  clear HBx
  have HBx := Lib.hid hx
  clear hx
  have hy := HBy.out.keeps hk2 (fun h => h)
  clear HBy
  have HBy := Lib.hid hy
  clear hy
  have hz := HBz.out.keeps hk2 (fun h => h)
  clear HBz
  have HBz := Lib.hid hz
  clear hz
  have hr := HBr.out.keeps hk2 (fun h => h)
  clear HBr
  have HBr := Lib.hid hr
  clear hr
  have hr := HK.out.trans hk2
  clear HK
  have HK := Lib.hid hr
  clear hr
  have sz2 := hk2.size
  (try simp at sz2)
  clear hk2
  have hb := HBx.out
  have x0 := hb.cell 0
  have x1 := hb.cell 1
  have x2 := hb.cell 2
  have x3 := hb.cell 3
  have x4 := hb.cell 4
  have x5 := hb.cell 5
  have x6 := hb.cell 6
  simp at x0 x1 x2 x3 x4 x5 x6
  have zx := hb.lt
  clear hb
  have hb := HBr.out
  have r0 := hb.cell 0
  have r1 := hb.cell 1
  simp at r0 r1
  have zr := hb.lt
  clear hb
  have : ¬ w1.heap.size = w.heap.size + 1 + 1 := by omega
  have : ¬ w.heap.size + 1 + 1 = w1.heap.size := by omega
  have : ¬ w.heap.size = w.heap.size + 1 + 1 := by omega
  have : ¬ w.heap.size + 1 + 1 = w.heap.size := by omega
  go_wp2_with fail
  go_region_held3 (fun w' => w'.cell? ⟨w.heap.size, 0, none⟩ = some (.int .i64 x.way) ∧ w'.cell? ⟨w.heap.size, 1, none⟩ = some (.int .i64 x.ver) ∧ w'.cell? ⟨w.heap.size, 2, none⟩ = some (.int .i64 x.want) ∧ w'.cell? ⟨w.heap.size, 3, none⟩ = some (.slice A1 x.sent.length c1) ∧ w'.cell? ⟨w.heap.size, 4, none⟩ = some (.slice A2 x.live.length c2) ∧ w'.cell? ⟨w.heap.size, 5, none⟩ = some (.slice A3 x.back.length c3) ∧ w'.cell? ⟨w.heap.size, 6, none⟩ = some (.slice A4 x.got.length c4) ∧ w'.cell? ⟨w1.heap.size, 0, none⟩ = some (.func (.func 122) #[] #[]) ∧ w'.cell? ⟨w1.heap.size, 1, none⟩ = some (.func (.func 123) #[] #[]))
    (((try dsimp only); (repeat' apply And.intro) <;> (first | with_reducible assumption | (go_keep; done))))
    (first | (go_at_call 82; refine (HCO.out _ (HX.out.kept (HK.out.drewN 1))).mono ?_; rintro e w3 ⟨⟨xx, P1, P2, P3, P4, e1, e2, e3, e4⟩, rfl, hxx, hk3, hst, hso⟩; have hq := ((Keeps.refl noBlk w2).drewN 1).trans hk3; clear hk3; have hk3 := hq; clear hq; dsimp only at hxx; replace hxx := hxx.symm; subst hxx; unfold StM.val; have HST := Lib.hid hst; have HSO := Lib.hid hso; clear hst hso; clear x0 x1 x2 x3 x4 x5 x6 r0 r1 zx zr; have hx := HBx.out.keeps hk3 (fun h => h); clear HBx; have HBx := Lib.hid hx; clear hx; have hy := HBy.out.keeps hk3 (fun h => h); clear HBy; have HBy := Lib.hid hy; clear hy; have hz := HBz.out.keeps hk3 (fun h => h); clear HBz; have HBz := Lib.hid hz; clear hz; have hr := HBr.out.keeps hk3 (fun h => h); clear HBr; have HBr := Lib.hid hr; clear hr; have hr := HK.out.trans hk3; clear HK; have HK := Lib.hid hr; clear hr; have sz3 := hk3.size; (try simp at sz3); clear hk3; have hb := HBx.out; have x0 := hb.cell 0; have x1 := hb.cell 1; have x2 := hb.cell 2; have x3 := hb.cell 3; have x4 := hb.cell 4; have x5 := hb.cell 5; have x6 := hb.cell 6; simp at x0 x1 x2 x3 x4 x5 x6; have zx := hb.lt; clear hb; have hb := HBr.out; have r0 := hb.cell 0; have r1 := hb.cell 1; simp at r0 r1; have zr := hb.lt; clear hb; have hb := HBz.out; have z0 := hb.cell 0; have z1 := hb.cell 1; have z2 := hb.cell 2; have z3 := hb.cell 3; have z4 := hb.cell 4; have z5 := hb.cell 5; have z6 := hb.cell 6; simp at z0 z1 z2 z3 z4 z5 z6; have zz := hb.lt; clear hb) | (go_at_call 123; refine (HDO.out _ P1 P2 P3 P4 e1 e2 e3 e4).mono ?_; rintro e w4 ⟨rfl, hk4⟩; have HK4 := Lib.hid hk4; clear x0 x1 x2 x3 x4 x5 x6 r0 r1 z0 z1 z2 z3 z4 z5 z6 zx zr zz; have hx := HBx.out.keeps hk4 (fun h => h); clear HBx; have HBx := Lib.hid hx; clear hx; have hy := HBy.out.keeps hk4 (fun h => h); clear HBy; have HBy := Lib.hid hy; clear hy; have hz := HBz.out.keeps hk4 (fun h => h); clear HBz; have HBz := Lib.hid hz; clear hz; have hr := HBr.out.keeps hk4 (fun h => h); clear HBr; have HBr := Lib.hid hr; clear hr; have hr := HK.out.trans hk4; clear HK; have HK := Lib.hid hr; clear hr; have sz4 := hk4.size; (try simp at sz4); clear hk4; have hb := HBx.out; have x0 := hb.cell 0; have x1 := hb.cell 1; have x2 := hb.cell 2; have x3 := hb.cell 3; have x4 := hb.cell 4; have x5 := hb.cell 5; have x6 := hb.cell 6; simp at x0 x1 x2 x3 x4 x5 x6; have zx := hb.lt; clear hb; have hb := HBr.out; have r0 := hb.cell 0; have r1 := hb.cell 1; simp at r0 r1; have zr := hb.lt; clear hb; have hb := HBz.out; have z0 := hb.cell 0; have z1 := hb.cell 1; have z2 := hb.cell 2; have z3 := hb.cell 3; have z4 := hb.cell 4; have z5 := hb.cell 5; have z6 := hb.cell 6; simp at z0 z1 z2 z3 z4 z5 z6; have zz := hb.lt; clear hb; have hb := HBz.out; have zf0 := hb.frozen 0; have zf1 := hb.frozen 1; have zf2 := hb.frozen 2; have zf3 := hb.frozen 3; have zf4 := hb.frozen 4; have zf5 := hb.frozen 5; have zf6 := hb.frozen 6; clear hb))
  go_wp2
  refine bodyPost_ret (v := .tuple #[.agg #[.int .i64 (3), .int .i64 (x.want), .int .i64 (0), .slice P1 x.sent.length e1, .slice P2 x.live.length e2, .slice P3 x.back.length e3, .slice P4 x.got.length e4], .bool true]) (by simp [results, Tryz.results69, go_sem, *]) rfl ?_
  exact ⟨⟨⟨3, x.want, 0, x.sent, x.live, x.back, x.got⟩, P1, P2, P3, P4, e1, e2, e3, e4⟩, rfl, HE.out.symm, (((((((HK.out).new (g := w.heap.size + 1 + 1) (by omega) _ _).new (g := w.heap.size + 1 + 1) (by omega) _ _).new (g := w.heap.size + 1 + 1) (by omega) _ _).new (g := w.heap.size + 1 + 1) (by omega) _ _).new (g := w.heap.size + 1 + 1) (by omega) _ _).new (g := w.heap.size + 1 + 1) (by omega) _ _).new (g := w.heap.size + 1 + 1) (by omega) _ _, do_end (w := w) (w2 := w2) (s := ⟨⟨3, x.want, 0, x.sent, x.live, x.back, x.got⟩, P1, P2, P3, P4, e1, e2, e3, e4⟩) HST.out HK4.out (((((((((Keeps.refl (fun b => w.heap.size ≤ b ∧ b < w2.heap.size) w4)).setCell (p := ⟨w.heap.size + 1 + 1, 0, none⟩) (.inr ⟨by dsimp only; omega, by dsimp only; omega⟩) _).setCell (p := ⟨w.heap.size + 1 + 1, 1, none⟩) (.inr ⟨by dsimp only; omega, by dsimp only; omega⟩) _).setCell (p := ⟨w.heap.size + 1 + 1, 2, none⟩) (.inr ⟨by dsimp only; omega, by dsimp only; omega⟩) _).setCell (p := ⟨w.heap.size + 1 + 1, 3, none⟩) (.inr ⟨by dsimp only; omega, by dsimp only; omega⟩) _).setCell (p := ⟨w.heap.size + 1 + 1, 4, none⟩) (.inr ⟨by dsimp only; omega, by dsimp only; omega⟩) _).setCell (p := ⟨w.heap.size + 1 + 1, 5, none⟩) (.inr ⟨by dsimp only; omega, by dsimp only; omega⟩) _).setCell (p := ⟨w.heap.size + 1 + 1, 6, none⟩) (.inr ⟨by dsimp only; omega, by dsimp only; omega⟩) _) (by omega), do_own (w := w) (w2 := w2) (x := ⟨3, x.want, 0, x.sent, x.live, x.back, x.got⟩) HSO.out HK4.out (((((((((Keeps.refl (fun b => w.heap.size ≤ b ∧ b < w2.heap.size) w4)).setCell (p := ⟨w.heap.size + 1 + 1, 0, none⟩) (.inr ⟨by dsimp only; omega, by dsimp only; omega⟩) _).setCell (p := ⟨w.heap.size + 1 + 1, 1, none⟩) (.inr ⟨by dsimp only; omega, by dsimp only; omega⟩) _).setCell (p := ⟨w.heap.size + 1 + 1, 2, none⟩) (.inr ⟨by dsimp only; omega, by dsimp only; omega⟩) _).setCell (p := ⟨w.heap.size + 1 + 1, 3, none⟩) (.inr ⟨by dsimp only; omega, by dsimp only; omega⟩) _).setCell (p := ⟨w.heap.size + 1 + 1, 4, none⟩) (.inr ⟨by dsimp only; omega, by dsimp only; omega⟩) _).setCell (p := ⟨w.heap.size + 1 + 1, 5, none⟩) (.inr ⟨by dsimp only; omega, by dsimp only; omega⟩) _).setCell (p := ⟨w.heap.size + 1 + 1, 6, none⟩) (.inr ⟨by dsimp only; omega, by dsimp only; omega⟩) _) (by omega)⟩
end Go.Proofs.YtcnbephpadmboaaGreatDoor
