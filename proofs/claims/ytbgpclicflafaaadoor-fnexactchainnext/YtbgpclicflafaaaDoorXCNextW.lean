/- FnExactChainNext: the function answers as its model, for every argument; the chain reads as it did; the two tables read as the program's text lays them. -/
import Derived.Test.YtbgpclicflafaaaDoorCxF
import Derived.Test.YtbgpclicflafaaaDoorCxS
import Derived.Test.YtbgpclicflafaaaDoorCxU
import Derived.Test.YtbgpclicflafaaaDoorCxE
import Derived.Test.YtbgpclicflafaaaDoorCxL
import Derived.Test.YtbgpclicflafaaaDoorCxI
import Derived.Deep.RegionHeld3
import Derived.Deep.CutRange
set_option linter.unusedVariables false
set_option linter.unusedSimpArgs false
namespace Go.Proofs.YtbgpclicflafaaaDoor
open Go.RowKit Go.ChangeShapes Go.WideShapes Go.ChangeAt

theorem nxH_same {c d : ChM} (h : SameC c d) : nxH d = nxH c := by unfold nxH; rw [ckB_same h, h.past.1]
theorem nxP_same {c d : ChM} (h : SameC c d) : nxP d = nxP c := by unfold nxP; rw [ckB_same h, h.st]

set_option maxRecDepth 100000 in
set_option maxHeartbeats 8000000 in
theorem walk_xcnext (c : ChM) (w : World) (h : ChAt w c) (hl : I64 c.bk.b.locked) (ht : Tabs w) :
    Calls Tryd.prog 7 #[c.val] w fun e w' => e = .returned (.bool true) ∧ Below w.heap.size w w' := by
  have HT := Lib.hid ht
  have FS := Lib.hid (fun W (hk : Keeps noBlk w W) => szChain_any c W (h.kept hk))
  unfold szR at FS
  have HBa := Lib.hid (Box.new w _ rfl 31 #[.int .i64 c.id, .slice c.bk.A1 c.bk.b.own.length c.bk.c1, .slice c.bk.A2 c.bk.b.notes.length c.bk.c2, .int .i64 c.bk.b.locked, .int .i64 c.st.x.way, .int .i64 c.st.x.ver, .int .i64 c.st.x.want, .slice c.st.A1 c.st.x.sent.length c.st.c1, .slice c.st.A2 c.st.x.live.length c.st.c2, .slice c.st.A3 c.st.x.back.length c.st.c3, .slice c.st.A4 c.st.x.got.length c.st.c4, .slice c.pA c.past.length c.pc, .slice c.kA c.knows.length c.kc])
  have HK := Lib.hid ((Keeps.refl noBlk w).alloc (.cells #[.int .i64 c.id, .slice c.bk.A1 c.bk.b.own.length c.bk.c1, .slice c.bk.A2 c.bk.b.notes.length c.bk.c2, .int .i64 c.bk.b.locked, .int .i64 c.st.x.way, .int .i64 c.st.x.ver, .int .i64 c.st.x.want, .slice c.st.A1 c.st.x.sent.length c.st.c1, .slice c.st.A2 c.st.x.live.length c.st.c2, .slice c.st.A3 c.st.x.back.length c.st.c3, .slice c.st.A4 c.st.x.got.length c.st.c4, .slice c.pA c.past.length c.pc, .slice c.kA c.knows.length c.kc] 31))
  have hlk := hl.2
  clear ht hl
  by_cases hs : chTot c ≤ 1048576
  case neg =>
    rw [if_neg hs] at FS
    clear h hs hlk
    unfold ChM.val
    unfold ChM.val at FS
    go_enter Tryd.func7, Tryd.ntmps7
    go_wp2_with fail
    refine (FS.out _ HK.out).mono ?_
    rintro e w1 ⟨rfl, hk1⟩
    have HK1 := Lib.hid (HK.out.trans hk1)
    clear hk1
    go_wp2
    go_ret
    exact ⟨rfl, HK1.out.below⟩
  rw [if_pos hs] at FS
  have SH := short_of hs
  have hneg : ¬ (1048576 : Int) - chTot c < 0 := by omega
  have HTO := Lib.hid (fun W (hk : Keeps noBlk w W) => toChain_any c W (h.kept hk) SH)
  have HEQ := Lib.hid (fun d d' W (s : SameC c d) (s' : SameC c d') (k : ChAt W d) (k' : ChAt W d') => eqChain_same d d' W k k' (s.symm.trans s'))
  obtain ⟨A, hA⟩ : ∃ o, nxH c = o := ⟨_, rfl⟩
  obtain ⟨B, hB⟩ : ∃ o, nxP c = o := ⟨_, rfl⟩
  have HSP := Lib.hid (fun d W (s : SameC c d) (k : ChAt W d) => (show Calls Tryd.prog 30 #[d.val] W (fun e w' => e = .returned (.tuple #[.int .i64 A, .int .i64 B]) ∧ Keeps noBlk W w') from by rw [← hA, ← hB, ← nxH_same s, ← nxP_same s]; exact specNext_any d W k (by rw [← s.bk]; exact hlk)))
  have HIM := Lib.hid (fun d W (s : SameC c d) (k : ChAt W d) (t : Tabs W) => (show Calls Tryd.prog 31 #[d.val] W (fun e w' => e = .returned (.tuple #[.int .i64 A, .int .i64 B]) ∧ Keeps noBlk W w') from by rw [← hA, ← hB, ← nxH_same s, ← nxP_same s]; exact implNext_any d W k t))
  clear hA hB hlk
  have hAA : (A != A) = false := by simp
  have hBB : (B != B) = false := by simp
  clear h hs SH
  generalize chTot c = tot at FS hneg
  unfold ChM.val
  unfold ChM.val at FS
  go_enter Tryd.func7, Tryd.ntmps7
  go_wp2_with fail
  refine (FS.out _ HK.out).mono ?_
  rintro e w1 ⟨rfl, hk1⟩
  have ha := HBa.out.keeps hk1 (fun h => h)
  clear HBa
  have HBa := Lib.hid ha
  clear ha
  have hr := HK.out.trans hk1
  clear HK
  have HK := Lib.hid hr
  clear hr
  have sz1 := hk1.size
  (try simp at sz1)
  clear hk1
  have hb := HBa.out
  have a0 := hb.cell 0
  have a1 := hb.cell 1
  have a2 := hb.cell 2
  have a3 := hb.cell 3
  have a4 := hb.cell 4
  have a5 := hb.cell 5
  have a6 := hb.cell 6
  have a7 := hb.cell 7
  have a8 := hb.cell 8
  have a9 := hb.cell 9
  have a10 := hb.cell 10
  have a11 := hb.cell 11
  have a12 := hb.cell 12
  simp at a0 a1 a2 a3 a4 a5 a6 a7 a8 a9 a10 a11 a12
  have za := hb.lt
  clear hb
  go_wp2_with fail
  refine (HTO.out _ HK.out).mono ?_
  rintro e w2 ⟨p, Gp, rfl, s9, o9, hk2⟩
  dsimp only [ChM.val]
  have Sp := Lib.hid s9
  have Op := Lib.hid o9.at_
  clear s9 o9
  clear a0 a1 a2 a3 a4 a5 a6 a7 a8 a9 a10 a11 a12 za
  have ha := HBa.out.keeps hk2 (fun h => h)
  clear HBa
  have HBa := Lib.hid ha
  clear ha
  have hr := HK.out.trans hk2
  clear HK
  have HK := Lib.hid hr
  clear hr
  have sz2 := hk2.size
  (try simp at sz2)
  clear hk2
  have hb := HBa.out
  have a0 := hb.cell 0
  have a1 := hb.cell 1
  have a2 := hb.cell 2
  have a3 := hb.cell 3
  have a4 := hb.cell 4
  have a5 := hb.cell 5
  have a6 := hb.cell 6
  have a7 := hb.cell 7
  have a8 := hb.cell 8
  have a9 := hb.cell 9
  have a10 := hb.cell 10
  have a11 := hb.cell 11
  have a12 := hb.cell 12
  simp at a0 a1 a2 a3 a4 a5 a6 a7 a8 a9 a10 a11 a12
  have za := hb.lt
  clear hb
  go_wp2_with fail
  refine (HSP.out p _ Sp.out Op.out).mono ?_
  rintro e w3 ⟨rfl, hk3⟩
  clear a0 a1 a2 a3 a4 a5 a6 a7 a8 a9 a10 a11 a12 za
  have ha := HBa.out.keeps hk3 (fun h => h)
  clear HBa
  have HBa := Lib.hid ha
  clear ha
  have hr := (Op.out).kept hk3
  clear Op
  have Op := Lib.hid hr
  clear hr
  have hr := HK.out.trans hk3
  clear HK
  have HK := Lib.hid hr
  clear hr
  have sz3 := hk3.size
  (try simp at sz3)
  clear hk3
  have hb := HBa.out
  have a0 := hb.cell 0
  have a1 := hb.cell 1
  have a2 := hb.cell 2
  have a3 := hb.cell 3
  have a4 := hb.cell 4
  have a5 := hb.cell 5
  have a6 := hb.cell 6
  have a7 := hb.cell 7
  have a8 := hb.cell 8
  have a9 := hb.cell 9
  have a10 := hb.cell 10
  have a11 := hb.cell 11
  have a12 := hb.cell 12
  simp at a0 a1 a2 a3 a4 a5 a6 a7 a8 a9 a10 a11 a12
  have za := hb.lt
  clear hb
  clear Op Sp
  go_wp2_with fail
  refine (HTO.out _ HK.out).mono ?_
  rintro e w4 ⟨x, Gx, rfl, s9, o9, hk4⟩
  dsimp only [ChM.val]
  have Sx := Lib.hid s9
  have Ox := Lib.hid o9.at_
  clear s9 o9
  clear a0 a1 a2 a3 a4 a5 a6 a7 a8 a9 a10 a11 a12 za
  have ha := HBa.out.keeps hk4 (fun h => h)
  clear HBa
  have HBa := Lib.hid ha
  clear ha
  have hr := HK.out.trans hk4
  clear HK
  have HK := Lib.hid hr
  clear hr
  have sz4 := hk4.size
  (try simp at sz4)
  clear hk4
  have ha := HBa.out.alloc (.cells #[.int .i64 x.id, .slice x.bk.A1 x.bk.b.own.length x.bk.c1, .slice x.bk.A2 x.bk.b.notes.length x.bk.c2, .int .i64 x.bk.b.locked, .int .i64 x.st.x.way, .int .i64 x.st.x.ver, .int .i64 x.st.x.want, .slice x.st.A1 x.st.x.sent.length x.st.c1, .slice x.st.A2 x.st.x.live.length x.st.c2, .slice x.st.A3 x.st.x.back.length x.st.c3, .slice x.st.A4 x.st.x.got.length x.st.c4, .slice x.pA x.past.length x.pc, .slice x.kA x.knows.length x.kc] 40)
  clear HBa
  have HBa := Lib.hid ha
  clear ha
  have hr := (Ox.out).kept ((Keeps.refl noBlk w4).alloc (.cells #[.int .i64 x.id, .slice x.bk.A1 x.bk.b.own.length x.bk.c1, .slice x.bk.A2 x.bk.b.notes.length x.bk.c2, .int .i64 x.bk.b.locked, .int .i64 x.st.x.way, .int .i64 x.st.x.ver, .int .i64 x.st.x.want, .slice x.st.A1 x.st.x.sent.length x.st.c1, .slice x.st.A2 x.st.x.live.length x.st.c2, .slice x.st.A3 x.st.x.back.length x.st.c3, .slice x.st.A4 x.st.x.got.length x.st.c4, .slice x.pA x.past.length x.pc, .slice x.kA x.knows.length x.kc] 40))
  clear Ox
  have Ox := Lib.hid hr
  clear hr
  have hr := HK.out.alloc (.cells #[.int .i64 x.id, .slice x.bk.A1 x.bk.b.own.length x.bk.c1, .slice x.bk.A2 x.bk.b.notes.length x.bk.c2, .int .i64 x.bk.b.locked, .int .i64 x.st.x.way, .int .i64 x.st.x.ver, .int .i64 x.st.x.want, .slice x.st.A1 x.st.x.sent.length x.st.c1, .slice x.st.A2 x.st.x.live.length x.st.c2, .slice x.st.A3 x.st.x.back.length x.st.c3, .slice x.st.A4 x.st.x.got.length x.st.c4, .slice x.pA x.past.length x.pc, .slice x.kA x.knows.length x.kc] 40)
  clear HK
  have HK := Lib.hid hr
  clear hr
  have HBx := Lib.hid (Box.new w4 _ rfl 40 #[.int .i64 x.id, .slice x.bk.A1 x.bk.b.own.length x.bk.c1, .slice x.bk.A2 x.bk.b.notes.length x.bk.c2, .int .i64 x.bk.b.locked, .int .i64 x.st.x.way, .int .i64 x.st.x.ver, .int .i64 x.st.x.want, .slice x.st.A1 x.st.x.sent.length x.st.c1, .slice x.st.A2 x.st.x.live.length x.st.c2, .slice x.st.A3 x.st.x.back.length x.st.c3, .slice x.st.A4 x.st.x.got.length x.st.c4, .slice x.pA x.past.length x.pc, .slice x.kA x.knows.length x.kc])
  go_wp2_with fail
  refine (HIM.out x _ Sx.out Ox.out (HT.out.keeps HK.out)).mono ?_
  rintro e w5 ⟨rfl, hk5⟩
  have ha := HBa.out.keeps hk5 (fun h => h)
  clear HBa
  have HBa := Lib.hid ha
  clear ha
  have hx := HBx.out.keeps hk5 (fun h => h)
  clear HBx
  have HBx := Lib.hid hx
  clear hx
  have hr := (Ox.out).kept hk5
  clear Ox
  have Ox := Lib.hid hr
  clear hr
  have hr := HK.out.trans hk5
  clear HK
  have HK := Lib.hid hr
  clear hr
  have sz5 := hk5.size
  (try simp at sz5)
  clear hk5
  have hb := HBx.out
  have x0 := hb.cell 0
  have x1 := hb.cell 1
  have x2 := hb.cell 2
  have x3 := hb.cell 3
  have x4 := hb.cell 4
  have x5 := hb.cell 5
  have x6 := hb.cell 6
  have x7 := hb.cell 7
  have x8 := hb.cell 8
  have x9 := hb.cell 9
  have x10 := hb.cell 10
  have x11 := hb.cell 11
  have x12 := hb.cell 12
  simp at x0 x1 x2 x3 x4 x5 x6 x7 x8 x9 x10 x11 x12
  have zx := hb.lt
  clear hb
  have hb := HBa.out
  have a0 := hb.cell 0
  have a1 := hb.cell 1
  have a2 := hb.cell 2
  have a3 := hb.cell 3
  have a4 := hb.cell 4
  have a5 := hb.cell 5
  have a6 := hb.cell 6
  have a7 := hb.cell 7
  have a8 := hb.cell 8
  have a9 := hb.cell 9
  have a10 := hb.cell 10
  have a11 := hb.cell 11
  have a12 := hb.cell 12
  simp at a0 a1 a2 a3 a4 a5 a6 a7 a8 a9 a10 a11 a12
  have za := hb.lt
  clear hb
  go_wp2_with fail
  go_region_held3 (fun w' => w'.cell? ⟨w4.heap.size, 0, none⟩ = some (.int .i64 x.id) ∧ w'.cell? ⟨w4.heap.size, 1, none⟩ = some (.slice x.bk.A1 x.bk.b.own.length x.bk.c1) ∧ w'.cell? ⟨w4.heap.size, 2, none⟩ = some (.slice x.bk.A2 x.bk.b.notes.length x.bk.c2) ∧ w'.cell? ⟨w4.heap.size, 3, none⟩ = some (.int .i64 x.bk.b.locked) ∧ w'.cell? ⟨w4.heap.size, 4, none⟩ = some (.int .i64 x.st.x.way) ∧ w'.cell? ⟨w4.heap.size, 5, none⟩ = some (.int .i64 x.st.x.ver) ∧ w'.cell? ⟨w4.heap.size, 6, none⟩ = some (.int .i64 x.st.x.want) ∧ w'.cell? ⟨w4.heap.size, 7, none⟩ = some (.slice x.st.A1 x.st.x.sent.length x.st.c1) ∧ w'.cell? ⟨w4.heap.size, 8, none⟩ = some (.slice x.st.A2 x.st.x.live.length x.st.c2) ∧ w'.cell? ⟨w4.heap.size, 9, none⟩ = some (.slice x.st.A3 x.st.x.back.length x.st.c3) ∧ w'.cell? ⟨w4.heap.size, 10, none⟩ = some (.slice x.st.A4 x.st.x.got.length x.st.c4) ∧ w'.cell? ⟨w4.heap.size, 11, none⟩ = some (.slice x.pA x.past.length x.pc) ∧ w'.cell? ⟨w4.heap.size, 12, none⟩ = some (.slice x.kA x.knows.length x.kc) ∧ w'.cell? ⟨w.heap.size, 0, none⟩ = some (.int .i64 c.id) ∧ w'.cell? ⟨w.heap.size, 1, none⟩ = some (.slice c.bk.A1 c.bk.b.own.length c.bk.c1) ∧ w'.cell? ⟨w.heap.size, 2, none⟩ = some (.slice c.bk.A2 c.bk.b.notes.length c.bk.c2) ∧ w'.cell? ⟨w.heap.size, 3, none⟩ = some (.int .i64 c.bk.b.locked) ∧ w'.cell? ⟨w.heap.size, 4, none⟩ = some (.int .i64 c.st.x.way) ∧ w'.cell? ⟨w.heap.size, 5, none⟩ = some (.int .i64 c.st.x.ver) ∧ w'.cell? ⟨w.heap.size, 6, none⟩ = some (.int .i64 c.st.x.want) ∧ w'.cell? ⟨w.heap.size, 7, none⟩ = some (.slice c.st.A1 c.st.x.sent.length c.st.c1) ∧ w'.cell? ⟨w.heap.size, 8, none⟩ = some (.slice c.st.A2 c.st.x.live.length c.st.c2) ∧ w'.cell? ⟨w.heap.size, 9, none⟩ = some (.slice c.st.A3 c.st.x.back.length c.st.c3) ∧ w'.cell? ⟨w.heap.size, 10, none⟩ = some (.slice c.st.A4 c.st.x.got.length c.st.c4) ∧ w'.cell? ⟨w.heap.size, 11, none⟩ = some (.slice c.pA c.past.length c.pc) ∧ w'.cell? ⟨w.heap.size, 12, none⟩ = some (.slice c.kA c.knows.length c.kc))
    (((try dsimp only); (repeat' apply And.intro) <;> (first | with_reducible assumption | (go_keep; done))))
    (first | (go_at_call 16; refine (HTO.out _ (HK.out.drewN 1)).mono ?_; rintro e w6 ⟨y, Gy, rfl, s9, o9, hk6⟩; have hq := ((Keeps.refl noBlk w5).drewN 1).trans hk6; clear hk6; have hk6 := hq; clear hq; dsimp only [ChM.val]; have Sy := Lib.hid s9; have Oy := Lib.hid o9.at_; clear s9 o9; clear x0 x1 x2 x3 x4 x5 x6 x7 x8 x9 x10 x11 x12 a0 a1 a2 a3 a4 a5 a6 a7 a8 a9 a10 a11 a12 zx za; have ha := HBa.out.keeps hk6 (fun h => h); clear HBa; have HBa := Lib.hid ha; clear ha; have hx := HBx.out.keeps hk6 (fun h => h); clear HBx; have HBx := Lib.hid hx; clear hx; have hr := (Ox.out).kept hk6; clear Ox; have Ox := Lib.hid hr; clear hr; have hr := HK.out.trans hk6; clear HK; have HK := Lib.hid hr; clear hr; have sz6 := hk6.size; (try simp at sz6); clear hk6; have hb := HBx.out; have x0 := hb.cell 0; have x1 := hb.cell 1; have x2 := hb.cell 2; have x3 := hb.cell 3; have x4 := hb.cell 4; have x5 := hb.cell 5; have x6 := hb.cell 6; have x7 := hb.cell 7; have x8 := hb.cell 8; have x9 := hb.cell 9; have x10 := hb.cell 10; have x11 := hb.cell 11; have x12 := hb.cell 12; simp at x0 x1 x2 x3 x4 x5 x6 x7 x8 x9 x10 x11 x12; have zx := hb.lt; clear hb; have hb := HBa.out; have a0 := hb.cell 0; have a1 := hb.cell 1; have a2 := hb.cell 2; have a3 := hb.cell 3; have a4 := hb.cell 4; have a5 := hb.cell 5; have a6 := hb.cell 6; have a7 := hb.cell 7; have a8 := hb.cell 8; have a9 := hb.cell 9; have a10 := hb.cell 10; have a11 := hb.cell 11; have a12 := hb.cell 12; simp at a0 a1 a2 a3 a4 a5 a6 a7 a8 a9 a10 a11 a12; have za := hb.lt; clear hb) | (go_at_call 18; refine (HEQ.out x y _ Sx.out Sy.out Ox.out Oy.out).mono ?_; rintro e w7 ⟨rfl, hk7⟩; clear x0 x1 x2 x3 x4 x5 x6 x7 x8 x9 x10 x11 x12 a0 a1 a2 a3 a4 a5 a6 a7 a8 a9 a10 a11 a12 zx za; have ha := HBa.out.keeps hk7 (fun h => h); clear HBa; have HBa := Lib.hid ha; clear ha; have hx := HBx.out.keeps hk7 (fun h => h); clear HBx; have HBx := Lib.hid hx; clear hx; have hr := (Ox.out).kept hk7; clear Ox; have Ox := Lib.hid hr; clear hr; have hr := (Oy.out).kept hk7; clear Oy; have Oy := Lib.hid hr; clear hr; have hr := HK.out.trans hk7; clear HK; have HK := Lib.hid hr; clear hr; have sz7 := hk7.size; (try simp at sz7); clear hk7; have hb := HBx.out; have x0 := hb.cell 0; have x1 := hb.cell 1; have x2 := hb.cell 2; have x3 := hb.cell 3; have x4 := hb.cell 4; have x5 := hb.cell 5; have x6 := hb.cell 6; have x7 := hb.cell 7; have x8 := hb.cell 8; have x9 := hb.cell 9; have x10 := hb.cell 10; have x11 := hb.cell 11; have x12 := hb.cell 12; simp at x0 x1 x2 x3 x4 x5 x6 x7 x8 x9 x10 x11 x12; have zx := hb.lt; clear hb; have hb := HBa.out; have a0 := hb.cell 0; have a1 := hb.cell 1; have a2 := hb.cell 2; have a3 := hb.cell 3; have a4 := hb.cell 4; have a5 := hb.cell 5; have a6 := hb.cell 6; have a7 := hb.cell 7; have a8 := hb.cell 8; have a9 := hb.cell 9; have a10 := hb.cell 10; have a11 := hb.cell 11; have a12 := hb.cell 12; simp at a0 a1 a2 a3 a4 a5 a6 a7 a8 a9 a10 a11 a12; have za := hb.lt; clear hb))
  clear Oy Sy
  go_wp2
  go_ret
  exact ⟨rfl, HK.out.below⟩
end Go.Proofs.YtbgpclicflafaaaDoor
