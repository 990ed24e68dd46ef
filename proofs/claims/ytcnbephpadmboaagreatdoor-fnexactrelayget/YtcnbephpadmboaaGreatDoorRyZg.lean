/- spec.RelayGet. -/
import Derived.Test.YtcnbephpadmboaaGreatDoorRyD
import Derived.Deep.RegionHeld3
set_option linter.unusedVariables false
set_option linter.unusedSimpArgs false
namespace Go.Proofs.YtcnbephpadmboaaGreatDoor
open Go.RowKit

set_option maxRecDepth 100000 in
set_option maxHeartbeats 8000000 in
theorem specRGet_any (c : ChM) (y : StM) (p : Pk) (w : World) (h : ChAt w c) (hL : c.bk.b.locked ≤ 9223372036854775807) (hy : y.At w) :
    Calls Tryz.prog 9 #[c.val, y.val, p.val] w (RetRG (fun v => .tuple #[v, .bool (rgO c y.x p)]) w (rgC c y.x p)) := by
  have F := Lib.hid (fun W (hk : Keeps noBlk w W) => specChOk_any c W (h.kept hk) hL)
  have FY := Lib.hid (fun W (hk : Keeps noBlk w W) => specSt_any y.x y.A1 y.A2 y.A3 y.A4 y.c1 y.c2 y.c3 y.c4 W (hy.kept hk))
  unfold stV at FY
  have FT := Lib.hid (fun W => specPk_any p.s p.k p.f p.t p.m p.u p.v W)
  have HBa := Lib.hid ((((Box.new w (w.heap.size) (by simp) 42 #[.int .i64 c.id, .slice c.bk.A1 c.bk.b.own.length c.bk.c1, .slice c.bk.A2 c.bk.b.notes.length c.bk.c2, .int .i64 c.bk.b.locked, .int .i64 c.st.x.way, .int .i64 c.st.x.ver, .int .i64 c.st.x.want, .slice c.st.A1 c.st.x.sent.length c.st.c1, .slice c.st.A2 c.st.x.live.length c.st.c2, .slice c.st.A3 c.st.x.back.length c.st.c3, .slice c.st.A4 c.st.x.got.length c.st.c4, .slice c.pA c.past.length c.pc, .slice c.kA c.knows.length c.kc]).alloc (.cells #[.int .i64 y.x.way, .int .i64 y.x.ver, .int .i64 y.x.want, .slice y.A1 y.x.sent.length y.c1, .slice y.A2 y.x.live.length y.c2, .slice y.A3 y.x.back.length y.c3, .slice y.A4 y.x.got.length y.c4] 39)).alloc (.cells #[.int .i64 p.s, .int .i64 p.k, .int .i64 p.f, .int .i64 p.t, .int .i64 p.m, .int .i64 p.u, .int .i64 p.v] 47)).alloc (.cells #[.int .i64 0, .slice none 0 0, .slice none 0 0, .int .i64 0, .int .i64 0, .int .i64 0, .int .i64 0, .slice none 0 0, .slice none 0 0, .slice none 0 0, .slice none 0 0, .slice none 0 0, .slice none 0 0] 42))
  have HBb := Lib.hid (((Box.new (w.alloc (.cells #[.int .i64 c.id, .slice c.bk.A1 c.bk.b.own.length c.bk.c1, .slice c.bk.A2 c.bk.b.notes.length c.bk.c2, .int .i64 c.bk.b.locked, .int .i64 c.st.x.way, .int .i64 c.st.x.ver, .int .i64 c.st.x.want, .slice c.st.A1 c.st.x.sent.length c.st.c1, .slice c.st.A2 c.st.x.live.length c.st.c2, .slice c.st.A3 c.st.x.back.length c.st.c3, .slice c.st.A4 c.st.x.got.length c.st.c4, .slice c.pA c.past.length c.pc, .slice c.kA c.knows.length c.kc] 42)) (w.heap.size + 1) (by simp) 39 #[.int .i64 y.x.way, .int .i64 y.x.ver, .int .i64 y.x.want, .slice y.A1 y.x.sent.length y.c1, .slice y.A2 y.x.live.length y.c2, .slice y.A3 y.x.back.length y.c3, .slice y.A4 y.x.got.length y.c4]).alloc (.cells #[.int .i64 p.s, .int .i64 p.k, .int .i64 p.f, .int .i64 p.t, .int .i64 p.m, .int .i64 p.u, .int .i64 p.v] 47)).alloc (.cells #[.int .i64 0, .slice none 0 0, .slice none 0 0, .int .i64 0, .int .i64 0, .int .i64 0, .int .i64 0, .slice none 0 0, .slice none 0 0, .slice none 0 0, .slice none 0 0, .slice none 0 0, .slice none 0 0] 42))
  have HBp := Lib.hid ((Box.new ((w.alloc (.cells #[.int .i64 c.id, .slice c.bk.A1 c.bk.b.own.length c.bk.c1, .slice c.bk.A2 c.bk.b.notes.length c.bk.c2, .int .i64 c.bk.b.locked, .int .i64 c.st.x.way, .int .i64 c.st.x.ver, .int .i64 c.st.x.want, .slice c.st.A1 c.st.x.sent.length c.st.c1, .slice c.st.A2 c.st.x.live.length c.st.c2, .slice c.st.A3 c.st.x.back.length c.st.c3, .slice c.st.A4 c.st.x.got.length c.st.c4, .slice c.pA c.past.length c.pc, .slice c.kA c.knows.length c.kc] 42)).alloc (.cells #[.int .i64 y.x.way, .int .i64 y.x.ver, .int .i64 y.x.want, .slice y.A1 y.x.sent.length y.c1, .slice y.A2 y.x.live.length y.c2, .slice y.A3 y.x.back.length y.c3, .slice y.A4 y.x.got.length y.c4] 39)) (w.heap.size + 1 + 1) (by simp) 47 #[.int .i64 p.s, .int .i64 p.k, .int .i64 p.f, .int .i64 p.t, .int .i64 p.m, .int .i64 p.u, .int .i64 p.v]).alloc (.cells #[.int .i64 0, .slice none 0 0, .slice none 0 0, .int .i64 0, .int .i64 0, .int .i64 0, .int .i64 0, .slice none 0 0, .slice none 0 0, .slice none 0 0, .slice none 0 0, .slice none 0 0, .slice none 0 0] 42))
  have HBr := Lib.hid (Box.new (((w.alloc (.cells #[.int .i64 c.id, .slice c.bk.A1 c.bk.b.own.length c.bk.c1, .slice c.bk.A2 c.bk.b.notes.length c.bk.c2, .int .i64 c.bk.b.locked, .int .i64 c.st.x.way, .int .i64 c.st.x.ver, .int .i64 c.st.x.want, .slice c.st.A1 c.st.x.sent.length c.st.c1, .slice c.st.A2 c.st.x.live.length c.st.c2, .slice c.st.A3 c.st.x.back.length c.st.c3, .slice c.st.A4 c.st.x.got.length c.st.c4, .slice c.pA c.past.length c.pc, .slice c.kA c.knows.length c.kc] 42)).alloc (.cells #[.int .i64 y.x.way, .int .i64 y.x.ver, .int .i64 y.x.want, .slice y.A1 y.x.sent.length y.c1, .slice y.A2 y.x.live.length y.c2, .slice y.A3 y.x.back.length y.c3, .slice y.A4 y.x.got.length y.c4] 39)).alloc (.cells #[.int .i64 p.s, .int .i64 p.k, .int .i64 p.f, .int .i64 p.t, .int .i64 p.m, .int .i64 p.u, .int .i64 p.v] 47)) (w.heap.size + 1 + 1 + 1) (by simp) 42 #[.int .i64 0, .slice none 0 0, .slice none 0 0, .int .i64 0, .int .i64 0, .int .i64 0, .int .i64 0, .slice none 0 0, .slice none 0 0, .slice none 0 0, .slice none 0 0, .slice none 0 0, .slice none 0 0])
  have HK := Lib.hid (((((Keeps.refl noBlk w).alloc (.cells #[.int .i64 c.id, .slice c.bk.A1 c.bk.b.own.length c.bk.c1, .slice c.bk.A2 c.bk.b.notes.length c.bk.c2, .int .i64 c.bk.b.locked, .int .i64 c.st.x.way, .int .i64 c.st.x.ver, .int .i64 c.st.x.want, .slice c.st.A1 c.st.x.sent.length c.st.c1, .slice c.st.A2 c.st.x.live.length c.st.c2, .slice c.st.A3 c.st.x.back.length c.st.c3, .slice c.st.A4 c.st.x.got.length c.st.c4, .slice c.pA c.past.length c.pc, .slice c.kA c.knows.length c.kc] 42)).alloc (.cells #[.int .i64 y.x.way, .int .i64 y.x.ver, .int .i64 y.x.want, .slice y.A1 y.x.sent.length y.c1, .slice y.A2 y.x.live.length y.c2, .slice y.A3 y.x.back.length y.c3, .slice y.A4 y.x.got.length y.c4] 39)).alloc (.cells #[.int .i64 p.s, .int .i64 p.k, .int .i64 p.f, .int .i64 p.t, .int .i64 p.m, .int .i64 p.u, .int .i64 p.v] 47)).alloc (.cells #[.int .i64 0, .slice none 0 0, .slice none 0 0, .int .i64 0, .int .i64 0, .int .i64 0, .int .i64 0, .slice none 0 0, .slice none 0 0, .slice none 0 0, .slice none 0 0, .slice none 0 0, .slice none 0 0] 42))
  rcases Bool.eq_false_or_eq_true (ckB c) with hb | hb
  case inr =>
    rw [hb] at F
    have e1 : (rgO c y.x p) = false := by unfold rgO; rw [hb]; rfl
    have e2 : (rgC c y.x p) = ch0 := by unfold rgC; rw [if_neg (by simp [hb])]
    rw [e1, e2]
    clear h hb hL hy e1 e2 FY FT
    unfold ChM.val StM.val Pk.val
    unfold ChM.val at F
    go_enter Tryz.func9, Tryz.ntmps9
    go_wp2_with fail
    refine (F.out _ HK.out).mono ?_
    rintro e w1 ⟨rfl, hk1⟩
    have ha := HBa.out.keeps hk1 (fun h => h)
    clear HBa
    have HBa := Lib.hid ha
    clear ha
    have hb := HBb.out.keeps hk1 (fun h => h)
    clear HBb
    have HBb := Lib.hid hb
    clear hb
    have hp := HBp.out.keeps hk1 (fun h => h)
    clear HBp
    have HBp := Lib.hid hp
    clear hp
    have hr := HBr.out.keeps hk1 (fun h => h)
    clear HBr
    have HBr := Lib.hid hr
    clear hr
    have hr := HK.out.trans hk1
    clear HK
    have HK := Lib.hid hr
    clear hr
    have sz1 := hk1.size
    (try simp at sz1)
    clear hk1
    have hb := HBr.out
    have r0 := hb.cell 0
    have r1 := hb.cell 1
    have r2 := hb.cell 2
    have r3 := hb.cell 3
    have r4 := hb.cell 4
    have r5 := hb.cell 5
    have r6 := hb.cell 6
    have r7 := hb.cell 7
    have r8 := hb.cell 8
    have r9 := hb.cell 9
    have r10 := hb.cell 10
    have r11 := hb.cell 11
    have r12 := hb.cell 12
    simp at r0 r1 r2 r3 r4 r5 r6 r7 r8 r9 r10 r11 r12
    have zr := hb.lt
    clear hb
    have hb := HBr.out
    have rf0 := hb.frozen 0
    have rf1 := hb.frozen 1
    have rf2 := hb.frozen 2
    have rf3 := hb.frozen 3
    have rf4 := hb.frozen 4
    have rf5 := hb.frozen 5
    have rf6 := hb.frozen 6
    have rf7 := hb.frozen 7
    have rf8 := hb.frozen 8
    have rf9 := hb.frozen 9
    have rf10 := hb.frozen 10
    have rf11 := hb.frozen 11
    have rf12 := hb.frozen 12
    clear hb
    go_wp2
    have hbF := (((((((((((((HBr.out.set_ 0 (.int .i64 0)).set_ 1 (.slice none 0 0)).set_ 2 (.slice none 0 0)).set_ 3 (.int .i64 0)).set_ 4 (.int .i64 0)).set_ 5 (.int .i64 0)).set_ 6 (.int .i64 0)).set_ 7 (.slice none 0 0)).set_ 8 (.slice none 0 0)).set_ 9 (.slice none 0 0)).set_ 10 (.slice none 0 0)).set_ 11 (.slice none 0 0)).set_ 12 (.slice none 0 0))
    simp only [List.setIfInBounds_toArray, List.set_cons_zero, List.set_cons_succ] at hbF
    have s10 := hbF.cell 0
    have s11 := hbF.cell 1
    have s12 := hbF.cell 2
    have s13 := hbF.cell 3
    have s14 := hbF.cell 4
    have s15 := hbF.cell 5
    have s16 := hbF.cell 6
    have s17 := hbF.cell 7
    have s18 := hbF.cell 8
    have s19 := hbF.cell 9
    have s20 := hbF.cell 10
    have s21 := hbF.cell 11
    have s22 := hbF.cell 12
    simp at s10 s11 s12 s13 s14 s15 s16 s17 s18 s19 s20 s21 s22
    clear hbF
    have kS : Keeps (fun b => b = w.heap.size + 1 + 1 + 1) w1 (((((((((((((w1.setCell ⟨w.heap.size + 1 + 1 + 1, 0, none⟩ (.int .i64 0)).setCell ⟨w.heap.size + 1 + 1 + 1, 1, none⟩ (.slice none 0 0)).setCell ⟨w.heap.size + 1 + 1 + 1, 2, none⟩ (.slice none 0 0)).setCell ⟨w.heap.size + 1 + 1 + 1, 3, none⟩ (.int .i64 0)).setCell ⟨w.heap.size + 1 + 1 + 1, 4, none⟩ (.int .i64 0)).setCell ⟨w.heap.size + 1 + 1 + 1, 5, none⟩ (.int .i64 0)).setCell ⟨w.heap.size + 1 + 1 + 1, 6, none⟩ (.int .i64 0)).setCell ⟨w.heap.size + 1 + 1 + 1, 7, none⟩ (.slice none 0 0)).setCell ⟨w.heap.size + 1 + 1 + 1, 8, none⟩ (.slice none 0 0)).setCell ⟨w.heap.size + 1 + 1 + 1, 9, none⟩ (.slice none 0 0)).setCell ⟨w.heap.size + 1 + 1 + 1, 10, none⟩ (.slice none 0 0)).setCell ⟨w.heap.size + 1 + 1 + 1, 11, none⟩ (.slice none 0 0)).setCell ⟨w.heap.size + 1 + 1 + 1, 12, none⟩ (.slice none 0 0)) := ((((((((((((((Keeps.refl (fun b => b = w.heap.size + 1 + 1 + 1) w1).setCell (p := ⟨w.heap.size + 1 + 1 + 1, 0, none⟩) (.inr rfl) (.int .i64 0)).setCell (p := ⟨w.heap.size + 1 + 1 + 1, 1, none⟩) (.inr rfl) (.slice none 0 0)).setCell (p := ⟨w.heap.size + 1 + 1 + 1, 2, none⟩) (.inr rfl) (.slice none 0 0)).setCell (p := ⟨w.heap.size + 1 + 1 + 1, 3, none⟩) (.inr rfl) (.int .i64 0)).setCell (p := ⟨w.heap.size + 1 + 1 + 1, 4, none⟩) (.inr rfl) (.int .i64 0)).setCell (p := ⟨w.heap.size + 1 + 1 + 1, 5, none⟩) (.inr rfl) (.int .i64 0)).setCell (p := ⟨w.heap.size + 1 + 1 + 1, 6, none⟩) (.inr rfl) (.int .i64 0)).setCell (p := ⟨w.heap.size + 1 + 1 + 1, 7, none⟩) (.inr rfl) (.slice none 0 0)).setCell (p := ⟨w.heap.size + 1 + 1 + 1, 8, none⟩) (.inr rfl) (.slice none 0 0)).setCell (p := ⟨w.heap.size + 1 + 1 + 1, 9, none⟩) (.inr rfl) (.slice none 0 0)).setCell (p := ⟨w.heap.size + 1 + 1 + 1, 10, none⟩) (.inr rfl) (.slice none 0 0)).setCell (p := ⟨w.heap.size + 1 + 1 + 1, 11, none⟩) (.inr rfl) (.slice none 0 0)).setCell (p := ⟨w.heap.size + 1 + 1 + 1, 12, none⟩) (.inr rfl) (.slice none 0 0))
    generalize (((((((((((((w1.setCell ⟨w.heap.size + 1 + 1 + 1, 0, none⟩ (.int .i64 0)).setCell ⟨w.heap.size + 1 + 1 + 1, 1, none⟩ (.slice none 0 0)).setCell ⟨w.heap.size + 1 + 1 + 1, 2, none⟩ (.slice none 0 0)).setCell ⟨w.heap.size + 1 + 1 + 1, 3, none⟩ (.int .i64 0)).setCell ⟨w.heap.size + 1 + 1 + 1, 4, none⟩ (.int .i64 0)).setCell ⟨w.heap.size + 1 + 1 + 1, 5, none⟩ (.int .i64 0)).setCell ⟨w.heap.size + 1 + 1 + 1, 6, none⟩ (.int .i64 0)).setCell ⟨w.heap.size + 1 + 1 + 1, 7, none⟩ (.slice none 0 0)).setCell ⟨w.heap.size + 1 + 1 + 1, 8, none⟩ (.slice none 0 0)).setCell ⟨w.heap.size + 1 + 1 + 1, 9, none⟩ (.slice none 0 0)).setCell ⟨w.heap.size + 1 + 1 + 1, 10, none⟩ (.slice none 0 0)).setCell ⟨w.heap.size + 1 + 1 + 1, 11, none⟩ (.slice none 0 0)).setCell ⟨w.heap.size + 1 + 1 + 1, 12, none⟩ (.slice none 0 0)) = WF at kS s10 s11 s12 s13 s14 s15 s16 s17 s18 s19 s20 s21 s22 ⊢
    refine bodyPost_ret (v := .tuple #[ch0.val, .bool false]) (by simp [results, Tryz.results9, go_sem, ch0, bk0, stm0, ChM.val, s10, s11, s12, s13, s14, s15, s16, s17, s18, s19, s20, s21, s22]) rfl ?_
    exact ⟨ch0, rfl, SameC.refl _, (ch0_own _ 0).at_, fun b hb => absurd hb ch0_blk, HK.out.then kS fun i hi h => by omega⟩
  rcases Bool.eq_false_or_eq_true (stB y.x) with hs | hs
  case inr =>
    rw [hb] at F
    rw [hs] at FY
    have e1 : (rgO c y.x p) = false := by unfold rgO; rw [hb, hs]; rfl
    have e2 : (rgC c y.x p) = ch0 := by unfold rgC; rw [if_neg (by simp [hb, hs])]
    rw [e1, e2]
    clear h hb hs hL hy e1 e2 FT
    unfold ChM.val StM.val Pk.val
    unfold ChM.val at F
    go_enter Tryz.func9, Tryz.ntmps9
    go_wp2_with fail
    refine (F.out _ HK.out).mono ?_
    rintro e w1 ⟨rfl, hk1⟩
    have ha := HBa.out.keeps hk1 (fun h => h)
    clear HBa
    have HBa := Lib.hid ha
    clear ha
    have hb := HBb.out.keeps hk1 (fun h => h)
    clear HBb
    have HBb := Lib.hid hb
    clear hb
    have hp := HBp.out.keeps hk1 (fun h => h)
    clear HBp
    have HBp := Lib.hid hp
    clear hp
    have hr := HBr.out.keeps hk1 (fun h => h)
    clear HBr
    have HBr := Lib.hid hr
    clear hr
    have hr := HK.out.trans hk1
    clear HK
    have HK := Lib.hid hr
    clear hr
    have sz1 := hk1.size
    (try simp at sz1)
    clear hk1
    have hb := HBb.out
    have b0 := hb.cell 0
    have b1 := hb.cell 1
    have b2 := hb.cell 2
    have b3 := hb.cell 3
    have b4 := hb.cell 4
    have b5 := hb.cell 5
    have b6 := hb.cell 6
    simp at b0 b1 b2 b3 b4 b5 b6
    have zb := hb.lt
    clear hb
    go_wp2_with fail
    refine (FY.out _ HK.out).mono ?_
    rintro e w2 ⟨rfl, hk2⟩
    clear b0 b1 b2 b3 b4 b5 b6 zb
    have ha := HBa.out.keeps hk2 (fun h => h)
    clear HBa
    have HBa := Lib.hid ha
    clear ha
    have hb := HBb.out.keeps hk2 (fun h => h)
    clear HBb
    have HBb := Lib.hid hb
    clear hb
    have hp := HBp.out.keeps hk2 (fun h => h)
    clear HBp
    have HBp := Lib.hid hp
    clear hp
    have hr := HBr.out.keeps hk2 (fun h => h)
    clear HBr
    have HBr := Lib.hid hr
    clear hr
    have hr := HK.out.trans hk2
    clear HK
    have HK := Lib.hid hr
    clear hr
    have sz2 := hk2.size
    (try simp at sz2)
    clear hk2
    have hb := HBr.out
    have r0 := hb.cell 0
    have r1 := hb.cell 1
    have r2 := hb.cell 2
    have r3 := hb.cell 3
    have r4 := hb.cell 4
    have r5 := hb.cell 5
    have r6 := hb.cell 6
    have r7 := hb.cell 7
    have r8 := hb.cell 8
    have r9 := hb.cell 9
    have r10 := hb.cell 10
    have r11 := hb.cell 11
    have r12 := hb.cell 12
    simp at r0 r1 r2 r3 r4 r5 r6 r7 r8 r9 r10 r11 r12
    have zr := hb.lt
    clear hb
    have hb := HBr.out
    have rf0 := hb.frozen 0
    have rf1 := hb.frozen 1
    have rf2 := hb.frozen 2
    have rf3 := hb.frozen 3
    have rf4 := hb.frozen 4
    have rf5 := hb.frozen 5
    have rf6 := hb.frozen 6
    have rf7 := hb.frozen 7
    have rf8 := hb.frozen 8
    have rf9 := hb.frozen 9
    have rf10 := hb.frozen 10
    have rf11 := hb.frozen 11
    have rf12 := hb.frozen 12
    clear hb
    go_wp2
    have hbF := (((((((((((((HBr.out.set_ 0 (.int .i64 0)).set_ 1 (.slice none 0 0)).set_ 2 (.slice none 0 0)).set_ 3 (.int .i64 0)).set_ 4 (.int .i64 0)).set_ 5 (.int .i64 0)).set_ 6 (.int .i64 0)).set_ 7 (.slice none 0 0)).set_ 8 (.slice none 0 0)).set_ 9 (.slice none 0 0)).set_ 10 (.slice none 0 0)).set_ 11 (.slice none 0 0)).set_ 12 (.slice none 0 0))
    simp only [List.setIfInBounds_toArray, List.set_cons_zero, List.set_cons_succ] at hbF
    have s10 := hbF.cell 0
    have s11 := hbF.cell 1
    have s12 := hbF.cell 2
    have s13 := hbF.cell 3
    have s14 := hbF.cell 4
    have s15 := hbF.cell 5
    have s16 := hbF.cell 6
    have s17 := hbF.cell 7
    have s18 := hbF.cell 8
    have s19 := hbF.cell 9
    have s20 := hbF.cell 10
    have s21 := hbF.cell 11
    have s22 := hbF.cell 12
    simp at s10 s11 s12 s13 s14 s15 s16 s17 s18 s19 s20 s21 s22
    clear hbF
    have kS : Keeps (fun b => b = w.heap.size + 1 + 1 + 1) w2 (((((((((((((w2.setCell ⟨w.heap.size + 1 + 1 + 1, 0, none⟩ (.int .i64 0)).setCell ⟨w.heap.size + 1 + 1 + 1, 1, none⟩ (.slice none 0 0)).setCell ⟨w.heap.size + 1 + 1 + 1, 2, none⟩ (.slice none 0 0)).setCell ⟨w.heap.size + 1 + 1 + 1, 3, none⟩ (.int .i64 0)).setCell ⟨w.heap.size + 1 + 1 + 1, 4, none⟩ (.int .i64 0)).setCell ⟨w.heap.size + 1 + 1 + 1, 5, none⟩ (.int .i64 0)).setCell ⟨w.heap.size + 1 + 1 + 1, 6, none⟩ (.int .i64 0)).setCell ⟨w.heap.size + 1 + 1 + 1, 7, none⟩ (.slice none 0 0)).setCell ⟨w.heap.size + 1 + 1 + 1, 8, none⟩ (.slice none 0 0)).setCell ⟨w.heap.size + 1 + 1 + 1, 9, none⟩ (.slice none 0 0)).setCell ⟨w.heap.size + 1 + 1 + 1, 10, none⟩ (.slice none 0 0)).setCell ⟨w.heap.size + 1 + 1 + 1, 11, none⟩ (.slice none 0 0)).setCell ⟨w.heap.size + 1 + 1 + 1, 12, none⟩ (.slice none 0 0)) := ((((((((((((((Keeps.refl (fun b => b = w.heap.size + 1 + 1 + 1) w2).setCell (p := ⟨w.heap.size + 1 + 1 + 1, 0, none⟩) (.inr rfl) (.int .i64 0)).setCell (p := ⟨w.heap.size + 1 + 1 + 1, 1, none⟩) (.inr rfl) (.slice none 0 0)).setCell (p := ⟨w.heap.size + 1 + 1 + 1, 2, none⟩) (.inr rfl) (.slice none 0 0)).setCell (p := ⟨w.heap.size + 1 + 1 + 1, 3, none⟩) (.inr rfl) (.int .i64 0)).setCell (p := ⟨w.heap.size + 1 + 1 + 1, 4, none⟩) (.inr rfl) (.int .i64 0)).setCell (p := ⟨w.heap.size + 1 + 1 + 1, 5, none⟩) (.inr rfl) (.int .i64 0)).setCell (p := ⟨w.heap.size + 1 + 1 + 1, 6, none⟩) (.inr rfl) (.int .i64 0)).setCell (p := ⟨w.heap.size + 1 + 1 + 1, 7, none⟩) (.inr rfl) (.slice none 0 0)).setCell (p := ⟨w.heap.size + 1 + 1 + 1, 8, none⟩) (.inr rfl) (.slice none 0 0)).setCell (p := ⟨w.heap.size + 1 + 1 + 1, 9, none⟩) (.inr rfl) (.slice none 0 0)).setCell (p := ⟨w.heap.size + 1 + 1 + 1, 10, none⟩) (.inr rfl) (.slice none 0 0)).setCell (p := ⟨w.heap.size + 1 + 1 + 1, 11, none⟩) (.inr rfl) (.slice none 0 0)).setCell (p := ⟨w.heap.size + 1 + 1 + 1, 12, none⟩) (.inr rfl) (.slice none 0 0))
    generalize (((((((((((((w2.setCell ⟨w.heap.size + 1 + 1 + 1, 0, none⟩ (.int .i64 0)).setCell ⟨w.heap.size + 1 + 1 + 1, 1, none⟩ (.slice none 0 0)).setCell ⟨w.heap.size + 1 + 1 + 1, 2, none⟩ (.slice none 0 0)).setCell ⟨w.heap.size + 1 + 1 + 1, 3, none⟩ (.int .i64 0)).setCell ⟨w.heap.size + 1 + 1 + 1, 4, none⟩ (.int .i64 0)).setCell ⟨w.heap.size + 1 + 1 + 1, 5, none⟩ (.int .i64 0)).setCell ⟨w.heap.size + 1 + 1 + 1, 6, none⟩ (.int .i64 0)).setCell ⟨w.heap.size + 1 + 1 + 1, 7, none⟩ (.slice none 0 0)).setCell ⟨w.heap.size + 1 + 1 + 1, 8, none⟩ (.slice none 0 0)).setCell ⟨w.heap.size + 1 + 1 + 1, 9, none⟩ (.slice none 0 0)).setCell ⟨w.heap.size + 1 + 1 + 1, 10, none⟩ (.slice none 0 0)).setCell ⟨w.heap.size + 1 + 1 + 1, 11, none⟩ (.slice none 0 0)).setCell ⟨w.heap.size + 1 + 1 + 1, 12, none⟩ (.slice none 0 0)) = WF at kS s10 s11 s12 s13 s14 s15 s16 s17 s18 s19 s20 s21 s22 ⊢
    refine bodyPost_ret (v := .tuple #[ch0.val, .bool false]) (by simp [results, Tryz.results9, go_sem, ch0, bk0, stm0, ChM.val, s10, s11, s12, s13, s14, s15, s16, s17, s18, s19, s20, s21, s22]) rfl ?_
    exact ⟨ch0, rfl, SameC.refl _, (ch0_own _ 0).at_, fun b hb => absurd hb ch0_blk, HK.out.then kS fun i hi h => by omega⟩
  rcases Bool.eq_false_or_eq_true (p.ok) with h3 | h3
  case inr =>
    rw [hb] at F
    rw [hs] at FY
    unfold Pk.ok at h3
    rw [h3] at FT
    change p.ok = false at h3
    have e1 : (rgO c y.x p) = false := by unfold rgO; rw [hb, hs, h3]; rfl
    have e2 : (rgC c y.x p) = ch0 := by unfold rgC; rw [if_neg (by simp [hb, hs, h3])]
    rw [e1, e2]
    clear h hb hs h3 hL hy e1 e2
    unfold ChM.val StM.val Pk.val
    unfold ChM.val at F
    go_enter Tryz.func9, Tryz.ntmps9
    go_wp2_with fail
    refine (F.out _ HK.out).mono ?_
    rintro e w1 ⟨rfl, hk1⟩
    have ha := HBa.out.keeps hk1 (fun h => h)
    clear HBa
    have HBa := Lib.hid ha
    clear ha
    have hb := HBb.out.keeps hk1 (fun h => h)
    clear HBb
    have HBb := Lib.hid hb
    clear hb
    have hp := HBp.out.keeps hk1 (fun h => h)
    clear HBp
    have HBp := Lib.hid hp
    clear hp
    have hr := HBr.out.keeps hk1 (fun h => h)
    clear HBr
    have HBr := Lib.hid hr
    clear hr
    have hr := HK.out.trans hk1
    clear HK
    have HK := Lib.hid hr
    clear hr
    have sz1 := hk1.size
    (try simp at sz1)
    clear hk1
    have hb := HBb.out
    have b0 := hb.cell 0
    have b1 := hb.cell 1
    have b2 := hb.cell 2
    have b3 := hb.cell 3
    have b4 := hb.cell 4
    have b5 := hb.cell 5
    have b6 := hb.cell 6
    simp at b0 b1 b2 b3 b4 b5 b6
    have zb := hb.lt
    clear hb
    go_wp2_with fail
    refine (FY.out _ HK.out).mono ?_
    rintro e w2 ⟨rfl, hk2⟩
    clear b0 b1 b2 b3 b4 b5 b6 zb
    have ha := HBa.out.keeps hk2 (fun h => h)
    clear HBa
    have HBa := Lib.hid ha
    clear ha
    have hb := HBb.out.keeps hk2 (fun h => h)
    clear HBb
    have HBb := Lib.hid hb
    clear hb
    have hp := HBp.out.keeps hk2 (fun h => h)
    clear HBp
    have HBp := Lib.hid hp
    clear hp
    have hr := HBr.out.keeps hk2 (fun h => h)
    clear HBr
    have HBr := Lib.hid hr
    clear hr
    have hr := HK.out.trans hk2
    clear HK
    have HK := Lib.hid hr
    clear hr
    have sz2 := hk2.size
    (try simp at sz2)
    clear hk2
    have hb := HBp.out
    have p0 := hb.cell 0
    have p1 := hb.cell 1
    have p2 := hb.cell 2
    have p3 := hb.cell 3
    have p4 := hb.cell 4
    have p5 := hb.cell 5
    have p6 := hb.cell 6
    simp at p0 p1 p2 p3 p4 p5 p6
    have zp := hb.lt
    clear hb
    go_wp2_with fail
    refine (FT.out _).mono ?_
    rintro e w3 ⟨rfl, hk3⟩
    clear p0 p1 p2 p3 p4 p5 p6 zp
    have ha := HBa.out.keeps hk3 (fun h => h)
    clear HBa
    have HBa := Lib.hid ha
    clear ha
    have hb := HBb.out.keeps hk3 (fun h => h)
    clear HBb
    have HBb := Lib.hid hb
    clear hb
    have hp := HBp.out.keeps hk3 (fun h => h)
    clear HBp
    have HBp := Lib.hid hp
    clear hp
    have hr := HBr.out.keeps hk3 (fun h => h)
    clear HBr
    have HBr := Lib.hid hr
    clear hr
    have hr := HK.out.trans hk3
    clear HK
    have HK := Lib.hid hr
    clear hr
    have sz3 := hk3.size
    (try simp at sz3)
    clear hk3
    have hb := HBr.out
    have r0 := hb.cell 0
    have r1 := hb.cell 1
    have r2 := hb.cell 2
    have r3 := hb.cell 3
    have r4 := hb.cell 4
    have r5 := hb.cell 5
    have r6 := hb.cell 6
    have r7 := hb.cell 7
    have r8 := hb.cell 8
    have r9 := hb.cell 9
    have r10 := hb.cell 10
    have r11 := hb.cell 11
    have r12 := hb.cell 12
    simp at r0 r1 r2 r3 r4 r5 r6 r7 r8 r9 r10 r11 r12
    have zr := hb.lt
    clear hb
    have hb := HBr.out
    have rf0 := hb.frozen 0
    have rf1 := hb.frozen 1
    have rf2 := hb.frozen 2
    have rf3 := hb.frozen 3
    have rf4 := hb.frozen 4
    have rf5 := hb.frozen 5
    have rf6 := hb.frozen 6
    have rf7 := hb.frozen 7
    have rf8 := hb.frozen 8
    have rf9 := hb.frozen 9
    have rf10 := hb.frozen 10
    have rf11 := hb.frozen 11
    have rf12 := hb.frozen 12
    clear hb
    go_wp2
    have hbF := (((((((((((((HBr.out.set_ 0 (.int .i64 0)).set_ 1 (.slice none 0 0)).set_ 2 (.slice none 0 0)).set_ 3 (.int .i64 0)).set_ 4 (.int .i64 0)).set_ 5 (.int .i64 0)).set_ 6 (.int .i64 0)).set_ 7 (.slice none 0 0)).set_ 8 (.slice none 0 0)).set_ 9 (.slice none 0 0)).set_ 10 (.slice none 0 0)).set_ 11 (.slice none 0 0)).set_ 12 (.slice none 0 0))
    simp only [List.setIfInBounds_toArray, List.set_cons_zero, List.set_cons_succ] at hbF
    have s10 := hbF.cell 0
    have s11 := hbF.cell 1
    have s12 := hbF.cell 2
    have s13 := hbF.cell 3
    have s14 := hbF.cell 4
    have s15 := hbF.cell 5
    have s16 := hbF.cell 6
    have s17 := hbF.cell 7
    have s18 := hbF.cell 8
    have s19 := hbF.cell 9
    have s20 := hbF.cell 10
    have s21 := hbF.cell 11
    have s22 := hbF.cell 12
    simp at s10 s11 s12 s13 s14 s15 s16 s17 s18 s19 s20 s21 s22
    clear hbF
    have kS : Keeps (fun b => b = w.heap.size + 1 + 1 + 1) w3 (((((((((((((w3.setCell ⟨w.heap.size + 1 + 1 + 1, 0, none⟩ (.int .i64 0)).setCell ⟨w.heap.size + 1 + 1 + 1, 1, none⟩ (.slice none 0 0)).setCell ⟨w.heap.size + 1 + 1 + 1, 2, none⟩ (.slice none 0 0)).setCell ⟨w.heap.size + 1 + 1 + 1, 3, none⟩ (.int .i64 0)).setCell ⟨w.heap.size + 1 + 1 + 1, 4, none⟩ (.int .i64 0)).setCell ⟨w.heap.size + 1 + 1 + 1, 5, none⟩ (.int .i64 0)).setCell ⟨w.heap.size + 1 + 1 + 1, 6, none⟩ (.int .i64 0)).setCell ⟨w.heap.size + 1 + 1 + 1, 7, none⟩ (.slice none 0 0)).setCell ⟨w.heap.size + 1 + 1 + 1, 8, none⟩ (.slice none 0 0)).setCell ⟨w.heap.size + 1 + 1 + 1, 9, none⟩ (.slice none 0 0)).setCell ⟨w.heap.size + 1 + 1 + 1, 10, none⟩ (.slice none 0 0)).setCell ⟨w.heap.size + 1 + 1 + 1, 11, none⟩ (.slice none 0 0)).setCell ⟨w.heap.size + 1 + 1 + 1, 12, none⟩ (.slice none 0 0)) := ((((((((((((((Keeps.refl (fun b => b = w.heap.size + 1 + 1 + 1) w3).setCell (p := ⟨w.heap.size + 1 + 1 + 1, 0, none⟩) (.inr rfl) (.int .i64 0)).setCell (p := ⟨w.heap.size + 1 + 1 + 1, 1, none⟩) (.inr rfl) (.slice none 0 0)).setCell (p := ⟨w.heap.size + 1 + 1 + 1, 2, none⟩) (.inr rfl) (.slice none 0 0)).setCell (p := ⟨w.heap.size + 1 + 1 + 1, 3, none⟩) (.inr rfl) (.int .i64 0)).setCell (p := ⟨w.heap.size + 1 + 1 + 1, 4, none⟩) (.inr rfl) (.int .i64 0)).setCell (p := ⟨w.heap.size + 1 + 1 + 1, 5, none⟩) (.inr rfl) (.int .i64 0)).setCell (p := ⟨w.heap.size + 1 + 1 + 1, 6, none⟩) (.inr rfl) (.int .i64 0)).setCell (p := ⟨w.heap.size + 1 + 1 + 1, 7, none⟩) (.inr rfl) (.slice none 0 0)).setCell (p := ⟨w.heap.size + 1 + 1 + 1, 8, none⟩) (.inr rfl) (.slice none 0 0)).setCell (p := ⟨w.heap.size + 1 + 1 + 1, 9, none⟩) (.inr rfl) (.slice none 0 0)).setCell (p := ⟨w.heap.size + 1 + 1 + 1, 10, none⟩) (.inr rfl) (.slice none 0 0)).setCell (p := ⟨w.heap.size + 1 + 1 + 1, 11, none⟩) (.inr rfl) (.slice none 0 0)).setCell (p := ⟨w.heap.size + 1 + 1 + 1, 12, none⟩) (.inr rfl) (.slice none 0 0))
    generalize (((((((((((((w3.setCell ⟨w.heap.size + 1 + 1 + 1, 0, none⟩ (.int .i64 0)).setCell ⟨w.heap.size + 1 + 1 + 1, 1, none⟩ (.slice none 0 0)).setCell ⟨w.heap.size + 1 + 1 + 1, 2, none⟩ (.slice none 0 0)).setCell ⟨w.heap.size + 1 + 1 + 1, 3, none⟩ (.int .i64 0)).setCell ⟨w.heap.size + 1 + 1 + 1, 4, none⟩ (.int .i64 0)).setCell ⟨w.heap.size + 1 + 1 + 1, 5, none⟩ (.int .i64 0)).setCell ⟨w.heap.size + 1 + 1 + 1, 6, none⟩ (.int .i64 0)).setCell ⟨w.heap.size + 1 + 1 + 1, 7, none⟩ (.slice none 0 0)).setCell ⟨w.heap.size + 1 + 1 + 1, 8, none⟩ (.slice none 0 0)).setCell ⟨w.heap.size + 1 + 1 + 1, 9, none⟩ (.slice none 0 0)).setCell ⟨w.heap.size + 1 + 1 + 1, 10, none⟩ (.slice none 0 0)).setCell ⟨w.heap.size + 1 + 1 + 1, 11, none⟩ (.slice none 0 0)).setCell ⟨w.heap.size + 1 + 1 + 1, 12, none⟩ (.slice none 0 0)) = WF at kS s10 s11 s12 s13 s14 s15 s16 s17 s18 s19 s20 s21 s22 ⊢
    refine bodyPost_ret (v := .tuple #[ch0.val, .bool false]) (by simp [results, Tryz.results9, go_sem, ch0, bk0, stm0, ChM.val, s10, s11, s12, s13, s14, s15, s16, s17, s18, s19, s20, s21, s22]) rfl ?_
    exact ⟨ch0, rfl, SameC.refl _, (ch0_own _ 0).at_, fun b hb => absurd hb ch0_blk, HK.out.then kS fun i hi h => by omega⟩
  have FC := Lib.hid (fun W (hk : Keeps noBlk w W) => l12Copy_any c W (h.kept hk) hb)
  have e1 : (rgO c y.x p) = (getOk c y.x p) := by unfold rgO; rw [hb, hs, h3]; rfl
  have e2 : (rgC c y.x p) = (getTo c y.x p) := by unfold rgC; rw [hb, hs, h3]; rfl
  rw [e1, e2]
  rw [hb] at F
  rw [hs] at FY
  have H3 := Lib.hid h3
  unfold Pk.ok at h3
  rw [h3] at FT
  clear h3
  have HB := Lib.hid hb
  have HS := Lib.hid hs
  have HY := Lib.hid hy
  clear h hb hs hL hy e1 e2
  unfold ChM.val StM.val Pk.val
  unfold ChM.val at F FC
  go_enter Tryz.func9, Tryz.ntmps9
  go_wp2_with fail
  refine (F.out _ HK.out).mono ?_
  rintro e w1 ⟨rfl, hk1⟩
  have ha := HBa.out.keeps hk1 (fun h => h)
  clear HBa
  have HBa := Lib.hid ha
  clear ha
  have hb := HBb.out.keeps hk1 (fun h => h)
  clear HBb
  have HBb := Lib.hid hb
  clear hb
  have hp := HBp.out.keeps hk1 (fun h => h)
  clear HBp
  have HBp := Lib.hid hp
  clear hp
  have hr := HBr.out.keeps hk1 (fun h => h)
  clear HBr
  have HBr := Lib.hid hr
  clear hr
  have hr := HK.out.trans hk1
  clear HK
  have HK := Lib.hid hr
  clear hr
  have sz1 := hk1.size
  (try simp at sz1)
  clear hk1
  have hb := HBb.out
  have b0 := hb.cell 0
  have b1 := hb.cell 1
  have b2 := hb.cell 2
  have b3 := hb.cell 3
  have b4 := hb.cell 4
  have b5 := hb.cell 5
  have b6 := hb.cell 6
  simp at b0 b1 b2 b3 b4 b5 b6
  have zb := hb.lt
  clear hb
  go_wp2_with fail
  refine (FY.out _ HK.out).mono ?_
  rintro e w2 ⟨rfl, hk2⟩
  clear b0 b1 b2 b3 b4 b5 b6 zb
  have ha := HBa.out.keeps hk2 (fun h => h)
  clear HBa
  have HBa := Lib.hid ha
  clear ha
  have hb := HBb.out.keeps hk2 (fun h => h)
  clear HBb
  have HBb := Lib.hid hb
  clear hb
  have hp := HBp.out.keeps hk2 (fun h => h)
  clear HBp
  have HBp := Lib.hid hp
  clear hp
  have hr := HBr.out.keeps hk2 (fun h => h)
  clear HBr
  have HBr := Lib.hid hr
  clear hr
  have hr := HK.out.trans hk2
  clear HK
  have HK := Lib.hid hr
  clear hr
  have sz2 := hk2.size
  (try simp at sz2)
  clear hk2
  have hb := HBp.out
  have p0 := hb.cell 0
  have p1 := hb.cell 1
  have p2 := hb.cell 2
  have p3 := hb.cell 3
  have p4 := hb.cell 4
  have p5 := hb.cell 5
  have p6 := hb.cell 6
  simp at p0 p1 p2 p3 p4 p5 p6
  have zp := hb.lt
  clear hb
  go_wp2_with fail
  refine (FT.out _).mono ?_
  rintro e w3 ⟨rfl, hk3⟩
  clear p0 p1 p2 p3 p4 p5 p6 zp
  have ha := HBa.out.keeps hk3 (fun h => h)
  clear HBa
  have HBa := Lib.hid ha
  clear ha
  have hb := HBb.out.keeps hk3 (fun h => h)
  clear HBb
  have HBb := Lib.hid hb
  clear hb
  have hp := HBp.out.keeps hk3 (fun h => h)
  clear HBp
  have HBp := Lib.hid hp
  clear hp
  have hr := HBr.out.keeps hk3 (fun h => h)
  clear HBr
  have HBr := Lib.hid hr
  clear hr
  have hr := HK.out.trans hk3
  clear HK
  have HK := Lib.hid hr
  clear hr
  have sz3 := hk3.size
  (try simp at sz3)
  clear hk3
  have hb := HBa.out
  have a0 := hb.cell 0
  have a1 := hb.cell 1
  have a2 := hb.cell 2
  have a3 := hb.cell 3
  have a4 := hb.cell 4
  have a5 := hb.cell 5
  have a6 := hb.cell 6
  have a7 := hb.cell 7
  have a8 := hb.cell 8
  have a9 := hb.cell 9
  have a10 := hb.cell 10
  have a11 := hb.cell 11
  have a12 := hb.cell 12
  simp at a0 a1 a2 a3 a4 a5 a6 a7 a8 a9 a10 a11 a12
  have za := hb.lt
  clear hb
  have hb := HBb.out
  have b0 := hb.cell 0
  have b1 := hb.cell 1
  have b2 := hb.cell 2
  have b3 := hb.cell 3
  have b4 := hb.cell 4
  have b5 := hb.cell 5
  have b6 := hb.cell 6
  simp at b0 b1 b2 b3 b4 b5 b6
  have zb := hb.lt
  clear hb
  have hb := HBp.out
  have p0 := hb.cell 0
  have p1 := hb.cell 1
  have p2 := hb.cell 2
  have p3 := hb.cell 3
  have p4 := hb.cell 4
  have p5 := hb.cell 5
  have p6 := hb.cell 6
  simp at p0 p1 p2 p3 p4 p5 p6
  have zp := hb.lt
  clear hb
  go_wp2_with fail
  have hsz : w.heap.size + 4 ≤ w3.heap.size := by first | omega | (simp at *; omega)
  go_region_held3 (fun w' => w'.cell? ⟨w.heap.size, 0, none⟩ = some (.int .i64 c.id) ∧ w'.cell? ⟨w.heap.size, 1, none⟩ = some (.slice c.bk.A1 c.bk.b.own.length c.bk.c1) ∧ w'.cell? ⟨w.heap.size, 2, none⟩ = some (.slice c.bk.A2 c.bk.b.notes.length c.bk.c2) ∧ w'.cell? ⟨w.heap.size, 3, none⟩ = some (.int .i64 c.bk.b.locked) ∧ w'.cell? ⟨w.heap.size, 4, none⟩ = some (.int .i64 c.st.x.way) ∧ w'.cell? ⟨w.heap.size, 5, none⟩ = some (.int .i64 c.st.x.ver) ∧ w'.cell? ⟨w.heap.size, 6, none⟩ = some (.int .i64 c.st.x.want) ∧ w'.cell? ⟨w.heap.size, 7, none⟩ = some (.slice c.st.A1 c.st.x.sent.length c.st.c1) ∧ w'.cell? ⟨w.heap.size, 8, none⟩ = some (.slice c.st.A2 c.st.x.live.length c.st.c2) ∧ w'.cell? ⟨w.heap.size, 9, none⟩ = some (.slice c.st.A3 c.st.x.back.length c.st.c3) ∧ w'.cell? ⟨w.heap.size, 10, none⟩ = some (.slice c.st.A4 c.st.x.got.length c.st.c4) ∧ w'.cell? ⟨w.heap.size, 11, none⟩ = some (.slice c.pA c.past.length c.pc) ∧ w'.cell? ⟨w.heap.size, 12, none⟩ = some (.slice c.kA c.knows.length c.kc) ∧ w'.cell? ⟨w.heap.size + 1, 0, none⟩ = some (.int .i64 y.x.way) ∧ w'.cell? ⟨w.heap.size + 1, 1, none⟩ = some (.int .i64 y.x.ver) ∧ w'.cell? ⟨w.heap.size + 1, 2, none⟩ = some (.int .i64 y.x.want) ∧ w'.cell? ⟨w.heap.size + 1, 3, none⟩ = some (.slice y.A1 y.x.sent.length y.c1) ∧ w'.cell? ⟨w.heap.size + 1, 4, none⟩ = some (.slice y.A2 y.x.live.length y.c2) ∧ w'.cell? ⟨w.heap.size + 1, 5, none⟩ = some (.slice y.A3 y.x.back.length y.c3) ∧ w'.cell? ⟨w.heap.size + 1, 6, none⟩ = some (.slice y.A4 y.x.got.length y.c4) ∧ w'.cell? ⟨w.heap.size + 1 + 1, 0, none⟩ = some (.int .i64 p.s) ∧ w'.cell? ⟨w.heap.size + 1 + 1, 1, none⟩ = some (.int .i64 p.k) ∧ w'.cell? ⟨w.heap.size + 1 + 1, 2, none⟩ = some (.int .i64 p.f) ∧ w'.cell? ⟨w.heap.size + 1 + 1, 3, none⟩ = some (.int .i64 p.t) ∧ w'.cell? ⟨w.heap.size + 1 + 1, 4, none⟩ = some (.int .i64 p.m) ∧ w'.cell? ⟨w.heap.size + 1 + 1, 5, none⟩ = some (.int .i64 p.u) ∧ w'.cell? ⟨w.heap.size + 1 + 1, 6, none⟩ = some (.int .i64 p.v))
    (((try dsimp only); (repeat' apply And.intro) <;> (first | with_reducible assumption | (go_keep; done) | ((repeat rw [World.cell?_setCell_other _ _ _ _ (by intro e; injection e with e _; omega)]); with_reducible assumption))))
    (first | (go_at_call 33; refine HC9.out.mono ?_; rintro e w5 ⟨G2, rfl, hag, hch2, hk9⟩; dsimp only [ChM.val]; have HBa'' := Lib.hid (HBa'.out.keeps hk9 (fun h => HM1.out (w.heap.size) (by omega) h)); have HBb'' := Lib.hid (HBb'.out.keeps hk9 (fun h => HM1.out (w.heap.size + 1) (by omega) h)); have HBp'' := Lib.hid (HBp'.out.keeps hk9 (fun h => HM1.out (w.heap.size + 1 + 1) (by omega) h)); have HBr'' := Lib.hid (HBr'.out.keeps hk9 (fun h => HM1.out (w.heap.size + 1 + 1 + 1) (by omega) h)); have HK'' := Lib.hid (HK'.out.then hk9 fun i hi h => HM1.out i (by omega) h); have HG2 : Hid (G2 (w.heap.size + 1 + 1 + 1) = 0) := Lib.hid (by rw [hag _ (by omega)]; exact HG1.out _ (by omega) (by omega)); have HCH := Lib.hid hch2; have HAG := Lib.hid hag; have sz2 := hk9.size; clear hag hch2 hk9 a0 a1 a2 a3 a4 a5 a6 a7 a8 a9 a10 a11 a12 b0 b1 b2 b3 b4 b5 b6 p0 p1 p2 p3 p4 p5 p6 za zb zp; have hb := HBa''.out; have a0 := hb.cell 0; have a1 := hb.cell 1; have a2 := hb.cell 2; have a3 := hb.cell 3; have a4 := hb.cell 4; have a5 := hb.cell 5; have a6 := hb.cell 6; have a7 := hb.cell 7; have a8 := hb.cell 8; have a9 := hb.cell 9; have a10 := hb.cell 10; have a11 := hb.cell 11; have a12 := hb.cell 12; simp at a0 a1 a2 a3 a4 a5 a6 a7 a8 a9 a10 a11 a12; have za := hb.lt; clear hb; have hb := HBb''.out; have b0 := hb.cell 0; have b1 := hb.cell 1; have b2 := hb.cell 2; have b3 := hb.cell 3; have b4 := hb.cell 4; have b5 := hb.cell 5; have b6 := hb.cell 6; simp at b0 b1 b2 b3 b4 b5 b6; have zb := hb.lt; clear hb; have hb := HBp''.out; have p0 := hb.cell 0; have p1 := hb.cell 1; have p2 := hb.cell 2; have p3 := hb.cell 3; have p4 := hb.cell 4; have p5 := hb.cell 5; have p6 := hb.cell 6; simp at p0 p1 p2 p3 p4 p5 p6; have zp := hb.lt; clear hb; have hb := HBr''.out; have r0 := hb.cell 0; have rf0 := hb.frozen 0; have r1 := hb.cell 1; have rf1 := hb.frozen 1; have r2 := hb.cell 2; have rf2 := hb.frozen 2; have r3 := hb.cell 3; have rf3 := hb.frozen 3; have r4 := hb.cell 4; have rf4 := hb.frozen 4; have r5 := hb.cell 5; have rf5 := hb.frozen 5; have r6 := hb.cell 6; have rf6 := hb.frozen 6; have r7 := hb.cell 7; have rf7 := hb.frozen 7; have r8 := hb.cell 8; have rf8 := hb.frozen 8; have r9 := hb.cell 9; have rf9 := hb.frozen 9; have r10 := hb.cell 10; have rf10 := hb.frozen 10; have r11 := hb.cell 11; have rf11 := hb.frozen 11; have r12 := hb.cell 12; have rf12 := hb.frozen 12; simp at r0 r1 r2 r3 r4 r5 r6 r7 r8 r9 r10 r11 r12; have zr := hb.lt; clear hb) | (go_at_call 34; refine (FC.out _ (HK.out.drewN 1)).mono ?_; rintro e w4 ⟨d, rfl, sm9, hk9, G, hG9, hch9⟩; dsimp only [ChM.val]; have SM := Lib.hid sm9; have hq := ((Keeps.refl noBlk w3).drewN 1).trans hk9; have FB := Lib.hid (of_get (n := w3.heap.size) (fun b hb => hG9 b hb) hch9 sm9 HB.out HS.out (by omega) HY.out (HY.out.kept (HK.out.trans hq)) H3.out); unfold OfL13 at FB; have HBa' := Lib.hid (HBa.out.keeps hq fun h => h); have HBb' := Lib.hid (HBb.out.keeps hq fun h => h); have HBp' := Lib.hid (HBp.out.keeps hq fun h => h); have HBr' := Lib.hid (HBr.out.keeps hq fun h => h); have HK' := Lib.hid (HK.out.trans hq); have sz1 := hq.size; clear sm9 hk9 hq a0 a1 a2 a3 a4 a5 a6 a7 a8 a9 a10 a11 a12 b0 b1 b2 b3 b4 b5 b6 p0 p1 p2 p3 p4 p5 p6 za zb zp; have hb := HBa'.out; have a0 := hb.cell 0; have a1 := hb.cell 1; have a2 := hb.cell 2; have a3 := hb.cell 3; have a4 := hb.cell 4; have a5 := hb.cell 5; have a6 := hb.cell 6; have a7 := hb.cell 7; have a8 := hb.cell 8; have a9 := hb.cell 9; have a10 := hb.cell 10; have a11 := hb.cell 11; have a12 := hb.cell 12; simp at a0 a1 a2 a3 a4 a5 a6 a7 a8 a9 a10 a11 a12; have za := hb.lt; clear hb; have hb := HBb'.out; have b0 := hb.cell 0; have b1 := hb.cell 1; have b2 := hb.cell 2; have b3 := hb.cell 3; have b4 := hb.cell 4; have b5 := hb.cell 5; have b6 := hb.cell 6; simp at b0 b1 b2 b3 b4 b5 b6; have zb := hb.lt; clear hb; have hb := HBp'.out; have p0 := hb.cell 0; have p1 := hb.cell 1; have p2 := hb.cell 2; have p3 := hb.cell 3; have p4 := hb.cell 4; have p5 := hb.cell 5; have p6 := hb.cell 6; simp at p0 p1 p2 p3 p4 p5 p6; have zp := hb.lt; clear hb; have HGZ := Lib.hid hG9; have HCD := Lib.hid hch9; obtain ⟨G1, hg9, hm9, hc9⟩ := FB.out; have HC9 := Lib.hid hc9; have HG1 := Lib.hid hg9; have HM1 := Lib.hid hm9; clear FB hc9 hg9 hm9 hG9 hch9; unfold ChM.val StM.val Pk.val at HC9))
  go_wp2
  obtain ⟨R, hR⟩ : ∃ R, (getTo d y.x p) = R := ⟨_, rfl⟩
  have hbF := (((((((((((((HBr''.out.set_ 0 (.int .i64 (getTo d y.x p).id)).set_ 1 (.slice (getTo d y.x p).bk.A1 (getTo d y.x p).bk.b.own.length (getTo d y.x p).bk.c1)).set_ 2 (.slice (getTo d y.x p).bk.A2 (getTo d y.x p).bk.b.notes.length (getTo d y.x p).bk.c2)).set_ 3 (.int .i64 (getTo d y.x p).bk.b.locked)).set_ 4 (.int .i64 (getTo d y.x p).st.x.way)).set_ 5 (.int .i64 (getTo d y.x p).st.x.ver)).set_ 6 (.int .i64 (getTo d y.x p).st.x.want)).set_ 7 (.slice (getTo d y.x p).st.A1 (getTo d y.x p).st.x.sent.length (getTo d y.x p).st.c1)).set_ 8 (.slice (getTo d y.x p).st.A2 (getTo d y.x p).st.x.live.length (getTo d y.x p).st.c2)).set_ 9 (.slice (getTo d y.x p).st.A3 (getTo d y.x p).st.x.back.length (getTo d y.x p).st.c3)).set_ 10 (.slice (getTo d y.x p).st.A4 (getTo d y.x p).st.x.got.length (getTo d y.x p).st.c4)).set_ 11 (.slice (getTo d y.x p).pA (getTo d y.x p).past.length (getTo d y.x p).pc)).set_ 12 (.slice (getTo d y.x p).kA (getTo d y.x p).knows.length (getTo d y.x p).kc))
  simp only [List.setIfInBounds_toArray, List.set_cons_zero, List.set_cons_succ] at hbF
  have s10 := hbF.cell 0
  have s11 := hbF.cell 1
  have s12 := hbF.cell 2
  have s13 := hbF.cell 3
  have s14 := hbF.cell 4
  have s15 := hbF.cell 5
  have s16 := hbF.cell 6
  have s17 := hbF.cell 7
  have s18 := hbF.cell 8
  have s19 := hbF.cell 9
  have s20 := hbF.cell 10
  have s21 := hbF.cell 11
  have s22 := hbF.cell 12
  simp at s10 s11 s12 s13 s14 s15 s16 s17 s18 s19 s20 s21 s22
  clear hbF
  have kS : Keeps (fun b => b = w.heap.size + 1 + 1 + 1) w5 (((((((((((((w5.setCell ⟨w.heap.size + 1 + 1 + 1, 0, none⟩ (.int .i64 (getTo d y.x p).id)).setCell ⟨w.heap.size + 1 + 1 + 1, 1, none⟩ (.slice (getTo d y.x p).bk.A1 (getTo d y.x p).bk.b.own.length (getTo d y.x p).bk.c1)).setCell ⟨w.heap.size + 1 + 1 + 1, 2, none⟩ (.slice (getTo d y.x p).bk.A2 (getTo d y.x p).bk.b.notes.length (getTo d y.x p).bk.c2)).setCell ⟨w.heap.size + 1 + 1 + 1, 3, none⟩ (.int .i64 (getTo d y.x p).bk.b.locked)).setCell ⟨w.heap.size + 1 + 1 + 1, 4, none⟩ (.int .i64 (getTo d y.x p).st.x.way)).setCell ⟨w.heap.size + 1 + 1 + 1, 5, none⟩ (.int .i64 (getTo d y.x p).st.x.ver)).setCell ⟨w.heap.size + 1 + 1 + 1, 6, none⟩ (.int .i64 (getTo d y.x p).st.x.want)).setCell ⟨w.heap.size + 1 + 1 + 1, 7, none⟩ (.slice (getTo d y.x p).st.A1 (getTo d y.x p).st.x.sent.length (getTo d y.x p).st.c1)).setCell ⟨w.heap.size + 1 + 1 + 1, 8, none⟩ (.slice (getTo d y.x p).st.A2 (getTo d y.x p).st.x.live.length (getTo d y.x p).st.c2)).setCell ⟨w.heap.size + 1 + 1 + 1, 9, none⟩ (.slice (getTo d y.x p).st.A3 (getTo d y.x p).st.x.back.length (getTo d y.x p).st.c3)).setCell ⟨w.heap.size + 1 + 1 + 1, 10, none⟩ (.slice (getTo d y.x p).st.A4 (getTo d y.x p).st.x.got.length (getTo d y.x p).st.c4)).setCell ⟨w.heap.size + 1 + 1 + 1, 11, none⟩ (.slice (getTo d y.x p).pA (getTo d y.x p).past.length (getTo d y.x p).pc)).setCell ⟨w.heap.size + 1 + 1 + 1, 12, none⟩ (.slice (getTo d y.x p).kA (getTo d y.x p).knows.length (getTo d y.x p).kc)) := ((((((((((((((Keeps.refl (fun b => b = w.heap.size + 1 + 1 + 1) w5).setCell (p := ⟨w.heap.size + 1 + 1 + 1, 0, none⟩) (.inr rfl) (.int .i64 (getTo d y.x p).id)).setCell (p := ⟨w.heap.size + 1 + 1 + 1, 1, none⟩) (.inr rfl) (.slice (getTo d y.x p).bk.A1 (getTo d y.x p).bk.b.own.length (getTo d y.x p).bk.c1)).setCell (p := ⟨w.heap.size + 1 + 1 + 1, 2, none⟩) (.inr rfl) (.slice (getTo d y.x p).bk.A2 (getTo d y.x p).bk.b.notes.length (getTo d y.x p).bk.c2)).setCell (p := ⟨w.heap.size + 1 + 1 + 1, 3, none⟩) (.inr rfl) (.int .i64 (getTo d y.x p).bk.b.locked)).setCell (p := ⟨w.heap.size + 1 + 1 + 1, 4, none⟩) (.inr rfl) (.int .i64 (getTo d y.x p).st.x.way)).setCell (p := ⟨w.heap.size + 1 + 1 + 1, 5, none⟩) (.inr rfl) (.int .i64 (getTo d y.x p).st.x.ver)).setCell (p := ⟨w.heap.size + 1 + 1 + 1, 6, none⟩) (.inr rfl) (.int .i64 (getTo d y.x p).st.x.want)).setCell (p := ⟨w.heap.size + 1 + 1 + 1, 7, none⟩) (.inr rfl) (.slice (getTo d y.x p).st.A1 (getTo d y.x p).st.x.sent.length (getTo d y.x p).st.c1)).setCell (p := ⟨w.heap.size + 1 + 1 + 1, 8, none⟩) (.inr rfl) (.slice (getTo d y.x p).st.A2 (getTo d y.x p).st.x.live.length (getTo d y.x p).st.c2)).setCell (p := ⟨w.heap.size + 1 + 1 + 1, 9, none⟩) (.inr rfl) (.slice (getTo d y.x p).st.A3 (getTo d y.x p).st.x.back.length (getTo d y.x p).st.c3)).setCell (p := ⟨w.heap.size + 1 + 1 + 1, 10, none⟩) (.inr rfl) (.slice (getTo d y.x p).st.A4 (getTo d y.x p).st.x.got.length (getTo d y.x p).st.c4)).setCell (p := ⟨w.heap.size + 1 + 1 + 1, 11, none⟩) (.inr rfl) (.slice (getTo d y.x p).pA (getTo d y.x p).past.length (getTo d y.x p).pc)).setCell (p := ⟨w.heap.size + 1 + 1 + 1, 12, none⟩) (.inr rfl) (.slice (getTo d y.x p).kA (getTo d y.x p).knows.length (getTo d y.x p).kc))
  generalize (((((((((((((w5.setCell ⟨w.heap.size + 1 + 1 + 1, 0, none⟩ (.int .i64 (getTo d y.x p).id)).setCell ⟨w.heap.size + 1 + 1 + 1, 1, none⟩ (.slice (getTo d y.x p).bk.A1 (getTo d y.x p).bk.b.own.length (getTo d y.x p).bk.c1)).setCell ⟨w.heap.size + 1 + 1 + 1, 2, none⟩ (.slice (getTo d y.x p).bk.A2 (getTo d y.x p).bk.b.notes.length (getTo d y.x p).bk.c2)).setCell ⟨w.heap.size + 1 + 1 + 1, 3, none⟩ (.int .i64 (getTo d y.x p).bk.b.locked)).setCell ⟨w.heap.size + 1 + 1 + 1, 4, none⟩ (.int .i64 (getTo d y.x p).st.x.way)).setCell ⟨w.heap.size + 1 + 1 + 1, 5, none⟩ (.int .i64 (getTo d y.x p).st.x.ver)).setCell ⟨w.heap.size + 1 + 1 + 1, 6, none⟩ (.int .i64 (getTo d y.x p).st.x.want)).setCell ⟨w.heap.size + 1 + 1 + 1, 7, none⟩ (.slice (getTo d y.x p).st.A1 (getTo d y.x p).st.x.sent.length (getTo d y.x p).st.c1)).setCell ⟨w.heap.size + 1 + 1 + 1, 8, none⟩ (.slice (getTo d y.x p).st.A2 (getTo d y.x p).st.x.live.length (getTo d y.x p).st.c2)).setCell ⟨w.heap.size + 1 + 1 + 1, 9, none⟩ (.slice (getTo d y.x p).st.A3 (getTo d y.x p).st.x.back.length (getTo d y.x p).st.c3)).setCell ⟨w.heap.size + 1 + 1 + 1, 10, none⟩ (.slice (getTo d y.x p).st.A4 (getTo d y.x p).st.x.got.length (getTo d y.x p).st.c4)).setCell ⟨w.heap.size + 1 + 1 + 1, 11, none⟩ (.slice (getTo d y.x p).pA (getTo d y.x p).past.length (getTo d y.x p).pc)).setCell ⟨w.heap.size + 1 + 1 + 1, 12, none⟩ (.slice (getTo d y.x p).kA (getTo d y.x p).knows.length (getTo d y.x p).kc)) = WF at kS s10 s11 s12 s13 s14 s15 s16 s17 s18 s19 s20 s21 s22 ⊢
  refine bodyPost_ret (v := .tuple #[ChM.val (getTo d y.x p), .bool (getOk c y.x p)]) (by simp [results, Tryz.results9, go_sem, ChM.val, s10, s11, s12, s13, s14, s15, s16, s17, s18, s19, s20, s21, s22]) rfl ?_
  have hfin := HCH.out.keeps kS (fun b hb (h : b = w.heap.size + 1 + 1 + 1) => by
    subst h
    rcases hb with hb | hb
    · exact hb.ne0 HG2.out
    · rw [HG2.out] at hb
      cases hb)
  have hsh := short_get y.x p (ck_bank (c := d) (by rw [ckB_same SM.out]; exact HB.out))
  exact ⟨_, rfl, get_same y.x p SM.out, hfin.at_ (by have := hsh.1; unfold maxLen; omega) (by have := hsh.2.1; unfold maxLen; omega), fun b hb => (by have q := turned_ge (n := w3.heap.size) (fun b hb => HGZ.out b hb) HCD.out HM1.out HAG.out HCH.out (by omega) (turned_get d y.x p) b hb; omega), HK''.out.then kS fun i hi h => by omega⟩
end Go.Proofs.YtcnbephpadmboaaGreatDoor
