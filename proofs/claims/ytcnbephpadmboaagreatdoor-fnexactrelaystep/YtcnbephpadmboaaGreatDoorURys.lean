/- spec.RelayStep. impl.RelayStep. -/
import Derived.Test.YtcnbephpadmboaaGreatDoorRyD
import Derived.Deep.RegionHeld3
import Derived.Test.YtcnbephpadmboaaGreatDoorURyF
import Derived.Test.YtcnbephpadmboaaGreatDoorUIDo
set_option linter.unusedVariables false
set_option linter.unusedSimpArgs false
/-! RyZs -/
namespace Go.Proofs.YtcnbephpadmboaaGreatDoor
open Go.RowKit

set_option maxRecDepth 100000 in
set_option maxHeartbeats 8000000 in
theorem specRStep_any (c : ChM) (y : StM) (k : Int) (w : World) (h : ChAt w c) (hL : c.bk.b.locked ≤ 9223372036854775807) (hy : y.At w) :
    Calls Tryz.prog 23 #[c.val, y.val, .int .i64 k] w (RetRG (fun v => .tuple #[v, .bool (rsO c y.x k)]) w (rsC c y.x k)) := by
  have F := Lib.hid (fun W (hk : Keeps noBlk w W) => specChOk_any c W (h.kept hk) hL)
  have FY := Lib.hid (fun W (hk : Keeps noBlk w W) => specSt_any y.x y.A1 y.A2 y.A3 y.A4 y.c1 y.c2 y.c3 y.c4 W (hy.kept hk))
  unfold stV at FY
  have HBa := Lib.hid (((Box.new w (w.heap.size) (by simp) 42 #[.int .i64 c.id, .slice c.bk.A1 c.bk.b.own.length c.bk.c1, .slice c.bk.A2 c.bk.b.notes.length c.bk.c2, .int .i64 c.bk.b.locked, .int .i64 c.st.x.way, .int .i64 c.st.x.ver, .int .i64 c.st.x.want, .slice c.st.A1 c.st.x.sent.length c.st.c1, .slice c.st.A2 c.st.x.live.length c.st.c2, .slice c.st.A3 c.st.x.back.length c.st.c3, .slice c.st.A4 c.st.x.got.length c.st.c4, .slice c.pA c.past.length c.pc, .slice c.kA c.knows.length c.kc]).alloc (.cells #[.int .i64 y.x.way, .int .i64 y.x.ver, .int .i64 y.x.want, .slice y.A1 y.x.sent.length y.c1, .slice y.A2 y.x.live.length y.c2, .slice y.A3 y.x.back.length y.c3, .slice y.A4 y.x.got.length y.c4] 39)).alloc (.cells #[.int .i64 0, .slice none 0 0, .slice none 0 0, .int .i64 0, .int .i64 0, .int .i64 0, .int .i64 0, .slice none 0 0, .slice none 0 0, .slice none 0 0, .slice none 0 0, .slice none 0 0, .slice none 0 0] 42))
  have HBb := Lib.hid ((Box.new (w.alloc (.cells #[.int .i64 c.id, .slice c.bk.A1 c.bk.b.own.length c.bk.c1, .slice c.bk.A2 c.bk.b.notes.length c.bk.c2, .int .i64 c.bk.b.locked, .int .i64 c.st.x.way, .int .i64 c.st.x.ver, .int .i64 c.st.x.want, .slice c.st.A1 c.st.x.sent.length c.st.c1, .slice c.st.A2 c.st.x.live.length c.st.c2, .slice c.st.A3 c.st.x.back.length c.st.c3, .slice c.st.A4 c.st.x.got.length c.st.c4, .slice c.pA c.past.length c.pc, .slice c.kA c.knows.length c.kc] 42)) (w.heap.size + 1) (by simp) 39 #[.int .i64 y.x.way, .int .i64 y.x.ver, .int .i64 y.x.want, .slice y.A1 y.x.sent.length y.c1, .slice y.A2 y.x.live.length y.c2, .slice y.A3 y.x.back.length y.c3, .slice y.A4 y.x.got.length y.c4]).alloc (.cells #[.int .i64 0, .slice none 0 0, .slice none 0 0, .int .i64 0, .int .i64 0, .int .i64 0, .int .i64 0, .slice none 0 0, .slice none 0 0, .slice none 0 0, .slice none 0 0, .slice none 0 0, .slice none 0 0] 42))
  have HBr := Lib.hid (Box.new ((w.alloc (.cells #[.int .i64 c.id, .slice c.bk.A1 c.bk.b.own.length c.bk.c1, .slice c.bk.A2 c.bk.b.notes.length c.bk.c2, .int .i64 c.bk.b.locked, .int .i64 c.st.x.way, .int .i64 c.st.x.ver, .int .i64 c.st.x.want, .slice c.st.A1 c.st.x.sent.length c.st.c1, .slice c.st.A2 c.st.x.live.length c.st.c2, .slice c.st.A3 c.st.x.back.length c.st.c3, .slice c.st.A4 c.st.x.got.length c.st.c4, .slice c.pA c.past.length c.pc, .slice c.kA c.knows.length c.kc] 42)).alloc (.cells #[.int .i64 y.x.way, .int .i64 y.x.ver, .int .i64 y.x.want, .slice y.A1 y.x.sent.length y.c1, .slice y.A2 y.x.live.length y.c2, .slice y.A3 y.x.back.length y.c3, .slice y.A4 y.x.got.length y.c4] 39)) (w.heap.size + 1 + 1) (by simp) 42 #[.int .i64 0, .slice none 0 0, .slice none 0 0, .int .i64 0, .int .i64 0, .int .i64 0, .int .i64 0, .slice none 0 0, .slice none 0 0, .slice none 0 0, .slice none 0 0, .slice none 0 0, .slice none 0 0])
  have HK := Lib.hid ((((Keeps.refl noBlk w).alloc (.cells #[.int .i64 c.id, .slice c.bk.A1 c.bk.b.own.length c.bk.c1, .slice c.bk.A2 c.bk.b.notes.length c.bk.c2, .int .i64 c.bk.b.locked, .int .i64 c.st.x.way, .int .i64 c.st.x.ver, .int .i64 c.st.x.want, .slice c.st.A1 c.st.x.sent.length c.st.c1, .slice c.st.A2 c.st.x.live.length c.st.c2, .slice c.st.A3 c.st.x.back.length c.st.c3, .slice c.st.A4 c.st.x.got.length c.st.c4, .slice c.pA c.past.length c.pc, .slice c.kA c.knows.length c.kc] 42)).alloc (.cells #[.int .i64 y.x.way, .int .i64 y.x.ver, .int .i64 y.x.want, .slice y.A1 y.x.sent.length y.c1, .slice y.A2 y.x.live.length y.c2, .slice y.A3 y.x.back.length y.c3, .slice y.A4 y.x.got.length y.c4] 39)).alloc (.cells #[.int .i64 0, .slice none 0 0, .slice none 0 0, .int .i64 0, .int .i64 0, .int .i64 0, .int .i64 0, .slice none 0 0, .slice none 0 0, .slice none 0 0, .slice none 0 0, .slice none 0 0, .slice none 0 0] 42))
  rcases Bool.eq_false_or_eq_true (ckB c) with hb | hb
  case inr =>
    rw [hb] at F
    have e1 : (rsO c y.x k) = false := by unfold rsO; rw [hb]; rfl
    have e2 : (rsC c y.x k) = ch0 := by unfold rsC; rw [if_neg (by simp [hb])]
    rw [e1, e2]
    clear h hb hL hy e1 e2 FY
    unfold ChM.val StM.val
    unfold ChM.val at F
    go_enter Tryz.func23, Tryz.ntmps23
    go_wp2_with fail
    refine (F.out _ HK.out).mono ?_
    rintro e w1 ⟨rfl, hk1⟩
    have ha := HBa.out.keeps hk1 (fun h => h)
    clear HBa
    have HBa := Lib.hid ha
    clear ha
    have hb := HBb.out.keeps hk1 (fun h => h)
    clear HBb
    have HBb := Lib.hid hb
    clear hb
    have hr := HBr.out.keeps hk1 (fun h => h)
    clear HBr
    have HBr := Lib.hid hr
    clear hr
    have hr := HK.out.trans hk1
    clear HK
    have HK := Lib.hid hr
    clear hr
    have sz1 := hk1.size
    (try simp at sz1)
    clear hk1
    have hb := HBr.out
    have r0 := hb.cell 0
    have r1 := hb.cell 1
    have r2 := hb.cell 2
    have r3 := hb.cell 3
    have r4 := hb.cell 4
    have r5 := hb.cell 5
    have r6 := hb.cell 6
    have r7 := hb.cell 7
    have r8 := hb.cell 8
    have r9 := hb.cell 9
    have r10 := hb.cell 10
    have r11 := hb.cell 11
    have r12 := hb.cell 12
    simp at r0 r1 r2 r3 r4 r5 r6 r7 r8 r9 r10 r11 r12
    have zr := hb.lt
    clear hb
    have hb := HBr.out
    have rf0 := hb.frozen 0
    have rf1 := hb.frozen 1
    have rf2 := hb.frozen 2
    have rf3 := hb.frozen 3
    have rf4 := hb.frozen 4
    have rf5 := hb.frozen 5
    have rf6 := hb.frozen 6
    have rf7 := hb.frozen 7
    have rf8 := hb.frozen 8
    have rf9 := hb.frozen 9
    have rf10 := hb.frozen 10
    have rf11 := hb.frozen 11
    have rf12 := hb.frozen 12
    clear hb
    go_wp2
    have hbF := (((((((((((((HBr.out.set_ 0 (.int .i64 0)).set_ 1 (.slice none 0 0)).set_ 2 (.slice none 0 0)).set_ 3 (.int .i64 0)).set_ 4 (.int .i64 0)).set_ 5 (.int .i64 0)).set_ 6 (.int .i64 0)).set_ 7 (.slice none 0 0)).set_ 8 (.slice none 0 0)).set_ 9 (.slice none 0 0)).set_ 10 (.slice none 0 0)).set_ 11 (.slice none 0 0)).set_ 12 (.slice none 0 0))
    simp only [List.setIfInBounds_toArray, List.set_cons_zero, List.set_cons_succ] at hbF
    have s10 := hbF.cell 0
    have s11 := hbF.cell 1
    have s12 := hbF.cell 2
    have s13 := hbF.cell 3
    have s14 := hbF.cell 4
    have s15 := hbF.cell 5
    have s16 := hbF.cell 6
    have s17 := hbF.cell 7
    have s18 := hbF.cell 8
    have s19 := hbF.cell 9
    have s20 := hbF.cell 10
    have s21 := hbF.cell 11
    have s22 := hbF.cell 12
    simp at s10 s11 s12 s13 s14 s15 s16 s17 s18 s19 s20 s21 s22
    clear hbF
    have kS : Keeps (fun b => b = w.heap.size + 1 + 1) w1 (((((((((((((w1.setCell ⟨w.heap.size + 1 + 1, 0, none⟩ (.int .i64 0)).setCell ⟨w.heap.size + 1 + 1, 1, none⟩ (.slice none 0 0)).setCell ⟨w.heap.size + 1 + 1, 2, none⟩ (.slice none 0 0)).setCell ⟨w.heap.size + 1 + 1, 3, none⟩ (.int .i64 0)).setCell ⟨w.heap.size + 1 + 1, 4, none⟩ (.int .i64 0)).setCell ⟨w.heap.size + 1 + 1, 5, none⟩ (.int .i64 0)).setCell ⟨w.heap.size + 1 + 1, 6, none⟩ (.int .i64 0)).setCell ⟨w.heap.size + 1 + 1, 7, none⟩ (.slice none 0 0)).setCell ⟨w.heap.size + 1 + 1, 8, none⟩ (.slice none 0 0)).setCell ⟨w.heap.size + 1 + 1, 9, none⟩ (.slice none 0 0)).setCell ⟨w.heap.size + 1 + 1, 10, none⟩ (.slice none 0 0)).setCell ⟨w.heap.size + 1 + 1, 11, none⟩ (.slice none 0 0)).setCell ⟨w.heap.size + 1 + 1, 12, none⟩ (.slice none 0 0)) := ((((((((((((((Keeps.refl (fun b => b = w.heap.size + 1 + 1) w1).setCell (p := ⟨w.heap.size + 1 + 1, 0, none⟩) (.inr rfl) (.int .i64 0)).setCell (p := ⟨w.heap.size + 1 + 1, 1, none⟩) (.inr rfl) (.slice none 0 0)).setCell (p := ⟨w.heap.size + 1 + 1, 2, none⟩) (.inr rfl) (.slice none 0 0)).setCell (p := ⟨w.heap.size + 1 + 1, 3, none⟩) (.inr rfl) (.int .i64 0)).setCell (p := ⟨w.heap.size + 1 + 1, 4, none⟩) (.inr rfl) (.int .i64 0)).setCell (p := ⟨w.heap.size + 1 + 1, 5, none⟩) (.inr rfl) (.int .i64 0)).setCell (p := ⟨w.heap.size + 1 + 1, 6, none⟩) (.inr rfl) (.int .i64 0)).setCell (p := ⟨w.heap.size + 1 + 1, 7, none⟩) (.inr rfl) (.slice none 0 0)).setCell (p := ⟨w.heap.size + 1 + 1, 8, none⟩) (.inr rfl) (.slice none 0 0)).setCell (p := ⟨w.heap.size + 1 + 1, 9, none⟩) (.inr rfl) (.slice none 0 0)).setCell (p := ⟨w.heap.size + 1 + 1, 10, none⟩) (.inr rfl) (.slice none 0 0)).setCell (p := ⟨w.heap.size + 1 + 1, 11, none⟩) (.inr rfl) (.slice none 0 0)).setCell (p := ⟨w.heap.size + 1 + 1, 12, none⟩) (.inr rfl) (.slice none 0 0))
    generalize (((((((((((((w1.setCell ⟨w.heap.size + 1 + 1, 0, none⟩ (.int .i64 0)).setCell ⟨w.heap.size + 1 + 1, 1, none⟩ (.slice none 0 0)).setCell ⟨w.heap.size + 1 + 1, 2, none⟩ (.slice none 0 0)).setCell ⟨w.heap.size + 1 + 1, 3, none⟩ (.int .i64 0)).setCell ⟨w.heap.size + 1 + 1, 4, none⟩ (.int .i64 0)).setCell ⟨w.heap.size + 1 + 1, 5, none⟩ (.int .i64 0)).setCell ⟨w.heap.size + 1 + 1, 6, none⟩ (.int .i64 0)).setCell ⟨w.heap.size + 1 + 1, 7, none⟩ (.slice none 0 0)).setCell ⟨w.heap.size + 1 + 1, 8, none⟩ (.slice none 0 0)).setCell ⟨w.heap.size + 1 + 1, 9, none⟩ (.slice none 0 0)).setCell ⟨w.heap.size + 1 + 1, 10, none⟩ (.slice none 0 0)).setCell ⟨w.heap.size + 1 + 1, 11, none⟩ (.slice none 0 0)).setCell ⟨w.heap.size + 1 + 1, 12, none⟩ (.slice none 0 0)) = WF at kS s10 s11 s12 s13 s14 s15 s16 s17 s18 s19 s20 s21 s22 ⊢
    refine bodyPost_ret (v := .tuple #[ch0.val, .bool false]) (by simp [results, Tryz.results23, go_sem, ch0, bk0, stm0, ChM.val, s10, s11, s12, s13, s14, s15, s16, s17, s18, s19, s20, s21, s22]) rfl ?_
    exact ⟨ch0, rfl, SameC.refl _, (ch0_own _ 0).at_, fun b hb => absurd hb ch0_blk, HK.out.then kS fun i hi h => by omega⟩
  rcases Bool.eq_false_or_eq_true (stB y.x) with hs | hs
  case inr =>
    rw [hb] at F
    rw [hs] at FY
    have e1 : (rsO c y.x k) = false := by unfold rsO; rw [hb, hs]; rfl
    have e2 : (rsC c y.x k) = ch0 := by unfold rsC; rw [if_neg (by simp [hb, hs])]
    rw [e1, e2]
    clear h hb hs hL hy e1 e2
    unfold ChM.val StM.val
    unfold ChM.val at F
    go_enter Tryz.func23, Tryz.ntmps23
    go_wp2_with fail
    refine (F.out _ HK.out).mono ?_
    rintro e w1 ⟨rfl, hk1⟩
    have ha := HBa.out.keeps hk1 (fun h => h)
    clear HBa
    have HBa := Lib.hid ha
    clear ha
    have hb := HBb.out.keeps hk1 (fun h => h)
    clear HBb
    have HBb := Lib.hid hb
    clear hb
    have hr := HBr.out.keeps hk1 (fun h => h)
    clear HBr
    have HBr := Lib.hid hr
    clear hr
    have hr := HK.out.trans hk1
    clear HK
    have HK := Lib.hid hr
    clear hr
    have sz1 := hk1.size
    (try simp at sz1)
    clear hk1
    have hb := HBb.out
    have b0 := hb.cell 0
    have b1 := hb.cell 1
    have b2 := hb.cell 2
    have b3 := hb.cell 3
    have b4 := hb.cell 4
    have b5 := hb.cell 5
    have b6 := hb.cell 6
    simp at b0 b1 b2 b3 b4 b5 b6
    have zb := hb.lt
    clear hb
    go_wp2_with fail
    refine (FY.out _ HK.out).mono ?_
    rintro e w2 ⟨rfl, hk2⟩
    clear b0 b1 b2 b3 b4 b5 b6 zb
    have ha := HBa.out.keeps hk2 (fun h => h)
    clear HBa
    have HBa := Lib.hid ha
    clear ha
    have hb := HBb.out.keeps hk2 (fun h => h)
    clear HBb
    have HBb := Lib.hid hb
    clear hb
    have hr := HBr.out.keeps hk2 (fun h => h)
    clear HBr
    have HBr := Lib.hid hr
    clear hr
    have hr := HK.out.trans hk2
    clear HK
    have HK := Lib.hid hr
    clear hr
    have sz2 := hk2.size
    (try simp at sz2)
    clear hk2
    have hb := HBr.out
    have r0 := hb.cell 0
    have r1 := hb.cell 1
    have r2 := hb.cell 2
    have r3 := hb.cell 3
    have r4 := hb.cell 4
    have r5 := hb.cell 5
    have r6 := hb.cell 6
    have r7 := hb.cell 7
    have r8 := hb.cell 8
    have r9 := hb.cell 9
    have r10 := hb.cell 10
    have r11 := hb.cell 11
    have r12 := hb.cell 12
    simp at r0 r1 r2 r3 r4 r5 r6 r7 r8 r9 r10 r11 r12
    have zr := hb.lt
    clear hb
    have hb := HBr.out
    have rf0 := hb.frozen 0
    have rf1 := hb.frozen 1
    have rf2 := hb.frozen 2
    have rf3 := hb.frozen 3
    have rf4 := hb.frozen 4
    have rf5 := hb.frozen 5
    have rf6 := hb.frozen 6
    have rf7 := hb.frozen 7
    have rf8 := hb.frozen 8
    have rf9 := hb.frozen 9
    have rf10 := hb.frozen 10
    have rf11 := hb.frozen 11
    have rf12 := hb.frozen 12
    clear hb
    go_wp2
    have hbF := (((((((((((((HBr.out.set_ 0 (.int .i64 0)).set_ 1 (.slice none 0 0)).set_ 2 (.slice none 0 0)).set_ 3 (.int .i64 0)).set_ 4 (.int .i64 0)).set_ 5 (.int .i64 0)).set_ 6 (.int .i64 0)).set_ 7 (.slice none 0 0)).set_ 8 (.slice none 0 0)).set_ 9 (.slice none 0 0)).set_ 10 (.slice none 0 0)).set_ 11 (.slice none 0 0)).set_ 12 (.slice none 0 0))
    simp only [List.setIfInBounds_toArray, List.set_cons_zero, List.set_cons_succ] at hbF
    have s10 := hbF.cell 0
    have s11 := hbF.cell 1
    have s12 := hbF.cell 2
    have s13 := hbF.cell 3
    have s14 := hbF.cell 4
    have s15 := hbF.cell 5
    have s16 := hbF.cell 6
    have s17 := hbF.cell 7
    have s18 := hbF.cell 8
    have s19 := hbF.cell 9
    have s20 := hbF.cell 10
    have s21 := hbF.cell 11
    have s22 := hbF.cell 12
    simp at s10 s11 s12 s13 s14 s15 s16 s17 s18 s19 s20 s21 s22
    clear hbF
    have kS : Keeps (fun b => b = w.heap.size + 1 + 1) w2 (((((((((((((w2.setCell ⟨w.heap.size + 1 + 1, 0, none⟩ (.int .i64 0)).setCell ⟨w.heap.size + 1 + 1, 1, none⟩ (.slice none 0 0)).setCell ⟨w.heap.size + 1 + 1, 2, none⟩ (.slice none 0 0)).setCell ⟨w.heap.size + 1 + 1, 3, none⟩ (.int .i64 0)).setCell ⟨w.heap.size + 1 + 1, 4, none⟩ (.int .i64 0)).setCell ⟨w.heap.size + 1 + 1, 5, none⟩ (.int .i64 0)).setCell ⟨w.heap.size + 1 + 1, 6, none⟩ (.int .i64 0)).setCell ⟨w.heap.size + 1 + 1, 7, none⟩ (.slice none 0 0)).setCell ⟨w.heap.size + 1 + 1, 8, none⟩ (.slice none 0 0)).setCell ⟨w.heap.size + 1 + 1, 9, none⟩ (.slice none 0 0)).setCell ⟨w.heap.size + 1 + 1, 10, none⟩ (.slice none 0 0)).setCell ⟨w.heap.size + 1 + 1, 11, none⟩ (.slice none 0 0)).setCell ⟨w.heap.size + 1 + 1, 12, none⟩ (.slice none 0 0)) := ((((((((((((((Keeps.refl (fun b => b = w.heap.size + 1 + 1) w2).setCell (p := ⟨w.heap.size + 1 + 1, 0, none⟩) (.inr rfl) (.int .i64 0)).setCell (p := ⟨w.heap.size + 1 + 1, 1, none⟩) (.inr rfl) (.slice none 0 0)).setCell (p := ⟨w.heap.size + 1 + 1, 2, none⟩) (.inr rfl) (.slice none 0 0)).setCell (p := ⟨w.heap.size + 1 + 1, 3, none⟩) (.inr rfl) (.int .i64 0)).setCell (p := ⟨w.heap.size + 1 + 1, 4, none⟩) (.inr rfl) (.int .i64 0)).setCell (p := ⟨w.heap.size + 1 + 1, 5, none⟩) (.inr rfl) (.int .i64 0)).setCell (p := ⟨w.heap.size + 1 + 1, 6, none⟩) (.inr rfl) (.int .i64 0)).setCell (p := ⟨w.heap.size + 1 + 1, 7, none⟩) (.inr rfl) (.slice none 0 0)).setCell (p := ⟨w.heap.size + 1 + 1, 8, none⟩) (.inr rfl) (.slice none 0 0)).setCell (p := ⟨w.heap.size + 1 + 1, 9, none⟩) (.inr rfl) (.slice none 0 0)).setCell (p := ⟨w.heap.size + 1 + 1, 10, none⟩) (.inr rfl) (.slice none 0 0)).setCell (p := ⟨w.heap.size + 1 + 1, 11, none⟩) (.inr rfl) (.slice none 0 0)).setCell (p := ⟨w.heap.size + 1 + 1, 12, none⟩) (.inr rfl) (.slice none 0 0))
    generalize (((((((((((((w2.setCell ⟨w.heap.size + 1 + 1, 0, none⟩ (.int .i64 0)).setCell ⟨w.heap.size + 1 + 1, 1, none⟩ (.slice none 0 0)).setCell ⟨w.heap.size + 1 + 1, 2, none⟩ (.slice none 0 0)).setCell ⟨w.heap.size + 1 + 1, 3, none⟩ (.int .i64 0)).setCell ⟨w.heap.size + 1 + 1, 4, none⟩ (.int .i64 0)).setCell ⟨w.heap.size + 1 + 1, 5, none⟩ (.int .i64 0)).setCell ⟨w.heap.size + 1 + 1, 6, none⟩ (.int .i64 0)).setCell ⟨w.heap.size + 1 + 1, 7, none⟩ (.slice none 0 0)).setCell ⟨w.heap.size + 1 + 1, 8, none⟩ (.slice none 0 0)).setCell ⟨w.heap.size + 1 + 1, 9, none⟩ (.slice none 0 0)).setCell ⟨w.heap.size + 1 + 1, 10, none⟩ (.slice none 0 0)).setCell ⟨w.heap.size + 1 + 1, 11, none⟩ (.slice none 0 0)).setCell ⟨w.heap.size + 1 + 1, 12, none⟩ (.slice none 0 0)) = WF at kS s10 s11 s12 s13 s14 s15 s16 s17 s18 s19 s20 s21 s22 ⊢
    refine bodyPost_ret (v := .tuple #[ch0.val, .bool false]) (by simp [results, Tryz.results23, go_sem, ch0, bk0, stm0, ChM.val, s10, s11, s12, s13, s14, s15, s16, s17, s18, s19, s20, s21, s22]) rfl ?_
    exact ⟨ch0, rfl, SameC.refl _, (ch0_own _ 0).at_, fun b hb => absurd hb ch0_blk, HK.out.then kS fun i hi h => by omega⟩
  have FC := Lib.hid (fun W (hk : Keeps noBlk w W) => l12Copy_any c W (h.kept hk) hb)
  have e1 : (rsO c y.x k) = (mayB c.st.x y.x k) := by unfold rsO; rw [hb, hs]; rfl
  have e2 : (rsC c y.x k) = (stepCh c y.x k) := by unfold rsC; rw [hb, hs]; rfl
  rw [e1, e2]
  rw [hb] at F
  rw [hs] at FY
  have HB := Lib.hid hb
  have HS := Lib.hid hs
  have HY := Lib.hid hy
  clear h hb hs hL hy e1 e2
  unfold ChM.val StM.val
  unfold ChM.val at F FC
  go_enter Tryz.func23, Tryz.ntmps23
  go_wp2_with fail
  refine (F.out _ HK.out).mono ?_
  rintro e w1 ⟨rfl, hk1⟩
  have ha := HBa.out.keeps hk1 (fun h => h)
  clear HBa
  have HBa := Lib.hid ha
  clear ha
  have hb := HBb.out.keeps hk1 (fun h => h)
  clear HBb
  have HBb := Lib.hid hb
  clear hb
  have hr := HBr.out.keeps hk1 (fun h => h)
  clear HBr
  have HBr := Lib.hid hr
  clear hr
  have hr := HK.out.trans hk1
  clear HK
  have HK := Lib.hid hr
  clear hr
  have sz1 := hk1.size
  (try simp at sz1)
  clear hk1
  have hb := HBb.out
  have b0 := hb.cell 0
  have b1 := hb.cell 1
  have b2 := hb.cell 2
  have b3 := hb.cell 3
  have b4 := hb.cell 4
  have b5 := hb.cell 5
  have b6 := hb.cell 6
  simp at b0 b1 b2 b3 b4 b5 b6
  have zb := hb.lt
  clear hb
  go_wp2_with fail
  refine (FY.out _ HK.out).mono ?_
  rintro e w2 ⟨rfl, hk2⟩
  clear b0 b1 b2 b3 b4 b5 b6 zb
  have ha := HBa.out.keeps hk2 (fun h => h)
  clear HBa
  have HBa := Lib.hid ha
  clear ha
  have hb := HBb.out.keeps hk2 (fun h => h)
  clear HBb
  have HBb := Lib.hid hb
  clear hb
  have hr := HBr.out.keeps hk2 (fun h => h)
  clear HBr
  have HBr := Lib.hid hr
  clear hr
  have hr := HK.out.trans hk2
  clear HK
  have HK := Lib.hid hr
  clear hr
  have sz2 := hk2.size
  (try simp at sz2)
  clear hk2
  have hb := HBa.out
  have a0 := hb.cell 0
  have a1 := hb.cell 1
  have a2 := hb.cell 2
  have a3 := hb.cell 3
  have a4 := hb.cell 4
  have a5 := hb.cell 5
  have a6 := hb.cell 6
  have a7 := hb.cell 7
  have a8 := hb.cell 8
  have a9 := hb.cell 9
  have a10 := hb.cell 10
  have a11 := hb.cell 11
  have a12 := hb.cell 12
  simp at a0 a1 a2 a3 a4 a5 a6 a7 a8 a9 a10 a11 a12
  have za := hb.lt
  clear hb
  have hb := HBb.out
  have b0 := hb.cell 0
  have b1 := hb.cell 1
  have b2 := hb.cell 2
  have b3 := hb.cell 3
  have b4 := hb.cell 4
  have b5 := hb.cell 5
  have b6 := hb.cell 6
  simp at b0 b1 b2 b3 b4 b5 b6
  have zb := hb.lt
  clear hb
  go_wp2_with fail
  have hsz : w.heap.size + 3 ≤ w2.heap.size := by first | omega | (simp at *; omega)
  go_region_held3 (fun w' => w'.cell? ⟨w.heap.size, 0, none⟩ = some (.int .i64 c.id) ∧ w'.cell? ⟨w.heap.size, 1, none⟩ = some (.slice c.bk.A1 c.bk.b.own.length c.bk.c1) ∧ w'.cell? ⟨w.heap.size, 2, none⟩ = some (.slice c.bk.A2 c.bk.b.notes.length c.bk.c2) ∧ w'.cell? ⟨w.heap.size, 3, none⟩ = some (.int .i64 c.bk.b.locked) ∧ w'.cell? ⟨w.heap.size, 4, none⟩ = some (.int .i64 c.st.x.way) ∧ w'.cell? ⟨w.heap.size, 5, none⟩ = some (.int .i64 c.st.x.ver) ∧ w'.cell? ⟨w.heap.size, 6, none⟩ = some (.int .i64 c.st.x.want) ∧ w'.cell? ⟨w.heap.size, 7, none⟩ = some (.slice c.st.A1 c.st.x.sent.length c.st.c1) ∧ w'.cell? ⟨w.heap.size, 8, none⟩ = some (.slice c.st.A2 c.st.x.live.length c.st.c2) ∧ w'.cell? ⟨w.heap.size, 9, none⟩ = some (.slice c.st.A3 c.st.x.back.length c.st.c3) ∧ w'.cell? ⟨w.heap.size, 10, none⟩ = some (.slice c.st.A4 c.st.x.got.length c.st.c4) ∧ w'.cell? ⟨w.heap.size, 11, none⟩ = some (.slice c.pA c.past.length c.pc) ∧ w'.cell? ⟨w.heap.size, 12, none⟩ = some (.slice c.kA c.knows.length c.kc) ∧ w'.cell? ⟨w.heap.size + 1, 0, none⟩ = some (.int .i64 y.x.way) ∧ w'.cell? ⟨w.heap.size + 1, 1, none⟩ = some (.int .i64 y.x.ver) ∧ w'.cell? ⟨w.heap.size + 1, 2, none⟩ = some (.int .i64 y.x.want) ∧ w'.cell? ⟨w.heap.size + 1, 3, none⟩ = some (.slice y.A1 y.x.sent.length y.c1) ∧ w'.cell? ⟨w.heap.size + 1, 4, none⟩ = some (.slice y.A2 y.x.live.length y.c2) ∧ w'.cell? ⟨w.heap.size + 1, 5, none⟩ = some (.slice y.A3 y.x.back.length y.c3) ∧ w'.cell? ⟨w.heap.size + 1, 6, none⟩ = some (.slice y.A4 y.x.got.length y.c4))
    (((try dsimp only); (repeat' apply And.intro) <;> (first | with_reducible assumption | (go_keep; done) | ((repeat rw [World.cell?_setCell_other _ _ _ _ (by intro e; injection e with e _; omega)]); with_reducible assumption))))
    (first | (go_at_call 68; refine HC9.out.mono ?_; rintro e w4 ⟨G2, rfl, hag, hch2, hk9⟩; dsimp only [ChM.val]; have HBa'' := Lib.hid (HBa'.out.keeps hk9 (fun h => HM1.out (w.heap.size) (by omega) h)); have HBb'' := Lib.hid (HBb'.out.keeps hk9 (fun h => HM1.out (w.heap.size + 1) (by omega) h)); have HBr'' := Lib.hid (HBr'.out.keeps hk9 (fun h => HM1.out (w.heap.size + 1 + 1) (by omega) h)); have HK'' := Lib.hid (HK'.out.then hk9 fun i hi h => HM1.out i (by omega) h); have HG2 : Hid (G2 (w.heap.size + 1 + 1) = 0) := Lib.hid (by rw [hag _ (by omega)]; exact HG1.out _ (by omega) (by omega)); have HCH := Lib.hid hch2; have HAG := Lib.hid hag; have sz2 := hk9.size; clear hag hch2 hk9 a0 a1 a2 a3 a4 a5 a6 a7 a8 a9 a10 a11 a12 b0 b1 b2 b3 b4 b5 b6 za zb; have hb := HBa''.out; have a0 := hb.cell 0; have a1 := hb.cell 1; have a2 := hb.cell 2; have a3 := hb.cell 3; have a4 := hb.cell 4; have a5 := hb.cell 5; have a6 := hb.cell 6; have a7 := hb.cell 7; have a8 := hb.cell 8; have a9 := hb.cell 9; have a10 := hb.cell 10; have a11 := hb.cell 11; have a12 := hb.cell 12; simp at a0 a1 a2 a3 a4 a5 a6 a7 a8 a9 a10 a11 a12; have za := hb.lt; clear hb; have hb := HBb''.out; have b0 := hb.cell 0; have b1 := hb.cell 1; have b2 := hb.cell 2; have b3 := hb.cell 3; have b4 := hb.cell 4; have b5 := hb.cell 5; have b6 := hb.cell 6; simp at b0 b1 b2 b3 b4 b5 b6; have zb := hb.lt; clear hb; have hb := HBr''.out; have r0 := hb.cell 0; have rf0 := hb.frozen 0; have r1 := hb.cell 1; have rf1 := hb.frozen 1; have r2 := hb.cell 2; have rf2 := hb.frozen 2; have r3 := hb.cell 3; have rf3 := hb.frozen 3; have r4 := hb.cell 4; have rf4 := hb.frozen 4; have r5 := hb.cell 5; have rf5 := hb.frozen 5; have r6 := hb.cell 6; have rf6 := hb.frozen 6; have r7 := hb.cell 7; have rf7 := hb.frozen 7; have r8 := hb.cell 8; have rf8 := hb.frozen 8; have r9 := hb.cell 9; have rf9 := hb.frozen 9; have r10 := hb.cell 10; have rf10 := hb.frozen 10; have r11 := hb.cell 11; have rf11 := hb.frozen 11; have r12 := hb.cell 12; have rf12 := hb.frozen 12; simp at r0 r1 r2 r3 r4 r5 r6 r7 r8 r9 r10 r11 r12; have zr := hb.lt; clear hb) | (go_at_call 34; refine (FC.out _ (HK.out.drewN 1)).mono ?_; rintro e w3 ⟨d, rfl, sm9, hk9, G, hG9, hch9⟩; dsimp only [ChM.val]; have SM := Lib.hid sm9; have hq := ((Keeps.refl noBlk w2).drewN 1).trans hk9; have FB := Lib.hid (of_step (k := k) (n := w2.heap.size) (fun b hb => hG9 b hb) hch9 sm9 HB.out HS.out (by omega) HY.out (HY.out.kept (HK.out.trans hq))); unfold OfL13 at FB; have HBa' := Lib.hid (HBa.out.keeps hq fun h => h); have HBb' := Lib.hid (HBb.out.keeps hq fun h => h); have HBr' := Lib.hid (HBr.out.keeps hq fun h => h); have HK' := Lib.hid (HK.out.trans hq); have sz1 := hq.size; clear sm9 hk9 hq a0 a1 a2 a3 a4 a5 a6 a7 a8 a9 a10 a11 a12 b0 b1 b2 b3 b4 b5 b6 za zb; have hb := HBa'.out; have a0 := hb.cell 0; have a1 := hb.cell 1; have a2 := hb.cell 2; have a3 := hb.cell 3; have a4 := hb.cell 4; have a5 := hb.cell 5; have a6 := hb.cell 6; have a7 := hb.cell 7; have a8 := hb.cell 8; have a9 := hb.cell 9; have a10 := hb.cell 10; have a11 := hb.cell 11; have a12 := hb.cell 12; simp at a0 a1 a2 a3 a4 a5 a6 a7 a8 a9 a10 a11 a12; have za := hb.lt; clear hb; have hb := HBb'.out; have b0 := hb.cell 0; have b1 := hb.cell 1; have b2 := hb.cell 2; have b3 := hb.cell 3; have b4 := hb.cell 4; have b5 := hb.cell 5; have b6 := hb.cell 6; simp at b0 b1 b2 b3 b4 b5 b6; have zb := hb.lt; clear hb; have HGZ := Lib.hid hG9; have HCD := Lib.hid hch9; obtain ⟨G1, hg9, hm9, hc9⟩ := FB.out; have HC9 := Lib.hid hc9; have HG1 := Lib.hid hg9; have HM1 := Lib.hid hm9; clear FB hc9 hg9 hm9 hG9 hch9; unfold ChM.val StM.val at HC9))
  go_wp2
  obtain ⟨R, hR⟩ : ∃ R, (stepCh d y.x k) = R := ⟨_, rfl⟩
  have hbF := (((((((((((((HBr''.out.set_ 0 (.int .i64 (stepCh d y.x k).id)).set_ 1 (.slice (stepCh d y.x k).bk.A1 (stepCh d y.x k).bk.b.own.length (stepCh d y.x k).bk.c1)).set_ 2 (.slice (stepCh d y.x k).bk.A2 (stepCh d y.x k).bk.b.notes.length (stepCh d y.x k).bk.c2)).set_ 3 (.int .i64 (stepCh d y.x k).bk.b.locked)).set_ 4 (.int .i64 (stepCh d y.x k).st.x.way)).set_ 5 (.int .i64 (stepCh d y.x k).st.x.ver)).set_ 6 (.int .i64 (stepCh d y.x k).st.x.want)).set_ 7 (.slice (stepCh d y.x k).st.A1 (stepCh d y.x k).st.x.sent.length (stepCh d y.x k).st.c1)).set_ 8 (.slice (stepCh d y.x k).st.A2 (stepCh d y.x k).st.x.live.length (stepCh d y.x k).st.c2)).set_ 9 (.slice (stepCh d y.x k).st.A3 (stepCh d y.x k).st.x.back.length (stepCh d y.x k).st.c3)).set_ 10 (.slice (stepCh d y.x k).st.A4 (stepCh d y.x k).st.x.got.length (stepCh d y.x k).st.c4)).set_ 11 (.slice (stepCh d y.x k).pA (stepCh d y.x k).past.length (stepCh d y.x k).pc)).set_ 12 (.slice (stepCh d y.x k).kA (stepCh d y.x k).knows.length (stepCh d y.x k).kc))
  simp only [List.setIfInBounds_toArray, List.set_cons_zero, List.set_cons_succ] at hbF
  have s10 := hbF.cell 0
  have s11 := hbF.cell 1
  have s12 := hbF.cell 2
  have s13 := hbF.cell 3
  have s14 := hbF.cell 4
  have s15 := hbF.cell 5
  have s16 := hbF.cell 6
  have s17 := hbF.cell 7
  have s18 := hbF.cell 8
  have s19 := hbF.cell 9
  have s20 := hbF.cell 10
  have s21 := hbF.cell 11
  have s22 := hbF.cell 12
  simp at s10 s11 s12 s13 s14 s15 s16 s17 s18 s19 s20 s21 s22
  clear hbF
  have kS : Keeps (fun b => b = w.heap.size + 1 + 1) w4 (((((((((((((w4.setCell ⟨w.heap.size + 1 + 1, 0, none⟩ (.int .i64 (stepCh d y.x k).id)).setCell ⟨w.heap.size + 1 + 1, 1, none⟩ (.slice (stepCh d y.x k).bk.A1 (stepCh d y.x k).bk.b.own.length (stepCh d y.x k).bk.c1)).setCell ⟨w.heap.size + 1 + 1, 2, none⟩ (.slice (stepCh d y.x k).bk.A2 (stepCh d y.x k).bk.b.notes.length (stepCh d y.x k).bk.c2)).setCell ⟨w.heap.size + 1 + 1, 3, none⟩ (.int .i64 (stepCh d y.x k).bk.b.locked)).setCell ⟨w.heap.size + 1 + 1, 4, none⟩ (.int .i64 (stepCh d y.x k).st.x.way)).setCell ⟨w.heap.size + 1 + 1, 5, none⟩ (.int .i64 (stepCh d y.x k).st.x.ver)).setCell ⟨w.heap.size + 1 + 1, 6, none⟩ (.int .i64 (stepCh d y.x k).st.x.want)).setCell ⟨w.heap.size + 1 + 1, 7, none⟩ (.slice (stepCh d y.x k).st.A1 (stepCh d y.x k).st.x.sent.length (stepCh d y.x k).st.c1)).setCell ⟨w.heap.size + 1 + 1, 8, none⟩ (.slice (stepCh d y.x k).st.A2 (stepCh d y.x k).st.x.live.length (stepCh d y.x k).st.c2)).setCell ⟨w.heap.size + 1 + 1, 9, none⟩ (.slice (stepCh d y.x k).st.A3 (stepCh d y.x k).st.x.back.length (stepCh d y.x k).st.c3)).setCell ⟨w.heap.size + 1 + 1, 10, none⟩ (.slice (stepCh d y.x k).st.A4 (stepCh d y.x k).st.x.got.length (stepCh d y.x k).st.c4)).setCell ⟨w.heap.size + 1 + 1, 11, none⟩ (.slice (stepCh d y.x k).pA (stepCh d y.x k).past.length (stepCh d y.x k).pc)).setCell ⟨w.heap.size + 1 + 1, 12, none⟩ (.slice (stepCh d y.x k).kA (stepCh d y.x k).knows.length (stepCh d y.x k).kc)) := ((((((((((((((Keeps.refl (fun b => b = w.heap.size + 1 + 1) w4).setCell (p := ⟨w.heap.size + 1 + 1, 0, none⟩) (.inr rfl) (.int .i64 (stepCh d y.x k).id)).setCell (p := ⟨w.heap.size + 1 + 1, 1, none⟩) (.inr rfl) (.slice (stepCh d y.x k).bk.A1 (stepCh d y.x k).bk.b.own.length (stepCh d y.x k).bk.c1)).setCell (p := ⟨w.heap.size + 1 + 1, 2, none⟩) (.inr rfl) (.slice (stepCh d y.x k).bk.A2 (stepCh d y.x k).bk.b.notes.length (stepCh d y.x k).bk.c2)).setCell (p := ⟨w.heap.size + 1 + 1, 3, none⟩) (.inr rfl) (.int .i64 (stepCh d y.x k).bk.b.locked)).setCell (p := ⟨w.heap.size + 1 + 1, 4, none⟩) (.inr rfl) (.int .i64 (stepCh d y.x k).st.x.way)).setCell (p := ⟨w.heap.size + 1 + 1, 5, none⟩) (.inr rfl) (.int .i64 (stepCh d y.x k).st.x.ver)).setCell (p := ⟨w.heap.size + 1 + 1, 6, none⟩) (.inr rfl) (.int .i64 (stepCh d y.x k).st.x.want)).setCell (p := ⟨w.heap.size + 1 + 1, 7, none⟩) (.inr rfl) (.slice (stepCh d y.x k).st.A1 (stepCh d y.x k).st.x.sent.length (stepCh d y.x k).st.c1)).setCell (p := ⟨w.heap.size + 1 + 1, 8, none⟩) (.inr rfl) (.slice (stepCh d y.x k).st.A2 (stepCh d y.x k).st.x.live.length (stepCh d y.x k).st.c2)).setCell (p := ⟨w.heap.size + 1 + 1, 9, none⟩) (.inr rfl) (.slice (stepCh d y.x k).st.A3 (stepCh d y.x k).st.x.back.length (stepCh d y.x k).st.c3)).setCell (p := ⟨w.heap.size + 1 + 1, 10, none⟩) (.inr rfl) (.slice (stepCh d y.x k).st.A4 (stepCh d y.x k).st.x.got.length (stepCh d y.x k).st.c4)).setCell (p := ⟨w.heap.size + 1 + 1, 11, none⟩) (.inr rfl) (.slice (stepCh d y.x k).pA (stepCh d y.x k).past.length (stepCh d y.x k).pc)).setCell (p := ⟨w.heap.size + 1 + 1, 12, none⟩) (.inr rfl) (.slice (stepCh d y.x k).kA (stepCh d y.x k).knows.length (stepCh d y.x k).kc))
  generalize (((((((((((((w4.setCell ⟨w.heap.size + 1 + 1, 0, none⟩ (.int .i64 (stepCh d y.x k).id)).setCell ⟨w.heap.size + 1 + 1, 1, none⟩ (.slice (stepCh d y.x k).bk.A1 (stepCh d y.x k).bk.b.own.length (stepCh d y.x k).bk.c1)).setCell ⟨w.heap.size + 1 + 1, 2, none⟩ (.slice (stepCh d y.x k).bk.A2 (stepCh d y.x k).bk.b.notes.length (stepCh d y.x k).bk.c2)).setCell ⟨w.heap.size + 1 + 1, 3, none⟩ (.int .i64 (stepCh d y.x k).bk.b.locked)).setCell ⟨w.heap.size + 1 + 1, 4, none⟩ (.int .i64 (stepCh d y.x k).st.x.way)).setCell ⟨w.heap.size + 1 + 1, 5, none⟩ (.int .i64 (stepCh d y.x k).st.x.ver)).setCell ⟨w.heap.size + 1 + 1, 6, none⟩ (.int .i64 (stepCh d y.x k).st.x.want)).setCell ⟨w.heap.size + 1 + 1, 7, none⟩ (.slice (stepCh d y.x k).st.A1 (stepCh d y.x k).st.x.sent.length (stepCh d y.x k).st.c1)).setCell ⟨w.heap.size + 1 + 1, 8, none⟩ (.slice (stepCh d y.x k).st.A2 (stepCh d y.x k).st.x.live.length (stepCh d y.x k).st.c2)).setCell ⟨w.heap.size + 1 + 1, 9, none⟩ (.slice (stepCh d y.x k).st.A3 (stepCh d y.x k).st.x.back.length (stepCh d y.x k).st.c3)).setCell ⟨w.heap.size + 1 + 1, 10, none⟩ (.slice (stepCh d y.x k).st.A4 (stepCh d y.x k).st.x.got.length (stepCh d y.x k).st.c4)).setCell ⟨w.heap.size + 1 + 1, 11, none⟩ (.slice (stepCh d y.x k).pA (stepCh d y.x k).past.length (stepCh d y.x k).pc)).setCell ⟨w.heap.size + 1 + 1, 12, none⟩ (.slice (stepCh d y.x k).kA (stepCh d y.x k).knows.length (stepCh d y.x k).kc)) = WF at kS s10 s11 s12 s13 s14 s15 s16 s17 s18 s19 s20 s21 s22 ⊢
  refine bodyPost_ret (v := .tuple #[ChM.val (stepCh d y.x k), .bool (mayB c.st.x y.x k)]) (by simp [results, Tryz.results23, go_sem, ChM.val, s10, s11, s12, s13, s14, s15, s16, s17, s18, s19, s20, s21, s22]) rfl ?_
  have hfin := HCH.out.keeps kS (fun b hb (h : b = w.heap.size + 1 + 1) => by
    subst h
    rcases hb with hb | hb
    · exact hb.ne0 HG2.out
    · rw [HG2.out] at hb
      cases hb)
  have hsh := short_step y.x k (ck_bank (c := d) (by rw [ckB_same SM.out]; exact HB.out))
  exact ⟨_, rfl, step_same y.x k SM.out, hfin.at_ (by have := hsh.1; unfold maxLen; omega) (by have := hsh.2.1; unfold maxLen; omega), fun b hb => (by have q := turned_ge (n := w2.heap.size) (fun b hb => HGZ.out b hb) HCD.out HM1.out HAG.out HCH.out (by omega) (turned_step d y.x k) b hb; omega), HK''.out.then kS fun i hi h => by omega⟩
end Go.Proofs.YtcnbephpadmboaaGreatDoor

/-! RyIs -/
namespace Go.Proofs.YtcnbephpadmboaaGreatDoor
open Go.RowKit

set_option maxRecDepth 100000 in
set_option maxHeartbeats 8000000 in
theorem implRStep_bad (c : ChM) (y : StM) (k : Int) (w : World) (h : ChAt w c) (hy : y.At w) (ht : Tabs w) (hb : (ckB c && stB y.x) = false) :
    Calls Tryz.prog 24 #[c.val, y.val, .int .i64 k] w (RetC (fun v => .tuple #[v, .bool false]) w ch0) := by
  have F := Lib.hid (fun W (hk : Keeps noBlk w W) => shown_any_no c y W (h.kept hk) (hy.kept hk) (ht.keeps hk) hb)
  clear h hy ht hb
  unfold ChM.val StM.val
  unfold ChM.val StM.val at F
  have HBa := Lib.hid ((((Box.new w (w.heap.size) (by simp) 42 #[.int .i64 c.id, .slice c.bk.A1 c.bk.b.own.length c.bk.c1, .slice c.bk.A2 c.bk.b.notes.length c.bk.c2, .int .i64 c.bk.b.locked, .int .i64 c.st.x.way, .int .i64 c.st.x.ver, .int .i64 c.st.x.want, .slice c.st.A1 c.st.x.sent.length c.st.c1, .slice c.st.A2 c.st.x.live.length c.st.c2, .slice c.st.A3 c.st.x.back.length c.st.c3, .slice c.st.A4 c.st.x.got.length c.st.c4, .slice c.pA c.past.length c.pc, .slice c.kA c.knows.length c.kc]).alloc (.cells #[.int .i64 y.x.way, .int .i64 y.x.ver, .int .i64 y.x.want, .slice y.A1 y.x.sent.length y.c1, .slice y.A2 y.x.live.length y.c2, .slice y.A3 y.x.back.length y.c3, .slice y.A4 y.x.got.length y.c4] 39)).alloc (.cells #[.int .i64 0, .slice none 0 0, .slice none 0 0, .int .i64 0, .int .i64 0, .int .i64 0, .int .i64 0, .slice none 0 0, .slice none 0 0, .slice none 0 0, .slice none 0 0, .slice none 0 0, .slice none 0 0] 42)).alloc (.cells #[.int .i64 y.x.way, .int .i64 y.x.ver, .int .i64 y.x.want, .slice y.A1 y.x.sent.length y.c1, .slice y.A2 y.x.live.length y.c2, .slice y.A3 y.x.back.length y.c3, .slice y.A4 y.x.got.length y.c4] 75))
  have HBb := Lib.hid (((Box.new (w.alloc (.cells #[.int .i64 c.id, .slice c.bk.A1 c.bk.b.own.length c.bk.c1, .slice c.bk.A2 c.bk.b.notes.length c.bk.c2, .int .i64 c.bk.b.locked, .int .i64 c.st.x.way, .int .i64 c.st.x.ver, .int .i64 c.st.x.want, .slice c.st.A1 c.st.x.sent.length c.st.c1, .slice c.st.A2 c.st.x.live.length c.st.c2, .slice c.st.A3 c.st.x.back.length c.st.c3, .slice c.st.A4 c.st.x.got.length c.st.c4, .slice c.pA c.past.length c.pc, .slice c.kA c.knows.length c.kc] 42)) (w.heap.size + 1) (by simp) 39 #[.int .i64 y.x.way, .int .i64 y.x.ver, .int .i64 y.x.want, .slice y.A1 y.x.sent.length y.c1, .slice y.A2 y.x.live.length y.c2, .slice y.A3 y.x.back.length y.c3, .slice y.A4 y.x.got.length y.c4]).alloc (.cells #[.int .i64 0, .slice none 0 0, .slice none 0 0, .int .i64 0, .int .i64 0, .int .i64 0, .int .i64 0, .slice none 0 0, .slice none 0 0, .slice none 0 0, .slice none 0 0, .slice none 0 0, .slice none 0 0] 42)).alloc (.cells #[.int .i64 y.x.way, .int .i64 y.x.ver, .int .i64 y.x.want, .slice y.A1 y.x.sent.length y.c1, .slice y.A2 y.x.live.length y.c2, .slice y.A3 y.x.back.length y.c3, .slice y.A4 y.x.got.length y.c4] 75))
  have HBr := Lib.hid ((Box.new ((w.alloc (.cells #[.int .i64 c.id, .slice c.bk.A1 c.bk.b.own.length c.bk.c1, .slice c.bk.A2 c.bk.b.notes.length c.bk.c2, .int .i64 c.bk.b.locked, .int .i64 c.st.x.way, .int .i64 c.st.x.ver, .int .i64 c.st.x.want, .slice c.st.A1 c.st.x.sent.length c.st.c1, .slice c.st.A2 c.st.x.live.length c.st.c2, .slice c.st.A3 c.st.x.back.length c.st.c3, .slice c.st.A4 c.st.x.got.length c.st.c4, .slice c.pA c.past.length c.pc, .slice c.kA c.knows.length c.kc] 42)).alloc (.cells #[.int .i64 y.x.way, .int .i64 y.x.ver, .int .i64 y.x.want, .slice y.A1 y.x.sent.length y.c1, .slice y.A2 y.x.live.length y.c2, .slice y.A3 y.x.back.length y.c3, .slice y.A4 y.x.got.length y.c4] 39)) (w.heap.size + 1 + 1) (by simp) 42 #[.int .i64 0, .slice none 0 0, .slice none 0 0, .int .i64 0, .int .i64 0, .int .i64 0, .int .i64 0, .slice none 0 0, .slice none 0 0, .slice none 0 0, .slice none 0 0, .slice none 0 0, .slice none 0 0]).alloc (.cells #[.int .i64 y.x.way, .int .i64 y.x.ver, .int .i64 y.x.want, .slice y.A1 y.x.sent.length y.c1, .slice y.A2 y.x.live.length y.c2, .slice y.A3 y.x.back.length y.c3, .slice y.A4 y.x.got.length y.c4] 75))
  have HBq := Lib.hid (Box.new (((w.alloc (.cells #[.int .i64 c.id, .slice c.bk.A1 c.bk.b.own.length c.bk.c1, .slice c.bk.A2 c.bk.b.notes.length c.bk.c2, .int .i64 c.bk.b.locked, .int .i64 c.st.x.way, .int .i64 c.st.x.ver, .int .i64 c.st.x.want, .slice c.st.A1 c.st.x.sent.length c.st.c1, .slice c.st.A2 c.st.x.live.length c.st.c2, .slice c.st.A3 c.st.x.back.length c.st.c3, .slice c.st.A4 c.st.x.got.length c.st.c4, .slice c.pA c.past.length c.pc, .slice c.kA c.knows.length c.kc] 42)).alloc (.cells #[.int .i64 y.x.way, .int .i64 y.x.ver, .int .i64 y.x.want, .slice y.A1 y.x.sent.length y.c1, .slice y.A2 y.x.live.length y.c2, .slice y.A3 y.x.back.length y.c3, .slice y.A4 y.x.got.length y.c4] 39)).alloc (.cells #[.int .i64 0, .slice none 0 0, .slice none 0 0, .int .i64 0, .int .i64 0, .int .i64 0, .int .i64 0, .slice none 0 0, .slice none 0 0, .slice none 0 0, .slice none 0 0, .slice none 0 0, .slice none 0 0] 42)) (w.heap.size + 1 + 1 + 1) (by simp) 75 #[.int .i64 y.x.way, .int .i64 y.x.ver, .int .i64 y.x.want, .slice y.A1 y.x.sent.length y.c1, .slice y.A2 y.x.live.length y.c2, .slice y.A3 y.x.back.length y.c3, .slice y.A4 y.x.got.length y.c4])
  have HK := Lib.hid (((((Keeps.refl noBlk w).alloc (.cells #[.int .i64 c.id, .slice c.bk.A1 c.bk.b.own.length c.bk.c1, .slice c.bk.A2 c.bk.b.notes.length c.bk.c2, .int .i64 c.bk.b.locked, .int .i64 c.st.x.way, .int .i64 c.st.x.ver, .int .i64 c.st.x.want, .slice c.st.A1 c.st.x.sent.length c.st.c1, .slice c.st.A2 c.st.x.live.length c.st.c2, .slice c.st.A3 c.st.x.back.length c.st.c3, .slice c.st.A4 c.st.x.got.length c.st.c4, .slice c.pA c.past.length c.pc, .slice c.kA c.knows.length c.kc] 42)).alloc (.cells #[.int .i64 y.x.way, .int .i64 y.x.ver, .int .i64 y.x.want, .slice y.A1 y.x.sent.length y.c1, .slice y.A2 y.x.live.length y.c2, .slice y.A3 y.x.back.length y.c3, .slice y.A4 y.x.got.length y.c4] 39)).alloc (.cells #[.int .i64 0, .slice none 0 0, .slice none 0 0, .int .i64 0, .int .i64 0, .int .i64 0, .int .i64 0, .slice none 0 0, .slice none 0 0, .slice none 0 0, .slice none 0 0, .slice none 0 0, .slice none 0 0] 42)).alloc (.cells #[.int .i64 y.x.way, .int .i64 y.x.ver, .int .i64 y.x.want, .slice y.A1 y.x.sent.length y.c1, .slice y.A2 y.x.live.length y.c2, .slice y.A3 y.x.back.length y.c3, .slice y.A4 y.x.got.length y.c4] 75))
  go_enter Tryz.func24, Tryz.ntmps24
  go_wp2_with fail
  refine (F.out _ HK.out).mono ?_
  rintro e w1 ⟨rfl, hk1⟩
  unfold lk0
  have ha := HBa.out.keeps hk1 (fun h => h)
  clear HBa
  have HBa := Lib.hid ha
  clear ha
  have hb := HBb.out.keeps hk1 (fun h => h)
  clear HBb
  have HBb := Lib.hid hb
  clear hb
  have hr := HBr.out.keeps hk1 (fun h => h)
  clear HBr
  have HBr := Lib.hid hr
  clear hr
  have hq := HBq.out.keeps hk1 (fun h => h)
  clear HBq
  have HBq := Lib.hid hq
  clear hq
  have hr := HK.out.trans hk1
  clear HK
  have HK := Lib.hid hr
  clear hr
  have sz1 := hk1.size
  (try simp at sz1)
  clear hk1
  have hb := HBr.out
  have r0 := hb.cell 0
  have r1 := hb.cell 1
  have r2 := hb.cell 2
  have r3 := hb.cell 3
  have r4 := hb.cell 4
  have r5 := hb.cell 5
  have r6 := hb.cell 6
  have r7 := hb.cell 7
  have r8 := hb.cell 8
  have r9 := hb.cell 9
  have r10 := hb.cell 10
  have r11 := hb.cell 11
  have r12 := hb.cell 12
  simp at r0 r1 r2 r3 r4 r5 r6 r7 r8 r9 r10 r11 r12
  have zr := hb.lt
  clear hb
  have hb := HBr.out
  have rf0 := hb.frozen 0
  have rf1 := hb.frozen 1
  have rf2 := hb.frozen 2
  have rf3 := hb.frozen 3
  have rf4 := hb.frozen 4
  have rf5 := hb.frozen 5
  have rf6 := hb.frozen 6
  have rf7 := hb.frozen 7
  have rf8 := hb.frozen 8
  have rf9 := hb.frozen 9
  have rf10 := hb.frozen 10
  have rf11 := hb.frozen 11
  have rf12 := hb.frozen 12
  clear hb
  go_wp2
  have hbF := ((((((((((((((HBr.out.set_ 0 (.int .i64 0)).set_ 1 (.slice none 0 0)).set_ 2 (.slice none 0 0)).set_ 3 (.int .i64 0)).set_ 4 (.int .i64 0)).set_ 5 (.int .i64 0)).set_ 6 (.int .i64 0)).set_ 7 (.slice none 0 0)).set_ 8 (.slice none 0 0)).set_ 9 (.slice none 0 0)).set_ 10 (.slice none 0 0)).set_ 11 (.slice none 0 0)).set_ 12 (.slice none 0 0)).alloc (.cells #[.slice none 0 0, .slice none 0 0, .int .i64 0, .int .i64 0, .int .i64 0, .int .i64 0, .int .i64 0, .slice none 0 0, .slice none 0 0, .slice none 0 0, .slice none 0 0, .pointer none, .slice none 0 0] 78))
  simp only [List.setIfInBounds_toArray, List.set_cons_zero, List.set_cons_succ] at hbF
  have s10 := hbF.cell 0
  have s11 := hbF.cell 1
  have s12 := hbF.cell 2
  have s13 := hbF.cell 3
  have s14 := hbF.cell 4
  have s15 := hbF.cell 5
  have s16 := hbF.cell 6
  have s17 := hbF.cell 7
  have s18 := hbF.cell 8
  have s19 := hbF.cell 9
  have s20 := hbF.cell 10
  have s21 := hbF.cell 11
  have s22 := hbF.cell 12
  simp at s10 s11 s12 s13 s14 s15 s16 s17 s18 s19 s20 s21 s22
  clear hbF
  have kS : Keeps (fun b => b = w.heap.size + 1 + 1) w1 ((((((((((((((w1.setCell ⟨w.heap.size + 1 + 1, 0, none⟩ (.int .i64 0)).setCell ⟨w.heap.size + 1 + 1, 1, none⟩ (.slice none 0 0)).setCell ⟨w.heap.size + 1 + 1, 2, none⟩ (.slice none 0 0)).setCell ⟨w.heap.size + 1 + 1, 3, none⟩ (.int .i64 0)).setCell ⟨w.heap.size + 1 + 1, 4, none⟩ (.int .i64 0)).setCell ⟨w.heap.size + 1 + 1, 5, none⟩ (.int .i64 0)).setCell ⟨w.heap.size + 1 + 1, 6, none⟩ (.int .i64 0)).setCell ⟨w.heap.size + 1 + 1, 7, none⟩ (.slice none 0 0)).setCell ⟨w.heap.size + 1 + 1, 8, none⟩ (.slice none 0 0)).setCell ⟨w.heap.size + 1 + 1, 9, none⟩ (.slice none 0 0)).setCell ⟨w.heap.size + 1 + 1, 10, none⟩ (.slice none 0 0)).setCell ⟨w.heap.size + 1 + 1, 11, none⟩ (.slice none 0 0)).setCell ⟨w.heap.size + 1 + 1, 12, none⟩ (.slice none 0 0)).alloc (.cells #[.slice none 0 0, .slice none 0 0, .int .i64 0, .int .i64 0, .int .i64 0, .int .i64 0, .int .i64 0, .slice none 0 0, .slice none 0 0, .slice none 0 0, .slice none 0 0, .pointer none, .slice none 0 0] 78)) := (((((((((((((((Keeps.refl (fun b => b = w.heap.size + 1 + 1) w1).setCell (p := ⟨w.heap.size + 1 + 1, 0, none⟩) (.inr rfl) (.int .i64 0)).setCell (p := ⟨w.heap.size + 1 + 1, 1, none⟩) (.inr rfl) (.slice none 0 0)).setCell (p := ⟨w.heap.size + 1 + 1, 2, none⟩) (.inr rfl) (.slice none 0 0)).setCell (p := ⟨w.heap.size + 1 + 1, 3, none⟩) (.inr rfl) (.int .i64 0)).setCell (p := ⟨w.heap.size + 1 + 1, 4, none⟩) (.inr rfl) (.int .i64 0)).setCell (p := ⟨w.heap.size + 1 + 1, 5, none⟩) (.inr rfl) (.int .i64 0)).setCell (p := ⟨w.heap.size + 1 + 1, 6, none⟩) (.inr rfl) (.int .i64 0)).setCell (p := ⟨w.heap.size + 1 + 1, 7, none⟩) (.inr rfl) (.slice none 0 0)).setCell (p := ⟨w.heap.size + 1 + 1, 8, none⟩) (.inr rfl) (.slice none 0 0)).setCell (p := ⟨w.heap.size + 1 + 1, 9, none⟩) (.inr rfl) (.slice none 0 0)).setCell (p := ⟨w.heap.size + 1 + 1, 10, none⟩) (.inr rfl) (.slice none 0 0)).setCell (p := ⟨w.heap.size + 1 + 1, 11, none⟩) (.inr rfl) (.slice none 0 0)).setCell (p := ⟨w.heap.size + 1 + 1, 12, none⟩) (.inr rfl) (.slice none 0 0)).alloc (.cells #[.slice none 0 0, .slice none 0 0, .int .i64 0, .int .i64 0, .int .i64 0, .int .i64 0, .int .i64 0, .slice none 0 0, .slice none 0 0, .slice none 0 0, .slice none 0 0, .pointer none, .slice none 0 0] 78))
  generalize ((((((((((((((w1.setCell ⟨w.heap.size + 1 + 1, 0, none⟩ (.int .i64 0)).setCell ⟨w.heap.size + 1 + 1, 1, none⟩ (.slice none 0 0)).setCell ⟨w.heap.size + 1 + 1, 2, none⟩ (.slice none 0 0)).setCell ⟨w.heap.size + 1 + 1, 3, none⟩ (.int .i64 0)).setCell ⟨w.heap.size + 1 + 1, 4, none⟩ (.int .i64 0)).setCell ⟨w.heap.size + 1 + 1, 5, none⟩ (.int .i64 0)).setCell ⟨w.heap.size + 1 + 1, 6, none⟩ (.int .i64 0)).setCell ⟨w.heap.size + 1 + 1, 7, none⟩ (.slice none 0 0)).setCell ⟨w.heap.size + 1 + 1, 8, none⟩ (.slice none 0 0)).setCell ⟨w.heap.size + 1 + 1, 9, none⟩ (.slice none 0 0)).setCell ⟨w.heap.size + 1 + 1, 10, none⟩ (.slice none 0 0)).setCell ⟨w.heap.size + 1 + 1, 11, none⟩ (.slice none 0 0)).setCell ⟨w.heap.size + 1 + 1, 12, none⟩ (.slice none 0 0)).alloc (.cells #[.slice none 0 0, .slice none 0 0, .int .i64 0, .int .i64 0, .int .i64 0, .int .i64 0, .int .i64 0, .slice none 0 0, .slice none 0 0, .slice none 0 0, .slice none 0 0, .pointer none, .slice none 0 0] 78)) = WF at kS s10 s11 s12 s13 s14 s15 s16 s17 s18 s19 s20 s21 s22 ⊢
  refine bodyPost_ret (v := .tuple #[ch0.val, .bool false]) (by simp [results, Tryz.results24, go_sem, ch0, bk0, stm0, ChM.val, s10, s11, s12, s13, s14, s15, s16, s17, s18, s19, s20, s21, s22]) rfl ?_
  exact ⟨ch0, fun _ => 0, rfl, SameC.refl _, ch0_own _ _, HK.out.then kS fun i hi h => by omega⟩
set_option maxRecDepth 100000 in
set_option maxHeartbeats 8000000 in
theorem implRStep_not (c : ChM) (y : StM) (k : Int) (w : World) (h : ChAt w c) (hy : y.At w) (ht : Tabs w) (hb : ckB c = true) (hs : stB y.x = true) (hm : wmayB c.st.x y.x k = false) :
    Calls Tryz.prog 24 #[c.val, y.val, .int .i64 k] w (RetC (fun v => .tuple #[v, .bool false]) w c) := by
  have F := Lib.hid (fun W (hk : Keeps noBlk w W) => shown_any_yes c y W (h.kept hk) (hy.kept hk) (ht.keeps hk) hb hs)
  have FM := Lib.hid (fun W (hk : Keeps noBlk w W) => implDI_any c.st.x y.x c.st.A1 c.st.A2 c.st.A3 c.st.A4 y.A1 y.A2 y.A3 y.A4 c.st.c1 c.st.c2 c.st.c3 c.st.c4 y.c1 y.c2 y.c3 y.c4 k W (h.st.kept hk) (hy.kept hk) (ht.keeps hk))
  rw [hm] at FM
  unfold RetDI stV at FM
  have hzl := wdS_len c.st.x y.x k
  generalize wdS c.st.x y.x k = z at FM hzl
  have HZL := Lib.hid hzl
  have HH := Lib.hid h
  have HY := Lib.hid hy
  have HB := Lib.hid hb
  have HS := Lib.hid hs
  clear h hy ht hb hs hm hzl
  unfold ChM.val StM.val
  unfold ChM.val at F
  have HBa := Lib.hid ((((Box.new w (w.heap.size) (by simp) 42 #[.int .i64 c.id, .slice c.bk.A1 c.bk.b.own.length c.bk.c1, .slice c.bk.A2 c.bk.b.notes.length c.bk.c2, .int .i64 c.bk.b.locked, .int .i64 c.st.x.way, .int .i64 c.st.x.ver, .int .i64 c.st.x.want, .slice c.st.A1 c.st.x.sent.length c.st.c1, .slice c.st.A2 c.st.x.live.length c.st.c2, .slice c.st.A3 c.st.x.back.length c.st.c3, .slice c.st.A4 c.st.x.got.length c.st.c4, .slice c.pA c.past.length c.pc, .slice c.kA c.knows.length c.kc]).alloc (.cells #[.int .i64 y.x.way, .int .i64 y.x.ver, .int .i64 y.x.want, .slice y.A1 y.x.sent.length y.c1, .slice y.A2 y.x.live.length y.c2, .slice y.A3 y.x.back.length y.c3, .slice y.A4 y.x.got.length y.c4] 39)).alloc (.cells #[.int .i64 0, .slice none 0 0, .slice none 0 0, .int .i64 0, .int .i64 0, .int .i64 0, .int .i64 0, .slice none 0 0, .slice none 0 0, .slice none 0 0, .slice none 0 0, .slice none 0 0, .slice none 0 0] 42)).alloc (.cells #[.int .i64 y.x.way, .int .i64 y.x.ver, .int .i64 y.x.want, .slice y.A1 y.x.sent.length y.c1, .slice y.A2 y.x.live.length y.c2, .slice y.A3 y.x.back.length y.c3, .slice y.A4 y.x.got.length y.c4] 75))
  have HBb := Lib.hid (((Box.new (w.alloc (.cells #[.int .i64 c.id, .slice c.bk.A1 c.bk.b.own.length c.bk.c1, .slice c.bk.A2 c.bk.b.notes.length c.bk.c2, .int .i64 c.bk.b.locked, .int .i64 c.st.x.way, .int .i64 c.st.x.ver, .int .i64 c.st.x.want, .slice c.st.A1 c.st.x.sent.length c.st.c1, .slice c.st.A2 c.st.x.live.length c.st.c2, .slice c.st.A3 c.st.x.back.length c.st.c3, .slice c.st.A4 c.st.x.got.length c.st.c4, .slice c.pA c.past.length c.pc, .slice c.kA c.knows.length c.kc] 42)) (w.heap.size + 1) (by simp) 39 #[.int .i64 y.x.way, .int .i64 y.x.ver, .int .i64 y.x.want, .slice y.A1 y.x.sent.length y.c1, .slice y.A2 y.x.live.length y.c2, .slice y.A3 y.x.back.length y.c3, .slice y.A4 y.x.got.length y.c4]).alloc (.cells #[.int .i64 0, .slice none 0 0, .slice none 0 0, .int .i64 0, .int .i64 0, .int .i64 0, .int .i64 0, .slice none 0 0, .slice none 0 0, .slice none 0 0, .slice none 0 0, .slice none 0 0, .slice none 0 0] 42)).alloc (.cells #[.int .i64 y.x.way, .int .i64 y.x.ver, .int .i64 y.x.want, .slice y.A1 y.x.sent.length y.c1, .slice y.A2 y.x.live.length y.c2, .slice y.A3 y.x.back.length y.c3, .slice y.A4 y.x.got.length y.c4] 75))
  have HBr := Lib.hid ((Box.new ((w.alloc (.cells #[.int .i64 c.id, .slice c.bk.A1 c.bk.b.own.length c.bk.c1, .slice c.bk.A2 c.bk.b.notes.length c.bk.c2, .int .i64 c.bk.b.locked, .int .i64 c.st.x.way, .int .i64 c.st.x.ver, .int .i64 c.st.x.want, .slice c.st.A1 c.st.x.sent.length c.st.c1, .slice c.st.A2 c.st.x.live.length c.st.c2, .slice c.st.A3 c.st.x.back.length c.st.c3, .slice c.st.A4 c.st.x.got.length c.st.c4, .slice c.pA c.past.length c.pc, .slice c.kA c.knows.length c.kc] 42)).alloc (.cells #[.int .i64 y.x.way, .int .i64 y.x.ver, .int .i64 y.x.want, .slice y.A1 y.x.sent.length y.c1, .slice y.A2 y.x.live.length y.c2, .slice y.A3 y.x.back.length y.c3, .slice y.A4 y.x.got.length y.c4] 39)) (w.heap.size + 1 + 1) (by simp) 42 #[.int .i64 0, .slice none 0 0, .slice none 0 0, .int .i64 0, .int .i64 0, .int .i64 0, .int .i64 0, .slice none 0 0, .slice none 0 0, .slice none 0 0, .slice none 0 0, .slice none 0 0, .slice none 0 0]).alloc (.cells #[.int .i64 y.x.way, .int .i64 y.x.ver, .int .i64 y.x.want, .slice y.A1 y.x.sent.length y.c1, .slice y.A2 y.x.live.length y.c2, .slice y.A3 y.x.back.length y.c3, .slice y.A4 y.x.got.length y.c4] 75))
  have HBq := Lib.hid (Box.new (((w.alloc (.cells #[.int .i64 c.id, .slice c.bk.A1 c.bk.b.own.length c.bk.c1, .slice c.bk.A2 c.bk.b.notes.length c.bk.c2, .int .i64 c.bk.b.locked, .int .i64 c.st.x.way, .int .i64 c.st.x.ver, .int .i64 c.st.x.want, .slice c.st.A1 c.st.x.sent.length c.st.c1, .slice c.st.A2 c.st.x.live.length c.st.c2, .slice c.st.A3 c.st.x.back.length c.st.c3, .slice c.st.A4 c.st.x.got.length c.st.c4, .slice c.pA c.past.length c.pc, .slice c.kA c.knows.length c.kc] 42)).alloc (.cells #[.int .i64 y.x.way, .int .i64 y.x.ver, .int .i64 y.x.want, .slice y.A1 y.x.sent.length y.c1, .slice y.A2 y.x.live.length y.c2, .slice y.A3 y.x.back.length y.c3, .slice y.A4 y.x.got.length y.c4] 39)).alloc (.cells #[.int .i64 0, .slice none 0 0, .slice none 0 0, .int .i64 0, .int .i64 0, .int .i64 0, .int .i64 0, .slice none 0 0, .slice none 0 0, .slice none 0 0, .slice none 0 0, .slice none 0 0, .slice none 0 0] 42)) (w.heap.size + 1 + 1 + 1) (by simp) 75 #[.int .i64 y.x.way, .int .i64 y.x.ver, .int .i64 y.x.want, .slice y.A1 y.x.sent.length y.c1, .slice y.A2 y.x.live.length y.c2, .slice y.A3 y.x.back.length y.c3, .slice y.A4 y.x.got.length y.c4])
  have HK := Lib.hid (((((Keeps.refl noBlk w).alloc (.cells #[.int .i64 c.id, .slice c.bk.A1 c.bk.b.own.length c.bk.c1, .slice c.bk.A2 c.bk.b.notes.length c.bk.c2, .int .i64 c.bk.b.locked, .int .i64 c.st.x.way, .int .i64 c.st.x.ver, .int .i64 c.st.x.want, .slice c.st.A1 c.st.x.sent.length c.st.c1, .slice c.st.A2 c.st.x.live.length c.st.c2, .slice c.st.A3 c.st.x.back.length c.st.c3, .slice c.st.A4 c.st.x.got.length c.st.c4, .slice c.pA c.past.length c.pc, .slice c.kA c.knows.length c.kc] 42)).alloc (.cells #[.int .i64 y.x.way, .int .i64 y.x.ver, .int .i64 y.x.want, .slice y.A1 y.x.sent.length y.c1, .slice y.A2 y.x.live.length y.c2, .slice y.A3 y.x.back.length y.c3, .slice y.A4 y.x.got.length y.c4] 39)).alloc (.cells #[.int .i64 0, .slice none 0 0, .slice none 0 0, .int .i64 0, .int .i64 0, .int .i64 0, .int .i64 0, .slice none 0 0, .slice none 0 0, .slice none 0 0, .slice none 0 0, .slice none 0 0, .slice none 0 0] 42)).alloc (.cells #[.int .i64 y.x.way, .int .i64 y.x.ver, .int .i64 y.x.want, .slice y.A1 y.x.sent.length y.c1, .slice y.A2 y.x.live.length y.c2, .slice y.A3 y.x.back.length y.c3, .slice y.A4 y.x.got.length y.c4] 75))
  go_enter Tryz.func24, Tryz.ntmps24
  go_wp2_with fail
  refine (F.out _ HK.out).mono ?_
  rintro e w1 ⟨P, rfl, hl9, hk1⟩
  unfold lkV
  have HLK := Lib.hid hl9
  clear hl9
  have ha := HBa.out.keeps hk1 (fun h => h)
  clear HBa
  have HBa := Lib.hid ha
  clear ha
  have hb := HBb.out.keeps hk1 (fun h => h)
  clear HBb
  have HBb := Lib.hid hb
  clear hb
  have hr := HBr.out.keeps hk1 (fun h => h)
  clear HBr
  have HBr := Lib.hid hr
  clear hr
  have hq := HBq.out.keeps hk1 (fun h => h)
  clear HBq
  have HBq := Lib.hid hq
  clear hq
  have hr := HK.out.trans hk1
  clear HK
  have HK := Lib.hid hr
  clear hr
  have sz1 := hk1.size
  (try simp at sz1)
  clear hk1
  have hb := HBq.out
  have q0 := hb.cell 0
  have q1 := hb.cell 1
  have q2 := hb.cell 2
  have q3 := hb.cell 3
  have q4 := hb.cell 4
  have q5 := hb.cell 5
  have q6 := hb.cell 6
  simp at q0 q1 q2 q3 q4 q5 q6
  have zq := hb.lt
  clear hb
  have ha := HBa.out.alloc (.cells #[.slice c.bk.A1 c.bk.b.own.length c.bk.c1, .slice c.bk.A2 c.bk.b.notes.length c.bk.c2, .int .i64 c.bk.b.locked, .int .i64 c.id, .int .i64 c.st.x.way, .int .i64 c.st.x.ver, .int .i64 c.st.x.want, .slice c.st.A1 c.st.x.sent.length c.st.c1, .slice c.st.A2 c.st.x.live.length c.st.c2, .slice c.st.A3 c.st.x.back.length c.st.c3, .slice c.st.A4 c.st.x.got.length c.st.c4, .pointer P, .slice c.kA c.knows.length c.kc] 78)
  clear HBa
  have HBa := Lib.hid ha
  clear ha
  have hb := HBb.out.alloc (.cells #[.slice c.bk.A1 c.bk.b.own.length c.bk.c1, .slice c.bk.A2 c.bk.b.notes.length c.bk.c2, .int .i64 c.bk.b.locked, .int .i64 c.id, .int .i64 c.st.x.way, .int .i64 c.st.x.ver, .int .i64 c.st.x.want, .slice c.st.A1 c.st.x.sent.length c.st.c1, .slice c.st.A2 c.st.x.live.length c.st.c2, .slice c.st.A3 c.st.x.back.length c.st.c3, .slice c.st.A4 c.st.x.got.length c.st.c4, .pointer P, .slice c.kA c.knows.length c.kc] 78)
  clear HBb
  have HBb := Lib.hid hb
  clear hb
  have hr := HBr.out.alloc (.cells #[.slice c.bk.A1 c.bk.b.own.length c.bk.c1, .slice c.bk.A2 c.bk.b.notes.length c.bk.c2, .int .i64 c.bk.b.locked, .int .i64 c.id, .int .i64 c.st.x.way, .int .i64 c.st.x.ver, .int .i64 c.st.x.want, .slice c.st.A1 c.st.x.sent.length c.st.c1, .slice c.st.A2 c.st.x.live.length c.st.c2, .slice c.st.A3 c.st.x.back.length c.st.c3, .slice c.st.A4 c.st.x.got.length c.st.c4, .pointer P, .slice c.kA c.knows.length c.kc] 78)
  clear HBr
  have HBr := Lib.hid hr
  clear hr
  have hq := HBq.out.alloc (.cells #[.slice c.bk.A1 c.bk.b.own.length c.bk.c1, .slice c.bk.A2 c.bk.b.notes.length c.bk.c2, .int .i64 c.bk.b.locked, .int .i64 c.id, .int .i64 c.st.x.way, .int .i64 c.st.x.ver, .int .i64 c.st.x.want, .slice c.st.A1 c.st.x.sent.length c.st.c1, .slice c.st.A2 c.st.x.live.length c.st.c2, .slice c.st.A3 c.st.x.back.length c.st.c3, .slice c.st.A4 c.st.x.got.length c.st.c4, .pointer P, .slice c.kA c.knows.length c.kc] 78)
  clear HBq
  have HBq := Lib.hid hq
  clear hq
  have hr := Lk.kept (HLK.out) ((Keeps.refl noBlk w1).alloc (.cells #[.slice c.bk.A1 c.bk.b.own.length c.bk.c1, .slice c.bk.A2 c.bk.b.notes.length c.bk.c2, .int .i64 c.bk.b.locked, .int .i64 c.id, .int .i64 c.st.x.way, .int .i64 c.st.x.ver, .int .i64 c.st.x.want, .slice c.st.A1 c.st.x.sent.length c.st.c1, .slice c.st.A2 c.st.x.live.length c.st.c2, .slice c.st.A3 c.st.x.back.length c.st.c3, .slice c.st.A4 c.st.x.got.length c.st.c4, .pointer P, .slice c.kA c.knows.length c.kc] 78))
  clear HLK
  have HLK := Lib.hid hr
  clear hr
  have hr := HK.out.alloc (.cells #[.slice c.bk.A1 c.bk.b.own.length c.bk.c1, .slice c.bk.A2 c.bk.b.notes.length c.bk.c2, .int .i64 c.bk.b.locked, .int .i64 c.id, .int .i64 c.st.x.way, .int .i64 c.st.x.ver, .int .i64 c.st.x.want, .slice c.st.A1 c.st.x.sent.length c.st.c1, .slice c.st.A2 c.st.x.live.length c.st.c2, .slice c.st.A3 c.st.x.back.length c.st.c3, .slice c.st.A4 c.st.x.got.length c.st.c4, .pointer P, .slice c.kA c.knows.length c.kc] 78)
  clear HK
  have HK := Lib.hid hr
  clear hr
  have HBk := Lib.hid (Box.new w1 _ rfl 78 #[.slice c.bk.A1 c.bk.b.own.length c.bk.c1, .slice c.bk.A2 c.bk.b.notes.length c.bk.c2, .int .i64 c.bk.b.locked, .int .i64 c.id, .int .i64 c.st.x.way, .int .i64 c.st.x.ver, .int .i64 c.st.x.want, .slice c.st.A1 c.st.x.sent.length c.st.c1, .slice c.st.A2 c.st.x.live.length c.st.c2, .slice c.st.A3 c.st.x.back.length c.st.c3, .slice c.st.A4 c.st.x.got.length c.st.c4, .pointer P, .slice c.kA c.knows.length c.kc])
  go_wp2_with fail
  refine (FM.out _ HK.out).mono ?_
  rintro e w2 ⟨A1, A2, A3, A4, c1, c2, c3, c4, rfl, ho9, ha9, hk2⟩
  have OZ := Lib.hid ho9
  have OA := Lib.hid ha9
  clear ho9 ha9
  clear q0 q1 q2 q3 q4 q5 q6 zq
  have ha := HBa.out.keeps hk2 (fun h => h)
  clear HBa
  have HBa := Lib.hid ha
  clear ha
  have hb := HBb.out.keeps hk2 (fun h => h)
  clear HBb
  have HBb := Lib.hid hb
  clear hb
  have hr := HBr.out.keeps hk2 (fun h => h)
  clear HBr
  have HBr := Lib.hid hr
  clear hr
  have hq := HBq.out.keeps hk2 (fun h => h)
  clear HBq
  have HBq := Lib.hid hq
  clear hq
  have hk := HBk.out.keeps hk2 (fun h => h)
  clear HBk
  have HBk := Lib.hid hk
  clear hk
  have hr := Lk.kept (HLK.out) hk2
  clear HLK
  have HLK := Lib.hid hr
  clear hr
  have hr := HK.out.trans hk2
  clear HK
  have HK := Lib.hid hr
  clear hr
  have sz2 := hk2.size
  (try simp at sz2)
  clear hk2
  have hb := HBk.out
  have k0 := hb.cell 0
  have k1 := hb.cell 1
  have k2 := hb.cell 2
  have k3 := hb.cell 3
  have k4 := hb.cell 4
  have k5 := hb.cell 5
  have k6 := hb.cell 6
  have k7 := hb.cell 7
  have k8 := hb.cell 8
  have k9 := hb.cell 9
  have k10 := hb.cell 10
  have k11 := hb.cell 11
  have k12 := hb.cell 12
  simp at k0 k1 k2 k3 k4 k5 k6 k7 k8 k9 k10 k11 k12
  have zk := hb.lt
  clear hb
  have ha := HBa.out.alloc (.cells #[.int .i64 z.way, .int .i64 z.ver, .int .i64 z.want, .slice A1 z.sent.length c1, .slice A2 z.live.length c2, .slice A3 z.back.length c3, .slice A4 z.got.length c4] 39)
  clear HBa
  have HBa := Lib.hid ha
  clear ha
  have hb := HBb.out.alloc (.cells #[.int .i64 z.way, .int .i64 z.ver, .int .i64 z.want, .slice A1 z.sent.length c1, .slice A2 z.live.length c2, .slice A3 z.back.length c3, .slice A4 z.got.length c4] 39)
  clear HBb
  have HBb := Lib.hid hb
  clear hb
  have hr := HBr.out.alloc (.cells #[.int .i64 z.way, .int .i64 z.ver, .int .i64 z.want, .slice A1 z.sent.length c1, .slice A2 z.live.length c2, .slice A3 z.back.length c3, .slice A4 z.got.length c4] 39)
  clear HBr
  have HBr := Lib.hid hr
  clear hr
  have hq := HBq.out.alloc (.cells #[.int .i64 z.way, .int .i64 z.ver, .int .i64 z.want, .slice A1 z.sent.length c1, .slice A2 z.live.length c2, .slice A3 z.back.length c3, .slice A4 z.got.length c4] 39)
  clear HBq
  have HBq := Lib.hid hq
  clear hq
  have hk := HBk.out.alloc (.cells #[.int .i64 z.way, .int .i64 z.ver, .int .i64 z.want, .slice A1 z.sent.length c1, .slice A2 z.live.length c2, .slice A3 z.back.length c3, .slice A4 z.got.length c4] 39)
  clear HBk
  have HBk := Lib.hid hk
  clear hk
  have hr := Lk.kept (HLK.out) ((Keeps.refl noBlk w2).alloc (.cells #[.int .i64 z.way, .int .i64 z.ver, .int .i64 z.want, .slice A1 z.sent.length c1, .slice A2 z.live.length c2, .slice A3 z.back.length c3, .slice A4 z.got.length c4] 39))
  clear HLK
  have HLK := Lib.hid hr
  clear hr
  have hr := HK.out.alloc (.cells #[.int .i64 z.way, .int .i64 z.ver, .int .i64 z.want, .slice A1 z.sent.length c1, .slice A2 z.live.length c2, .slice A3 z.back.length c3, .slice A4 z.got.length c4] 39)
  clear HK
  have HK := Lib.hid hr
  clear hr
  have HBz := Lib.hid (Box.new w2 _ rfl 39 #[.int .i64 z.way, .int .i64 z.ver, .int .i64 z.want, .slice A1 z.sent.length c1, .slice A2 z.live.length c2, .slice A3 z.back.length c3, .slice A4 z.got.length c4])
  have szr := HBr.out.lt
  go_wp2_with fail
  have HL := Lib.hid (lchain_any c P _ _ (lnk_of (HH.out.kept HK.out) HB.out HLK.out))
  unfold lkV at HL
  (try dsimp only at HL)
  refine HL.out.mono ?_
  rintro e w3 ⟨d, G, rfl, sm, ow, hk3⟩
  dsimp only [ChM.val]
  have OW := Lib.hid ow
  have SM := Lib.hid sm
  clear ow sm HL
  clear k0 k1 k2 k3 k4 k5 k6 k7 k8 k9 k10 k11 k12 zk
  have ha := HBa.out.keeps hk3 (fun h => h)
  clear HBa
  have HBa := Lib.hid ha
  clear ha
  have hb := HBb.out.keeps hk3 (fun h => h)
  clear HBb
  have HBb := Lib.hid hb
  clear hb
  have hr := HBr.out.keeps hk3 (fun h => h)
  clear HBr
  have HBr := Lib.hid hr
  clear hr
  have hq := HBq.out.keeps hk3 (fun h => h)
  clear HBq
  have HBq := Lib.hid hq
  clear hq
  have hk := HBk.out.keeps hk3 (fun h => h)
  clear HBk
  have HBk := Lib.hid hk
  clear hk
  have hz := HBz.out.keeps hk3 (fun h => h)
  clear HBz
  have HBz := Lib.hid hz
  clear hz
  have hr := HK.out.trans hk3
  clear HK
  have HK := Lib.hid hr
  clear hr
  have sz3 := hk3.size
  (try simp at sz3)
  clear hk3
  have hb := HBr.out
  have r0 := hb.cell 0
  have r1 := hb.cell 1
  have r2 := hb.cell 2
  have r3 := hb.cell 3
  have r4 := hb.cell 4
  have r5 := hb.cell 5
  have r6 := hb.cell 6
  have r7 := hb.cell 7
  have r8 := hb.cell 8
  have r9 := hb.cell 9
  have r10 := hb.cell 10
  have r11 := hb.cell 11
  have r12 := hb.cell 12
  simp at r0 r1 r2 r3 r4 r5 r6 r7 r8 r9 r10 r11 r12
  have zr := hb.lt
  clear hb
  have hb := HBr.out
  have rf0 := hb.frozen 0
  have rf1 := hb.frozen 1
  have rf2 := hb.frozen 2
  have rf3 := hb.frozen 3
  have rf4 := hb.frozen 4
  have rf5 := hb.frozen 5
  have rf6 := hb.frozen 6
  have rf7 := hb.frozen 7
  have rf8 := hb.frozen 8
  have rf9 := hb.frozen 9
  have rf10 := hb.frozen 10
  have rf11 := hb.frozen 11
  have rf12 := hb.frozen 12
  clear hb
  go_wp2
  have hbF := (((((((((((((HBr.out.set_ 0 (.int .i64 d.id)).set_ 1 (.slice d.bk.A1 d.bk.b.own.length d.bk.c1)).set_ 2 (.slice d.bk.A2 d.bk.b.notes.length d.bk.c2)).set_ 3 (.int .i64 d.bk.b.locked)).set_ 4 (.int .i64 d.st.x.way)).set_ 5 (.int .i64 d.st.x.ver)).set_ 6 (.int .i64 d.st.x.want)).set_ 7 (.slice d.st.A1 d.st.x.sent.length d.st.c1)).set_ 8 (.slice d.st.A2 d.st.x.live.length d.st.c2)).set_ 9 (.slice d.st.A3 d.st.x.back.length d.st.c3)).set_ 10 (.slice d.st.A4 d.st.x.got.length d.st.c4)).set_ 11 (.slice d.pA d.past.length d.pc)).set_ 12 (.slice d.kA d.knows.length d.kc))
  simp only [List.setIfInBounds_toArray, List.set_cons_zero, List.set_cons_succ] at hbF
  have s10 := hbF.cell 0
  have s11 := hbF.cell 1
  have s12 := hbF.cell 2
  have s13 := hbF.cell 3
  have s14 := hbF.cell 4
  have s15 := hbF.cell 5
  have s16 := hbF.cell 6
  have s17 := hbF.cell 7
  have s18 := hbF.cell 8
  have s19 := hbF.cell 9
  have s20 := hbF.cell 10
  have s21 := hbF.cell 11
  have s22 := hbF.cell 12
  simp at s10 s11 s12 s13 s14 s15 s16 s17 s18 s19 s20 s21 s22
  clear hbF
  have kS : Keeps (fun b => b = w.heap.size + 1 + 1) w3 (((((((((((((w3.setCell ⟨w.heap.size + 1 + 1, 0, none⟩ (.int .i64 d.id)).setCell ⟨w.heap.size + 1 + 1, 1, none⟩ (.slice d.bk.A1 d.bk.b.own.length d.bk.c1)).setCell ⟨w.heap.size + 1 + 1, 2, none⟩ (.slice d.bk.A2 d.bk.b.notes.length d.bk.c2)).setCell ⟨w.heap.size + 1 + 1, 3, none⟩ (.int .i64 d.bk.b.locked)).setCell ⟨w.heap.size + 1 + 1, 4, none⟩ (.int .i64 d.st.x.way)).setCell ⟨w.heap.size + 1 + 1, 5, none⟩ (.int .i64 d.st.x.ver)).setCell ⟨w.heap.size + 1 + 1, 6, none⟩ (.int .i64 d.st.x.want)).setCell ⟨w.heap.size + 1 + 1, 7, none⟩ (.slice d.st.A1 d.st.x.sent.length d.st.c1)).setCell ⟨w.heap.size + 1 + 1, 8, none⟩ (.slice d.st.A2 d.st.x.live.length d.st.c2)).setCell ⟨w.heap.size + 1 + 1, 9, none⟩ (.slice d.st.A3 d.st.x.back.length d.st.c3)).setCell ⟨w.heap.size + 1 + 1, 10, none⟩ (.slice d.st.A4 d.st.x.got.length d.st.c4)).setCell ⟨w.heap.size + 1 + 1, 11, none⟩ (.slice d.pA d.past.length d.pc)).setCell ⟨w.heap.size + 1 + 1, 12, none⟩ (.slice d.kA d.knows.length d.kc)) := ((((((((((((((Keeps.refl (fun b => b = w.heap.size + 1 + 1) w3).setCell (p := ⟨w.heap.size + 1 + 1, 0, none⟩) (.inr rfl) (.int .i64 d.id)).setCell (p := ⟨w.heap.size + 1 + 1, 1, none⟩) (.inr rfl) (.slice d.bk.A1 d.bk.b.own.length d.bk.c1)).setCell (p := ⟨w.heap.size + 1 + 1, 2, none⟩) (.inr rfl) (.slice d.bk.A2 d.bk.b.notes.length d.bk.c2)).setCell (p := ⟨w.heap.size + 1 + 1, 3, none⟩) (.inr rfl) (.int .i64 d.bk.b.locked)).setCell (p := ⟨w.heap.size + 1 + 1, 4, none⟩) (.inr rfl) (.int .i64 d.st.x.way)).setCell (p := ⟨w.heap.size + 1 + 1, 5, none⟩) (.inr rfl) (.int .i64 d.st.x.ver)).setCell (p := ⟨w.heap.size + 1 + 1, 6, none⟩) (.inr rfl) (.int .i64 d.st.x.want)).setCell (p := ⟨w.heap.size + 1 + 1, 7, none⟩) (.inr rfl) (.slice d.st.A1 d.st.x.sent.length d.st.c1)).setCell (p := ⟨w.heap.size + 1 + 1, 8, none⟩) (.inr rfl) (.slice d.st.A2 d.st.x.live.length d.st.c2)).setCell (p := ⟨w.heap.size + 1 + 1, 9, none⟩) (.inr rfl) (.slice d.st.A3 d.st.x.back.length d.st.c3)).setCell (p := ⟨w.heap.size + 1 + 1, 10, none⟩) (.inr rfl) (.slice d.st.A4 d.st.x.got.length d.st.c4)).setCell (p := ⟨w.heap.size + 1 + 1, 11, none⟩) (.inr rfl) (.slice d.pA d.past.length d.pc)).setCell (p := ⟨w.heap.size + 1 + 1, 12, none⟩) (.inr rfl) (.slice d.kA d.knows.length d.kc))
  generalize (((((((((((((w3.setCell ⟨w.heap.size + 1 + 1, 0, none⟩ (.int .i64 d.id)).setCell ⟨w.heap.size + 1 + 1, 1, none⟩ (.slice d.bk.A1 d.bk.b.own.length d.bk.c1)).setCell ⟨w.heap.size + 1 + 1, 2, none⟩ (.slice d.bk.A2 d.bk.b.notes.length d.bk.c2)).setCell ⟨w.heap.size + 1 + 1, 3, none⟩ (.int .i64 d.bk.b.locked)).setCell ⟨w.heap.size + 1 + 1, 4, none⟩ (.int .i64 d.st.x.way)).setCell ⟨w.heap.size + 1 + 1, 5, none⟩ (.int .i64 d.st.x.ver)).setCell ⟨w.heap.size + 1 + 1, 6, none⟩ (.int .i64 d.st.x.want)).setCell ⟨w.heap.size + 1 + 1, 7, none⟩ (.slice d.st.A1 d.st.x.sent.length d.st.c1)).setCell ⟨w.heap.size + 1 + 1, 8, none⟩ (.slice d.st.A2 d.st.x.live.length d.st.c2)).setCell ⟨w.heap.size + 1 + 1, 9, none⟩ (.slice d.st.A3 d.st.x.back.length d.st.c3)).setCell ⟨w.heap.size + 1 + 1, 10, none⟩ (.slice d.st.A4 d.st.x.got.length d.st.c4)).setCell ⟨w.heap.size + 1 + 1, 11, none⟩ (.slice d.pA d.past.length d.pc)).setCell ⟨w.heap.size + 1 + 1, 12, none⟩ (.slice d.kA d.knows.length d.kc)) = WF at kS s10 s11 s12 s13 s14 s15 s16 s17 s18 s19 s20 s21 s22 ⊢
  refine bodyPost_ret (v := .tuple #[d.val, .bool false]) (by simp [results, Tryz.results24, go_sem, ChM.val, s10, s11, s12, s13, s14, s15, s16, s17, s18, s19, s20, s21, s22]) rfl ?_
  exact ⟨d, G, rfl, SM.out, ((OW.out.keeps kS fun b hb h => by have q := OW.out.ge hb; (try simp at q) <;> omega).less (by first | omega | (simp <;> omega))), HK.out.then kS fun i hi h => by omega⟩
set_option maxRecDepth 100000 in
set_option maxHeartbeats 8000000 in
theorem implRStep_yes (c : ChM) (y : StM) (k : Int) (w : World) (h : ChAt w c) (hy : y.At w) (ht : Tabs w) (hb : ckB c = true) (hs : stB y.x = true) (hm : wmayB c.st.x y.x k = true) :
    Calls Tryz.prog 24 #[c.val, y.val, .int .i64 k] w (RetC (fun v => .tuple #[v, .bool true]) w { c with st := { c.st with x := wdS c.st.x y.x k } }) := by
  have F := Lib.hid (fun W (hk : Keeps noBlk w W) => shown_any_yes c y W (h.kept hk) (hy.kept hk) (ht.keeps hk) hb hs)
  have FM := Lib.hid (fun W (hk : Keeps noBlk w W) => implDI_any c.st.x y.x c.st.A1 c.st.A2 c.st.A3 c.st.A4 y.A1 y.A2 y.A3 y.A4 c.st.c1 c.st.c2 c.st.c3 c.st.c4 y.c1 y.c2 y.c3 y.c4 k W (h.st.kept hk) (hy.kept hk) (ht.keeps hk))
  rw [hm] at FM
  unfold RetDI stV at FM
  have hzl := wdS_len c.st.x y.x k
  generalize wdS c.st.x y.x k = z at FM hzl ⊢
  have HZL := Lib.hid hzl
  have HH := Lib.hid h
  have HY := Lib.hid hy
  have HB := Lib.hid hb
  have HS := Lib.hid hs
  clear h hy ht hb hs hm hzl
  unfold ChM.val StM.val
  unfold ChM.val at F
  have HBa := Lib.hid ((((Box.new w (w.heap.size) (by simp) 42 #[.int .i64 c.id, .slice c.bk.A1 c.bk.b.own.length c.bk.c1, .slice c.bk.A2 c.bk.b.notes.length c.bk.c2, .int .i64 c.bk.b.locked, .int .i64 c.st.x.way, .int .i64 c.st.x.ver, .int .i64 c.st.x.want, .slice c.st.A1 c.st.x.sent.length c.st.c1, .slice c.st.A2 c.st.x.live.length c.st.c2, .slice c.st.A3 c.st.x.back.length c.st.c3, .slice c.st.A4 c.st.x.got.length c.st.c4, .slice c.pA c.past.length c.pc, .slice c.kA c.knows.length c.kc]).alloc (.cells #[.int .i64 y.x.way, .int .i64 y.x.ver, .int .i64 y.x.want, .slice y.A1 y.x.sent.length y.c1, .slice y.A2 y.x.live.length y.c2, .slice y.A3 y.x.back.length y.c3, .slice y.A4 y.x.got.length y.c4] 39)).alloc (.cells #[.int .i64 0, .slice none 0 0, .slice none 0 0, .int .i64 0, .int .i64 0, .int .i64 0, .int .i64 0, .slice none 0 0, .slice none 0 0, .slice none 0 0, .slice none 0 0, .slice none 0 0, .slice none 0 0] 42)).alloc (.cells #[.int .i64 y.x.way, .int .i64 y.x.ver, .int .i64 y.x.want, .slice y.A1 y.x.sent.length y.c1, .slice y.A2 y.x.live.length y.c2, .slice y.A3 y.x.back.length y.c3, .slice y.A4 y.x.got.length y.c4] 75))
  have HBb := Lib.hid (((Box.new (w.alloc (.cells #[.int .i64 c.id, .slice c.bk.A1 c.bk.b.own.length c.bk.c1, .slice c.bk.A2 c.bk.b.notes.length c.bk.c2, .int .i64 c.bk.b.locked, .int .i64 c.st.x.way, .int .i64 c.st.x.ver, .int .i64 c.st.x.want, .slice c.st.A1 c.st.x.sent.length c.st.c1, .slice c.st.A2 c.st.x.live.length c.st.c2, .slice c.st.A3 c.st.x.back.length c.st.c3, .slice c.st.A4 c.st.x.got.length c.st.c4, .slice c.pA c.past.length c.pc, .slice c.kA c.knows.length c.kc] 42)) (w.heap.size + 1) (by simp) 39 #[.int .i64 y.x.way, .int .i64 y.x.ver, .int .i64 y.x.want, .slice y.A1 y.x.sent.length y.c1, .slice y.A2 y.x.live.length y.c2, .slice y.A3 y.x.back.length y.c3, .slice y.A4 y.x.got.length y.c4]).alloc (.cells #[.int .i64 0, .slice none 0 0, .slice none 0 0, .int .i64 0, .int .i64 0, .int .i64 0, .int .i64 0, .slice none 0 0, .slice none 0 0, .slice none 0 0, .slice none 0 0, .slice none 0 0, .slice none 0 0] 42)).alloc (.cells #[.int .i64 y.x.way, .int .i64 y.x.ver, .int .i64 y.x.want, .slice y.A1 y.x.sent.length y.c1, .slice y.A2 y.x.live.length y.c2, .slice y.A3 y.x.back.length y.c3, .slice y.A4 y.x.got.length y.c4] 75))
  have HBr := Lib.hid ((Box.new ((w.alloc (.cells #[.int .i64 c.id, .slice c.bk.A1 c.bk.b.own.length c.bk.c1, .slice c.bk.A2 c.bk.b.notes.length c.bk.c2, .int .i64 c.bk.b.locked, .int .i64 c.st.x.way, .int .i64 c.st.x.ver, .int .i64 c.st.x.want, .slice c.st.A1 c.st.x.sent.length c.st.c1, .slice c.st.A2 c.st.x.live.length c.st.c2, .slice c.st.A3 c.st.x.back.length c.st.c3, .slice c.st.A4 c.st.x.got.length c.st.c4, .slice c.pA c.past.length c.pc, .slice c.kA c.knows.length c.kc] 42)).alloc (.cells #[.int .i64 y.x.way, .int .i64 y.x.ver, .int .i64 y.x.want, .slice y.A1 y.x.sent.length y.c1, .slice y.A2 y.x.live.length y.c2, .slice y.A3 y.x.back.length y.c3, .slice y.A4 y.x.got.length y.c4] 39)) (w.heap.size + 1 + 1) (by simp) 42 #[.int .i64 0, .slice none 0 0, .slice none 0 0, .int .i64 0, .int .i64 0, .int .i64 0, .int .i64 0, .slice none 0 0, .slice none 0 0, .slice none 0 0, .slice none 0 0, .slice none 0 0, .slice none 0 0]).alloc (.cells #[.int .i64 y.x.way, .int .i64 y.x.ver, .int .i64 y.x.want, .slice y.A1 y.x.sent.length y.c1, .slice y.A2 y.x.live.length y.c2, .slice y.A3 y.x.back.length y.c3, .slice y.A4 y.x.got.length y.c4] 75))
  have HBq := Lib.hid (Box.new (((w.alloc (.cells #[.int .i64 c.id, .slice c.bk.A1 c.bk.b.own.length c.bk.c1, .slice c.bk.A2 c.bk.b.notes.length c.bk.c2, .int .i64 c.bk.b.locked, .int .i64 c.st.x.way, .int .i64 c.st.x.ver, .int .i64 c.st.x.want, .slice c.st.A1 c.st.x.sent.length c.st.c1, .slice c.st.A2 c.st.x.live.length c.st.c2, .slice c.st.A3 c.st.x.back.length c.st.c3, .slice c.st.A4 c.st.x.got.length c.st.c4, .slice c.pA c.past.length c.pc, .slice c.kA c.knows.length c.kc] 42)).alloc (.cells #[.int .i64 y.x.way, .int .i64 y.x.ver, .int .i64 y.x.want, .slice y.A1 y.x.sent.length y.c1, .slice y.A2 y.x.live.length y.c2, .slice y.A3 y.x.back.length y.c3, .slice y.A4 y.x.got.length y.c4] 39)).alloc (.cells #[.int .i64 0, .slice none 0 0, .slice none 0 0, .int .i64 0, .int .i64 0, .int .i64 0, .int .i64 0, .slice none 0 0, .slice none 0 0, .slice none 0 0, .slice none 0 0, .slice none 0 0, .slice none 0 0] 42)) (w.heap.size + 1 + 1 + 1) (by simp) 75 #[.int .i64 y.x.way, .int .i64 y.x.ver, .int .i64 y.x.want, .slice y.A1 y.x.sent.length y.c1, .slice y.A2 y.x.live.length y.c2, .slice y.A3 y.x.back.length y.c3, .slice y.A4 y.x.got.length y.c4])
  have HK := Lib.hid (((((Keeps.refl noBlk w).alloc (.cells #[.int .i64 c.id, .slice c.bk.A1 c.bk.b.own.length c.bk.c1, .slice c.bk.A2 c.bk.b.notes.length c.bk.c2, .int .i64 c.bk.b.locked, .int .i64 c.st.x.way, .int .i64 c.st.x.ver, .int .i64 c.st.x.want, .slice c.st.A1 c.st.x.sent.length c.st.c1, .slice c.st.A2 c.st.x.live.length c.st.c2, .slice c.st.A3 c.st.x.back.length c.st.c3, .slice c.st.A4 c.st.x.got.length c.st.c4, .slice c.pA c.past.length c.pc, .slice c.kA c.knows.length c.kc] 42)).alloc (.cells #[.int .i64 y.x.way, .int .i64 y.x.ver, .int .i64 y.x.want, .slice y.A1 y.x.sent.length y.c1, .slice y.A2 y.x.live.length y.c2, .slice y.A3 y.x.back.length y.c3, .slice y.A4 y.x.got.length y.c4] 39)).alloc (.cells #[.int .i64 0, .slice none 0 0, .slice none 0 0, .int .i64 0, .int .i64 0, .int .i64 0, .int .i64 0, .slice none 0 0, .slice none 0 0, .slice none 0 0, .slice none 0 0, .slice none 0 0, .slice none 0 0] 42)).alloc (.cells #[.int .i64 y.x.way, .int .i64 y.x.ver, .int .i64 y.x.want, .slice y.A1 y.x.sent.length y.c1, .slice y.A2 y.x.live.length y.c2, .slice y.A3 y.x.back.length y.c3, .slice y.A4 y.x.got.length y.c4] 75))
  go_enter Tryz.func24, Tryz.ntmps24
  go_wp2_with fail
  refine (F.out _ HK.out).mono ?_
  rintro e w1 ⟨P, rfl, hl9, hk1⟩
  unfold lkV
  have HLK := Lib.hid hl9
  clear hl9
  have ha := HBa.out.keeps hk1 (fun h => h)
  clear HBa
  have HBa := Lib.hid ha
  clear ha
  have hb := HBb.out.keeps hk1 (fun h => h)
  clear HBb
  have HBb := Lib.hid hb
  clear hb
  have hr := HBr.out.keeps hk1 (fun h => h)
  clear HBr
  have HBr := Lib.hid hr
  clear hr
  have hq := HBq.out.keeps hk1 (fun h => h)
  clear HBq
  have HBq := Lib.hid hq
  clear hq
  have hr := HK.out.trans hk1
  clear HK
  have HK := Lib.hid hr
  clear hr
  have sz1 := hk1.size
  (try simp at sz1)
  clear hk1
  have hb := HBq.out
  have q0 := hb.cell 0
  have q1 := hb.cell 1
  have q2 := hb.cell 2
  have q3 := hb.cell 3
  have q4 := hb.cell 4
  have q5 := hb.cell 5
  have q6 := hb.cell 6
  simp at q0 q1 q2 q3 q4 q5 q6
  have zq := hb.lt
  clear hb
  have ha := HBa.out.alloc (.cells #[.slice c.bk.A1 c.bk.b.own.length c.bk.c1, .slice c.bk.A2 c.bk.b.notes.length c.bk.c2, .int .i64 c.bk.b.locked, .int .i64 c.id, .int .i64 c.st.x.way, .int .i64 c.st.x.ver, .int .i64 c.st.x.want, .slice c.st.A1 c.st.x.sent.length c.st.c1, .slice c.st.A2 c.st.x.live.length c.st.c2, .slice c.st.A3 c.st.x.back.length c.st.c3, .slice c.st.A4 c.st.x.got.length c.st.c4, .pointer P, .slice c.kA c.knows.length c.kc] 78)
  clear HBa
  have HBa := Lib.hid ha
  clear ha
  have hb := HBb.out.alloc (.cells #[.slice c.bk.A1 c.bk.b.own.length c.bk.c1, .slice c.bk.A2 c.bk.b.notes.length c.bk.c2, .int .i64 c.bk.b.locked, .int .i64 c.id, .int .i64 c.st.x.way, .int .i64 c.st.x.ver, .int .i64 c.st.x.want, .slice c.st.A1 c.st.x.sent.length c.st.c1, .slice c.st.A2 c.st.x.live.length c.st.c2, .slice c.st.A3 c.st.x.back.length c.st.c3, .slice c.st.A4 c.st.x.got.length c.st.c4, .pointer P, .slice c.kA c.knows.length c.kc] 78)
  clear HBb
  have HBb := Lib.hid hb
  clear hb
  have hr := HBr.out.alloc (.cells #[.slice c.bk.A1 c.bk.b.own.length c.bk.c1, .slice c.bk.A2 c.bk.b.notes.length c.bk.c2, .int .i64 c.bk.b.locked, .int .i64 c.id, .int .i64 c.st.x.way, .int .i64 c.st.x.ver, .int .i64 c.st.x.want, .slice c.st.A1 c.st.x.sent.length c.st.c1, .slice c.st.A2 c.st.x.live.length c.st.c2, .slice c.st.A3 c.st.x.back.length c.st.c3, .slice c.st.A4 c.st.x.got.length c.st.c4, .pointer P, .slice c.kA c.knows.length c.kc] 78)
  clear HBr
  have HBr := Lib.hid hr
  clear hr
  have hq := HBq.out.alloc (.cells #[.slice c.bk.A1 c.bk.b.own.length c.bk.c1, .slice c.bk.A2 c.bk.b.notes.length c.bk.c2, .int .i64 c.bk.b.locked, .int .i64 c.id, .int .i64 c.st.x.way, .int .i64 c.st.x.ver, .int .i64 c.st.x.want, .slice c.st.A1 c.st.x.sent.length c.st.c1, .slice c.st.A2 c.st.x.live.length c.st.c2, .slice c.st.A3 c.st.x.back.length c.st.c3, .slice c.st.A4 c.st.x.got.length c.st.c4, .pointer P, .slice c.kA c.knows.length c.kc] 78)
  clear HBq
  have HBq := Lib.hid hq
  clear hq
  have hr := Lk.kept (HLK.out) ((Keeps.refl noBlk w1).alloc (.cells #[.slice c.bk.A1 c.bk.b.own.length c.bk.c1, .slice c.bk.A2 c.bk.b.notes.length c.bk.c2, .int .i64 c.bk.b.locked, .int .i64 c.id, .int .i64 c.st.x.way, .int .i64 c.st.x.ver, .int .i64 c.st.x.want, .slice c.st.A1 c.st.x.sent.length c.st.c1, .slice c.st.A2 c.st.x.live.length c.st.c2, .slice c.st.A3 c.st.x.back.length c.st.c3, .slice c.st.A4 c.st.x.got.length c.st.c4, .pointer P, .slice c.kA c.knows.length c.kc] 78))
  clear HLK
  have HLK := Lib.hid hr
  clear hr
  have hr := HK.out.alloc (.cells #[.slice c.bk.A1 c.bk.b.own.length c.bk.c1, .slice c.bk.A2 c.bk.b.notes.length c.bk.c2, .int .i64 c.bk.b.locked, .int .i64 c.id, .int .i64 c.st.x.way, .int .i64 c.st.x.ver, .int .i64 c.st.x.want, .slice c.st.A1 c.st.x.sent.length c.st.c1, .slice c.st.A2 c.st.x.live.length c.st.c2, .slice c.st.A3 c.st.x.back.length c.st.c3, .slice c.st.A4 c.st.x.got.length c.st.c4, .pointer P, .slice c.kA c.knows.length c.kc] 78)
  clear HK
  have HK := Lib.hid hr
  clear hr
  have HBk := Lib.hid (Box.new w1 _ rfl 78 #[.slice c.bk.A1 c.bk.b.own.length c.bk.c1, .slice c.bk.A2 c.bk.b.notes.length c.bk.c2, .int .i64 c.bk.b.locked, .int .i64 c.id, .int .i64 c.st.x.way, .int .i64 c.st.x.ver, .int .i64 c.st.x.want, .slice c.st.A1 c.st.x.sent.length c.st.c1, .slice c.st.A2 c.st.x.live.length c.st.c2, .slice c.st.A3 c.st.x.back.length c.st.c3, .slice c.st.A4 c.st.x.got.length c.st.c4, .pointer P, .slice c.kA c.knows.length c.kc])
  go_wp2_with fail
  refine (FM.out _ HK.out).mono ?_
  rintro e w2 ⟨A1, A2, A3, A4, c1, c2, c3, c4, rfl, ho9, ha9, hk2⟩
  have OZ := Lib.hid ho9
  have OA := Lib.hid ha9
  clear ho9 ha9
  clear q0 q1 q2 q3 q4 q5 q6 zq
  have ha := HBa.out.keeps hk2 (fun h => h)
  clear HBa
  have HBa := Lib.hid ha
  clear ha
  have hb := HBb.out.keeps hk2 (fun h => h)
  clear HBb
  have HBb := Lib.hid hb
  clear hb
  have hr := HBr.out.keeps hk2 (fun h => h)
  clear HBr
  have HBr := Lib.hid hr
  clear hr
  have hq := HBq.out.keeps hk2 (fun h => h)
  clear HBq
  have HBq := Lib.hid hq
  clear hq
  have hk := HBk.out.keeps hk2 (fun h => h)
  clear HBk
  have HBk := Lib.hid hk
  clear hk
  have hr := Lk.kept (HLK.out) hk2
  clear HLK
  have HLK := Lib.hid hr
  clear hr
  have hr := HK.out.trans hk2
  clear HK
  have HK := Lib.hid hr
  clear hr
  have sz2 := hk2.size
  (try simp at sz2)
  clear hk2
  have hb := HBk.out
  have k0 := hb.cell 0
  have k1 := hb.cell 1
  have k2 := hb.cell 2
  have k3 := hb.cell 3
  have k4 := hb.cell 4
  have k5 := hb.cell 5
  have k6 := hb.cell 6
  have k7 := hb.cell 7
  have k8 := hb.cell 8
  have k9 := hb.cell 9
  have k10 := hb.cell 10
  have k11 := hb.cell 11
  have k12 := hb.cell 12
  simp at k0 k1 k2 k3 k4 k5 k6 k7 k8 k9 k10 k11 k12
  have zk := hb.lt
  clear hb
  have hb := HBk.out
  have kf0 := hb.frozen 0
  have kf1 := hb.frozen 1
  have kf2 := hb.frozen 2
  have kf3 := hb.frozen 3
  have kf4 := hb.frozen 4
  have kf5 := hb.frozen 5
  have kf6 := hb.frozen 6
  have kf7 := hb.frozen 7
  have kf8 := hb.frozen 8
  have kf9 := hb.frozen 9
  have kf10 := hb.frozen 10
  have kf11 := hb.frozen 11
  have kf12 := hb.frozen 12
  clear hb
  clear HBa
  clear HBb
  clear HBq
  have kt : Keeps (fun b => b = w1.heap.size) w2 ((((((((w2.setCell ⟨w1.heap.size, 4, none⟩ (.int .i64 z.way)).setCell ⟨w1.heap.size, 5, none⟩ (.int .i64 z.ver)).setCell ⟨w1.heap.size, 6, none⟩ (.int .i64 z.want)).setCell ⟨w1.heap.size, 7, none⟩ (.slice A1 z.sent.length c1)).setCell ⟨w1.heap.size, 8, none⟩ (.slice A2 z.live.length c2)).setCell ⟨w1.heap.size, 9, none⟩ (.slice A3 z.back.length c3)).setCell ⟨w1.heap.size, 10, none⟩ (.slice A4 z.got.length c4)).alloc (.cells #[.int .i64 z.way, .int .i64 z.ver, .int .i64 z.want, .slice A1 z.sent.length c1, .slice A2 z.live.length c2, .slice A3 z.back.length c3, .slice A4 z.got.length c4] 39)) := (((((((((Keeps.refl (fun b => b = w1.heap.size) w2).setCell (p := ⟨w1.heap.size, 4, none⟩) (.inr rfl) (.int .i64 z.way)).setCell (p := ⟨w1.heap.size, 5, none⟩) (.inr rfl) (.int .i64 z.ver)).setCell (p := ⟨w1.heap.size, 6, none⟩) (.inr rfl) (.int .i64 z.want)).setCell (p := ⟨w1.heap.size, 7, none⟩) (.inr rfl) (.slice A1 z.sent.length c1)).setCell (p := ⟨w1.heap.size, 8, none⟩) (.inr rfl) (.slice A2 z.live.length c2)).setCell (p := ⟨w1.heap.size, 9, none⟩) (.inr rfl) (.slice A3 z.back.length c3)).setCell (p := ⟨w1.heap.size, 10, none⟩) (.inr rfl) (.slice A4 z.got.length c4)).alloc (.cells #[.int .i64 z.way, .int .i64 z.ver, .int .i64 z.want, .slice A1 z.sent.length c1, .slice A2 z.live.length c2, .slice A3 z.back.length c3, .slice A4 z.got.length c4] 39))
  have hr := Lk.other kt HBk.out HLK.out
  clear HLK
  have HLK := Lib.hid hr
  clear hr
  have hr := OA.out.keeps kt (fun b hb h => by have q := OZ.out.ge hb; (try simp at q) <;> omega)
  clear OA
  have OA := Lib.hid hr
  clear hr
  have hb := ((((((((HBk.out.set_ 4 (.int .i64 z.way)).set_ 5 (.int .i64 z.ver)).set_ 6 (.int .i64 z.want)).set_ 7 (.slice A1 z.sent.length c1)).set_ 8 (.slice A2 z.live.length c2)).set_ 9 (.slice A3 z.back.length c3)).set_ 10 (.slice A4 z.got.length c4)).alloc (.cells #[.int .i64 z.way, .int .i64 z.ver, .int .i64 z.want, .slice A1 z.sent.length c1, .slice A2 z.live.length c2, .slice A3 z.back.length c3, .slice A4 z.got.length c4] 39))
  simp only [List.setIfInBounds_toArray, List.set_cons_zero, List.set_cons_succ] at hb
  clear HBk
  have HBk := Lib.hid hb
  clear hb
  have hb := HBr.out.keeps kt fun h => by omega
  clear HBr
  have HBr := Lib.hid hb
  clear hb
  have hr := HK.out.then kt fun i hi h => by omega
  clear HK
  have HK := Lib.hid hr
  clear hr
  have szk := kt.size
  (try simp at szk)
  clear kt
  go_upto_region 9 with fail
  clear k0 k1 k2 k3 k4 k5 k6 k7 k8 k9 k10 k11 k12 zk
  clear kf0 kf1 kf2 kf3 kf4 kf5 kf6 kf7 kf8 kf9 kf10 kf11 kf12
  generalize ((((((((w2.setCell ⟨w1.heap.size, 4, none⟩ (.int .i64 z.way)).setCell ⟨w1.heap.size, 5, none⟩ (.int .i64 z.ver)).setCell ⟨w1.heap.size, 6, none⟩ (.int .i64 z.want)).setCell ⟨w1.heap.size, 7, none⟩ (.slice A1 z.sent.length c1)).setCell ⟨w1.heap.size, 8, none⟩ (.slice A2 z.live.length c2)).setCell ⟨w1.heap.size, 9, none⟩ (.slice A3 z.back.length c3)).setCell ⟨w1.heap.size, 10, none⟩ (.slice A4 z.got.length c4)).alloc (.cells #[.int .i64 z.way, .int .i64 z.ver, .int .i64 z.want, .slice A1 z.sent.length c1, .slice A2 z.live.length c2, .slice A3 z.back.length c3, .slice A4 z.got.length c4] 39)) = V9 at *
  clear OZ
  have hb := HBk.out
  have k0 := hb.cell 0
  have k1 := hb.cell 1
  have k2 := hb.cell 2
  have k3 := hb.cell 3
  have k4 := hb.cell 4
  have k5 := hb.cell 5
  have k6 := hb.cell 6
  have k7 := hb.cell 7
  have k8 := hb.cell 8
  have k9 := hb.cell 9
  have k10 := hb.cell 10
  have k11 := hb.cell 11
  have k12 := hb.cell 12
  simp at k0 k1 k2 k3 k4 k5 k6 k7 k8 k9 k10 k11 k12
  have zk := hb.lt
  clear hb
  have szr := HBr.out.lt
  go_wp2_with fail
  have HL := Lib.hid (lchain_any { c with st := (⟨z, A1, A2, A3, A4, c1, c2, c3, c4⟩ : StM) } P _ _ (lnk_turn (s := c.bk) HH.out HB.out HK.out HLK.out ((HH.out.kept HK.out).own) ((HH.out.kept HK.out).notes) OA.out (ok_len2 (ck_bank HB.out)).1 (ok_len2 (ck_bank HB.out)).2 (by have := HZL.out; dsimp only; omega)))
  unfold lkV at HL
  (try dsimp only at HL)
  refine HL.out.mono ?_
  rintro e w4 ⟨d, G, rfl, sm, ow, hk4⟩
  dsimp only [ChM.val]
  have OW := Lib.hid ow
  have SM := Lib.hid sm
  clear ow sm HL
  clear k0 k1 k2 k3 k4 k5 k6 k7 k8 k9 k10 k11 k12 zk
  have hr := HBr.out.keeps hk4 (fun h => h)
  clear HBr
  have HBr := Lib.hid hr
  clear hr
  have hk := HBk.out.keeps hk4 (fun h => h)
  clear HBk
  have HBk := Lib.hid hk
  clear hk
  have hr := HK.out.trans hk4
  clear HK
  have HK := Lib.hid hr
  clear hr
  have sz4 := hk4.size
  (try simp at sz4)
  clear hk4
  have hb := HBr.out
  have r0 := hb.cell 0
  have r1 := hb.cell 1
  have r2 := hb.cell 2
  have r3 := hb.cell 3
  have r4 := hb.cell 4
  have r5 := hb.cell 5
  have r6 := hb.cell 6
  have r7 := hb.cell 7
  have r8 := hb.cell 8
  have r9 := hb.cell 9
  have r10 := hb.cell 10
  have r11 := hb.cell 11
  have r12 := hb.cell 12
  simp at r0 r1 r2 r3 r4 r5 r6 r7 r8 r9 r10 r11 r12
  have zr := hb.lt
  clear hb
  have hb := HBr.out
  have rf0 := hb.frozen 0
  have rf1 := hb.frozen 1
  have rf2 := hb.frozen 2
  have rf3 := hb.frozen 3
  have rf4 := hb.frozen 4
  have rf5 := hb.frozen 5
  have rf6 := hb.frozen 6
  have rf7 := hb.frozen 7
  have rf8 := hb.frozen 8
  have rf9 := hb.frozen 9
  have rf10 := hb.frozen 10
  have rf11 := hb.frozen 11
  have rf12 := hb.frozen 12
  clear hb
  go_wp2
  have hbF := (((((((((((((HBr.out.set_ 0 (.int .i64 d.id)).set_ 1 (.slice d.bk.A1 d.bk.b.own.length d.bk.c1)).set_ 2 (.slice d.bk.A2 d.bk.b.notes.length d.bk.c2)).set_ 3 (.int .i64 d.bk.b.locked)).set_ 4 (.int .i64 d.st.x.way)).set_ 5 (.int .i64 d.st.x.ver)).set_ 6 (.int .i64 d.st.x.want)).set_ 7 (.slice d.st.A1 d.st.x.sent.length d.st.c1)).set_ 8 (.slice d.st.A2 d.st.x.live.length d.st.c2)).set_ 9 (.slice d.st.A3 d.st.x.back.length d.st.c3)).set_ 10 (.slice d.st.A4 d.st.x.got.length d.st.c4)).set_ 11 (.slice d.pA d.past.length d.pc)).set_ 12 (.slice d.kA d.knows.length d.kc))
  simp only [List.setIfInBounds_toArray, List.set_cons_zero, List.set_cons_succ] at hbF
  have s10 := hbF.cell 0
  have s11 := hbF.cell 1
  have s12 := hbF.cell 2
  have s13 := hbF.cell 3
  have s14 := hbF.cell 4
  have s15 := hbF.cell 5
  have s16 := hbF.cell 6
  have s17 := hbF.cell 7
  have s18 := hbF.cell 8
  have s19 := hbF.cell 9
  have s20 := hbF.cell 10
  have s21 := hbF.cell 11
  have s22 := hbF.cell 12
  simp at s10 s11 s12 s13 s14 s15 s16 s17 s18 s19 s20 s21 s22
  clear hbF
  have kS : Keeps (fun b => b = w.heap.size + 1 + 1) w4 (((((((((((((w4.setCell ⟨w.heap.size + 1 + 1, 0, none⟩ (.int .i64 d.id)).setCell ⟨w.heap.size + 1 + 1, 1, none⟩ (.slice d.bk.A1 d.bk.b.own.length d.bk.c1)).setCell ⟨w.heap.size + 1 + 1, 2, none⟩ (.slice d.bk.A2 d.bk.b.notes.length d.bk.c2)).setCell ⟨w.heap.size + 1 + 1, 3, none⟩ (.int .i64 d.bk.b.locked)).setCell ⟨w.heap.size + 1 + 1, 4, none⟩ (.int .i64 d.st.x.way)).setCell ⟨w.heap.size + 1 + 1, 5, none⟩ (.int .i64 d.st.x.ver)).setCell ⟨w.heap.size + 1 + 1, 6, none⟩ (.int .i64 d.st.x.want)).setCell ⟨w.heap.size + 1 + 1, 7, none⟩ (.slice d.st.A1 d.st.x.sent.length d.st.c1)).setCell ⟨w.heap.size + 1 + 1, 8, none⟩ (.slice d.st.A2 d.st.x.live.length d.st.c2)).setCell ⟨w.heap.size + 1 + 1, 9, none⟩ (.slice d.st.A3 d.st.x.back.length d.st.c3)).setCell ⟨w.heap.size + 1 + 1, 10, none⟩ (.slice d.st.A4 d.st.x.got.length d.st.c4)).setCell ⟨w.heap.size + 1 + 1, 11, none⟩ (.slice d.pA d.past.length d.pc)).setCell ⟨w.heap.size + 1 + 1, 12, none⟩ (.slice d.kA d.knows.length d.kc)) := ((((((((((((((Keeps.refl (fun b => b = w.heap.size + 1 + 1) w4).setCell (p := ⟨w.heap.size + 1 + 1, 0, none⟩) (.inr rfl) (.int .i64 d.id)).setCell (p := ⟨w.heap.size + 1 + 1, 1, none⟩) (.inr rfl) (.slice d.bk.A1 d.bk.b.own.length d.bk.c1)).setCell (p := ⟨w.heap.size + 1 + 1, 2, none⟩) (.inr rfl) (.slice d.bk.A2 d.bk.b.notes.length d.bk.c2)).setCell (p := ⟨w.heap.size + 1 + 1, 3, none⟩) (.inr rfl) (.int .i64 d.bk.b.locked)).setCell (p := ⟨w.heap.size + 1 + 1, 4, none⟩) (.inr rfl) (.int .i64 d.st.x.way)).setCell (p := ⟨w.heap.size + 1 + 1, 5, none⟩) (.inr rfl) (.int .i64 d.st.x.ver)).setCell (p := ⟨w.heap.size + 1 + 1, 6, none⟩) (.inr rfl) (.int .i64 d.st.x.want)).setCell (p := ⟨w.heap.size + 1 + 1, 7, none⟩) (.inr rfl) (.slice d.st.A1 d.st.x.sent.length d.st.c1)).setCell (p := ⟨w.heap.size + 1 + 1, 8, none⟩) (.inr rfl) (.slice d.st.A2 d.st.x.live.length d.st.c2)).setCell (p := ⟨w.heap.size + 1 + 1, 9, none⟩) (.inr rfl) (.slice d.st.A3 d.st.x.back.length d.st.c3)).setCell (p := ⟨w.heap.size + 1 + 1, 10, none⟩) (.inr rfl) (.slice d.st.A4 d.st.x.got.length d.st.c4)).setCell (p := ⟨w.heap.size + 1 + 1, 11, none⟩) (.inr rfl) (.slice d.pA d.past.length d.pc)).setCell (p := ⟨w.heap.size + 1 + 1, 12, none⟩) (.inr rfl) (.slice d.kA d.knows.length d.kc))
  generalize (((((((((((((w4.setCell ⟨w.heap.size + 1 + 1, 0, none⟩ (.int .i64 d.id)).setCell ⟨w.heap.size + 1 + 1, 1, none⟩ (.slice d.bk.A1 d.bk.b.own.length d.bk.c1)).setCell ⟨w.heap.size + 1 + 1, 2, none⟩ (.slice d.bk.A2 d.bk.b.notes.length d.bk.c2)).setCell ⟨w.heap.size + 1 + 1, 3, none⟩ (.int .i64 d.bk.b.locked)).setCell ⟨w.heap.size + 1 + 1, 4, none⟩ (.int .i64 d.st.x.way)).setCell ⟨w.heap.size + 1 + 1, 5, none⟩ (.int .i64 d.st.x.ver)).setCell ⟨w.heap.size + 1 + 1, 6, none⟩ (.int .i64 d.st.x.want)).setCell ⟨w.heap.size + 1 + 1, 7, none⟩ (.slice d.st.A1 d.st.x.sent.length d.st.c1)).setCell ⟨w.heap.size + 1 + 1, 8, none⟩ (.slice d.st.A2 d.st.x.live.length d.st.c2)).setCell ⟨w.heap.size + 1 + 1, 9, none⟩ (.slice d.st.A3 d.st.x.back.length d.st.c3)).setCell ⟨w.heap.size + 1 + 1, 10, none⟩ (.slice d.st.A4 d.st.x.got.length d.st.c4)).setCell ⟨w.heap.size + 1 + 1, 11, none⟩ (.slice d.pA d.past.length d.pc)).setCell ⟨w.heap.size + 1 + 1, 12, none⟩ (.slice d.kA d.knows.length d.kc)) = WF at kS s10 s11 s12 s13 s14 s15 s16 s17 s18 s19 s20 s21 s22 ⊢
  refine bodyPost_ret (v := .tuple #[d.val, .bool true]) (by simp [results, Tryz.results24, go_sem, ChM.val, s10, s11, s12, s13, s14, s15, s16, s17, s18, s19, s20, s21, s22]) rfl ?_
  exact ⟨d, G, rfl, ⟨SM.out.id, SM.out.bk, SM.out.st, SM.out.past, SM.out.knows⟩, ((OW.out.keeps kS fun b hb h => by have q := OW.out.ge hb; (try simp at q) <;> omega).less (by first | omega | (simp <;> omega))), HK.out.then kS fun i hi h => by omega⟩
theorem implRStep_any (c : ChM) (y : StM) (k : Int) (w : World) (h : ChAt w c) (hy : y.At w) (ht : Tabs w) :
    Calls Tryz.prog 24 #[c.val, y.val, .int .i64 k] w (RetC (fun v => .tuple #[v, .bool (rsO c y.x k)]) w (rsC c y.x k)) := by
  unfold rsC rsO
  rcases Bool.eq_false_or_eq_true (ckB c && stB y.x) with hb | hb
  case inr =>
    rw [hb, if_neg (by decide)]
    exact implRStep_bad c y k w h hy ht hb
  rw [hb, if_pos rfl]
  simp only [Bool.and_eq_true] at hb
  obtain ⟨h1, h2⟩ := hb
  have hs := (of_decide_eq_true h1).2.2.1
  have hm : wmayB c.st.x y.x k = mayB c.st.x y.x k := by
    show (stB c.st.x && stB y.x && mayB c.st.x y.x k) = _
    rw [hs, h2]
    rfl
  rcases Bool.eq_false_or_eq_true (mayB c.st.x y.x k) with ho | ho
  case inr =>
    rw [ho]
    have e : stepCh c y.x k = c := by unfold stepCh; rw [ho, if_neg (by decide)]
    rw [e]
    exact implRStep_not c y k w h hy ht h1 h2 (hm.trans ho)
  rw [ho]
  have e : stepCh c y.x k = { c with st := { c.st with x := wdS c.st.x y.x k } } := by
    unfold stepCh wdS
    rw [hm, ho, if_pos rfl, if_pos rfl]
  rw [e]
  exact implRStep_yes c y k w h hy ht h1 h2 (hm.trans ho)
end Go.Proofs.YtcnbephpadmboaaGreatDoor
