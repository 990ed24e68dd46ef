/- spec.ChainSend. -/
import Derived.Test.YtbgpclicflafaaaDoorCySi
import Derived.Test.YtbgpclicflafaaaDoorCxX
import Derived.Test.YtbgpclicflafaaaDoorUSend
set_option linter.unusedVariables false
set_option linter.unusedSimpArgs false
namespace Go.Proofs.YtbgpclicflafaaaDoor
open Go.RowKit

theorem snd_send {c : ChM} {p : Pk} (hb : okB c.bk.b = true) : sndB c p = sendB c p := by
  unfold sndB sendB awayOk
  rw [Bool.eq_iff_iff]
  simp only [hb, Bool.and_eq_true, decide_eq_true_eq, true_and]
  constructor
  · rintro ⟨⟨⟨⟨⟨_, _⟩, _⟩, h⟩, hw⟩, hp⟩
    exact ⟨⟨hw, hp⟩, h⟩
  · rintro ⟨⟨hw, hp⟩, h⟩
    have pp := pkB_parts (show pkB p.s p.k p.f p.t p.m p.u p.v = true from hp)
    refine ⟨⟨⟨⟨⟨?_, ?_⟩, ?_⟩, h⟩, hw⟩, hp⟩
    · simp only [kindB, Bool.and_eq_true, decide_eq_true_eq]; omega
    · simp only [userB, Bool.and_eq_true, decide_eq_true_eq]; omega
    · omega
theorem send_same {c d d2 : ChM} {n : Int} {o : Bool} {p : Pk} (sm : SameC c d) (hb : ckB c = true) (hp : sendP d p d2 n o) : SameC (snC c p) d2 ∧ n = snN c p ∧ o = snO c p ∧ d2.bk.b.own.length ≤ maxLen ∧ d2.bk.b.notes.length ≤ maxLen := by
  have hok := (of_decide_eq_true hb).2.1
  have e0 : sndB c p = sendB d p := by
    rw [snd_send hok]
    unfold sendB
    rw [sm.st, sm.bk]
  have hl := ok_len2 hok
  have hl2 : d.bk.b.own.length ≤ maxLen ∧ d.bk.b.notes.length ≤ maxLen := by rw [← sm.bk]; unfold maxLen; omega
  rcases hp with ⟨hs, rfl, rfl, A1, A2, A3, k1, k2, k3, rfl⟩ | ⟨hs, rfl, rfl, rfl⟩
  · have e1 : snO c p = true := by unfold snO; rw [hb, e0, hs]; rfl
    have e2 : turnA d.bk.b p.k p.f p.m = awayed c.bk.b p.k p.f p.m := by
      unfold turnA
      unfold sendB at hs
      simp only [Bool.and_eq_true, decide_eq_true_eq] at hs
      rw [if_pos hs.2, sm.bk]
    have e3 := turnA_len (k := p.k) (f := p.f) (s := p.m) (show okB d.bk.b = true by rw [← sm.bk]; exact hok)
    refine ⟨?_, by unfold snN; rw [e1, if_pos rfl], e1.symm, ?_⟩
    · unfold snC sendCh
      rw [e1, if_pos rfl]
      exact ⟨sm.id, e2.symm, by dsimp only; unfold sentX; rw [sm.st], sm.past, sm.knows⟩
    · unfold sendCh
      dsimp only
      unfold maxLen
      omega
  · have e1 : snO c p = false := by unfold snO; rw [hb, e0, hs]; rfl
    refine ⟨?_, by unfold snN; rw [e1, if_neg (by decide)], e1.symm, hl2⟩
    unfold snC
    rw [e1, if_neg (by decide), if_pos hb]
    exact sm
theorem send_of {G : Nat → Nat} {w : World} {c d : ChM} {kd f t m u : Int} (hch : ChR G 0 w d) (sm : SameC c d) (hb : ckB c = true) :
    Calls Tryd.prog 80 #[d.val, .int .i64 kd, .int .i64 f, .int .i64 t, .int .i64 m, .int .i64 u] w (RetSend G 0 w d (⟨(c.st.x.sent.length : Int) + 1, kd, f, t, m, u, c.st.x.ver⟩ : Pk)) := by
  obtain ⟨_, kb, ks, _, _, _⟩ := of_decide_eq_true hb
  have q := l12Send_any G 0 d kd f t m u w hch (fit_of (by rw [← sm.st]; exact ks)) (by rw [← sm.bk]; exact kb)
  rw [← sm.st] at q
  exact q
theorem sn_chN (c : ChM) (p : Pk) : chN (snC c p) ≤ 200000 := by
  unfold snC
  by_cases ho : snO c p = true
  · rw [if_pos ho]
    have hb : ckB c = true := by unfold snO at ho; simp only [Bool.and_eq_true] at ho; exact ho.1
    have hs : sndB c p = true := by unfold snO at ho; simp only [Bool.and_eq_true] at ho; exact ho.2
    obtain ⟨k0, k1, k2, k3, k4, k5⟩ := of_decide_eq_true hb
    have e1 : (awayed c.bk.b p.k p.f p.m).own.length = 3 ∧ (awayed c.bk.b p.k p.f p.m).notes.length = 3 := by
      unfold sndB at hs
      simp only [Bool.and_eq_true] at hs
      exact away_len hs.1.1
    have e2 := stB_len k2
    have e3 := kn_len k5
    have e4 := paN_ok c.past k4 c.past.length (Nat.le_refl _)
    unfold chN stN sentX
    dsimp only
    simp only [List.length_append, List.length_singleton]
    omega
  · rw [if_neg ho]
    by_cases hb : ckB c = true
    · rw [if_pos hb]
      have := chN_ok hb
      omega
    · rw [if_neg hb]
      decide
theorem sn_same {c d : ChM} {p : Pk} (h : SameC c d) : SameC (snC c p) (snC d p) ∧ snO d p = snO c p ∧ snN d p = snN c p := by
  have e0 : snO d p = snO c p := by
    unfold snO sndB
    rw [ckB_same h, h.bk, h.st]
  refine ⟨?_, e0, by unfold snN; rw [e0]⟩
  unfold snC
  rw [e0, ckB_same h]
  split
  · exact ⟨h.id, by dsimp only; rw [h.bk], by dsimp only; rw [h.st], h.past, h.knows⟩
  · split
    · exact h
    · exact SameC.refl _
set_option maxRecDepth 100000 in
set_option maxHeartbeats 8000000 in
theorem specSend_any (c : ChM) (kd f t m u : Int) (w : World) (h : ChAt w c) (hL : c.bk.b.locked ≤ 9223372036854775807) :
    Calls Tryd.prog 23 #[c.val, .int .i64 kd, .int .i64 f, .int .i64 t, .int .i64 m, .int .i64 u] w (RetR (fun v => .tuple #[v, .int .i64 (snN c (⟨(c.st.x.sent.length : Int) + 1, kd, f, t, m, u, c.st.x.ver⟩ : Pk)), .bool (snO c (⟨(c.st.x.sent.length : Int) + 1, kd, f, t, m, u, c.st.x.ver⟩ : Pk))]) w (snC c (⟨(c.st.x.sent.length : Int) + 1, kd, f, t, m, u, c.st.x.ver⟩ : Pk))) := by
  have F := Lib.hid (fun W (hk : Keeps noBlk w W) => specChOk_any c W (h.kept hk) hL)
  have HBa := Lib.hid ((Box.new w _ rfl 40 #[.int .i64 c.id, .slice c.bk.A1 c.bk.b.own.length c.bk.c1, .slice c.bk.A2 c.bk.b.notes.length c.bk.c2, .int .i64 c.bk.b.locked, .int .i64 c.st.x.way, .int .i64 c.st.x.ver, .int .i64 c.st.x.want, .slice c.st.A1 c.st.x.sent.length c.st.c1, .slice c.st.A2 c.st.x.live.length c.st.c2, .slice c.st.A3 c.st.x.back.length c.st.c3, .slice c.st.A4 c.st.x.got.length c.st.c4, .slice c.pA c.past.length c.pc, .slice c.kA c.knows.length c.kc]).alloc (.cells #[.int .i64 0, .slice none 0 0, .slice none 0 0, .int .i64 0, .int .i64 0, .int .i64 0, .int .i64 0, .slice none 0 0, .slice none 0 0, .slice none 0 0, .slice none 0 0, .slice none 0 0, .slice none 0 0] 40))
  have HBr := Lib.hid (Box.new (w.alloc (.cells #[.int .i64 c.id, .slice c.bk.A1 c.bk.b.own.length c.bk.c1, .slice c.bk.A2 c.bk.b.notes.length c.bk.c2, .int .i64 c.bk.b.locked, .int .i64 c.st.x.way, .int .i64 c.st.x.ver, .int .i64 c.st.x.want, .slice c.st.A1 c.st.x.sent.length c.st.c1, .slice c.st.A2 c.st.x.live.length c.st.c2, .slice c.st.A3 c.st.x.back.length c.st.c3, .slice c.st.A4 c.st.x.got.length c.st.c4, .slice c.pA c.past.length c.pc, .slice c.kA c.knows.length c.kc] 40)) (w.heap.size + 1) (by simp) 40 #[.int .i64 0, .slice none 0 0, .slice none 0 0, .int .i64 0, .int .i64 0, .int .i64 0, .int .i64 0, .slice none 0 0, .slice none 0 0, .slice none 0 0, .slice none 0 0, .slice none 0 0, .slice none 0 0])
  have HK := Lib.hid (((Keeps.refl noBlk w).alloc (.cells #[.int .i64 c.id, .slice c.bk.A1 c.bk.b.own.length c.bk.c1, .slice c.bk.A2 c.bk.b.notes.length c.bk.c2, .int .i64 c.bk.b.locked, .int .i64 c.st.x.way, .int .i64 c.st.x.ver, .int .i64 c.st.x.want, .slice c.st.A1 c.st.x.sent.length c.st.c1, .slice c.st.A2 c.st.x.live.length c.st.c2, .slice c.st.A3 c.st.x.back.length c.st.c3, .slice c.st.A4 c.st.x.got.length c.st.c4, .slice c.pA c.past.length c.pc, .slice c.kA c.knows.length c.kc] 40)).alloc (.cells #[.int .i64 0, .slice none 0 0, .slice none 0 0, .int .i64 0, .int .i64 0, .int .i64 0, .int .i64 0, .slice none 0 0, .slice none 0 0, .slice none 0 0, .slice none 0 0, .slice none 0 0, .slice none 0 0] 40))
  rcases Bool.eq_false_or_eq_true (ckB c) with hb | hb
  case inr =>
    rw [hb] at F
    have e1 : snO c (⟨(c.st.x.sent.length : Int) + 1, kd, f, t, m, u, c.st.x.ver⟩ : Pk) = false := by unfold snO; rw [hb]; rfl
    have e2 : snC c (⟨(c.st.x.sent.length : Int) + 1, kd, f, t, m, u, c.st.x.ver⟩ : Pk) = ch0 := by unfold snC; rw [e1, if_neg (by decide), if_neg (by rw [hb]; decide)]
    have e3 : snN c (⟨(c.st.x.sent.length : Int) + 1, kd, f, t, m, u, c.st.x.ver⟩ : Pk) = 0 := by unfold snN; rw [e1, if_neg (by decide)]
    rw [e1, e2, e3]
    clear h hb hL e1 e2 e3
    unfold ChM.val
    unfold ChM.val at F
    go_enter Tryd.func23, Tryd.ntmps23
    go_wp2_with fail
    refine (F.out _ HK.out).mono ?_
    rintro e w1 ⟨rfl, hk1⟩
    have ha := HBa.out.keeps hk1 (fun h => h)
    clear HBa
    have HBa := Lib.hid ha
    clear ha
    have hr := HBr.out.keeps hk1 (fun h => h)
    clear HBr
    have HBr := Lib.hid hr
    clear hr
    have hr := HK.out.trans hk1
    clear HK
    have HK := Lib.hid hr
    clear hr
    have sz1 := hk1.size
    (try simp at sz1)
    clear hk1
    have hb := HBr.out
    have r0 := hb.cell 0
    have r1 := hb.cell 1
    have r2 := hb.cell 2
    have r3 := hb.cell 3
    have r4 := hb.cell 4
    have r5 := hb.cell 5
    have r6 := hb.cell 6
    have r7 := hb.cell 7
    have r8 := hb.cell 8
    have r9 := hb.cell 9
    have r10 := hb.cell 10
    have r11 := hb.cell 11
    have r12 := hb.cell 12
    simp at r0 r1 r2 r3 r4 r5 r6 r7 r8 r9 r10 r11 r12
    have zr := hb.lt
    clear hb
    have hb := HBr.out
    have rf0 := hb.frozen 0
    have rf1 := hb.frozen 1
    have rf2 := hb.frozen 2
    have rf3 := hb.frozen 3
    have rf4 := hb.frozen 4
    have rf5 := hb.frozen 5
    have rf6 := hb.frozen 6
    have rf7 := hb.frozen 7
    have rf8 := hb.frozen 8
    have rf9 := hb.frozen 9
    have rf10 := hb.frozen 10
    have rf11 := hb.frozen 11
    have rf12 := hb.frozen 12
    clear hb
    go_wp2
    have hbF := (((((((((((((HBr.out.set_ 0 (.int .i64 0)).set_ 1 (.slice none 0 0)).set_ 2 (.slice none 0 0)).set_ 3 (.int .i64 0)).set_ 4 (.int .i64 0)).set_ 5 (.int .i64 0)).set_ 6 (.int .i64 0)).set_ 7 (.slice none 0 0)).set_ 8 (.slice none 0 0)).set_ 9 (.slice none 0 0)).set_ 10 (.slice none 0 0)).set_ 11 (.slice none 0 0)).set_ 12 (.slice none 0 0))
    simp only [List.setIfInBounds_toArray, List.set_cons_zero, List.set_cons_succ] at hbF
    have s10 := hbF.cell 0
    have s11 := hbF.cell 1
    have s12 := hbF.cell 2
    have s13 := hbF.cell 3
    have s14 := hbF.cell 4
    have s15 := hbF.cell 5
    have s16 := hbF.cell 6
    have s17 := hbF.cell 7
    have s18 := hbF.cell 8
    have s19 := hbF.cell 9
    have s20 := hbF.cell 10
    have s21 := hbF.cell 11
    have s22 := hbF.cell 12
    simp at s10 s11 s12 s13 s14 s15 s16 s17 s18 s19 s20 s21 s22
    clear hbF
    have kS : Keeps (fun b => b = w.heap.size + 1) w1 (((((((((((((w1.setCell ⟨w.heap.size + 1, 0, none⟩ (.int .i64 0)).setCell ⟨w.heap.size + 1, 1, none⟩ (.slice none 0 0)).setCell ⟨w.heap.size + 1, 2, none⟩ (.slice none 0 0)).setCell ⟨w.heap.size + 1, 3, none⟩ (.int .i64 0)).setCell ⟨w.heap.size + 1, 4, none⟩ (.int .i64 0)).setCell ⟨w.heap.size + 1, 5, none⟩ (.int .i64 0)).setCell ⟨w.heap.size + 1, 6, none⟩ (.int .i64 0)).setCell ⟨w.heap.size + 1, 7, none⟩ (.slice none 0 0)).setCell ⟨w.heap.size + 1, 8, none⟩ (.slice none 0 0)).setCell ⟨w.heap.size + 1, 9, none⟩ (.slice none 0 0)).setCell ⟨w.heap.size + 1, 10, none⟩ (.slice none 0 0)).setCell ⟨w.heap.size + 1, 11, none⟩ (.slice none 0 0)).setCell ⟨w.heap.size + 1, 12, none⟩ (.slice none 0 0)) := ((((((((((((((Keeps.refl (fun b => b = w.heap.size + 1) w1).setCell (p := ⟨w.heap.size + 1, 0, none⟩) (.inr rfl) (.int .i64 0)).setCell (p := ⟨w.heap.size + 1, 1, none⟩) (.inr rfl) (.slice none 0 0)).setCell (p := ⟨w.heap.size + 1, 2, none⟩) (.inr rfl) (.slice none 0 0)).setCell (p := ⟨w.heap.size + 1, 3, none⟩) (.inr rfl) (.int .i64 0)).setCell (p := ⟨w.heap.size + 1, 4, none⟩) (.inr rfl) (.int .i64 0)).setCell (p := ⟨w.heap.size + 1, 5, none⟩) (.inr rfl) (.int .i64 0)).setCell (p := ⟨w.heap.size + 1, 6, none⟩) (.inr rfl) (.int .i64 0)).setCell (p := ⟨w.heap.size + 1, 7, none⟩) (.inr rfl) (.slice none 0 0)).setCell (p := ⟨w.heap.size + 1, 8, none⟩) (.inr rfl) (.slice none 0 0)).setCell (p := ⟨w.heap.size + 1, 9, none⟩) (.inr rfl) (.slice none 0 0)).setCell (p := ⟨w.heap.size + 1, 10, none⟩) (.inr rfl) (.slice none 0 0)).setCell (p := ⟨w.heap.size + 1, 11, none⟩) (.inr rfl) (.slice none 0 0)).setCell (p := ⟨w.heap.size + 1, 12, none⟩) (.inr rfl) (.slice none 0 0))
    generalize (((((((((((((w1.setCell ⟨w.heap.size + 1, 0, none⟩ (.int .i64 0)).setCell ⟨w.heap.size + 1, 1, none⟩ (.slice none 0 0)).setCell ⟨w.heap.size + 1, 2, none⟩ (.slice none 0 0)).setCell ⟨w.heap.size + 1, 3, none⟩ (.int .i64 0)).setCell ⟨w.heap.size + 1, 4, none⟩ (.int .i64 0)).setCell ⟨w.heap.size + 1, 5, none⟩ (.int .i64 0)).setCell ⟨w.heap.size + 1, 6, none⟩ (.int .i64 0)).setCell ⟨w.heap.size + 1, 7, none⟩ (.slice none 0 0)).setCell ⟨w.heap.size + 1, 8, none⟩ (.slice none 0 0)).setCell ⟨w.heap.size + 1, 9, none⟩ (.slice none 0 0)).setCell ⟨w.heap.size + 1, 10, none⟩ (.slice none 0 0)).setCell ⟨w.heap.size + 1, 11, none⟩ (.slice none 0 0)).setCell ⟨w.heap.size + 1, 12, none⟩ (.slice none 0 0)) = WF at kS s10 s11 s12 s13 s14 s15 s16 s17 s18 s19 s20 s21 s22 ⊢
    refine bodyPost_ret (v := .tuple #[ch0.val, .int .i64 0, .bool false]) (by simp [results, Tryd.results23, go_sem, ch0, bk0, stm0, ChM.val, s10, s11, s12, s13, s14, s15, s16, s17, s18, s19, s20, s21, s22]) rfl ?_
    exact ⟨ch0, rfl, SameC.refl _, (ch0_own _ 0).at_, HK.out.then kS fun i hi h => by omega⟩
  have FC := Lib.hid (fun W (hk : Keeps noBlk w W) => l12Copy_any c W (h.kept hk) hb)
  rw [hb] at F
  have HB := Lib.hid hb
  clear h hb hL
  unfold ChM.val
  unfold ChM.val at F FC
  go_enter Tryd.func23, Tryd.ntmps23
  go_wp2_with fail
  refine (F.out _ HK.out).mono ?_
  rintro e w1 ⟨rfl, hk1⟩
  have ha := HBa.out.keeps hk1 (fun h => h)
  clear HBa
  have HBa := Lib.hid ha
  clear ha
  have hr := HBr.out.keeps hk1 (fun h => h)
  clear HBr
  have HBr := Lib.hid hr
  clear hr
  have hr := HK.out.trans hk1
  clear HK
  have HK := Lib.hid hr
  clear hr
  have sz1 := hk1.size
  (try simp at sz1)
  clear hk1
  have hb := HBa.out
  have a0 := hb.cell 0
  have a1 := hb.cell 1
  have a2 := hb.cell 2
  have a3 := hb.cell 3
  have a4 := hb.cell 4
  have a5 := hb.cell 5
  have a6 := hb.cell 6
  have a7 := hb.cell 7
  have a8 := hb.cell 8
  have a9 := hb.cell 9
  have a10 := hb.cell 10
  have a11 := hb.cell 11
  have a12 := hb.cell 12
  simp at a0 a1 a2 a3 a4 a5 a6 a7 a8 a9 a10 a11 a12
  have za := hb.lt
  clear hb
  go_wp2_with fail
  refine (FC.out _ HK.out).mono ?_
  rintro e w2 ⟨d, rfl, sm, hk2, G, hG, hch⟩
  dsimp only [ChM.val]
  have SM := Lib.hid sm
  have HG := Lib.hid hG
  have FB := Lib.hid (send_of (kd := kd) (f := f) (t := t) (m := m) (u := u) hch sm HB.out)
  clear sm hG hch
  clear a0 a1 a2 a3 a4 a5 a6 a7 a8 a9 a10 a11 a12 za
  have ha := HBa.out.keeps hk2 (fun h => h)
  clear HBa
  have HBa := Lib.hid ha
  clear ha
  have hr := HBr.out.keeps hk2 (fun h => h)
  clear HBr
  have HBr := Lib.hid hr
  clear hr
  have hr := HK.out.trans hk2
  clear HK
  have HK := Lib.hid hr
  clear hr
  have sz2 := hk2.size
  (try simp at sz2)
  clear hk2
  unfold ChM.val at FB
  go_wp2_with fail
  refine FB.out.mono ?_
  rintro e w3 ⟨G2, d2, n9, o9, rfl, hp, hag, hch2, hk3⟩
  dsimp only [ChM.val]
  have hgr : G (w.heap.size + 1) = 0 := HG.out _ (by have := sz1; (try simp at this); omega)
  have hb := HBr.out.keeps hk3 (fun h => h.ne0 hgr)
  clear HBr
  have HBr := Lib.hid hb
  clear hb
  have hq := HK.out.then hk3 fun i hi h => h.ne0 (HG.out i (by have := sz1; (try simp at this); omega))
  clear HK
  have HK := Lib.hid hq
  clear hq
  have HG2 : Hid (G2 (w.heap.size + 1) = 0) := Lib.hid (by rw [hag _ (by have := sz1; have := sz2; (try simp at this); omega)]; exact hgr)
  obtain ⟨q1, rfl, rfl, q2⟩ := send_same SM.out HB.out hp
  have HQ1 := Lib.hid q1
  have HQ2 := Lib.hid q2
  have HCH2 := Lib.hid hch2
  clear hp hag hch2 hk3 hgr FB q1 q2
  have hb := HBr.out
  have r0 := hb.cell 0
  have r1 := hb.cell 1
  have r2 := hb.cell 2
  have r3 := hb.cell 3
  have r4 := hb.cell 4
  have r5 := hb.cell 5
  have r6 := hb.cell 6
  have r7 := hb.cell 7
  have r8 := hb.cell 8
  have r9 := hb.cell 9
  have r10 := hb.cell 10
  have r11 := hb.cell 11
  have r12 := hb.cell 12
  simp at r0 r1 r2 r3 r4 r5 r6 r7 r8 r9 r10 r11 r12
  have zr := hb.lt
  clear hb
  have hb := HBr.out
  have rf0 := hb.frozen 0
  have rf1 := hb.frozen 1
  have rf2 := hb.frozen 2
  have rf3 := hb.frozen 3
  have rf4 := hb.frozen 4
  have rf5 := hb.frozen 5
  have rf6 := hb.frozen 6
  have rf7 := hb.frozen 7
  have rf8 := hb.frozen 8
  have rf9 := hb.frozen 9
  have rf10 := hb.frozen 10
  have rf11 := hb.frozen 11
  have rf12 := hb.frozen 12
  clear hb
  go_wp2
  have hbF := (((((((((((((HBr.out.set_ 0 (.int .i64 d2.id)).set_ 1 (.slice d2.bk.A1 d2.bk.b.own.length d2.bk.c1)).set_ 2 (.slice d2.bk.A2 d2.bk.b.notes.length d2.bk.c2)).set_ 3 (.int .i64 d2.bk.b.locked)).set_ 4 (.int .i64 d2.st.x.way)).set_ 5 (.int .i64 d2.st.x.ver)).set_ 6 (.int .i64 d2.st.x.want)).set_ 7 (.slice d2.st.A1 d2.st.x.sent.length d2.st.c1)).set_ 8 (.slice d2.st.A2 d2.st.x.live.length d2.st.c2)).set_ 9 (.slice d2.st.A3 d2.st.x.back.length d2.st.c3)).set_ 10 (.slice d2.st.A4 d2.st.x.got.length d2.st.c4)).set_ 11 (.slice d2.pA d2.past.length d2.pc)).set_ 12 (.slice d2.kA d2.knows.length d2.kc))
  simp only [List.setIfInBounds_toArray, List.set_cons_zero, List.set_cons_succ] at hbF
  have s10 := hbF.cell 0
  have s11 := hbF.cell 1
  have s12 := hbF.cell 2
  have s13 := hbF.cell 3
  have s14 := hbF.cell 4
  have s15 := hbF.cell 5
  have s16 := hbF.cell 6
  have s17 := hbF.cell 7
  have s18 := hbF.cell 8
  have s19 := hbF.cell 9
  have s20 := hbF.cell 10
  have s21 := hbF.cell 11
  have s22 := hbF.cell 12
  simp at s10 s11 s12 s13 s14 s15 s16 s17 s18 s19 s20 s21 s22
  clear hbF
  have kS : Keeps (fun b => b = w.heap.size + 1) w3 (((((((((((((w3.setCell ⟨w.heap.size + 1, 0, none⟩ (.int .i64 d2.id)).setCell ⟨w.heap.size + 1, 1, none⟩ (.slice d2.bk.A1 d2.bk.b.own.length d2.bk.c1)).setCell ⟨w.heap.size + 1, 2, none⟩ (.slice d2.bk.A2 d2.bk.b.notes.length d2.bk.c2)).setCell ⟨w.heap.size + 1, 3, none⟩ (.int .i64 d2.bk.b.locked)).setCell ⟨w.heap.size + 1, 4, none⟩ (.int .i64 d2.st.x.way)).setCell ⟨w.heap.size + 1, 5, none⟩ (.int .i64 d2.st.x.ver)).setCell ⟨w.heap.size + 1, 6, none⟩ (.int .i64 d2.st.x.want)).setCell ⟨w.heap.size + 1, 7, none⟩ (.slice d2.st.A1 d2.st.x.sent.length d2.st.c1)).setCell ⟨w.heap.size + 1, 8, none⟩ (.slice d2.st.A2 d2.st.x.live.length d2.st.c2)).setCell ⟨w.heap.size + 1, 9, none⟩ (.slice d2.st.A3 d2.st.x.back.length d2.st.c3)).setCell ⟨w.heap.size + 1, 10, none⟩ (.slice d2.st.A4 d2.st.x.got.length d2.st.c4)).setCell ⟨w.heap.size + 1, 11, none⟩ (.slice d2.pA d2.past.length d2.pc)).setCell ⟨w.heap.size + 1, 12, none⟩ (.slice d2.kA d2.knows.length d2.kc)) := ((((((((((((((Keeps.refl (fun b => b = w.heap.size + 1) w3).setCell (p := ⟨w.heap.size + 1, 0, none⟩) (.inr rfl) (.int .i64 d2.id)).setCell (p := ⟨w.heap.size + 1, 1, none⟩) (.inr rfl) (.slice d2.bk.A1 d2.bk.b.own.length d2.bk.c1)).setCell (p := ⟨w.heap.size + 1, 2, none⟩) (.inr rfl) (.slice d2.bk.A2 d2.bk.b.notes.length d2.bk.c2)).setCell (p := ⟨w.heap.size + 1, 3, none⟩) (.inr rfl) (.int .i64 d2.bk.b.locked)).setCell (p := ⟨w.heap.size + 1, 4, none⟩) (.inr rfl) (.int .i64 d2.st.x.way)).setCell (p := ⟨w.heap.size + 1, 5, none⟩) (.inr rfl) (.int .i64 d2.st.x.ver)).setCell (p := ⟨w.heap.size + 1, 6, none⟩) (.inr rfl) (.int .i64 d2.st.x.want)).setCell (p := ⟨w.heap.size + 1, 7, none⟩) (.inr rfl) (.slice d2.st.A1 d2.st.x.sent.length d2.st.c1)).setCell (p := ⟨w.heap.size + 1, 8, none⟩) (.inr rfl) (.slice d2.st.A2 d2.st.x.live.length d2.st.c2)).setCell (p := ⟨w.heap.size + 1, 9, none⟩) (.inr rfl) (.slice d2.st.A3 d2.st.x.back.length d2.st.c3)).setCell (p := ⟨w.heap.size + 1, 10, none⟩) (.inr rfl) (.slice d2.st.A4 d2.st.x.got.length d2.st.c4)).setCell (p := ⟨w.heap.size + 1, 11, none⟩) (.inr rfl) (.slice d2.pA d2.past.length d2.pc)).setCell (p := ⟨w.heap.size + 1, 12, none⟩) (.inr rfl) (.slice d2.kA d2.knows.length d2.kc))
  generalize (((((((((((((w3.setCell ⟨w.heap.size + 1, 0, none⟩ (.int .i64 d2.id)).setCell ⟨w.heap.size + 1, 1, none⟩ (.slice d2.bk.A1 d2.bk.b.own.length d2.bk.c1)).setCell ⟨w.heap.size + 1, 2, none⟩ (.slice d2.bk.A2 d2.bk.b.notes.length d2.bk.c2)).setCell ⟨w.heap.size + 1, 3, none⟩ (.int .i64 d2.bk.b.locked)).setCell ⟨w.heap.size + 1, 4, none⟩ (.int .i64 d2.st.x.way)).setCell ⟨w.heap.size + 1, 5, none⟩ (.int .i64 d2.st.x.ver)).setCell ⟨w.heap.size + 1, 6, none⟩ (.int .i64 d2.st.x.want)).setCell ⟨w.heap.size + 1, 7, none⟩ (.slice d2.st.A1 d2.st.x.sent.length d2.st.c1)).setCell ⟨w.heap.size + 1, 8, none⟩ (.slice d2.st.A2 d2.st.x.live.length d2.st.c2)).setCell ⟨w.heap.size + 1, 9, none⟩ (.slice d2.st.A3 d2.st.x.back.length d2.st.c3)).setCell ⟨w.heap.size + 1, 10, none⟩ (.slice d2.st.A4 d2.st.x.got.length d2.st.c4)).setCell ⟨w.heap.size + 1, 11, none⟩ (.slice d2.pA d2.past.length d2.pc)).setCell ⟨w.heap.size + 1, 12, none⟩ (.slice d2.kA d2.knows.length d2.kc)) = WF at kS s10 s11 s12 s13 s14 s15 s16 s17 s18 s19 s20 s21 s22 ⊢
  refine bodyPost_ret (v := .tuple #[d2.val, .int .i64 (snN c (⟨(c.st.x.sent.length : Int) + 1, kd, f, t, m, u, c.st.x.ver⟩ : Pk)), .bool (snO c (⟨(c.st.x.sent.length : Int) + 1, kd, f, t, m, u, c.st.x.ver⟩ : Pk))]) (by simp [results, Tryd.results23, go_sem, ChM.val, s10, s11, s12, s13, s14, s15, s16, s17, s18, s19, s20, s21, s22]) rfl ?_
  have hfin := HCH2.out.keeps kS (fun b hb (h : b = w.heap.size + 1) => by
    subst h
    rcases hb with hb | hb
    · exact hb.ne0 HG2.out
    · rw [HG2.out] at hb
      cases hb)
  exact ⟨d2, rfl, HQ1.out, hfin.at_ HQ2.out.1 HQ2.out.2, HK.out.then kS fun i hi h => by omega⟩
end Go.Proofs.YtbgpclicflafaaaDoor
