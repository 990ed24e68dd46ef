/- spec.ChainBlock: one more height. -/
import Derived.Test.YtbgpclicflafaaaDoorCxW
import Derived.Test.YtbgpclicflafaaaDoorCxV
set_option linter.unusedVariables false
set_option linter.unusedSimpArgs false
namespace Go.Proofs.YtbgpclicflafaaaDoor
open Go.RowKit

/-- The call hands back (among f) a chain that can be read, and holds what c holds. -/
def RetR (f : Value → Value) (w : World) (c : ChM) (e : Ending) (w' : World) : Prop := ∃ d : ChM, e = .returned (f d.val) ∧ SameC c d ∧ ChAt w' d ∧ Keeps noBlk w w'
theorem SameS.snoc {ps qs : List StM} {s t : StM} (h : SameS ps qs) (hx : s.x = t.x) : SameS (ps ++ [s]) (qs ++ [t]) := by
  refine ⟨by rw [List.length_append, List.length_append, h.1]; rfl, fun i hi => ?_⟩
  rw [List.length_append, List.length_singleton] at hi
  rcases Nat.lt_or_ge i ps.length with hl | hl
  · rw [List.getD_eq_getElem?_getD, List.getD_eq_getElem?_getD, List.getElem?_append_left hl, List.getElem?_append_left (by rw [← h.1]; exact hl), ← List.getD_eq_getElem?_getD, ← List.getD_eq_getElem?_getD]
    exact h.2 i hl
  · obtain rfl : i = ps.length := by omega
    rw [List.getD_eq_getElem?_getD, List.getD_eq_getElem?_getD, List.getElem?_append_right (Nat.le_refl _), List.getElem?_append_right (by rw [← h.1]; exact Nat.le_refl _), h.1]
    simpa using hx
theorem rl0_ne {k : Nat} : rl 0 k ≠ 0 := by unfold rl; omega
theorem Mt.ne0 {G : Nat → Nat} {b : Nat} (h : Mt G 0 b) : G b ≠ 0 := by
  obtain ⟨k, _, hk⟩ := h
  rw [hk]
  exact rl0_ne
theorem fit_of {x : StL} (h : stB x = true) : StFit x := by
  have k := of_decide_eq_true h
  refine ⟨k.2.1.small, k.2.2.1.1, k.2.2.1.2.1, k.2.2.2.1, fun i hi => ?_⟩
  have pp := pkB_parts (k.2.1 i hi).1
  exact ⟨by simp only [kindB, Bool.and_eq_true, decide_eq_true_eq]; omega, by simp only [userB, Bool.and_eq_true, decide_eq_true_eq]; omega, by omega, by omega⟩
/-- A chain whose bank and states are ok, at most 90 heights, known heights from 1 on. -/
structure ChOk (c : ChM) : Prop where
  bank : okB c.bk.b = true
  st : stB c.st.x = true
  past : ∀ s ∈ c.past, stB s.x = true
  pl : c.past.length ≤ 90
  kn : ∀ v ∈ c.knows, 1 ≤ v
/-- What comes to a chain by what it knows of the other one. -/
theorem block_of {G : Nat → Nat} {w : World} {c d : ChM} (hch : ChR G 0 w d) (sm : SameC c d) (hb : ckB c = true) : Calls Tryd.prog 68 #[d.val] w (RetCh G 0 w (blockP d)) := by
  obtain ⟨_, _, ks, kn, _, _⟩ := of_decide_eq_true hb
  exact l12Block_any G 0 d w hch (fit_of (by rw [← sm.st]; exact ks)) (by rw [← sm.past.1]; omega)
theorem block_same {c d d2 : ChM} (sm : SameC c d) (hb : ckB c = true) (hp : blockP d d2) : SameC (blkC c) d2 ∧ d2.bk.b.own.length ≤ maxLen ∧ d2.bk.b.notes.length ≤ maxLen := by
  have hl := ok_len2 (of_decide_eq_true hb).2.1
  have hl2 : d.bk.b.own.length ≤ maxLen ∧ d.bk.b.notes.length ≤ maxLen := by rw [← sm.bk]; unfold maxLen; omega
  unfold blkC
  rw [if_pos hb]
  unfold blockP at hp
  rw [← sm.past.1] at hp
  by_cases hn : c.past.length < 90
  · rw [if_pos hn] at hp ⊢
    obtain ⟨s, A, k, hs, rfl⟩ := hp
    exact ⟨⟨sm.id, sm.bk, sm.st, sm.past.snoc (by rw [hs]; exact sm.st), sm.knows⟩, hl2⟩
  · rw [if_neg hn] at hp ⊢
    subst hp
    exact ⟨sm, hl2⟩
set_option maxRecDepth 100000 in
set_option maxHeartbeats 8000000 in
theorem specBlock_any (c : ChM) (w : World) (h : ChAt w c) (hL : c.bk.b.locked ≤ 9223372036854775807) : Calls Tryd.prog 19 #[c.val] w (RetR (fun v => v) w (blkC c)) := by
  have F := Lib.hid (fun W (hk : Keeps noBlk w W) => specChOk_any c W (h.kept hk) hL)
  have HBa := Lib.hid ((Box.new w _ rfl 40 #[.int .i64 c.id, .slice c.bk.A1 c.bk.b.own.length c.bk.c1, .slice c.bk.A2 c.bk.b.notes.length c.bk.c2, .int .i64 c.bk.b.locked, .int .i64 c.st.x.way, .int .i64 c.st.x.ver, .int .i64 c.st.x.want, .slice c.st.A1 c.st.x.sent.length c.st.c1, .slice c.st.A2 c.st.x.live.length c.st.c2, .slice c.st.A3 c.st.x.back.length c.st.c3, .slice c.st.A4 c.st.x.got.length c.st.c4, .slice c.pA c.past.length c.pc, .slice c.kA c.knows.length c.kc]).alloc (.cells #[.int .i64 0, .slice none 0 0, .slice none 0 0, .int .i64 0, .int .i64 0, .int .i64 0, .int .i64 0, .slice none 0 0, .slice none 0 0, .slice none 0 0, .slice none 0 0, .slice none 0 0, .slice none 0 0] 40))
  have HBr := Lib.hid (Box.new (w.alloc (.cells #[.int .i64 c.id, .slice c.bk.A1 c.bk.b.own.length c.bk.c1, .slice c.bk.A2 c.bk.b.notes.length c.bk.c2, .int .i64 c.bk.b.locked, .int .i64 c.st.x.way, .int .i64 c.st.x.ver, .int .i64 c.st.x.want, .slice c.st.A1 c.st.x.sent.length c.st.c1, .slice c.st.A2 c.st.x.live.length c.st.c2, .slice c.st.A3 c.st.x.back.length c.st.c3, .slice c.st.A4 c.st.x.got.length c.st.c4, .slice c.pA c.past.length c.pc, .slice c.kA c.knows.length c.kc] 40)) (w.heap.size + 1) (by simp) 40 #[.int .i64 0, .slice none 0 0, .slice none 0 0, .int .i64 0, .int .i64 0, .int .i64 0, .int .i64 0, .slice none 0 0, .slice none 0 0, .slice none 0 0, .slice none 0 0, .slice none 0 0, .slice none 0 0])
  have HK := Lib.hid (((Keeps.refl noBlk w).alloc (.cells #[.int .i64 c.id, .slice c.bk.A1 c.bk.b.own.length c.bk.c1, .slice c.bk.A2 c.bk.b.notes.length c.bk.c2, .int .i64 c.bk.b.locked, .int .i64 c.st.x.way, .int .i64 c.st.x.ver, .int .i64 c.st.x.want, .slice c.st.A1 c.st.x.sent.length c.st.c1, .slice c.st.A2 c.st.x.live.length c.st.c2, .slice c.st.A3 c.st.x.back.length c.st.c3, .slice c.st.A4 c.st.x.got.length c.st.c4, .slice c.pA c.past.length c.pc, .slice c.kA c.knows.length c.kc] 40)).alloc (.cells #[.int .i64 0, .slice none 0 0, .slice none 0 0, .int .i64 0, .int .i64 0, .int .i64 0, .int .i64 0, .slice none 0 0, .slice none 0 0, .slice none 0 0, .slice none 0 0, .slice none 0 0, .slice none 0 0] 40))
  rcases Bool.eq_false_or_eq_true (ckB c) with hb | hb
  case inr =>
    rw [hb] at F
    rw [show blkC c = ch0 by unfold blkC; rw [if_neg (by rw [hb]; decide)]]
    clear h hb hL
    unfold ChM.val
    unfold ChM.val at F
    go_enter Tryd.func19, Tryd.ntmps19
    go_wp2_with fail
    refine (F.out _ HK.out).mono ?_
    rintro e w1 ⟨rfl, hk1⟩
    have ha := HBa.out.keeps hk1 (fun h => h)
    clear HBa
    have HBa := Lib.hid ha
    clear ha
    have hr := HBr.out.keeps hk1 (fun h => h)
    clear HBr
    have HBr := Lib.hid hr
    clear hr
    have hr := HK.out.trans hk1
    clear HK
    have HK := Lib.hid hr
    clear hr
    have sz1 := hk1.size
    (try simp at sz1)
    clear hk1
    have hb := HBr.out
    have r0 := hb.cell 0
    have r1 := hb.cell 1
    have r2 := hb.cell 2
    have r3 := hb.cell 3
    have r4 := hb.cell 4
    have r5 := hb.cell 5
    have r6 := hb.cell 6
    have r7 := hb.cell 7
    have r8 := hb.cell 8
    have r9 := hb.cell 9
    have r10 := hb.cell 10
    have r11 := hb.cell 11
    have r12 := hb.cell 12
    simp at r0 r1 r2 r3 r4 r5 r6 r7 r8 r9 r10 r11 r12
    have zr := hb.lt
    clear hb
    have hb := HBr.out
    have rf0 := hb.frozen 0
    have rf1 := hb.frozen 1
    have rf2 := hb.frozen 2
    have rf3 := hb.frozen 3
    have rf4 := hb.frozen 4
    have rf5 := hb.frozen 5
    have rf6 := hb.frozen 6
    have rf7 := hb.frozen 7
    have rf8 := hb.frozen 8
    have rf9 := hb.frozen 9
    have rf10 := hb.frozen 10
    have rf11 := hb.frozen 11
    have rf12 := hb.frozen 12
    clear hb
    go_wp2
    have hbF := (((((((((((((HBr.out.set_ 0 (.int .i64 0)).set_ 1 (.slice none 0 0)).set_ 2 (.slice none 0 0)).set_ 3 (.int .i64 0)).set_ 4 (.int .i64 0)).set_ 5 (.int .i64 0)).set_ 6 (.int .i64 0)).set_ 7 (.slice none 0 0)).set_ 8 (.slice none 0 0)).set_ 9 (.slice none 0 0)).set_ 10 (.slice none 0 0)).set_ 11 (.slice none 0 0)).set_ 12 (.slice none 0 0))
    simp only [List.setIfInBounds_toArray, List.set_cons_zero, List.set_cons_succ] at hbF
    have s10 := hbF.cell 0
    have s11 := hbF.cell 1
    have s12 := hbF.cell 2
    have s13 := hbF.cell 3
    have s14 := hbF.cell 4
    have s15 := hbF.cell 5
    have s16 := hbF.cell 6
    have s17 := hbF.cell 7
    have s18 := hbF.cell 8
    have s19 := hbF.cell 9
    have s20 := hbF.cell 10
    have s21 := hbF.cell 11
    have s22 := hbF.cell 12
    simp at s10 s11 s12 s13 s14 s15 s16 s17 s18 s19 s20 s21 s22
    clear hbF
    have kS : Keeps (fun b => b = w.heap.size + 1) w1 (((((((((((((w1.setCell ⟨w.heap.size + 1, 0, none⟩ (.int .i64 0)).setCell ⟨w.heap.size + 1, 1, none⟩ (.slice none 0 0)).setCell ⟨w.heap.size + 1, 2, none⟩ (.slice none 0 0)).setCell ⟨w.heap.size + 1, 3, none⟩ (.int .i64 0)).setCell ⟨w.heap.size + 1, 4, none⟩ (.int .i64 0)).setCell ⟨w.heap.size + 1, 5, none⟩ (.int .i64 0)).setCell ⟨w.heap.size + 1, 6, none⟩ (.int .i64 0)).setCell ⟨w.heap.size + 1, 7, none⟩ (.slice none 0 0)).setCell ⟨w.heap.size + 1, 8, none⟩ (.slice none 0 0)).setCell ⟨w.heap.size + 1, 9, none⟩ (.slice none 0 0)).setCell ⟨w.heap.size + 1, 10, none⟩ (.slice none 0 0)).setCell ⟨w.heap.size + 1, 11, none⟩ (.slice none 0 0)).setCell ⟨w.heap.size + 1, 12, none⟩ (.slice none 0 0)) := ((((((((((((((Keeps.refl (fun b => b = w.heap.size + 1) w1).setCell (p := ⟨w.heap.size + 1, 0, none⟩) (.inr rfl) (.int .i64 0)).setCell (p := ⟨w.heap.size + 1, 1, none⟩) (.inr rfl) (.slice none 0 0)).setCell (p := ⟨w.heap.size + 1, 2, none⟩) (.inr rfl) (.slice none 0 0)).setCell (p := ⟨w.heap.size + 1, 3, none⟩) (.inr rfl) (.int .i64 0)).setCell (p := ⟨w.heap.size + 1, 4, none⟩) (.inr rfl) (.int .i64 0)).setCell (p := ⟨w.heap.size + 1, 5, none⟩) (.inr rfl) (.int .i64 0)).setCell (p := ⟨w.heap.size + 1, 6, none⟩) (.inr rfl) (.int .i64 0)).setCell (p := ⟨w.heap.size + 1, 7, none⟩) (.inr rfl) (.slice none 0 0)).setCell (p := ⟨w.heap.size + 1, 8, none⟩) (.inr rfl) (.slice none 0 0)).setCell (p := ⟨w.heap.size + 1, 9, none⟩) (.inr rfl) (.slice none 0 0)).setCell (p := ⟨w.heap.size + 1, 10, none⟩) (.inr rfl) (.slice none 0 0)).setCell (p := ⟨w.heap.size + 1, 11, none⟩) (.inr rfl) (.slice none 0 0)).setCell (p := ⟨w.heap.size + 1, 12, none⟩) (.inr rfl) (.slice none 0 0))
    generalize (((((((((((((w1.setCell ⟨w.heap.size + 1, 0, none⟩ (.int .i64 0)).setCell ⟨w.heap.size + 1, 1, none⟩ (.slice none 0 0)).setCell ⟨w.heap.size + 1, 2, none⟩ (.slice none 0 0)).setCell ⟨w.heap.size + 1, 3, none⟩ (.int .i64 0)).setCell ⟨w.heap.size + 1, 4, none⟩ (.int .i64 0)).setCell ⟨w.heap.size + 1, 5, none⟩ (.int .i64 0)).setCell ⟨w.heap.size + 1, 6, none⟩ (.int .i64 0)).setCell ⟨w.heap.size + 1, 7, none⟩ (.slice none 0 0)).setCell ⟨w.heap.size + 1, 8, none⟩ (.slice none 0 0)).setCell ⟨w.heap.size + 1, 9, none⟩ (.slice none 0 0)).setCell ⟨w.heap.size + 1, 10, none⟩ (.slice none 0 0)).setCell ⟨w.heap.size + 1, 11, none⟩ (.slice none 0 0)).setCell ⟨w.heap.size + 1, 12, none⟩ (.slice none 0 0)) = WF at kS s10 s11 s12 s13 s14 s15 s16 s17 s18 s19 s20 s21 s22 ⊢
    refine bodyPost_ret (v := ch0.val) (by simp [results, Tryd.results19, go_sem, ch0, bk0, stm0, ChM.val, s10, s11, s12, s13, s14, s15, s16, s17, s18, s19, s20, s21, s22]) rfl ?_
    exact ⟨ch0, rfl, SameC.refl _, (ch0_own _ 0).at_, HK.out.then kS fun i hi h => by omega⟩
  have FC := Lib.hid (fun W (hk : Keeps noBlk w W) => l12Copy_any c W (h.kept hk) hb)
  rw [hb] at F
  have HB := Lib.hid hb
  clear h hb hL
  unfold ChM.val
  unfold ChM.val at F FC
  go_enter Tryd.func19, Tryd.ntmps19
  go_wp2_with fail
  refine (F.out _ HK.out).mono ?_
  rintro e w1 ⟨rfl, hk1⟩
  have ha := HBa.out.keeps hk1 (fun h => h)
  clear HBa
  have HBa := Lib.hid ha
  clear ha
  have hr := HBr.out.keeps hk1 (fun h => h)
  clear HBr
  have HBr := Lib.hid hr
  clear hr
  have hr := HK.out.trans hk1
  clear HK
  have HK := Lib.hid hr
  clear hr
  have sz1 := hk1.size
  (try simp at sz1)
  clear hk1
  have hb := HBa.out
  have a0 := hb.cell 0
  have a1 := hb.cell 1
  have a2 := hb.cell 2
  have a3 := hb.cell 3
  have a4 := hb.cell 4
  have a5 := hb.cell 5
  have a6 := hb.cell 6
  have a7 := hb.cell 7
  have a8 := hb.cell 8
  have a9 := hb.cell 9
  have a10 := hb.cell 10
  have a11 := hb.cell 11
  have a12 := hb.cell 12
  simp at a0 a1 a2 a3 a4 a5 a6 a7 a8 a9 a10 a11 a12
  have za := hb.lt
  clear hb
  go_wp2_with fail
  refine (FC.out _ HK.out).mono ?_
  rintro e w2 ⟨d, rfl, sm, hk2, G, hG, hch⟩
  dsimp only [ChM.val]
  have SM := Lib.hid sm
  have HG := Lib.hid hG
  have FB := Lib.hid (block_of hch sm HB.out)
  have HCH := Lib.hid hch
  clear sm hG hch
  clear a0 a1 a2 a3 a4 a5 a6 a7 a8 a9 a10 a11 a12 za
  have ha := HBa.out.keeps hk2 (fun h => h)
  clear HBa
  have HBa := Lib.hid ha
  clear ha
  have hr := HBr.out.keeps hk2 (fun h => h)
  clear HBr
  have HBr := Lib.hid hr
  clear hr
  have hr := HK.out.trans hk2
  clear HK
  have HK := Lib.hid hr
  clear hr
  have sz2 := hk2.size
  (try simp at sz2)
  clear hk2
  unfold ChM.val at FB
  go_wp2_with fail
  refine FB.out.mono ?_
  rintro e w3 ⟨G2, d2, rfl, hp, hag, hch2, hk3⟩
  dsimp only [ChM.val]
  have hgr : G (w.heap.size + 1) = 0 := HG.out _ (by have := sz1; (try simp at this); omega)
  have hb := HBr.out.keeps hk3 (fun h => h.ne0 hgr)
  clear HBr
  have HBr := Lib.hid hb
  clear hb
  have hq := HK.out.then hk3 fun i hi h => h.ne0 (HG.out i (by have := sz1; (try simp at this); omega))
  clear HK
  have HK := Lib.hid hq
  clear hq
  have HG2 : Hid (G2 (w.heap.size + 1) = 0) := Lib.hid (by rw [hag _ (by have := sz1; have := sz2; (try simp at this); omega)]; exact hgr)
  have HCH2 := Lib.hid hch2
  have HP := Lib.hid hp
  clear hp hag hch2 hk3 hgr HCH FB
  have hb := HBr.out
  have r0 := hb.cell 0
  have r1 := hb.cell 1
  have r2 := hb.cell 2
  have r3 := hb.cell 3
  have r4 := hb.cell 4
  have r5 := hb.cell 5
  have r6 := hb.cell 6
  have r7 := hb.cell 7
  have r8 := hb.cell 8
  have r9 := hb.cell 9
  have r10 := hb.cell 10
  have r11 := hb.cell 11
  have r12 := hb.cell 12
  simp at r0 r1 r2 r3 r4 r5 r6 r7 r8 r9 r10 r11 r12
  have zr := hb.lt
  clear hb
  have hb := HBr.out
  have rf0 := hb.frozen 0
  have rf1 := hb.frozen 1
  have rf2 := hb.frozen 2
  have rf3 := hb.frozen 3
  have rf4 := hb.frozen 4
  have rf5 := hb.frozen 5
  have rf6 := hb.frozen 6
  have rf7 := hb.frozen 7
  have rf8 := hb.frozen 8
  have rf9 := hb.frozen 9
  have rf10 := hb.frozen 10
  have rf11 := hb.frozen 11
  have rf12 := hb.frozen 12
  clear hb
  go_wp2
  have hbF := (((((((((((((HBr.out.set_ 0 (.int .i64 d2.id)).set_ 1 (.slice d2.bk.A1 d2.bk.b.own.length d2.bk.c1)).set_ 2 (.slice d2.bk.A2 d2.bk.b.notes.length d2.bk.c2)).set_ 3 (.int .i64 d2.bk.b.locked)).set_ 4 (.int .i64 d2.st.x.way)).set_ 5 (.int .i64 d2.st.x.ver)).set_ 6 (.int .i64 d2.st.x.want)).set_ 7 (.slice d2.st.A1 d2.st.x.sent.length d2.st.c1)).set_ 8 (.slice d2.st.A2 d2.st.x.live.length d2.st.c2)).set_ 9 (.slice d2.st.A3 d2.st.x.back.length d2.st.c3)).set_ 10 (.slice d2.st.A4 d2.st.x.got.length d2.st.c4)).set_ 11 (.slice d2.pA d2.past.length d2.pc)).set_ 12 (.slice d2.kA d2.knows.length d2.kc))
  simp only [List.setIfInBounds_toArray, List.set_cons_zero, List.set_cons_succ] at hbF
  have s10 := hbF.cell 0
  have s11 := hbF.cell 1
  have s12 := hbF.cell 2
  have s13 := hbF.cell 3
  have s14 := hbF.cell 4
  have s15 := hbF.cell 5
  have s16 := hbF.cell 6
  have s17 := hbF.cell 7
  have s18 := hbF.cell 8
  have s19 := hbF.cell 9
  have s20 := hbF.cell 10
  have s21 := hbF.cell 11
  have s22 := hbF.cell 12
  simp at s10 s11 s12 s13 s14 s15 s16 s17 s18 s19 s20 s21 s22
  clear hbF
  have kS : Keeps (fun b => b = w.heap.size + 1) w3 (((((((((((((w3.setCell ⟨w.heap.size + 1, 0, none⟩ (.int .i64 d2.id)).setCell ⟨w.heap.size + 1, 1, none⟩ (.slice d2.bk.A1 d2.bk.b.own.length d2.bk.c1)).setCell ⟨w.heap.size + 1, 2, none⟩ (.slice d2.bk.A2 d2.bk.b.notes.length d2.bk.c2)).setCell ⟨w.heap.size + 1, 3, none⟩ (.int .i64 d2.bk.b.locked)).setCell ⟨w.heap.size + 1, 4, none⟩ (.int .i64 d2.st.x.way)).setCell ⟨w.heap.size + 1, 5, none⟩ (.int .i64 d2.st.x.ver)).setCell ⟨w.heap.size + 1, 6, none⟩ (.int .i64 d2.st.x.want)).setCell ⟨w.heap.size + 1, 7, none⟩ (.slice d2.st.A1 d2.st.x.sent.length d2.st.c1)).setCell ⟨w.heap.size + 1, 8, none⟩ (.slice d2.st.A2 d2.st.x.live.length d2.st.c2)).setCell ⟨w.heap.size + 1, 9, none⟩ (.slice d2.st.A3 d2.st.x.back.length d2.st.c3)).setCell ⟨w.heap.size + 1, 10, none⟩ (.slice d2.st.A4 d2.st.x.got.length d2.st.c4)).setCell ⟨w.heap.size + 1, 11, none⟩ (.slice d2.pA d2.past.length d2.pc)).setCell ⟨w.heap.size + 1, 12, none⟩ (.slice d2.kA d2.knows.length d2.kc)) := ((((((((((((((Keeps.refl (fun b => b = w.heap.size + 1) w3).setCell (p := ⟨w.heap.size + 1, 0, none⟩) (.inr rfl) (.int .i64 d2.id)).setCell (p := ⟨w.heap.size + 1, 1, none⟩) (.inr rfl) (.slice d2.bk.A1 d2.bk.b.own.length d2.bk.c1)).setCell (p := ⟨w.heap.size + 1, 2, none⟩) (.inr rfl) (.slice d2.bk.A2 d2.bk.b.notes.length d2.bk.c2)).setCell (p := ⟨w.heap.size + 1, 3, none⟩) (.inr rfl) (.int .i64 d2.bk.b.locked)).setCell (p := ⟨w.heap.size + 1, 4, none⟩) (.inr rfl) (.int .i64 d2.st.x.way)).setCell (p := ⟨w.heap.size + 1, 5, none⟩) (.inr rfl) (.int .i64 d2.st.x.ver)).setCell (p := ⟨w.heap.size + 1, 6, none⟩) (.inr rfl) (.int .i64 d2.st.x.want)).setCell (p := ⟨w.heap.size + 1, 7, none⟩) (.inr rfl) (.slice d2.st.A1 d2.st.x.sent.length d2.st.c1)).setCell (p := ⟨w.heap.size + 1, 8, none⟩) (.inr rfl) (.slice d2.st.A2 d2.st.x.live.length d2.st.c2)).setCell (p := ⟨w.heap.size + 1, 9, none⟩) (.inr rfl) (.slice d2.st.A3 d2.st.x.back.length d2.st.c3)).setCell (p := ⟨w.heap.size + 1, 10, none⟩) (.inr rfl) (.slice d2.st.A4 d2.st.x.got.length d2.st.c4)).setCell (p := ⟨w.heap.size + 1, 11, none⟩) (.inr rfl) (.slice d2.pA d2.past.length d2.pc)).setCell (p := ⟨w.heap.size + 1, 12, none⟩) (.inr rfl) (.slice d2.kA d2.knows.length d2.kc))
  generalize (((((((((((((w3.setCell ⟨w.heap.size + 1, 0, none⟩ (.int .i64 d2.id)).setCell ⟨w.heap.size + 1, 1, none⟩ (.slice d2.bk.A1 d2.bk.b.own.length d2.bk.c1)).setCell ⟨w.heap.size + 1, 2, none⟩ (.slice d2.bk.A2 d2.bk.b.notes.length d2.bk.c2)).setCell ⟨w.heap.size + 1, 3, none⟩ (.int .i64 d2.bk.b.locked)).setCell ⟨w.heap.size + 1, 4, none⟩ (.int .i64 d2.st.x.way)).setCell ⟨w.heap.size + 1, 5, none⟩ (.int .i64 d2.st.x.ver)).setCell ⟨w.heap.size + 1, 6, none⟩ (.int .i64 d2.st.x.want)).setCell ⟨w.heap.size + 1, 7, none⟩ (.slice d2.st.A1 d2.st.x.sent.length d2.st.c1)).setCell ⟨w.heap.size + 1, 8, none⟩ (.slice d2.st.A2 d2.st.x.live.length d2.st.c2)).setCell ⟨w.heap.size + 1, 9, none⟩ (.slice d2.st.A3 d2.st.x.back.length d2.st.c3)).setCell ⟨w.heap.size + 1, 10, none⟩ (.slice d2.st.A4 d2.st.x.got.length d2.st.c4)).setCell ⟨w.heap.size + 1, 11, none⟩ (.slice d2.pA d2.past.length d2.pc)).setCell ⟨w.heap.size + 1, 12, none⟩ (.slice d2.kA d2.knows.length d2.kc)) = WF at kS s10 s11 s12 s13 s14 s15 s16 s17 s18 s19 s20 s21 s22 ⊢
  refine bodyPost_ret (v := d2.val) (by simp [results, Tryd.results19, go_sem, ChM.val, s10, s11, s12, s13, s14, s15, s16, s17, s18, s19, s20, s21, s22]) rfl ?_
  have hfin := HCH2.out.keeps kS (fun b hb (h : b = w.heap.size + 1) => by
    subst h
    rcases hb with hb | hb
    · exact hb.ne0 HG2.out
    · rw [HG2.out] at hb
      cases hb)
  obtain ⟨q1, q2⟩ := block_same SM.out HB.out HP.out
  exact ⟨d2, rfl, q1, hfin.at_ q2.1 q2.2, HK.out.then kS fun i hi h => by omega⟩

theorem getD_snoc (l : List StM) (s : StM) (i : Nat) (hi : i < l.length + 1) : (l ++ [s]).getD i stm0 = if i < l.length then l.getD i stm0 else s := by
  rcases Nat.lt_or_ge i l.length with hl | hl
  · rw [if_pos hl, List.getD_eq_getElem?_getD, List.getElem?_append_left hl, ← List.getD_eq_getElem?_getD]
  · obtain rfl : i = l.length := by omega
    rw [if_neg (Nat.lt_irrefl _), List.getD_eq_getElem?_getD, List.getElem?_append_right (Nat.le_refl _)]
    simp
theorem blk_ok {c : ChM} (hb : ckB c = true) : ckB (blkC c) = true := by
  unfold blkC
  rw [if_pos hb]
  by_cases hn : c.past.length < 90
  · rw [if_pos hn]
    obtain ⟨k0, k1, k2, k3, k4, k5⟩ := of_decide_eq_true hb
    refine decide_eq_true ⟨k0, k1, k2, by dsimp only; rw [List.length_append, List.length_singleton]; omega, fun i hi => ?_, k5⟩
    dsimp only at hi ⊢
    rw [List.length_append, List.length_singleton] at hi
    rw [getD_snoc _ _ _ hi]
    split
    · exact k4 i (by assumption)
    · exact k2
  · rw [if_neg hn]
    exact hb
theorem paN_ok (l : List StM) (h : PaOk l) (i : Nat) (hi : i ≤ l.length) : paN l i ≤ 83 * i := by
  induction i with
  | zero => simp [paN]
  | succ i ih =>
    have h1 := ih (by omega)
    have h2 := stB_len (h i (by omega))
    simp only [paN]
    unfold stNi
    omega
theorem chN_ok {c : ChM} (hb : ckB c = true) : chN c ≤ 100000 := by
  obtain ⟨k0, k1, k2, k3, k4, k5⟩ := of_decide_eq_true hb
  have e1 := ok_len2 k1
  have e2 := stB_len k2
  have e3 := kn_len k5
  have e4 := paN_ok c.past k4 c.past.length (Nat.le_refl _)
  unfold chN stN
  omega
theorem blk_chN (c : ChM) : chN (blkC c) ≤ 100000 := by
  rcases Bool.eq_false_or_eq_true (ckB c) with hb | hb
  · exact chN_ok (blk_ok hb)
  · rw [show blkC c = ch0 by unfold blkC; rw [if_neg (by rw [hb]; decide)]]
    decide
theorem blk_same {c d : ChM} (h : SameC c d) : SameC (blkC c) (blkC d) := by
  unfold blkC
  rw [ckB_same h, ← h.past.1]
  split
  · split
    · exact ⟨h.id, h.bk, h.st, h.past.snoc h.st, h.knows⟩
    · exact h
  · exact SameC.refl _
theorem ChAt.lt {w : World} {c : ChM} (h : ChAt w c) {b : Nat} (hb : chBlk c b) : b < w.heap.size := by
  rcases hb with hb | hb | hb | (hb | ⟨i, hi, hb⟩) | hb
  · exact h.own.lt hb
  · exact h.notes.lt hb
  · exact StAt.lt h.st hb
  · exact h.row.lt hb
  · exact StAt.lt (h.past _ (getD_mem' stm0 hi)) hb
  · exact h.knows.lt hb
end Go.Proofs.YtbgpclicflafaaaDoor
