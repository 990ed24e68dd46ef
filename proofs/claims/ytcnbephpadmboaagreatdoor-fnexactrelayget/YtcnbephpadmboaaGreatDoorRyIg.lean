/- impl.RelayGet. -/
import Derived.Test.YtcnbephpadmboaaGreatDoorURyF
import Derived.Test.YtcnbephpadmboaaGreatDoorRyE
set_option linter.unusedVariables false
set_option linter.unusedSimpArgs false
namespace Go.Proofs.YtcnbephpadmboaaGreatDoor
open Go.RowKit
theorem pkd_kind {k : Int} (h : kindB k = true) : kindB (pkd k) = true := by
  unfold pkd
  split <;> rfl
theorem pkd_pay {p : Pk} (h : kindB p.k = true) : pkd p.k = payK p := by
  unfold kindB at h
  simp only [Bool.and_eq_true, decide_eq_true_eq] at h
  unfold pkd payK
  by_cases h1 : p.k = 1
  · rw [if_pos h1, if_neg (by omega)]
  · rw [if_neg h1, if_pos (by omega)]
theorem pk_parts {p : Pk} (h : p.ok = true) : kindB p.k = true ∧ (p.t = 0 ∨ userB p.t = true) ∧ 0 ≤ p.m ∧ 1 ≤ p.s ∧ p.s ≤ 8 ∧ M64 p.t := by
  have pp := pkB_parts (show pkB p.s p.k p.f p.t p.m p.u p.v = true from h)
  refine ⟨?_, ?_, by omega, by omega, by omega, by omega, by omega⟩
  · simp only [kindB, Bool.and_eq_true, decide_eq_true_eq]; omega
  · by_cases h0 : p.t = 0
    · exact .inl h0
    · right
      simp only [userB, Bool.and_eq_true, decide_eq_true_eq]; omega
theorem short_get_pay {b : BankL} {p : Pk} (hq : okB b = true) : (payB b p).own.length ≤ 1000 ∧ (payB b p).notes.length ≤ 1000 := by
  have h1 := ok_len2 hq
  have h2 := turnB_len (k := payK p) (f := p.t) (s := p.m) hq
  unfold payB
  split
  · exact h1
  · omega
theorem get_pay {b : BankL} {p : Pk} (hq : okB b = true) (h : p.ok = true) : refB b (pkd p.k) p.t p.m = payB b p ∧ (if backOk b (pkd p.k) p.t p.m = true then 1 else 2) = payN b p := by
  obtain ⟨h1, h2, h3, _⟩ := pk_parts h
  have e := pkd_pay h1
  have hk := pkd_kind h1
  rcases h2 with h0 | hu
  · have hb : backOk b (pkd p.k) p.t p.m = false := by
      unfold backOk
      rw [show userB p.t = false by rw [h0]; rfl]
      simp
    refine ⟨?_, ?_⟩
    · unfold refB payB
      rw [hb, if_neg (by decide), if_pos h0]
    · unfold payN payOk
      rw [hb, h0]
      rfl
  · have h0 : p.t ≠ 0 := by
      intro h0
      rw [h0] at hu
      exact absurd hu (by decide)
    refine ⟨?_, ?_⟩
    · unfold payB
      rw [refB_turn hq hk hu h3, if_neg h0, e]
    · unfold payN payOk backOk
      rw [hq, hk, hu, e]
      simp [h3, h0]

set_option maxRecDepth 100000 in
set_option maxHeartbeats 8000000 in
theorem implRGet_bad (c : ChM) (y : StM) (p : Pk) (w : World) (h : ChAt w c) (hy : y.At w) (ht : Tabs w) (hb : (ckB c && stB y.x) = false) :
    Calls Tryz.prog 13 #[c.val, y.val, p.val] w (RetC (fun v => .tuple #[v, .bool false]) w ch0) := by
  have F := Lib.hid (fun W (hk : Keeps noBlk w W) => shown_any_no c y W (h.kept hk) (hy.kept hk) (ht.keeps hk) hb)
  clear h hy ht hb
  unfold ChM.val StM.val Pk.val
  unfold ChM.val StM.val at F
  have HBa := Lib.hid (((((Box.new w (w.heap.size) (by simp) 42 #[.int .i64 c.id, .slice c.bk.A1 c.bk.b.own.length c.bk.c1, .slice c.bk.A2 c.bk.b.notes.length c.bk.c2, .int .i64 c.bk.b.locked, .int .i64 c.st.x.way, .int .i64 c.st.x.ver, .int .i64 c.st.x.want, .slice c.st.A1 c.st.x.sent.length c.st.c1, .slice c.st.A2 c.st.x.live.length c.st.c2, .slice c.st.A3 c.st.x.back.length c.st.c3, .slice c.st.A4 c.st.x.got.length c.st.c4, .slice c.pA c.past.length c.pc, .slice c.kA c.knows.length c.kc]).alloc (.cells #[.int .i64 y.x.way, .int .i64 y.x.ver, .int .i64 y.x.want, .slice y.A1 y.x.sent.length y.c1, .slice y.A2 y.x.live.length y.c2, .slice y.A3 y.x.back.length y.c3, .slice y.A4 y.x.got.length y.c4] 39)).alloc (.cells #[.int .i64 p.s, .int .i64 p.k, .int .i64 p.f, .int .i64 p.t, .int .i64 p.m, .int .i64 p.u, .int .i64 p.v] 47)).alloc (.cells #[.int .i64 0, .slice none 0 0, .slice none 0 0, .int .i64 0, .int .i64 0, .int .i64 0, .int .i64 0, .slice none 0 0, .slice none 0 0, .slice none 0 0, .slice none 0 0, .slice none 0 0, .slice none 0 0] 42)).alloc (.cells #[.int .i64 y.x.way, .int .i64 y.x.ver, .int .i64 y.x.want, .slice y.A1 y.x.sent.length y.c1, .slice y.A2 y.x.live.length y.c2, .slice y.A3 y.x.back.length y.c3, .slice y.A4 y.x.got.length y.c4] 75))
  have HBb := Lib.hid ((((Box.new (w.alloc (.cells #[.int .i64 c.id, .slice c.bk.A1 c.bk.b.own.length c.bk.c1, .slice c.bk.A2 c.bk.b.notes.length c.bk.c2, .int .i64 c.bk.b.locked, .int .i64 c.st.x.way, .int .i64 c.st.x.ver, .int .i64 c.st.x.want, .slice c.st.A1 c.st.x.sent.length c.st.c1, .slice c.st.A2 c.st.x.live.length c.st.c2, .slice c.st.A3 c.st.x.back.length c.st.c3, .slice c.st.A4 c.st.x.got.length c.st.c4, .slice c.pA c.past.length c.pc, .slice c.kA c.knows.length c.kc] 42)) (w.heap.size + 1) (by simp) 39 #[.int .i64 y.x.way, .int .i64 y.x.ver, .int .i64 y.x.want, .slice y.A1 y.x.sent.length y.c1, .slice y.A2 y.x.live.length y.c2, .slice y.A3 y.x.back.length y.c3, .slice y.A4 y.x.got.length y.c4]).alloc (.cells #[.int .i64 p.s, .int .i64 p.k, .int .i64 p.f, .int .i64 p.t, .int .i64 p.m, .int .i64 p.u, .int .i64 p.v] 47)).alloc (.cells #[.int .i64 0, .slice none 0 0, .slice none 0 0, .int .i64 0, .int .i64 0, .int .i64 0, .int .i64 0, .slice none 0 0, .slice none 0 0, .slice none 0 0, .slice none 0 0, .slice none 0 0, .slice none 0 0] 42)).alloc (.cells #[.int .i64 y.x.way, .int .i64 y.x.ver, .int .i64 y.x.want, .slice y.A1 y.x.sent.length y.c1, .slice y.A2 y.x.live.length y.c2, .slice y.A3 y.x.back.length y.c3, .slice y.A4 y.x.got.length y.c4] 75))
  have HBp := Lib.hid (((Box.new ((w.alloc (.cells #[.int .i64 c.id, .slice c.bk.A1 c.bk.b.own.length c.bk.c1, .slice c.bk.A2 c.bk.b.notes.length c.bk.c2, .int .i64 c.bk.b.locked, .int .i64 c.st.x.way, .int .i64 c.st.x.ver, .int .i64 c.st.x.want, .slice c.st.A1 c.st.x.sent.length c.st.c1, .slice c.st.A2 c.st.x.live.length c.st.c2, .slice c.st.A3 c.st.x.back.length c.st.c3, .slice c.st.A4 c.st.x.got.length c.st.c4, .slice c.pA c.past.length c.pc, .slice c.kA c.knows.length c.kc] 42)).alloc (.cells #[.int .i64 y.x.way, .int .i64 y.x.ver, .int .i64 y.x.want, .slice y.A1 y.x.sent.length y.c1, .slice y.A2 y.x.live.length y.c2, .slice y.A3 y.x.back.length y.c3, .slice y.A4 y.x.got.length y.c4] 39)) (w.heap.size + 1 + 1) (by simp) 47 #[.int .i64 p.s, .int .i64 p.k, .int .i64 p.f, .int .i64 p.t, .int .i64 p.m, .int .i64 p.u, .int .i64 p.v]).alloc (.cells #[.int .i64 0, .slice none 0 0, .slice none 0 0, .int .i64 0, .int .i64 0, .int .i64 0, .int .i64 0, .slice none 0 0, .slice none 0 0, .slice none 0 0, .slice none 0 0, .slice none 0 0, .slice none 0 0] 42)).alloc (.cells #[.int .i64 y.x.way, .int .i64 y.x.ver, .int .i64 y.x.want, .slice y.A1 y.x.sent.length y.c1, .slice y.A2 y.x.live.length y.c2, .slice y.A3 y.x.back.length y.c3, .slice y.A4 y.x.got.length y.c4] 75))
  have HBr := Lib.hid ((Box.new (((w.alloc (.cells #[.int .i64 c.id, .slice c.bk.A1 c.bk.b.own.length c.bk.c1, .slice c.bk.A2 c.bk.b.notes.length c.bk.c2, .int .i64 c.bk.b.locked, .int .i64 c.st.x.way, .int .i64 c.st.x.ver, .int .i64 c.st.x.want, .slice c.st.A1 c.st.x.sent.length c.st.c1, .slice c.st.A2 c.st.x.live.length c.st.c2, .slice c.st.A3 c.st.x.back.length c.st.c3, .slice c.st.A4 c.st.x.got.length c.st.c4, .slice c.pA c.past.length c.pc, .slice c.kA c.knows.length c.kc] 42)).alloc (.cells #[.int .i64 y.x.way, .int .i64 y.x.ver, .int .i64 y.x.want, .slice y.A1 y.x.sent.length y.c1, .slice y.A2 y.x.live.length y.c2, .slice y.A3 y.x.back.length y.c3, .slice y.A4 y.x.got.length y.c4] 39)).alloc (.cells #[.int .i64 p.s, .int .i64 p.k, .int .i64 p.f, .int .i64 p.t, .int .i64 p.m, .int .i64 p.u, .int .i64 p.v] 47)) (w.heap.size + 1 + 1 + 1) (by simp) 42 #[.int .i64 0, .slice none 0 0, .slice none 0 0, .int .i64 0, .int .i64 0, .int .i64 0, .int .i64 0, .slice none 0 0, .slice none 0 0, .slice none 0 0, .slice none 0 0, .slice none 0 0, .slice none 0 0]).alloc (.cells #[.int .i64 y.x.way, .int .i64 y.x.ver, .int .i64 y.x.want, .slice y.A1 y.x.sent.length y.c1, .slice y.A2 y.x.live.length y.c2, .slice y.A3 y.x.back.length y.c3, .slice y.A4 y.x.got.length y.c4] 75))
  have HBq := Lib.hid (Box.new ((((w.alloc (.cells #[.int .i64 c.id, .slice c.bk.A1 c.bk.b.own.length c.bk.c1, .slice c.bk.A2 c.bk.b.notes.length c.bk.c2, .int .i64 c.bk.b.locked, .int .i64 c.st.x.way, .int .i64 c.st.x.ver, .int .i64 c.st.x.want, .slice c.st.A1 c.st.x.sent.length c.st.c1, .slice c.st.A2 c.st.x.live.length c.st.c2, .slice c.st.A3 c.st.x.back.length c.st.c3, .slice c.st.A4 c.st.x.got.length c.st.c4, .slice c.pA c.past.length c.pc, .slice c.kA c.knows.length c.kc] 42)).alloc (.cells #[.int .i64 y.x.way, .int .i64 y.x.ver, .int .i64 y.x.want, .slice y.A1 y.x.sent.length y.c1, .slice y.A2 y.x.live.length y.c2, .slice y.A3 y.x.back.length y.c3, .slice y.A4 y.x.got.length y.c4] 39)).alloc (.cells #[.int .i64 p.s, .int .i64 p.k, .int .i64 p.f, .int .i64 p.t, .int .i64 p.m, .int .i64 p.u, .int .i64 p.v] 47)).alloc (.cells #[.int .i64 0, .slice none 0 0, .slice none 0 0, .int .i64 0, .int .i64 0, .int .i64 0, .int .i64 0, .slice none 0 0, .slice none 0 0, .slice none 0 0, .slice none 0 0, .slice none 0 0, .slice none 0 0] 42)) (w.heap.size + 1 + 1 + 1 + 1) (by simp) 75 #[.int .i64 y.x.way, .int .i64 y.x.ver, .int .i64 y.x.want, .slice y.A1 y.x.sent.length y.c1, .slice y.A2 y.x.live.length y.c2, .slice y.A3 y.x.back.length y.c3, .slice y.A4 y.x.got.length y.c4])
  have HK := Lib.hid ((((((Keeps.refl noBlk w).alloc (.cells #[.int .i64 c.id, .slice c.bk.A1 c.bk.b.own.length c.bk.c1, .slice c.bk.A2 c.bk.b.notes.length c.bk.c2, .int .i64 c.bk.b.locked, .int .i64 c.st.x.way, .int .i64 c.st.x.ver, .int .i64 c.st.x.want, .slice c.st.A1 c.st.x.sent.length c.st.c1, .slice c.st.A2 c.st.x.live.length c.st.c2, .slice c.st.A3 c.st.x.back.length c.st.c3, .slice c.st.A4 c.st.x.got.length c.st.c4, .slice c.pA c.past.length c.pc, .slice c.kA c.knows.length c.kc] 42)).alloc (.cells #[.int .i64 y.x.way, .int .i64 y.x.ver, .int .i64 y.x.want, .slice y.A1 y.x.sent.length y.c1, .slice y.A2 y.x.live.length y.c2, .slice y.A3 y.x.back.length y.c3, .slice y.A4 y.x.got.length y.c4] 39)).alloc (.cells #[.int .i64 p.s, .int .i64 p.k, .int .i64 p.f, .int .i64 p.t, .int .i64 p.m, .int .i64 p.u, .int .i64 p.v] 47)).alloc (.cells #[.int .i64 0, .slice none 0 0, .slice none 0 0, .int .i64 0, .int .i64 0, .int .i64 0, .int .i64 0, .slice none 0 0, .slice none 0 0, .slice none 0 0, .slice none 0 0, .slice none 0 0, .slice none 0 0] 42)).alloc (.cells #[.int .i64 y.x.way, .int .i64 y.x.ver, .int .i64 y.x.want, .slice y.A1 y.x.sent.length y.c1, .slice y.A2 y.x.live.length y.c2, .slice y.A3 y.x.back.length y.c3, .slice y.A4 y.x.got.length y.c4] 75))
  go_enter Tryz.func13, Tryz.ntmps13
  go_wp2_with fail
  refine (F.out _ HK.out).mono ?_
  rintro e w1 ⟨rfl, hk1⟩
  unfold lk0
  have ha := HBa.out.keeps hk1 (fun h => h)
  clear HBa
  have HBa := Lib.hid ha
  clear ha
  have hb := HBb.out.keeps hk1 (fun h => h)
  clear HBb
  have HBb := Lib.hid hb
  clear hb
  have hp := HBp.out.keeps hk1 (fun h => h)
  clear HBp
  have HBp := Lib.hid hp
  clear hp
  have hr := HBr.out.keeps hk1 (fun h => h)
  clear HBr
  have HBr := Lib.hid hr
  clear hr
  have hq := HBq.out.keeps hk1 (fun h => h)
  clear HBq
  have HBq := Lib.hid hq
  clear hq
  have hr := HK.out.trans hk1
  clear HK
  have HK := Lib.hid hr
  clear hr
  have sz1 := hk1.size
  (try simp at sz1)
  clear hk1
  have hb := HBr.out
  have r0 := hb.cell 0
  have r1 := hb.cell 1
  have r2 := hb.cell 2
  have r3 := hb.cell 3
  have r4 := hb.cell 4
  have r5 := hb.cell 5
  have r6 := hb.cell 6
  have r7 := hb.cell 7
  have r8 := hb.cell 8
  have r9 := hb.cell 9
  have r10 := hb.cell 10
  have r11 := hb.cell 11
  have r12 := hb.cell 12
  simp at r0 r1 r2 r3 r4 r5 r6 r7 r8 r9 r10 r11 r12
  have zr := hb.lt
  clear hb
  have hb := HBr.out
  have rf0 := hb.frozen 0
  have rf1 := hb.frozen 1
  have rf2 := hb.frozen 2
  have rf3 := hb.frozen 3
  have rf4 := hb.frozen 4
  have rf5 := hb.frozen 5
  have rf6 := hb.frozen 6
  have rf7 := hb.frozen 7
  have rf8 := hb.frozen 8
  have rf9 := hb.frozen 9
  have rf10 := hb.frozen 10
  have rf11 := hb.frozen 11
  have rf12 := hb.frozen 12
  clear hb
  go_wp2
  have hbF := ((((((((((((((HBr.out.set_ 0 (.int .i64 0)).set_ 1 (.slice none 0 0)).set_ 2 (.slice none 0 0)).set_ 3 (.int .i64 0)).set_ 4 (.int .i64 0)).set_ 5 (.int .i64 0)).set_ 6 (.int .i64 0)).set_ 7 (.slice none 0 0)).set_ 8 (.slice none 0 0)).set_ 9 (.slice none 0 0)).set_ 10 (.slice none 0 0)).set_ 11 (.slice none 0 0)).set_ 12 (.slice none 0 0)).alloc (.cells #[.slice none 0 0, .slice none 0 0, .int .i64 0, .int .i64 0, .int .i64 0, .int .i64 0, .int .i64 0, .slice none 0 0, .slice none 0 0, .slice none 0 0, .slice none 0 0, .pointer none, .slice none 0 0] 78))
  simp only [List.setIfInBounds_toArray, List.set_cons_zero, List.set_cons_succ] at hbF
  have s10 := hbF.cell 0
  have s11 := hbF.cell 1
  have s12 := hbF.cell 2
  have s13 := hbF.cell 3
  have s14 := hbF.cell 4
  have s15 := hbF.cell 5
  have s16 := hbF.cell 6
  have s17 := hbF.cell 7
  have s18 := hbF.cell 8
  have s19 := hbF.cell 9
  have s20 := hbF.cell 10
  have s21 := hbF.cell 11
  have s22 := hbF.cell 12
  simp at s10 s11 s12 s13 s14 s15 s16 s17 s18 s19 s20 s21 s22
  clear hbF
  have kS : Keeps (fun b => b = w.heap.size + 1 + 1 + 1) w1 ((((((((((((((w1.setCell ⟨w.heap.size + 1 + 1 + 1, 0, none⟩ (.int .i64 0)).setCell ⟨w.heap.size + 1 + 1 + 1, 1, none⟩ (.slice none 0 0)).setCell ⟨w.heap.size + 1 + 1 + 1, 2, none⟩ (.slice none 0 0)).setCell ⟨w.heap.size + 1 + 1 + 1, 3, none⟩ (.int .i64 0)).setCell ⟨w.heap.size + 1 + 1 + 1, 4, none⟩ (.int .i64 0)).setCell ⟨w.heap.size + 1 + 1 + 1, 5, none⟩ (.int .i64 0)).setCell ⟨w.heap.size + 1 + 1 + 1, 6, none⟩ (.int .i64 0)).setCell ⟨w.heap.size + 1 + 1 + 1, 7, none⟩ (.slice none 0 0)).setCell ⟨w.heap.size + 1 + 1 + 1, 8, none⟩ (.slice none 0 0)).setCell ⟨w.heap.size + 1 + 1 + 1, 9, none⟩ (.slice none 0 0)).setCell ⟨w.heap.size + 1 + 1 + 1, 10, none⟩ (.slice none 0 0)).setCell ⟨w.heap.size + 1 + 1 + 1, 11, none⟩ (.slice none 0 0)).setCell ⟨w.heap.size + 1 + 1 + 1, 12, none⟩ (.slice none 0 0)).alloc (.cells #[.slice none 0 0, .slice none 0 0, .int .i64 0, .int .i64 0, .int .i64 0, .int .i64 0, .int .i64 0, .slice none 0 0, .slice none 0 0, .slice none 0 0, .slice none 0 0, .pointer none, .slice none 0 0] 78)) := (((((((((((((((Keeps.refl (fun b => b = w.heap.size + 1 + 1 + 1) w1).setCell (p := ⟨w.heap.size + 1 + 1 + 1, 0, none⟩) (.inr rfl) (.int .i64 0)).setCell (p := ⟨w.heap.size + 1 + 1 + 1, 1, none⟩) (.inr rfl) (.slice none 0 0)).setCell (p := ⟨w.heap.size + 1 + 1 + 1, 2, none⟩) (.inr rfl) (.slice none 0 0)).setCell (p := ⟨w.heap.size + 1 + 1 + 1, 3, none⟩) (.inr rfl) (.int .i64 0)).setCell (p := ⟨w.heap.size + 1 + 1 + 1, 4, none⟩) (.inr rfl) (.int .i64 0)).setCell (p := ⟨w.heap.size + 1 + 1 + 1, 5, none⟩) (.inr rfl) (.int .i64 0)).setCell (p := ⟨w.heap.size + 1 + 1 + 1, 6, none⟩) (.inr rfl) (.int .i64 0)).setCell (p := ⟨w.heap.size + 1 + 1 + 1, 7, none⟩) (.inr rfl) (.slice none 0 0)).setCell (p := ⟨w.heap.size + 1 + 1 + 1, 8, none⟩) (.inr rfl) (.slice none 0 0)).setCell (p := ⟨w.heap.size + 1 + 1 + 1, 9, none⟩) (.inr rfl) (.slice none 0 0)).setCell (p := ⟨w.heap.size + 1 + 1 + 1, 10, none⟩) (.inr rfl) (.slice none 0 0)).setCell (p := ⟨w.heap.size + 1 + 1 + 1, 11, none⟩) (.inr rfl) (.slice none 0 0)).setCell (p := ⟨w.heap.size + 1 + 1 + 1, 12, none⟩) (.inr rfl) (.slice none 0 0)).alloc (.cells #[.slice none 0 0, .slice none 0 0, .int .i64 0, .int .i64 0, .int .i64 0, .int .i64 0, .int .i64 0, .slice none 0 0, .slice none 0 0, .slice none 0 0, .slice none 0 0, .pointer none, .slice none 0 0] 78))
  generalize ((((((((((((((w1.setCell ⟨w.heap.size + 1 + 1 + 1, 0, none⟩ (.int .i64 0)).setCell ⟨w.heap.size + 1 + 1 + 1, 1, none⟩ (.slice none 0 0)).setCell ⟨w.heap.size + 1 + 1 + 1, 2, none⟩ (.slice none 0 0)).setCell ⟨w.heap.size + 1 + 1 + 1, 3, none⟩ (.int .i64 0)).setCell ⟨w.heap.size + 1 + 1 + 1, 4, none⟩ (.int .i64 0)).setCell ⟨w.heap.size + 1 + 1 + 1, 5, none⟩ (.int .i64 0)).setCell ⟨w.heap.size + 1 + 1 + 1, 6, none⟩ (.int .i64 0)).setCell ⟨w.heap.size + 1 + 1 + 1, 7, none⟩ (.slice none 0 0)).setCell ⟨w.heap.size + 1 + 1 + 1, 8, none⟩ (.slice none 0 0)).setCell ⟨w.heap.size + 1 + 1 + 1, 9, none⟩ (.slice none 0 0)).setCell ⟨w.heap.size + 1 + 1 + 1, 10, none⟩ (.slice none 0 0)).setCell ⟨w.heap.size + 1 + 1 + 1, 11, none⟩ (.slice none 0 0)).setCell ⟨w.heap.size + 1 + 1 + 1, 12, none⟩ (.slice none 0 0)).alloc (.cells #[.slice none 0 0, .slice none 0 0, .int .i64 0, .int .i64 0, .int .i64 0, .int .i64 0, .int .i64 0, .slice none 0 0, .slice none 0 0, .slice none 0 0, .slice none 0 0, .pointer none, .slice none 0 0] 78)) = WF at kS s10 s11 s12 s13 s14 s15 s16 s17 s18 s19 s20 s21 s22 ⊢
  refine bodyPost_ret (v := .tuple #[ch0.val, .bool false]) (by simp [results, Tryz.results13, go_sem, ch0, bk0, stm0, ChM.val, s10, s11, s12, s13, s14, s15, s16, s17, s18, s19, s20, s21, s22]) rfl ?_
  exact ⟨ch0, fun _ => 0, rfl, SameC.refl _, ch0_own _ _, HK.out.then kS fun i hi h => by omega⟩
set_option maxRecDepth 100000 in
set_option maxHeartbeats 8000000 in
theorem implRGet_bad2 (c : ChM) (y : StM) (p : Pk) (w : World) (h : ChAt w c) (hy : y.At w) (ht : Tabs w) (hb : ckB c = true) (hs : stB y.x = true) (hp : p.ok = false) :
    Calls Tryz.prog 13 #[c.val, y.val, p.val] w (RetC (fun v => .tuple #[v, .bool false]) w ch0) := by
  have F := Lib.hid (fun W (hk : Keeps noBlk w W) => shown_any_yes c y W (h.kept hk) (hy.kept hk) (ht.keeps hk) hb hs)
  have FP := Lib.hid (fun W (hk : Keeps noBlk w W) => implPk_any p.s p.k p.f p.t p.m p.u p.v W (ht.keeps hk))
  unfold Pk.ok at hp
  rw [hp] at FP
  clear h hy ht hb hs hp
  unfold ChM.val StM.val Pk.val
  unfold ChM.val at F
  have HBa := Lib.hid (((((Box.new w (w.heap.size) (by simp) 42 #[.int .i64 c.id, .slice c.bk.A1 c.bk.b.own.length c.bk.c1, .slice c.bk.A2 c.bk.b.notes.length c.bk.c2, .int .i64 c.bk.b.locked, .int .i64 c.st.x.way, .int .i64 c.st.x.ver, .int .i64 c.st.x.want, .slice c.st.A1 c.st.x.sent.length c.st.c1, .slice c.st.A2 c.st.x.live.length c.st.c2, .slice c.st.A3 c.st.x.back.length c.st.c3, .slice c.st.A4 c.st.x.got.length c.st.c4, .slice c.pA c.past.length c.pc, .slice c.kA c.knows.length c.kc]).alloc (.cells #[.int .i64 y.x.way, .int .i64 y.x.ver, .int .i64 y.x.want, .slice y.A1 y.x.sent.length y.c1, .slice y.A2 y.x.live.length y.c2, .slice y.A3 y.x.back.length y.c3, .slice y.A4 y.x.got.length y.c4] 39)).alloc (.cells #[.int .i64 p.s, .int .i64 p.k, .int .i64 p.f, .int .i64 p.t, .int .i64 p.m, .int .i64 p.u, .int .i64 p.v] 47)).alloc (.cells #[.int .i64 0, .slice none 0 0, .slice none 0 0, .int .i64 0, .int .i64 0, .int .i64 0, .int .i64 0, .slice none 0 0, .slice none 0 0, .slice none 0 0, .slice none 0 0, .slice none 0 0, .slice none 0 0] 42)).alloc (.cells #[.int .i64 y.x.way, .int .i64 y.x.ver, .int .i64 y.x.want, .slice y.A1 y.x.sent.length y.c1, .slice y.A2 y.x.live.length y.c2, .slice y.A3 y.x.back.length y.c3, .slice y.A4 y.x.got.length y.c4] 75))
  have HBb := Lib.hid ((((Box.new (w.alloc (.cells #[.int .i64 c.id, .slice c.bk.A1 c.bk.b.own.length c.bk.c1, .slice c.bk.A2 c.bk.b.notes.length c.bk.c2, .int .i64 c.bk.b.locked, .int .i64 c.st.x.way, .int .i64 c.st.x.ver, .int .i64 c.st.x.want, .slice c.st.A1 c.st.x.sent.length c.st.c1, .slice c.st.A2 c.st.x.live.length c.st.c2, .slice c.st.A3 c.st.x.back.length c.st.c3, .slice c.st.A4 c.st.x.got.length c.st.c4, .slice c.pA c.past.length c.pc, .slice c.kA c.knows.length c.kc] 42)) (w.heap.size + 1) (by simp) 39 #[.int .i64 y.x.way, .int .i64 y.x.ver, .int .i64 y.x.want, .slice y.A1 y.x.sent.length y.c1, .slice y.A2 y.x.live.length y.c2, .slice y.A3 y.x.back.length y.c3, .slice y.A4 y.x.got.length y.c4]).alloc (.cells #[.int .i64 p.s, .int .i64 p.k, .int .i64 p.f, .int .i64 p.t, .int .i64 p.m, .int .i64 p.u, .int .i64 p.v] 47)).alloc (.cells #[.int .i64 0, .slice none 0 0, .slice none 0 0, .int .i64 0, .int .i64 0, .int .i64 0, .int .i64 0, .slice none 0 0, .slice none 0 0, .slice none 0 0, .slice none 0 0, .slice none 0 0, .slice none 0 0] 42)).alloc (.cells #[.int .i64 y.x.way, .int .i64 y.x.ver, .int .i64 y.x.want, .slice y.A1 y.x.sent.length y.c1, .slice y.A2 y.x.live.length y.c2, .slice y.A3 y.x.back.length y.c3, .slice y.A4 y.x.got.length y.c4] 75))
  have HBp := Lib.hid (((Box.new ((w.alloc (.cells #[.int .i64 c.id, .slice c.bk.A1 c.bk.b.own.length c.bk.c1, .slice c.bk.A2 c.bk.b.notes.length c.bk.c2, .int .i64 c.bk.b.locked, .int .i64 c.st.x.way, .int .i64 c.st.x.ver, .int .i64 c.st.x.want, .slice c.st.A1 c.st.x.sent.length c.st.c1, .slice c.st.A2 c.st.x.live.length c.st.c2, .slice c.st.A3 c.st.x.back.length c.st.c3, .slice c.st.A4 c.st.x.got.length c.st.c4, .slice c.pA c.past.length c.pc, .slice c.kA c.knows.length c.kc] 42)).alloc (.cells #[.int .i64 y.x.way, .int .i64 y.x.ver, .int .i64 y.x.want, .slice y.A1 y.x.sent.length y.c1, .slice y.A2 y.x.live.length y.c2, .slice y.A3 y.x.back.length y.c3, .slice y.A4 y.x.got.length y.c4] 39)) (w.heap.size + 1 + 1) (by simp) 47 #[.int .i64 p.s, .int .i64 p.k, .int .i64 p.f, .int .i64 p.t, .int .i64 p.m, .int .i64 p.u, .int .i64 p.v]).alloc (.cells #[.int .i64 0, .slice none 0 0, .slice none 0 0, .int .i64 0, .int .i64 0, .int .i64 0, .int .i64 0, .slice none 0 0, .slice none 0 0, .slice none 0 0, .slice none 0 0, .slice none 0 0, .slice none 0 0] 42)).alloc (.cells #[.int .i64 y.x.way, .int .i64 y.x.ver, .int .i64 y.x.want, .slice y.A1 y.x.sent.length y.c1, .slice y.A2 y.x.live.length y.c2, .slice y.A3 y.x.back.length y.c3, .slice y.A4 y.x.got.length y.c4] 75))
  have HBr := Lib.hid ((Box.new (((w.alloc (.cells #[.int .i64 c.id, .slice c.bk.A1 c.bk.b.own.length c.bk.c1, .slice c.bk.A2 c.bk.b.notes.length c.bk.c2, .int .i64 c.bk.b.locked, .int .i64 c.st.x.way, .int .i64 c.st.x.ver, .int .i64 c.st.x.want, .slice c.st.A1 c.st.x.sent.length c.st.c1, .slice c.st.A2 c.st.x.live.length c.st.c2, .slice c.st.A3 c.st.x.back.length c.st.c3, .slice c.st.A4 c.st.x.got.length c.st.c4, .slice c.pA c.past.length c.pc, .slice c.kA c.knows.length c.kc] 42)).alloc (.cells #[.int .i64 y.x.way, .int .i64 y.x.ver, .int .i64 y.x.want, .slice y.A1 y.x.sent.length y.c1, .slice y.A2 y.x.live.length y.c2, .slice y.A3 y.x.back.length y.c3, .slice y.A4 y.x.got.length y.c4] 39)).alloc (.cells #[.int .i64 p.s, .int .i64 p.k, .int .i64 p.f, .int .i64 p.t, .int .i64 p.m, .int .i64 p.u, .int .i64 p.v] 47)) (w.heap.size + 1 + 1 + 1) (by simp) 42 #[.int .i64 0, .slice none 0 0, .slice none 0 0, .int .i64 0, .int .i64 0, .int .i64 0, .int .i64 0, .slice none 0 0, .slice none 0 0, .slice none 0 0, .slice none 0 0, .slice none 0 0, .slice none 0 0]).alloc (.cells #[.int .i64 y.x.way, .int .i64 y.x.ver, .int .i64 y.x.want, .slice y.A1 y.x.sent.length y.c1, .slice y.A2 y.x.live.length y.c2, .slice y.A3 y.x.back.length y.c3, .slice y.A4 y.x.got.length y.c4] 75))
  have HBq := Lib.hid (Box.new ((((w.alloc (.cells #[.int .i64 c.id, .slice c.bk.A1 c.bk.b.own.length c.bk.c1, .slice c.bk.A2 c.bk.b.notes.length c.bk.c2, .int .i64 c.bk.b.locked, .int .i64 c.st.x.way, .int .i64 c.st.x.ver, .int .i64 c.st.x.want, .slice c.st.A1 c.st.x.sent.length c.st.c1, .slice c.st.A2 c.st.x.live.length c.st.c2, .slice c.st.A3 c.st.x.back.length c.st.c3, .slice c.st.A4 c.st.x.got.length c.st.c4, .slice c.pA c.past.length c.pc, .slice c.kA c.knows.length c.kc] 42)).alloc (.cells #[.int .i64 y.x.way, .int .i64 y.x.ver, .int .i64 y.x.want, .slice y.A1 y.x.sent.length y.c1, .slice y.A2 y.x.live.length y.c2, .slice y.A3 y.x.back.length y.c3, .slice y.A4 y.x.got.length y.c4] 39)).alloc (.cells #[.int .i64 p.s, .int .i64 p.k, .int .i64 p.f, .int .i64 p.t, .int .i64 p.m, .int .i64 p.u, .int .i64 p.v] 47)).alloc (.cells #[.int .i64 0, .slice none 0 0, .slice none 0 0, .int .i64 0, .int .i64 0, .int .i64 0, .int .i64 0, .slice none 0 0, .slice none 0 0, .slice none 0 0, .slice none 0 0, .slice none 0 0, .slice none 0 0] 42)) (w.heap.size + 1 + 1 + 1 + 1) (by simp) 75 #[.int .i64 y.x.way, .int .i64 y.x.ver, .int .i64 y.x.want, .slice y.A1 y.x.sent.length y.c1, .slice y.A2 y.x.live.length y.c2, .slice y.A3 y.x.back.length y.c3, .slice y.A4 y.x.got.length y.c4])
  have HK := Lib.hid ((((((Keeps.refl noBlk w).alloc (.cells #[.int .i64 c.id, .slice c.bk.A1 c.bk.b.own.length c.bk.c1, .slice c.bk.A2 c.bk.b.notes.length c.bk.c2, .int .i64 c.bk.b.locked, .int .i64 c.st.x.way, .int .i64 c.st.x.ver, .int .i64 c.st.x.want, .slice c.st.A1 c.st.x.sent.length c.st.c1, .slice c.st.A2 c.st.x.live.length c.st.c2, .slice c.st.A3 c.st.x.back.length c.st.c3, .slice c.st.A4 c.st.x.got.length c.st.c4, .slice c.pA c.past.length c.pc, .slice c.kA c.knows.length c.kc] 42)).alloc (.cells #[.int .i64 y.x.way, .int .i64 y.x.ver, .int .i64 y.x.want, .slice y.A1 y.x.sent.length y.c1, .slice y.A2 y.x.live.length y.c2, .slice y.A3 y.x.back.length y.c3, .slice y.A4 y.x.got.length y.c4] 39)).alloc (.cells #[.int .i64 p.s, .int .i64 p.k, .int .i64 p.f, .int .i64 p.t, .int .i64 p.m, .int .i64 p.u, .int .i64 p.v] 47)).alloc (.cells #[.int .i64 0, .slice none 0 0, .slice none 0 0, .int .i64 0, .int .i64 0, .int .i64 0, .int .i64 0, .slice none 0 0, .slice none 0 0, .slice none 0 0, .slice none 0 0, .slice none 0 0, .slice none 0 0] 42)).alloc (.cells #[.int .i64 y.x.way, .int .i64 y.x.ver, .int .i64 y.x.want, .slice y.A1 y.x.sent.length y.c1, .slice y.A2 y.x.live.length y.c2, .slice y.A3 y.x.back.length y.c3, .slice y.A4 y.x.got.length y.c4] 75))
  go_enter Tryz.func13, Tryz.ntmps13
  go_wp2_with fail
  refine (F.out _ HK.out).mono ?_
  rintro e w1 ⟨P, rfl, hl9, hk1⟩
  unfold lkV
  have HLK := Lib.hid hl9
  clear hl9
  have ha := HBa.out.keeps hk1 (fun h => h)
  clear HBa
  have HBa := Lib.hid ha
  clear ha
  have hb := HBb.out.keeps hk1 (fun h => h)
  clear HBb
  have HBb := Lib.hid hb
  clear hb
  have hp := HBp.out.keeps hk1 (fun h => h)
  clear HBp
  have HBp := Lib.hid hp
  clear hp
  have hr := HBr.out.keeps hk1 (fun h => h)
  clear HBr
  have HBr := Lib.hid hr
  clear hr
  have hq := HBq.out.keeps hk1 (fun h => h)
  clear HBq
  have HBq := Lib.hid hq
  clear hq
  have hr := HK.out.trans hk1
  clear HK
  have HK := Lib.hid hr
  clear hr
  have sz1 := hk1.size
  (try simp at sz1)
  clear hk1
  have hb := HBq.out
  have q0 := hb.cell 0
  have q1 := hb.cell 1
  have q2 := hb.cell 2
  have q3 := hb.cell 3
  have q4 := hb.cell 4
  have q5 := hb.cell 5
  have q6 := hb.cell 6
  simp at q0 q1 q2 q3 q4 q5 q6
  have zq := hb.lt
  clear hb
  have hb := HBp.out
  have p0 := hb.cell 0
  have p1 := hb.cell 1
  have p2 := hb.cell 2
  have p3 := hb.cell 3
  have p4 := hb.cell 4
  have p5 := hb.cell 5
  have p6 := hb.cell 6
  simp at p0 p1 p2 p3 p4 p5 p6
  have zp := hb.lt
  clear hb
  have ha := HBa.out.alloc (.cells #[.slice c.bk.A1 c.bk.b.own.length c.bk.c1, .slice c.bk.A2 c.bk.b.notes.length c.bk.c2, .int .i64 c.bk.b.locked, .int .i64 c.id, .int .i64 c.st.x.way, .int .i64 c.st.x.ver, .int .i64 c.st.x.want, .slice c.st.A1 c.st.x.sent.length c.st.c1, .slice c.st.A2 c.st.x.live.length c.st.c2, .slice c.st.A3 c.st.x.back.length c.st.c3, .slice c.st.A4 c.st.x.got.length c.st.c4, .pointer P, .slice c.kA c.knows.length c.kc] 78)
  clear HBa
  have HBa := Lib.hid ha
  clear ha
  have hb := HBb.out.alloc (.cells #[.slice c.bk.A1 c.bk.b.own.length c.bk.c1, .slice c.bk.A2 c.bk.b.notes.length c.bk.c2, .int .i64 c.bk.b.locked, .int .i64 c.id, .int .i64 c.st.x.way, .int .i64 c.st.x.ver, .int .i64 c.st.x.want, .slice c.st.A1 c.st.x.sent.length c.st.c1, .slice c.st.A2 c.st.x.live.length c.st.c2, .slice c.st.A3 c.st.x.back.length c.st.c3, .slice c.st.A4 c.st.x.got.length c.st.c4, .pointer P, .slice c.kA c.knows.length c.kc] 78)
  clear HBb
  have HBb := Lib.hid hb
  clear hb
  have hp := HBp.out.alloc (.cells #[.slice c.bk.A1 c.bk.b.own.length c.bk.c1, .slice c.bk.A2 c.bk.b.notes.length c.bk.c2, .int .i64 c.bk.b.locked, .int .i64 c.id, .int .i64 c.st.x.way, .int .i64 c.st.x.ver, .int .i64 c.st.x.want, .slice c.st.A1 c.st.x.sent.length c.st.c1, .slice c.st.A2 c.st.x.live.length c.st.c2, .slice c.st.A3 c.st.x.back.length c.st.c3, .slice c.st.A4 c.st.x.got.length c.st.c4, .pointer P, .slice c.kA c.knows.length c.kc] 78)
  clear HBp
  have HBp := Lib.hid hp
  clear hp
  have hr := HBr.out.alloc (.cells #[.slice c.bk.A1 c.bk.b.own.length c.bk.c1, .slice c.bk.A2 c.bk.b.notes.length c.bk.c2, .int .i64 c.bk.b.locked, .int .i64 c.id, .int .i64 c.st.x.way, .int .i64 c.st.x.ver, .int .i64 c.st.x.want, .slice c.st.A1 c.st.x.sent.length c.st.c1, .slice c.st.A2 c.st.x.live.length c.st.c2, .slice c.st.A3 c.st.x.back.length c.st.c3, .slice c.st.A4 c.st.x.got.length c.st.c4, .pointer P, .slice c.kA c.knows.length c.kc] 78)
  clear HBr
  have HBr := Lib.hid hr
  clear hr
  have hq := HBq.out.alloc (.cells #[.slice c.bk.A1 c.bk.b.own.length c.bk.c1, .slice c.bk.A2 c.bk.b.notes.length c.bk.c2, .int .i64 c.bk.b.locked, .int .i64 c.id, .int .i64 c.st.x.way, .int .i64 c.st.x.ver, .int .i64 c.st.x.want, .slice c.st.A1 c.st.x.sent.length c.st.c1, .slice c.st.A2 c.st.x.live.length c.st.c2, .slice c.st.A3 c.st.x.back.length c.st.c3, .slice c.st.A4 c.st.x.got.length c.st.c4, .pointer P, .slice c.kA c.knows.length c.kc] 78)
  clear HBq
  have HBq := Lib.hid hq
  clear hq
  have hr := Lk.kept (HLK.out) ((Keeps.refl noBlk w1).alloc (.cells #[.slice c.bk.A1 c.bk.b.own.length c.bk.c1, .slice c.bk.A2 c.bk.b.notes.length c.bk.c2, .int .i64 c.bk.b.locked, .int .i64 c.id, .int .i64 c.st.x.way, .int .i64 c.st.x.ver, .int .i64 c.st.x.want, .slice c.st.A1 c.st.x.sent.length c.st.c1, .slice c.st.A2 c.st.x.live.length c.st.c2, .slice c.st.A3 c.st.x.back.length c.st.c3, .slice c.st.A4 c.st.x.got.length c.st.c4, .pointer P, .slice c.kA c.knows.length c.kc] 78))
  clear HLK
  have HLK := Lib.hid hr
  clear hr
  have hr := HK.out.alloc (.cells #[.slice c.bk.A1 c.bk.b.own.length c.bk.c1, .slice c.bk.A2 c.bk.b.notes.length c.bk.c2, .int .i64 c.bk.b.locked, .int .i64 c.id, .int .i64 c.st.x.way, .int .i64 c.st.x.ver, .int .i64 c.st.x.want, .slice c.st.A1 c.st.x.sent.length c.st.c1, .slice c.st.A2 c.st.x.live.length c.st.c2, .slice c.st.A3 c.st.x.back.length c.st.c3, .slice c.st.A4 c.st.x.got.length c.st.c4, .pointer P, .slice c.kA c.knows.length c.kc] 78)
  clear HK
  have HK := Lib.hid hr
  clear hr
  have HBk := Lib.hid (Box.new w1 _ rfl 78 #[.slice c.bk.A1 c.bk.b.own.length c.bk.c1, .slice c.bk.A2 c.bk.b.notes.length c.bk.c2, .int .i64 c.bk.b.locked, .int .i64 c.id, .int .i64 c.st.x.way, .int .i64 c.st.x.ver, .int .i64 c.st.x.want, .slice c.st.A1 c.st.x.sent.length c.st.c1, .slice c.st.A2 c.st.x.live.length c.st.c2, .slice c.st.A3 c.st.x.back.length c.st.c3, .slice c.st.A4 c.st.x.got.length c.st.c4, .pointer P, .slice c.kA c.knows.length c.kc])
  go_wp2_with fail
  refine (FP.out _ HK.out).mono ?_
  rintro e w2 ⟨rfl, hk2⟩
  clear q0 q1 q2 q3 q4 q5 q6 p0 p1 p2 p3 p4 p5 p6 zq zp
  have ha := HBa.out.keeps hk2 (fun h => h)
  clear HBa
  have HBa := Lib.hid ha
  clear ha
  have hb := HBb.out.keeps hk2 (fun h => h)
  clear HBb
  have HBb := Lib.hid hb
  clear hb
  have hp := HBp.out.keeps hk2 (fun h => h)
  clear HBp
  have HBp := Lib.hid hp
  clear hp
  have hr := HBr.out.keeps hk2 (fun h => h)
  clear HBr
  have HBr := Lib.hid hr
  clear hr
  have hq := HBq.out.keeps hk2 (fun h => h)
  clear HBq
  have HBq := Lib.hid hq
  clear hq
  have hk := HBk.out.keeps hk2 (fun h => h)
  clear HBk
  have HBk := Lib.hid hk
  clear hk
  have hr := Lk.kept (HLK.out) hk2
  clear HLK
  have HLK := Lib.hid hr
  clear hr
  have hr := HK.out.trans hk2
  clear HK
  have HK := Lib.hid hr
  clear hr
  have sz2 := hk2.size
  (try simp at sz2)
  clear hk2
  have hb := HBr.out
  have r0 := hb.cell 0
  have r1 := hb.cell 1
  have r2 := hb.cell 2
  have r3 := hb.cell 3
  have r4 := hb.cell 4
  have r5 := hb.cell 5
  have r6 := hb.cell 6
  have r7 := hb.cell 7
  have r8 := hb.cell 8
  have r9 := hb.cell 9
  have r10 := hb.cell 10
  have r11 := hb.cell 11
  have r12 := hb.cell 12
  simp at r0 r1 r2 r3 r4 r5 r6 r7 r8 r9 r10 r11 r12
  have zr := hb.lt
  clear hb
  have hb := HBr.out
  have rf0 := hb.frozen 0
  have rf1 := hb.frozen 1
  have rf2 := hb.frozen 2
  have rf3 := hb.frozen 3
  have rf4 := hb.frozen 4
  have rf5 := hb.frozen 5
  have rf6 := hb.frozen 6
  have rf7 := hb.frozen 7
  have rf8 := hb.frozen 8
  have rf9 := hb.frozen 9
  have rf10 := hb.frozen 10
  have rf11 := hb.frozen 11
  have rf12 := hb.frozen 12
  clear hb
  go_wp2
  have hbF := (((((((((((((HBr.out.set_ 0 (.int .i64 0)).set_ 1 (.slice none 0 0)).set_ 2 (.slice none 0 0)).set_ 3 (.int .i64 0)).set_ 4 (.int .i64 0)).set_ 5 (.int .i64 0)).set_ 6 (.int .i64 0)).set_ 7 (.slice none 0 0)).set_ 8 (.slice none 0 0)).set_ 9 (.slice none 0 0)).set_ 10 (.slice none 0 0)).set_ 11 (.slice none 0 0)).set_ 12 (.slice none 0 0))
  simp only [List.setIfInBounds_toArray, List.set_cons_zero, List.set_cons_succ] at hbF
  have s10 := hbF.cell 0
  have s11 := hbF.cell 1
  have s12 := hbF.cell 2
  have s13 := hbF.cell 3
  have s14 := hbF.cell 4
  have s15 := hbF.cell 5
  have s16 := hbF.cell 6
  have s17 := hbF.cell 7
  have s18 := hbF.cell 8
  have s19 := hbF.cell 9
  have s20 := hbF.cell 10
  have s21 := hbF.cell 11
  have s22 := hbF.cell 12
  simp at s10 s11 s12 s13 s14 s15 s16 s17 s18 s19 s20 s21 s22
  clear hbF
  have kS : Keeps (fun b => b = w.heap.size + 1 + 1 + 1) w2 (((((((((((((w2.setCell ⟨w.heap.size + 1 + 1 + 1, 0, none⟩ (.int .i64 0)).setCell ⟨w.heap.size + 1 + 1 + 1, 1, none⟩ (.slice none 0 0)).setCell ⟨w.heap.size + 1 + 1 + 1, 2, none⟩ (.slice none 0 0)).setCell ⟨w.heap.size + 1 + 1 + 1, 3, none⟩ (.int .i64 0)).setCell ⟨w.heap.size + 1 + 1 + 1, 4, none⟩ (.int .i64 0)).setCell ⟨w.heap.size + 1 + 1 + 1, 5, none⟩ (.int .i64 0)).setCell ⟨w.heap.size + 1 + 1 + 1, 6, none⟩ (.int .i64 0)).setCell ⟨w.heap.size + 1 + 1 + 1, 7, none⟩ (.slice none 0 0)).setCell ⟨w.heap.size + 1 + 1 + 1, 8, none⟩ (.slice none 0 0)).setCell ⟨w.heap.size + 1 + 1 + 1, 9, none⟩ (.slice none 0 0)).setCell ⟨w.heap.size + 1 + 1 + 1, 10, none⟩ (.slice none 0 0)).setCell ⟨w.heap.size + 1 + 1 + 1, 11, none⟩ (.slice none 0 0)).setCell ⟨w.heap.size + 1 + 1 + 1, 12, none⟩ (.slice none 0 0)) := ((((((((((((((Keeps.refl (fun b => b = w.heap.size + 1 + 1 + 1) w2).setCell (p := ⟨w.heap.size + 1 + 1 + 1, 0, none⟩) (.inr rfl) (.int .i64 0)).setCell (p := ⟨w.heap.size + 1 + 1 + 1, 1, none⟩) (.inr rfl) (.slice none 0 0)).setCell (p := ⟨w.heap.size + 1 + 1 + 1, 2, none⟩) (.inr rfl) (.slice none 0 0)).setCell (p := ⟨w.heap.size + 1 + 1 + 1, 3, none⟩) (.inr rfl) (.int .i64 0)).setCell (p := ⟨w.heap.size + 1 + 1 + 1, 4, none⟩) (.inr rfl) (.int .i64 0)).setCell (p := ⟨w.heap.size + 1 + 1 + 1, 5, none⟩) (.inr rfl) (.int .i64 0)).setCell (p := ⟨w.heap.size + 1 + 1 + 1, 6, none⟩) (.inr rfl) (.int .i64 0)).setCell (p := ⟨w.heap.size + 1 + 1 + 1, 7, none⟩) (.inr rfl) (.slice none 0 0)).setCell (p := ⟨w.heap.size + 1 + 1 + 1, 8, none⟩) (.inr rfl) (.slice none 0 0)).setCell (p := ⟨w.heap.size + 1 + 1 + 1, 9, none⟩) (.inr rfl) (.slice none 0 0)).setCell (p := ⟨w.heap.size + 1 + 1 + 1, 10, none⟩) (.inr rfl) (.slice none 0 0)).setCell (p := ⟨w.heap.size + 1 + 1 + 1, 11, none⟩) (.inr rfl) (.slice none 0 0)).setCell (p := ⟨w.heap.size + 1 + 1 + 1, 12, none⟩) (.inr rfl) (.slice none 0 0))
  generalize (((((((((((((w2.setCell ⟨w.heap.size + 1 + 1 + 1, 0, none⟩ (.int .i64 0)).setCell ⟨w.heap.size + 1 + 1 + 1, 1, none⟩ (.slice none 0 0)).setCell ⟨w.heap.size + 1 + 1 + 1, 2, none⟩ (.slice none 0 0)).setCell ⟨w.heap.size + 1 + 1 + 1, 3, none⟩ (.int .i64 0)).setCell ⟨w.heap.size + 1 + 1 + 1, 4, none⟩ (.int .i64 0)).setCell ⟨w.heap.size + 1 + 1 + 1, 5, none⟩ (.int .i64 0)).setCell ⟨w.heap.size + 1 + 1 + 1, 6, none⟩ (.int .i64 0)).setCell ⟨w.heap.size + 1 + 1 + 1, 7, none⟩ (.slice none 0 0)).setCell ⟨w.heap.size + 1 + 1 + 1, 8, none⟩ (.slice none 0 0)).setCell ⟨w.heap.size + 1 + 1 + 1, 9, none⟩ (.slice none 0 0)).setCell ⟨w.heap.size + 1 + 1 + 1, 10, none⟩ (.slice none 0 0)).setCell ⟨w.heap.size + 1 + 1 + 1, 11, none⟩ (.slice none 0 0)).setCell ⟨w.heap.size + 1 + 1 + 1, 12, none⟩ (.slice none 0 0)) = WF at kS s10 s11 s12 s13 s14 s15 s16 s17 s18 s19 s20 s21 s22 ⊢
  refine bodyPost_ret (v := .tuple #[ch0.val, .bool false]) (by simp [results, Tryz.results13, go_sem, ch0, bk0, stm0, ChM.val, s10, s11, s12, s13, s14, s15, s16, s17, s18, s19, s20, s21, s22]) rfl ?_
  exact ⟨ch0, fun _ => 0, rfl, SameC.refl _, ch0_own _ _, HK.out.then kS fun i hi h => by omega⟩
set_option maxRecDepth 100000 in
set_option maxHeartbeats 8000000 in
theorem implRGet_not (c : ChM) (y : StM) (p : Pk) (w : World) (h : ChAt w c) (hy : y.At w) (ht : Tabs w) (hb : ckB c = true) (hs : stB y.x = true) (hp : p.ok = true) (hm : mgB c y.x p = false) :
    Calls Tryz.prog 13 #[c.val, y.val, p.val] w (RetC (fun v => .tuple #[v, .bool false]) w c) := by
  have F := Lib.hid (fun W (hk : Keeps noBlk w W) => shown_any_yes c y W (h.kept hk) (hy.kept hk) (ht.keeps hk) hb hs)
  have FP := Lib.hid (fun W (hk : Keeps noBlk w W) => implPk_any p.s p.k p.f p.t p.m p.u p.v W (ht.keeps hk))
  have hp2 : pkB p.s p.k p.f p.t p.m p.u p.v = true := hp
  rw [hp2] at FP
  have FM := Lib.hid (fun P lo W (hk : Keeps noBlk w W) (hl : Lk W lo P c.past.reverse) => mayGet_any c y P p lo W (h.st.kept hk) (hy.kept hk) (ht.keeps hk) hl (by have := (of_decide_eq_true hb).2.2.2.1; omega))
  rw [hm] at FM
  have HH := Lib.hid h
  have HY := Lib.hid hy
  have HB := Lib.hid hb
  have HS := Lib.hid hs
  clear h hy ht hb hs hm hp hp2
  unfold ChM.val StM.val Pk.val
  unfold ChM.val at F
  unfold lkV Pk.val at FM
  have HBa := Lib.hid (((((Box.new w (w.heap.size) (by simp) 42 #[.int .i64 c.id, .slice c.bk.A1 c.bk.b.own.length c.bk.c1, .slice c.bk.A2 c.bk.b.notes.length c.bk.c2, .int .i64 c.bk.b.locked, .int .i64 c.st.x.way, .int .i64 c.st.x.ver, .int .i64 c.st.x.want, .slice c.st.A1 c.st.x.sent.length c.st.c1, .slice c.st.A2 c.st.x.live.length c.st.c2, .slice c.st.A3 c.st.x.back.length c.st.c3, .slice c.st.A4 c.st.x.got.length c.st.c4, .slice c.pA c.past.length c.pc, .slice c.kA c.knows.length c.kc]).alloc (.cells #[.int .i64 y.x.way, .int .i64 y.x.ver, .int .i64 y.x.want, .slice y.A1 y.x.sent.length y.c1, .slice y.A2 y.x.live.length y.c2, .slice y.A3 y.x.back.length y.c3, .slice y.A4 y.x.got.length y.c4] 39)).alloc (.cells #[.int .i64 p.s, .int .i64 p.k, .int .i64 p.f, .int .i64 p.t, .int .i64 p.m, .int .i64 p.u, .int .i64 p.v] 47)).alloc (.cells #[.int .i64 0, .slice none 0 0, .slice none 0 0, .int .i64 0, .int .i64 0, .int .i64 0, .int .i64 0, .slice none 0 0, .slice none 0 0, .slice none 0 0, .slice none 0 0, .slice none 0 0, .slice none 0 0] 42)).alloc (.cells #[.int .i64 y.x.way, .int .i64 y.x.ver, .int .i64 y.x.want, .slice y.A1 y.x.sent.length y.c1, .slice y.A2 y.x.live.length y.c2, .slice y.A3 y.x.back.length y.c3, .slice y.A4 y.x.got.length y.c4] 75))
  have HBb := Lib.hid ((((Box.new (w.alloc (.cells #[.int .i64 c.id, .slice c.bk.A1 c.bk.b.own.length c.bk.c1, .slice c.bk.A2 c.bk.b.notes.length c.bk.c2, .int .i64 c.bk.b.locked, .int .i64 c.st.x.way, .int .i64 c.st.x.ver, .int .i64 c.st.x.want, .slice c.st.A1 c.st.x.sent.length c.st.c1, .slice c.st.A2 c.st.x.live.length c.st.c2, .slice c.st.A3 c.st.x.back.length c.st.c3, .slice c.st.A4 c.st.x.got.length c.st.c4, .slice c.pA c.past.length c.pc, .slice c.kA c.knows.length c.kc] 42)) (w.heap.size + 1) (by simp) 39 #[.int .i64 y.x.way, .int .i64 y.x.ver, .int .i64 y.x.want, .slice y.A1 y.x.sent.length y.c1, .slice y.A2 y.x.live.length y.c2, .slice y.A3 y.x.back.length y.c3, .slice y.A4 y.x.got.length y.c4]).alloc (.cells #[.int .i64 p.s, .int .i64 p.k, .int .i64 p.f, .int .i64 p.t, .int .i64 p.m, .int .i64 p.u, .int .i64 p.v] 47)).alloc (.cells #[.int .i64 0, .slice none 0 0, .slice none 0 0, .int .i64 0, .int .i64 0, .int .i64 0, .int .i64 0, .slice none 0 0, .slice none 0 0, .slice none 0 0, .slice none 0 0, .slice none 0 0, .slice none 0 0] 42)).alloc (.cells #[.int .i64 y.x.way, .int .i64 y.x.ver, .int .i64 y.x.want, .slice y.A1 y.x.sent.length y.c1, .slice y.A2 y.x.live.length y.c2, .slice y.A3 y.x.back.length y.c3, .slice y.A4 y.x.got.length y.c4] 75))
  have HBp := Lib.hid (((Box.new ((w.alloc (.cells #[.int .i64 c.id, .slice c.bk.A1 c.bk.b.own.length c.bk.c1, .slice c.bk.A2 c.bk.b.notes.length c.bk.c2, .int .i64 c.bk.b.locked, .int .i64 c.st.x.way, .int .i64 c.st.x.ver, .int .i64 c.st.x.want, .slice c.st.A1 c.st.x.sent.length c.st.c1, .slice c.st.A2 c.st.x.live.length c.st.c2, .slice c.st.A3 c.st.x.back.length c.st.c3, .slice c.st.A4 c.st.x.got.length c.st.c4, .slice c.pA c.past.length c.pc, .slice c.kA c.knows.length c.kc] 42)).alloc (.cells #[.int .i64 y.x.way, .int .i64 y.x.ver, .int .i64 y.x.want, .slice y.A1 y.x.sent.length y.c1, .slice y.A2 y.x.live.length y.c2, .slice y.A3 y.x.back.length y.c3, .slice y.A4 y.x.got.length y.c4] 39)) (w.heap.size + 1 + 1) (by simp) 47 #[.int .i64 p.s, .int .i64 p.k, .int .i64 p.f, .int .i64 p.t, .int .i64 p.m, .int .i64 p.u, .int .i64 p.v]).alloc (.cells #[.int .i64 0, .slice none 0 0, .slice none 0 0, .int .i64 0, .int .i64 0, .int .i64 0, .int .i64 0, .slice none 0 0, .slice none 0 0, .slice none 0 0, .slice none 0 0, .slice none 0 0, .slice none 0 0] 42)).alloc (.cells #[.int .i64 y.x.way, .int .i64 y.x.ver, .int .i64 y.x.want, .slice y.A1 y.x.sent.length y.c1, .slice y.A2 y.x.live.length y.c2, .slice y.A3 y.x.back.length y.c3, .slice y.A4 y.x.got.length y.c4] 75))
  have HBr := Lib.hid ((Box.new (((w.alloc (.cells #[.int .i64 c.id, .slice c.bk.A1 c.bk.b.own.length c.bk.c1, .slice c.bk.A2 c.bk.b.notes.length c.bk.c2, .int .i64 c.bk.b.locked, .int .i64 c.st.x.way, .int .i64 c.st.x.ver, .int .i64 c.st.x.want, .slice c.st.A1 c.st.x.sent.length c.st.c1, .slice c.st.A2 c.st.x.live.length c.st.c2, .slice c.st.A3 c.st.x.back.length c.st.c3, .slice c.st.A4 c.st.x.got.length c.st.c4, .slice c.pA c.past.length c.pc, .slice c.kA c.knows.length c.kc] 42)).alloc (.cells #[.int .i64 y.x.way, .int .i64 y.x.ver, .int .i64 y.x.want, .slice y.A1 y.x.sent.length y.c1, .slice y.A2 y.x.live.length y.c2, .slice y.A3 y.x.back.length y.c3, .slice y.A4 y.x.got.length y.c4] 39)).alloc (.cells #[.int .i64 p.s, .int .i64 p.k, .int .i64 p.f, .int .i64 p.t, .int .i64 p.m, .int .i64 p.u, .int .i64 p.v] 47)) (w.heap.size + 1 + 1 + 1) (by simp) 42 #[.int .i64 0, .slice none 0 0, .slice none 0 0, .int .i64 0, .int .i64 0, .int .i64 0, .int .i64 0, .slice none 0 0, .slice none 0 0, .slice none 0 0, .slice none 0 0, .slice none 0 0, .slice none 0 0]).alloc (.cells #[.int .i64 y.x.way, .int .i64 y.x.ver, .int .i64 y.x.want, .slice y.A1 y.x.sent.length y.c1, .slice y.A2 y.x.live.length y.c2, .slice y.A3 y.x.back.length y.c3, .slice y.A4 y.x.got.length y.c4] 75))
  have HBq := Lib.hid (Box.new ((((w.alloc (.cells #[.int .i64 c.id, .slice c.bk.A1 c.bk.b.own.length c.bk.c1, .slice c.bk.A2 c.bk.b.notes.length c.bk.c2, .int .i64 c.bk.b.locked, .int .i64 c.st.x.way, .int .i64 c.st.x.ver, .int .i64 c.st.x.want, .slice c.st.A1 c.st.x.sent.length c.st.c1, .slice c.st.A2 c.st.x.live.length c.st.c2, .slice c.st.A3 c.st.x.back.length c.st.c3, .slice c.st.A4 c.st.x.got.length c.st.c4, .slice c.pA c.past.length c.pc, .slice c.kA c.knows.length c.kc] 42)).alloc (.cells #[.int .i64 y.x.way, .int .i64 y.x.ver, .int .i64 y.x.want, .slice y.A1 y.x.sent.length y.c1, .slice y.A2 y.x.live.length y.c2, .slice y.A3 y.x.back.length y.c3, .slice y.A4 y.x.got.length y.c4] 39)).alloc (.cells #[.int .i64 p.s, .int .i64 p.k, .int .i64 p.f, .int .i64 p.t, .int .i64 p.m, .int .i64 p.u, .int .i64 p.v] 47)).alloc (.cells #[.int .i64 0, .slice none 0 0, .slice none 0 0, .int .i64 0, .int .i64 0, .int .i64 0, .int .i64 0, .slice none 0 0, .slice none 0 0, .slice none 0 0, .slice none 0 0, .slice none 0 0, .slice none 0 0] 42)) (w.heap.size + 1 + 1 + 1 + 1) (by simp) 75 #[.int .i64 y.x.way, .int .i64 y.x.ver, .int .i64 y.x.want, .slice y.A1 y.x.sent.length y.c1, .slice y.A2 y.x.live.length y.c2, .slice y.A3 y.x.back.length y.c3, .slice y.A4 y.x.got.length y.c4])
  have HK := Lib.hid ((((((Keeps.refl noBlk w).alloc (.cells #[.int .i64 c.id, .slice c.bk.A1 c.bk.b.own.length c.bk.c1, .slice c.bk.A2 c.bk.b.notes.length c.bk.c2, .int .i64 c.bk.b.locked, .int .i64 c.st.x.way, .int .i64 c.st.x.ver, .int .i64 c.st.x.want, .slice c.st.A1 c.st.x.sent.length c.st.c1, .slice c.st.A2 c.st.x.live.length c.st.c2, .slice c.st.A3 c.st.x.back.length c.st.c3, .slice c.st.A4 c.st.x.got.length c.st.c4, .slice c.pA c.past.length c.pc, .slice c.kA c.knows.length c.kc] 42)).alloc (.cells #[.int .i64 y.x.way, .int .i64 y.x.ver, .int .i64 y.x.want, .slice y.A1 y.x.sent.length y.c1, .slice y.A2 y.x.live.length y.c2, .slice y.A3 y.x.back.length y.c3, .slice y.A4 y.x.got.length y.c4] 39)).alloc (.cells #[.int .i64 p.s, .int .i64 p.k, .int .i64 p.f, .int .i64 p.t, .int .i64 p.m, .int .i64 p.u, .int .i64 p.v] 47)).alloc (.cells #[.int .i64 0, .slice none 0 0, .slice none 0 0, .int .i64 0, .int .i64 0, .int .i64 0, .int .i64 0, .slice none 0 0, .slice none 0 0, .slice none 0 0, .slice none 0 0, .slice none 0 0, .slice none 0 0] 42)).alloc (.cells #[.int .i64 y.x.way, .int .i64 y.x.ver, .int .i64 y.x.want, .slice y.A1 y.x.sent.length y.c1, .slice y.A2 y.x.live.length y.c2, .slice y.A3 y.x.back.length y.c3, .slice y.A4 y.x.got.length y.c4] 75))
  go_enter Tryz.func13, Tryz.ntmps13
  go_wp2_with fail
  refine (F.out _ HK.out).mono ?_
  rintro e w1 ⟨P, rfl, hl9, hk1⟩
  unfold lkV
  have HLK := Lib.hid hl9
  clear hl9
  have ha := HBa.out.keeps hk1 (fun h => h)
  clear HBa
  have HBa := Lib.hid ha
  clear ha
  have hb := HBb.out.keeps hk1 (fun h => h)
  clear HBb
  have HBb := Lib.hid hb
  clear hb
  have hp := HBp.out.keeps hk1 (fun h => h)
  clear HBp
  have HBp := Lib.hid hp
  clear hp
  have hr := HBr.out.keeps hk1 (fun h => h)
  clear HBr
  have HBr := Lib.hid hr
  clear hr
  have hq := HBq.out.keeps hk1 (fun h => h)
  clear HBq
  have HBq := Lib.hid hq
  clear hq
  have hr := HK.out.trans hk1
  clear HK
  have HK := Lib.hid hr
  clear hr
  have sz1 := hk1.size
  (try simp at sz1)
  clear hk1
  have hb := HBq.out
  have q0 := hb.cell 0
  have q1 := hb.cell 1
  have q2 := hb.cell 2
  have q3 := hb.cell 3
  have q4 := hb.cell 4
  have q5 := hb.cell 5
  have q6 := hb.cell 6
  simp at q0 q1 q2 q3 q4 q5 q6
  have zq := hb.lt
  clear hb
  have hb := HBp.out
  have p0 := hb.cell 0
  have p1 := hb.cell 1
  have p2 := hb.cell 2
  have p3 := hb.cell 3
  have p4 := hb.cell 4
  have p5 := hb.cell 5
  have p6 := hb.cell 6
  simp at p0 p1 p2 p3 p4 p5 p6
  have zp := hb.lt
  clear hb
  have ha := HBa.out.alloc (.cells #[.slice c.bk.A1 c.bk.b.own.length c.bk.c1, .slice c.bk.A2 c.bk.b.notes.length c.bk.c2, .int .i64 c.bk.b.locked, .int .i64 c.id, .int .i64 c.st.x.way, .int .i64 c.st.x.ver, .int .i64 c.st.x.want, .slice c.st.A1 c.st.x.sent.length c.st.c1, .slice c.st.A2 c.st.x.live.length c.st.c2, .slice c.st.A3 c.st.x.back.length c.st.c3, .slice c.st.A4 c.st.x.got.length c.st.c4, .pointer P, .slice c.kA c.knows.length c.kc] 78)
  clear HBa
  have HBa := Lib.hid ha
  clear ha
  have hb := HBb.out.alloc (.cells #[.slice c.bk.A1 c.bk.b.own.length c.bk.c1, .slice c.bk.A2 c.bk.b.notes.length c.bk.c2, .int .i64 c.bk.b.locked, .int .i64 c.id, .int .i64 c.st.x.way, .int .i64 c.st.x.ver, .int .i64 c.st.x.want, .slice c.st.A1 c.st.x.sent.length c.st.c1, .slice c.st.A2 c.st.x.live.length c.st.c2, .slice c.st.A3 c.st.x.back.length c.st.c3, .slice c.st.A4 c.st.x.got.length c.st.c4, .pointer P, .slice c.kA c.knows.length c.kc] 78)
  clear HBb
  have HBb := Lib.hid hb
  clear hb
  have hp := HBp.out.alloc (.cells #[.slice c.bk.A1 c.bk.b.own.length c.bk.c1, .slice c.bk.A2 c.bk.b.notes.length c.bk.c2, .int .i64 c.bk.b.locked, .int .i64 c.id, .int .i64 c.st.x.way, .int .i64 c.st.x.ver, .int .i64 c.st.x.want, .slice c.st.A1 c.st.x.sent.length c.st.c1, .slice c.st.A2 c.st.x.live.length c.st.c2, .slice c.st.A3 c.st.x.back.length c.st.c3, .slice c.st.A4 c.st.x.got.length c.st.c4, .pointer P, .slice c.kA c.knows.length c.kc] 78)
  clear HBp
  have HBp := Lib.hid hp
  clear hp
  have hr := HBr.out.alloc (.cells #[.slice c.bk.A1 c.bk.b.own.length c.bk.c1, .slice c.bk.A2 c.bk.b.notes.length c.bk.c2, .int .i64 c.bk.b.locked, .int .i64 c.id, .int .i64 c.st.x.way, .int .i64 c.st.x.ver, .int .i64 c.st.x.want, .slice c.st.A1 c.st.x.sent.length c.st.c1, .slice c.st.A2 c.st.x.live.length c.st.c2, .slice c.st.A3 c.st.x.back.length c.st.c3, .slice c.st.A4 c.st.x.got.length c.st.c4, .pointer P, .slice c.kA c.knows.length c.kc] 78)
  clear HBr
  have HBr := Lib.hid hr
  clear hr
  have hq := HBq.out.alloc (.cells #[.slice c.bk.A1 c.bk.b.own.length c.bk.c1, .slice c.bk.A2 c.bk.b.notes.length c.bk.c2, .int .i64 c.bk.b.locked, .int .i64 c.id, .int .i64 c.st.x.way, .int .i64 c.st.x.ver, .int .i64 c.st.x.want, .slice c.st.A1 c.st.x.sent.length c.st.c1, .slice c.st.A2 c.st.x.live.length c.st.c2, .slice c.st.A3 c.st.x.back.length c.st.c3, .slice c.st.A4 c.st.x.got.length c.st.c4, .pointer P, .slice c.kA c.knows.length c.kc] 78)
  clear HBq
  have HBq := Lib.hid hq
  clear hq
  have hr := Lk.kept (HLK.out) ((Keeps.refl noBlk w1).alloc (.cells #[.slice c.bk.A1 c.bk.b.own.length c.bk.c1, .slice c.bk.A2 c.bk.b.notes.length c.bk.c2, .int .i64 c.bk.b.locked, .int .i64 c.id, .int .i64 c.st.x.way, .int .i64 c.st.x.ver, .int .i64 c.st.x.want, .slice c.st.A1 c.st.x.sent.length c.st.c1, .slice c.st.A2 c.st.x.live.length c.st.c2, .slice c.st.A3 c.st.x.back.length c.st.c3, .slice c.st.A4 c.st.x.got.length c.st.c4, .pointer P, .slice c.kA c.knows.length c.kc] 78))
  clear HLK
  have HLK := Lib.hid hr
  clear hr
  have hr := HK.out.alloc (.cells #[.slice c.bk.A1 c.bk.b.own.length c.bk.c1, .slice c.bk.A2 c.bk.b.notes.length c.bk.c2, .int .i64 c.bk.b.locked, .int .i64 c.id, .int .i64 c.st.x.way, .int .i64 c.st.x.ver, .int .i64 c.st.x.want, .slice c.st.A1 c.st.x.sent.length c.st.c1, .slice c.st.A2 c.st.x.live.length c.st.c2, .slice c.st.A3 c.st.x.back.length c.st.c3, .slice c.st.A4 c.st.x.got.length c.st.c4, .pointer P, .slice c.kA c.knows.length c.kc] 78)
  clear HK
  have HK := Lib.hid hr
  clear hr
  have HBk := Lib.hid (Box.new w1 _ rfl 78 #[.slice c.bk.A1 c.bk.b.own.length c.bk.c1, .slice c.bk.A2 c.bk.b.notes.length c.bk.c2, .int .i64 c.bk.b.locked, .int .i64 c.id, .int .i64 c.st.x.way, .int .i64 c.st.x.ver, .int .i64 c.st.x.want, .slice c.st.A1 c.st.x.sent.length c.st.c1, .slice c.st.A2 c.st.x.live.length c.st.c2, .slice c.st.A3 c.st.x.back.length c.st.c3, .slice c.st.A4 c.st.x.got.length c.st.c4, .pointer P, .slice c.kA c.knows.length c.kc])
  go_wp2_with fail
  refine (FP.out _ HK.out).mono ?_
  rintro e w2 ⟨rfl, hk2⟩
  clear q0 q1 q2 q3 q4 q5 q6 p0 p1 p2 p3 p4 p5 p6 zq zp
  have ha := HBa.out.keeps hk2 (fun h => h)
  clear HBa
  have HBa := Lib.hid ha
  clear ha
  have hb := HBb.out.keeps hk2 (fun h => h)
  clear HBb
  have HBb := Lib.hid hb
  clear hb
  have hp := HBp.out.keeps hk2 (fun h => h)
  clear HBp
  have HBp := Lib.hid hp
  clear hp
  have hr := HBr.out.keeps hk2 (fun h => h)
  clear HBr
  have HBr := Lib.hid hr
  clear hr
  have hq := HBq.out.keeps hk2 (fun h => h)
  clear HBq
  have HBq := Lib.hid hq
  clear hq
  have hk := HBk.out.keeps hk2 (fun h => h)
  clear HBk
  have HBk := Lib.hid hk
  clear hk
  have hr := Lk.kept (HLK.out) hk2
  clear HLK
  have HLK := Lib.hid hr
  clear hr
  have hr := HK.out.trans hk2
  clear HK
  have HK := Lib.hid hr
  clear hr
  have sz2 := hk2.size
  (try simp at sz2)
  clear hk2
  have hb := HBk.out
  have k0 := hb.cell 0
  have k1 := hb.cell 1
  have k2 := hb.cell 2
  have k3 := hb.cell 3
  have k4 := hb.cell 4
  have k5 := hb.cell 5
  have k6 := hb.cell 6
  have k7 := hb.cell 7
  have k8 := hb.cell 8
  have k9 := hb.cell 9
  have k10 := hb.cell 10
  have k11 := hb.cell 11
  have k12 := hb.cell 12
  simp at k0 k1 k2 k3 k4 k5 k6 k7 k8 k9 k10 k11 k12
  have zk := hb.lt
  clear hb
  have hb := HBq.out
  have q0 := hb.cell 0
  have q1 := hb.cell 1
  have q2 := hb.cell 2
  have q3 := hb.cell 3
  have q4 := hb.cell 4
  have q5 := hb.cell 5
  have q6 := hb.cell 6
  simp at q0 q1 q2 q3 q4 q5 q6
  have zq := hb.lt
  clear hb
  have hb := HBp.out
  have p0 := hb.cell 0
  have p1 := hb.cell 1
  have p2 := hb.cell 2
  have p3 := hb.cell 3
  have p4 := hb.cell 4
  have p5 := hb.cell 5
  have p6 := hb.cell 6
  simp at p0 p1 p2 p3 p4 p5 p6
  have zp := hb.lt
  clear hb
  go_wp2_with fail
  refine (FM.out P _ _ HK.out HLK.out).mono ?_
  rintro e w3 ⟨rfl, hk3⟩
  clear k0 k1 k2 k3 k4 k5 k6 k7 k8 k9 k10 k11 k12 q0 q1 q2 q3 q4 q5 q6 p0 p1 p2 p3 p4 p5 p6 zk zq zp
  have ha := HBa.out.keeps hk3 (fun h => h)
  clear HBa
  have HBa := Lib.hid ha
  clear ha
  have hb := HBb.out.keeps hk3 (fun h => h)
  clear HBb
  have HBb := Lib.hid hb
  clear hb
  have hp := HBp.out.keeps hk3 (fun h => h)
  clear HBp
  have HBp := Lib.hid hp
  clear hp
  have hr := HBr.out.keeps hk3 (fun h => h)
  clear HBr
  have HBr := Lib.hid hr
  clear hr
  have hq := HBq.out.keeps hk3 (fun h => h)
  clear HBq
  have HBq := Lib.hid hq
  clear hq
  have hk := HBk.out.keeps hk3 (fun h => h)
  clear HBk
  have HBk := Lib.hid hk
  clear hk
  have hr := Lk.kept (HLK.out) hk3
  clear HLK
  have HLK := Lib.hid hr
  clear hr
  have hr := HK.out.trans hk3
  clear HK
  have HK := Lib.hid hr
  clear hr
  have sz3 := hk3.size
  (try simp at sz3)
  clear hk3
  have hb := HBk.out
  have k0 := hb.cell 0
  have k1 := hb.cell 1
  have k2 := hb.cell 2
  have k3 := hb.cell 3
  have k4 := hb.cell 4
  have k5 := hb.cell 5
  have k6 := hb.cell 6
  have k7 := hb.cell 7
  have k8 := hb.cell 8
  have k9 := hb.cell 9
  have k10 := hb.cell 10
  have k11 := hb.cell 11
  have k12 := hb.cell 12
  simp at k0 k1 k2 k3 k4 k5 k6 k7 k8 k9 k10 k11 k12
  have zk := hb.lt
  clear hb
  have szr := HBr.out.lt
  go_wp2_with fail
  have HL := Lib.hid (lchain_any c P _ _ (lnk_of (HH.out.kept HK.out) HB.out HLK.out))
  unfold lkV at HL
  (try dsimp only at HL)
  refine HL.out.mono ?_
  rintro e w4 ⟨d, G, rfl, sm, ow, hk4⟩
  dsimp only [ChM.val]
  have OW := Lib.hid ow
  have SM := Lib.hid sm
  clear ow sm HL
  clear k0 k1 k2 k3 k4 k5 k6 k7 k8 k9 k10 k11 k12 zk
  have ha := HBa.out.keeps hk4 (fun h => h)
  clear HBa
  have HBa := Lib.hid ha
  clear ha
  have hb := HBb.out.keeps hk4 (fun h => h)
  clear HBb
  have HBb := Lib.hid hb
  clear hb
  have hp := HBp.out.keeps hk4 (fun h => h)
  clear HBp
  have HBp := Lib.hid hp
  clear hp
  have hr := HBr.out.keeps hk4 (fun h => h)
  clear HBr
  have HBr := Lib.hid hr
  clear hr
  have hq := HBq.out.keeps hk4 (fun h => h)
  clear HBq
  have HBq := Lib.hid hq
  clear hq
  have hk := HBk.out.keeps hk4 (fun h => h)
  clear HBk
  have HBk := Lib.hid hk
  clear hk
  have hr := HK.out.trans hk4
  clear HK
  have HK := Lib.hid hr
  clear hr
  have sz4 := hk4.size
  (try simp at sz4)
  clear hk4
  have hb := HBr.out
  have r0 := hb.cell 0
  have r1 := hb.cell 1
  have r2 := hb.cell 2
  have r3 := hb.cell 3
  have r4 := hb.cell 4
  have r5 := hb.cell 5
  have r6 := hb.cell 6
  have r7 := hb.cell 7
  have r8 := hb.cell 8
  have r9 := hb.cell 9
  have r10 := hb.cell 10
  have r11 := hb.cell 11
  have r12 := hb.cell 12
  simp at r0 r1 r2 r3 r4 r5 r6 r7 r8 r9 r10 r11 r12
  have zr := hb.lt
  clear hb
  have hb := HBr.out
  have rf0 := hb.frozen 0
  have rf1 := hb.frozen 1
  have rf2 := hb.frozen 2
  have rf3 := hb.frozen 3
  have rf4 := hb.frozen 4
  have rf5 := hb.frozen 5
  have rf6 := hb.frozen 6
  have rf7 := hb.frozen 7
  have rf8 := hb.frozen 8
  have rf9 := hb.frozen 9
  have rf10 := hb.frozen 10
  have rf11 := hb.frozen 11
  have rf12 := hb.frozen 12
  clear hb
  go_wp2
  have hbF := (((((((((((((HBr.out.set_ 0 (.int .i64 d.id)).set_ 1 (.slice d.bk.A1 d.bk.b.own.length d.bk.c1)).set_ 2 (.slice d.bk.A2 d.bk.b.notes.length d.bk.c2)).set_ 3 (.int .i64 d.bk.b.locked)).set_ 4 (.int .i64 d.st.x.way)).set_ 5 (.int .i64 d.st.x.ver)).set_ 6 (.int .i64 d.st.x.want)).set_ 7 (.slice d.st.A1 d.st.x.sent.length d.st.c1)).set_ 8 (.slice d.st.A2 d.st.x.live.length d.st.c2)).set_ 9 (.slice d.st.A3 d.st.x.back.length d.st.c3)).set_ 10 (.slice d.st.A4 d.st.x.got.length d.st.c4)).set_ 11 (.slice d.pA d.past.length d.pc)).set_ 12 (.slice d.kA d.knows.length d.kc))
  simp only [List.setIfInBounds_toArray, List.set_cons_zero, List.set_cons_succ] at hbF
  have s10 := hbF.cell 0
  have s11 := hbF.cell 1
  have s12 := hbF.cell 2
  have s13 := hbF.cell 3
  have s14 := hbF.cell 4
  have s15 := hbF.cell 5
  have s16 := hbF.cell 6
  have s17 := hbF.cell 7
  have s18 := hbF.cell 8
  have s19 := hbF.cell 9
  have s20 := hbF.cell 10
  have s21 := hbF.cell 11
  have s22 := hbF.cell 12
  simp at s10 s11 s12 s13 s14 s15 s16 s17 s18 s19 s20 s21 s22
  clear hbF
  have kS : Keeps (fun b => b = w.heap.size + 1 + 1 + 1) w4 (((((((((((((w4.setCell ⟨w.heap.size + 1 + 1 + 1, 0, none⟩ (.int .i64 d.id)).setCell ⟨w.heap.size + 1 + 1 + 1, 1, none⟩ (.slice d.bk.A1 d.bk.b.own.length d.bk.c1)).setCell ⟨w.heap.size + 1 + 1 + 1, 2, none⟩ (.slice d.bk.A2 d.bk.b.notes.length d.bk.c2)).setCell ⟨w.heap.size + 1 + 1 + 1, 3, none⟩ (.int .i64 d.bk.b.locked)).setCell ⟨w.heap.size + 1 + 1 + 1, 4, none⟩ (.int .i64 d.st.x.way)).setCell ⟨w.heap.size + 1 + 1 + 1, 5, none⟩ (.int .i64 d.st.x.ver)).setCell ⟨w.heap.size + 1 + 1 + 1, 6, none⟩ (.int .i64 d.st.x.want)).setCell ⟨w.heap.size + 1 + 1 + 1, 7, none⟩ (.slice d.st.A1 d.st.x.sent.length d.st.c1)).setCell ⟨w.heap.size + 1 + 1 + 1, 8, none⟩ (.slice d.st.A2 d.st.x.live.length d.st.c2)).setCell ⟨w.heap.size + 1 + 1 + 1, 9, none⟩ (.slice d.st.A3 d.st.x.back.length d.st.c3)).setCell ⟨w.heap.size + 1 + 1 + 1, 10, none⟩ (.slice d.st.A4 d.st.x.got.length d.st.c4)).setCell ⟨w.heap.size + 1 + 1 + 1, 11, none⟩ (.slice d.pA d.past.length d.pc)).setCell ⟨w.heap.size + 1 + 1 + 1, 12, none⟩ (.slice d.kA d.knows.length d.kc)) := ((((((((((((((Keeps.refl (fun b => b = w.heap.size + 1 + 1 + 1) w4).setCell (p := ⟨w.heap.size + 1 + 1 + 1, 0, none⟩) (.inr rfl) (.int .i64 d.id)).setCell (p := ⟨w.heap.size + 1 + 1 + 1, 1, none⟩) (.inr rfl) (.slice d.bk.A1 d.bk.b.own.length d.bk.c1)).setCell (p := ⟨w.heap.size + 1 + 1 + 1, 2, none⟩) (.inr rfl) (.slice d.bk.A2 d.bk.b.notes.length d.bk.c2)).setCell (p := ⟨w.heap.size + 1 + 1 + 1, 3, none⟩) (.inr rfl) (.int .i64 d.bk.b.locked)).setCell (p := ⟨w.heap.size + 1 + 1 + 1, 4, none⟩) (.inr rfl) (.int .i64 d.st.x.way)).setCell (p := ⟨w.heap.size + 1 + 1 + 1, 5, none⟩) (.inr rfl) (.int .i64 d.st.x.ver)).setCell (p := ⟨w.heap.size + 1 + 1 + 1, 6, none⟩) (.inr rfl) (.int .i64 d.st.x.want)).setCell (p := ⟨w.heap.size + 1 + 1 + 1, 7, none⟩) (.inr rfl) (.slice d.st.A1 d.st.x.sent.length d.st.c1)).setCell (p := ⟨w.heap.size + 1 + 1 + 1, 8, none⟩) (.inr rfl) (.slice d.st.A2 d.st.x.live.length d.st.c2)).setCell (p := ⟨w.heap.size + 1 + 1 + 1, 9, none⟩) (.inr rfl) (.slice d.st.A3 d.st.x.back.length d.st.c3)).setCell (p := ⟨w.heap.size + 1 + 1 + 1, 10, none⟩) (.inr rfl) (.slice d.st.A4 d.st.x.got.length d.st.c4)).setCell (p := ⟨w.heap.size + 1 + 1 + 1, 11, none⟩) (.inr rfl) (.slice d.pA d.past.length d.pc)).setCell (p := ⟨w.heap.size + 1 + 1 + 1, 12, none⟩) (.inr rfl) (.slice d.kA d.knows.length d.kc))
  generalize (((((((((((((w4.setCell ⟨w.heap.size + 1 + 1 + 1, 0, none⟩ (.int .i64 d.id)).setCell ⟨w.heap.size + 1 + 1 + 1, 1, none⟩ (.slice d.bk.A1 d.bk.b.own.length d.bk.c1)).setCell ⟨w.heap.size + 1 + 1 + 1, 2, none⟩ (.slice d.bk.A2 d.bk.b.notes.length d.bk.c2)).setCell ⟨w.heap.size + 1 + 1 + 1, 3, none⟩ (.int .i64 d.bk.b.locked)).setCell ⟨w.heap.size + 1 + 1 + 1, 4, none⟩ (.int .i64 d.st.x.way)).setCell ⟨w.heap.size + 1 + 1 + 1, 5, none⟩ (.int .i64 d.st.x.ver)).setCell ⟨w.heap.size + 1 + 1 + 1, 6, none⟩ (.int .i64 d.st.x.want)).setCell ⟨w.heap.size + 1 + 1 + 1, 7, none⟩ (.slice d.st.A1 d.st.x.sent.length d.st.c1)).setCell ⟨w.heap.size + 1 + 1 + 1, 8, none⟩ (.slice d.st.A2 d.st.x.live.length d.st.c2)).setCell ⟨w.heap.size + 1 + 1 + 1, 9, none⟩ (.slice d.st.A3 d.st.x.back.length d.st.c3)).setCell ⟨w.heap.size + 1 + 1 + 1, 10, none⟩ (.slice d.st.A4 d.st.x.got.length d.st.c4)).setCell ⟨w.heap.size + 1 + 1 + 1, 11, none⟩ (.slice d.pA d.past.length d.pc)).setCell ⟨w.heap.size + 1 + 1 + 1, 12, none⟩ (.slice d.kA d.knows.length d.kc)) = WF at kS s10 s11 s12 s13 s14 s15 s16 s17 s18 s19 s20 s21 s22 ⊢
  refine bodyPost_ret (v := .tuple #[d.val, .bool false]) (by simp [results, Tryz.results13, go_sem, ChM.val, s10, s11, s12, s13, s14, s15, s16, s17, s18, s19, s20, s21, s22]) rfl ?_
  exact ⟨d, G, rfl, SM.out, ((OW.out.keeps kS fun b hb h => by have q := OW.out.ge hb; (try simp at q) <;> omega).less (by first | omega | (simp <;> omega))), HK.out.then kS fun i hi h => by omega⟩
set_option maxRecDepth 100000 in
set_option maxHeartbeats 8000000 in
theorem implRGet_yes (c : ChM) (y : StM) (k : Nat) (kd pf pt pm pu pv : Int) (w : World) (h : ChAt w c) (hy : y.At w) (ht : Tabs w) (hb : ckB c = true) (hs : stB y.x = true) (hp : Pk.ok (⟨(k : Int) + 1, kd, pf, pt, pm, pu, pv⟩ : Pk) = true) (hk : k < c.st.x.got.length) (hm : mgB c y.x (⟨(k : Int) + 1, kd, pf, pt, pm, pu, pv⟩ : Pk) = true) :
    Calls Tryz.prog 13 #[c.val, y.val, Pk.val (⟨(k : Int) + 1, kd, pf, pt, pm, pu, pv⟩ : Pk)] w (RetC (fun v => .tuple #[v, .bool true]) w (getCh c k (refB c.bk.b (pkd kd) pt pm) (if backOk c.bk.b (pkd kd) pt pm = true then 1 else 2))) := by
  have F := Lib.hid (fun W (hk : Keeps noBlk w W) => shown_any_yes c y W (h.kept hk) (hy.kept hk) (ht.keeps hk) hb hs)
  have FP := Lib.hid (fun W (hk : Keeps noBlk w W) => implPk_any ((k : Int) + 1) kd pf pt pm pu pv W (ht.keeps hk))
  have hp2 : pkB ((k : Int) + 1) kd pf pt pm pu pv = true := hp
  rw [hp2] at FP
  have FM := Lib.hid (fun P lo W (hk : Keeps noBlk w W) (hl : Lk W lo P c.past.reverse) => mayGet_any c y P (⟨(k : Int) + 1, kd, pf, pt, pm, pu, pv⟩ : Pk) lo W (h.st.kept hk) (hy.kept hk) (ht.keeps hk) hl (by have := (of_decide_eq_true hb).2.2.2.1; omega))
  rw [hm] at FM
  have HH := Lib.hid h
  have HY := Lib.hid hy
  have HB := Lib.hid hb
  have HS := Lib.hid hs
  have h8 := st_len8 (of_decide_eq_true hb).2.2.1
  have HL8 := Lib.hid h8
  have hpp := pk_parts hp
  have HPP := Lib.hid hpp
  have hl2 := ok_len2 (of_decide_eq_true hb).2.1
  have HQP := Lib.hid (get_pay (ck_bank hb) hp)
  have FR := Lib.hid (fun P W (hk9 : Keeps noBlk w W) => receive_any c P k kd pf pt pm pu pv W (h.st.kept hk9) (h.own.keeps hk9 fun _ _ h => h) (h.notes.keeps hk9 fun _ _ h => h) hl2.1 hl2.2 h8 hk hpp.2.2.2.2.2)
  unfold RetRef lkV at FR
  dsimp only at FR
  have HQP1 := Lib.hid HQP.out.1
  clear HQP
  generalize (if backOk c.bk.b (pkd kd) pt pm = true then (1 : Int) else 2) = nn at FR ⊢
  clear h hy ht hb hs hm hk h8 hl2 hp hp2 hpp
  unfold ChM.val StM.val Pk.val
  unfold ChM.val at F
  unfold lkV Pk.val at FM
  have HBa := Lib.hid (((((Box.new w (w.heap.size) (by simp) 42 #[.int .i64 c.id, .slice c.bk.A1 c.bk.b.own.length c.bk.c1, .slice c.bk.A2 c.bk.b.notes.length c.bk.c2, .int .i64 c.bk.b.locked, .int .i64 c.st.x.way, .int .i64 c.st.x.ver, .int .i64 c.st.x.want, .slice c.st.A1 c.st.x.sent.length c.st.c1, .slice c.st.A2 c.st.x.live.length c.st.c2, .slice c.st.A3 c.st.x.back.length c.st.c3, .slice c.st.A4 c.st.x.got.length c.st.c4, .slice c.pA c.past.length c.pc, .slice c.kA c.knows.length c.kc]).alloc (.cells #[.int .i64 y.x.way, .int .i64 y.x.ver, .int .i64 y.x.want, .slice y.A1 y.x.sent.length y.c1, .slice y.A2 y.x.live.length y.c2, .slice y.A3 y.x.back.length y.c3, .slice y.A4 y.x.got.length y.c4] 39)).alloc (.cells #[.int .i64 ((k : Int) + 1), .int .i64 kd, .int .i64 pf, .int .i64 pt, .int .i64 pm, .int .i64 pu, .int .i64 pv] 47)).alloc (.cells #[.int .i64 0, .slice none 0 0, .slice none 0 0, .int .i64 0, .int .i64 0, .int .i64 0, .int .i64 0, .slice none 0 0, .slice none 0 0, .slice none 0 0, .slice none 0 0, .slice none 0 0, .slice none 0 0] 42)).alloc (.cells #[.int .i64 y.x.way, .int .i64 y.x.ver, .int .i64 y.x.want, .slice y.A1 y.x.sent.length y.c1, .slice y.A2 y.x.live.length y.c2, .slice y.A3 y.x.back.length y.c3, .slice y.A4 y.x.got.length y.c4] 75))
  have HBb := Lib.hid ((((Box.new (w.alloc (.cells #[.int .i64 c.id, .slice c.bk.A1 c.bk.b.own.length c.bk.c1, .slice c.bk.A2 c.bk.b.notes.length c.bk.c2, .int .i64 c.bk.b.locked, .int .i64 c.st.x.way, .int .i64 c.st.x.ver, .int .i64 c.st.x.want, .slice c.st.A1 c.st.x.sent.length c.st.c1, .slice c.st.A2 c.st.x.live.length c.st.c2, .slice c.st.A3 c.st.x.back.length c.st.c3, .slice c.st.A4 c.st.x.got.length c.st.c4, .slice c.pA c.past.length c.pc, .slice c.kA c.knows.length c.kc] 42)) (w.heap.size + 1) (by simp) 39 #[.int .i64 y.x.way, .int .i64 y.x.ver, .int .i64 y.x.want, .slice y.A1 y.x.sent.length y.c1, .slice y.A2 y.x.live.length y.c2, .slice y.A3 y.x.back.length y.c3, .slice y.A4 y.x.got.length y.c4]).alloc (.cells #[.int .i64 ((k : Int) + 1), .int .i64 kd, .int .i64 pf, .int .i64 pt, .int .i64 pm, .int .i64 pu, .int .i64 pv] 47)).alloc (.cells #[.int .i64 0, .slice none 0 0, .slice none 0 0, .int .i64 0, .int .i64 0, .int .i64 0, .int .i64 0, .slice none 0 0, .slice none 0 0, .slice none 0 0, .slice none 0 0, .slice none 0 0, .slice none 0 0] 42)).alloc (.cells #[.int .i64 y.x.way, .int .i64 y.x.ver, .int .i64 y.x.want, .slice y.A1 y.x.sent.length y.c1, .slice y.A2 y.x.live.length y.c2, .slice y.A3 y.x.back.length y.c3, .slice y.A4 y.x.got.length y.c4] 75))
  have HBp := Lib.hid (((Box.new ((w.alloc (.cells #[.int .i64 c.id, .slice c.bk.A1 c.bk.b.own.length c.bk.c1, .slice c.bk.A2 c.bk.b.notes.length c.bk.c2, .int .i64 c.bk.b.locked, .int .i64 c.st.x.way, .int .i64 c.st.x.ver, .int .i64 c.st.x.want, .slice c.st.A1 c.st.x.sent.length c.st.c1, .slice c.st.A2 c.st.x.live.length c.st.c2, .slice c.st.A3 c.st.x.back.length c.st.c3, .slice c.st.A4 c.st.x.got.length c.st.c4, .slice c.pA c.past.length c.pc, .slice c.kA c.knows.length c.kc] 42)).alloc (.cells #[.int .i64 y.x.way, .int .i64 y.x.ver, .int .i64 y.x.want, .slice y.A1 y.x.sent.length y.c1, .slice y.A2 y.x.live.length y.c2, .slice y.A3 y.x.back.length y.c3, .slice y.A4 y.x.got.length y.c4] 39)) (w.heap.size + 1 + 1) (by simp) 47 #[.int .i64 ((k : Int) + 1), .int .i64 kd, .int .i64 pf, .int .i64 pt, .int .i64 pm, .int .i64 pu, .int .i64 pv]).alloc (.cells #[.int .i64 0, .slice none 0 0, .slice none 0 0, .int .i64 0, .int .i64 0, .int .i64 0, .int .i64 0, .slice none 0 0, .slice none 0 0, .slice none 0 0, .slice none 0 0, .slice none 0 0, .slice none 0 0] 42)).alloc (.cells #[.int .i64 y.x.way, .int .i64 y.x.ver, .int .i64 y.x.want, .slice y.A1 y.x.sent.length y.c1, .slice y.A2 y.x.live.length y.c2, .slice y.A3 y.x.back.length y.c3, .slice y.A4 y.x.got.length y.c4] 75))
  have HBr := Lib.hid ((Box.new (((w.alloc (.cells #[.int .i64 c.id, .slice c.bk.A1 c.bk.b.own.length c.bk.c1, .slice c.bk.A2 c.bk.b.notes.length c.bk.c2, .int .i64 c.bk.b.locked, .int .i64 c.st.x.way, .int .i64 c.st.x.ver, .int .i64 c.st.x.want, .slice c.st.A1 c.st.x.sent.length c.st.c1, .slice c.st.A2 c.st.x.live.length c.st.c2, .slice c.st.A3 c.st.x.back.length c.st.c3, .slice c.st.A4 c.st.x.got.length c.st.c4, .slice c.pA c.past.length c.pc, .slice c.kA c.knows.length c.kc] 42)).alloc (.cells #[.int .i64 y.x.way, .int .i64 y.x.ver, .int .i64 y.x.want, .slice y.A1 y.x.sent.length y.c1, .slice y.A2 y.x.live.length y.c2, .slice y.A3 y.x.back.length y.c3, .slice y.A4 y.x.got.length y.c4] 39)).alloc (.cells #[.int .i64 ((k : Int) + 1), .int .i64 kd, .int .i64 pf, .int .i64 pt, .int .i64 pm, .int .i64 pu, .int .i64 pv] 47)) (w.heap.size + 1 + 1 + 1) (by simp) 42 #[.int .i64 0, .slice none 0 0, .slice none 0 0, .int .i64 0, .int .i64 0, .int .i64 0, .int .i64 0, .slice none 0 0, .slice none 0 0, .slice none 0 0, .slice none 0 0, .slice none 0 0, .slice none 0 0]).alloc (.cells #[.int .i64 y.x.way, .int .i64 y.x.ver, .int .i64 y.x.want, .slice y.A1 y.x.sent.length y.c1, .slice y.A2 y.x.live.length y.c2, .slice y.A3 y.x.back.length y.c3, .slice y.A4 y.x.got.length y.c4] 75))
  have HBq := Lib.hid (Box.new ((((w.alloc (.cells #[.int .i64 c.id, .slice c.bk.A1 c.bk.b.own.length c.bk.c1, .slice c.bk.A2 c.bk.b.notes.length c.bk.c2, .int .i64 c.bk.b.locked, .int .i64 c.st.x.way, .int .i64 c.st.x.ver, .int .i64 c.st.x.want, .slice c.st.A1 c.st.x.sent.length c.st.c1, .slice c.st.A2 c.st.x.live.length c.st.c2, .slice c.st.A3 c.st.x.back.length c.st.c3, .slice c.st.A4 c.st.x.got.length c.st.c4, .slice c.pA c.past.length c.pc, .slice c.kA c.knows.length c.kc] 42)).alloc (.cells #[.int .i64 y.x.way, .int .i64 y.x.ver, .int .i64 y.x.want, .slice y.A1 y.x.sent.length y.c1, .slice y.A2 y.x.live.length y.c2, .slice y.A3 y.x.back.length y.c3, .slice y.A4 y.x.got.length y.c4] 39)).alloc (.cells #[.int .i64 ((k : Int) + 1), .int .i64 kd, .int .i64 pf, .int .i64 pt, .int .i64 pm, .int .i64 pu, .int .i64 pv] 47)).alloc (.cells #[.int .i64 0, .slice none 0 0, .slice none 0 0, .int .i64 0, .int .i64 0, .int .i64 0, .int .i64 0, .slice none 0 0, .slice none 0 0, .slice none 0 0, .slice none 0 0, .slice none 0 0, .slice none 0 0] 42)) (w.heap.size + 1 + 1 + 1 + 1) (by simp) 75 #[.int .i64 y.x.way, .int .i64 y.x.ver, .int .i64 y.x.want, .slice y.A1 y.x.sent.length y.c1, .slice y.A2 y.x.live.length y.c2, .slice y.A3 y.x.back.length y.c3, .slice y.A4 y.x.got.length y.c4])
  have HK := Lib.hid ((((((Keeps.refl noBlk w).alloc (.cells #[.int .i64 c.id, .slice c.bk.A1 c.bk.b.own.length c.bk.c1, .slice c.bk.A2 c.bk.b.notes.length c.bk.c2, .int .i64 c.bk.b.locked, .int .i64 c.st.x.way, .int .i64 c.st.x.ver, .int .i64 c.st.x.want, .slice c.st.A1 c.st.x.sent.length c.st.c1, .slice c.st.A2 c.st.x.live.length c.st.c2, .slice c.st.A3 c.st.x.back.length c.st.c3, .slice c.st.A4 c.st.x.got.length c.st.c4, .slice c.pA c.past.length c.pc, .slice c.kA c.knows.length c.kc] 42)).alloc (.cells #[.int .i64 y.x.way, .int .i64 y.x.ver, .int .i64 y.x.want, .slice y.A1 y.x.sent.length y.c1, .slice y.A2 y.x.live.length y.c2, .slice y.A3 y.x.back.length y.c3, .slice y.A4 y.x.got.length y.c4] 39)).alloc (.cells #[.int .i64 ((k : Int) + 1), .int .i64 kd, .int .i64 pf, .int .i64 pt, .int .i64 pm, .int .i64 pu, .int .i64 pv] 47)).alloc (.cells #[.int .i64 0, .slice none 0 0, .slice none 0 0, .int .i64 0, .int .i64 0, .int .i64 0, .int .i64 0, .slice none 0 0, .slice none 0 0, .slice none 0 0, .slice none 0 0, .slice none 0 0, .slice none 0 0] 42)).alloc (.cells #[.int .i64 y.x.way, .int .i64 y.x.ver, .int .i64 y.x.want, .slice y.A1 y.x.sent.length y.c1, .slice y.A2 y.x.live.length y.c2, .slice y.A3 y.x.back.length y.c3, .slice y.A4 y.x.got.length y.c4] 75))
  go_enter Tryz.func13, Tryz.ntmps13
  go_wp2_with fail
  refine (F.out _ HK.out).mono ?_
  rintro e w1 ⟨P, rfl, hl9, hk1⟩
  unfold lkV
  have HLK := Lib.hid hl9
  clear hl9
  have ha := HBa.out.keeps hk1 (fun h => h)
  clear HBa
  have HBa := Lib.hid ha
  clear ha
  have hb := HBb.out.keeps hk1 (fun h => h)
  clear HBb
  have HBb := Lib.hid hb
  clear hb
  have hp := HBp.out.keeps hk1 (fun h => h)
  clear HBp
  have HBp := Lib.hid hp
  clear hp
  have hr := HBr.out.keeps hk1 (fun h => h)
  clear HBr
  have HBr := Lib.hid hr
  clear hr
  have hq := HBq.out.keeps hk1 (fun h => h)
  clear HBq
  have HBq := Lib.hid hq
  clear hq
  have hr := HK.out.trans hk1
  clear HK
  have HK := Lib.hid hr
  clear hr
  have sz1 := hk1.size
  (try simp at sz1)
  clear hk1
  have hb := HBq.out
  have q0 := hb.cell 0
  have q1 := hb.cell 1
  have q2 := hb.cell 2
  have q3 := hb.cell 3
  have q4 := hb.cell 4
  have q5 := hb.cell 5
  have q6 := hb.cell 6
  simp at q0 q1 q2 q3 q4 q5 q6
  have zq := hb.lt
  clear hb
  have hb := HBp.out
  have p0 := hb.cell 0
  have p1 := hb.cell 1
  have p2 := hb.cell 2
  have p3 := hb.cell 3
  have p4 := hb.cell 4
  have p5 := hb.cell 5
  have p6 := hb.cell 6
  simp at p0 p1 p2 p3 p4 p5 p6
  have zp := hb.lt
  clear hb
  have ha := HBa.out.alloc (.cells #[.slice c.bk.A1 c.bk.b.own.length c.bk.c1, .slice c.bk.A2 c.bk.b.notes.length c.bk.c2, .int .i64 c.bk.b.locked, .int .i64 c.id, .int .i64 c.st.x.way, .int .i64 c.st.x.ver, .int .i64 c.st.x.want, .slice c.st.A1 c.st.x.sent.length c.st.c1, .slice c.st.A2 c.st.x.live.length c.st.c2, .slice c.st.A3 c.st.x.back.length c.st.c3, .slice c.st.A4 c.st.x.got.length c.st.c4, .pointer P, .slice c.kA c.knows.length c.kc] 78)
  clear HBa
  have HBa := Lib.hid ha
  clear ha
  have hb := HBb.out.alloc (.cells #[.slice c.bk.A1 c.bk.b.own.length c.bk.c1, .slice c.bk.A2 c.bk.b.notes.length c.bk.c2, .int .i64 c.bk.b.locked, .int .i64 c.id, .int .i64 c.st.x.way, .int .i64 c.st.x.ver, .int .i64 c.st.x.want, .slice c.st.A1 c.st.x.sent.length c.st.c1, .slice c.st.A2 c.st.x.live.length c.st.c2, .slice c.st.A3 c.st.x.back.length c.st.c3, .slice c.st.A4 c.st.x.got.length c.st.c4, .pointer P, .slice c.kA c.knows.length c.kc] 78)
  clear HBb
  have HBb := Lib.hid hb
  clear hb
  have hp := HBp.out.alloc (.cells #[.slice c.bk.A1 c.bk.b.own.length c.bk.c1, .slice c.bk.A2 c.bk.b.notes.length c.bk.c2, .int .i64 c.bk.b.locked, .int .i64 c.id, .int .i64 c.st.x.way, .int .i64 c.st.x.ver, .int .i64 c.st.x.want, .slice c.st.A1 c.st.x.sent.length c.st.c1, .slice c.st.A2 c.st.x.live.length c.st.c2, .slice c.st.A3 c.st.x.back.length c.st.c3, .slice c.st.A4 c.st.x.got.length c.st.c4, .pointer P, .slice c.kA c.knows.length c.kc] 78)
  clear HBp
  have HBp := Lib.hid hp
  clear hp
  have hr := HBr.out.alloc (.cells #[.slice c.bk.A1 c.bk.b.own.length c.bk.c1, .slice c.bk.A2 c.bk.b.notes.length c.bk.c2, .int .i64 c.bk.b.locked, .int .i64 c.id, .int .i64 c.st.x.way, .int .i64 c.st.x.ver, .int .i64 c.st.x.want, .slice c.st.A1 c.st.x.sent.length c.st.c1, .slice c.st.A2 c.st.x.live.length c.st.c2, .slice c.st.A3 c.st.x.back.length c.st.c3, .slice c.st.A4 c.st.x.got.length c.st.c4, .pointer P, .slice c.kA c.knows.length c.kc] 78)
  clear HBr
  have HBr := Lib.hid hr
  clear hr
  have hq := HBq.out.alloc (.cells #[.slice c.bk.A1 c.bk.b.own.length c.bk.c1, .slice c.bk.A2 c.bk.b.notes.length c.bk.c2, .int .i64 c.bk.b.locked, .int .i64 c.id, .int .i64 c.st.x.way, .int .i64 c.st.x.ver, .int .i64 c.st.x.want, .slice c.st.A1 c.st.x.sent.length c.st.c1, .slice c.st.A2 c.st.x.live.length c.st.c2, .slice c.st.A3 c.st.x.back.length c.st.c3, .slice c.st.A4 c.st.x.got.length c.st.c4, .pointer P, .slice c.kA c.knows.length c.kc] 78)
  clear HBq
  have HBq := Lib.hid hq
  clear hq
  have hr := Lk.kept (HLK.out) ((Keeps.refl noBlk w1).alloc (.cells #[.slice c.bk.A1 c.bk.b.own.length c.bk.c1, .slice c.bk.A2 c.bk.b.notes.length c.bk.c2, .int .i64 c.bk.b.locked, .int .i64 c.id, .int .i64 c.st.x.way, .int .i64 c.st.x.ver, .int .i64 c.st.x.want, .slice c.st.A1 c.st.x.sent.length c.st.c1, .slice c.st.A2 c.st.x.live.length c.st.c2, .slice c.st.A3 c.st.x.back.length c.st.c3, .slice c.st.A4 c.st.x.got.length c.st.c4, .pointer P, .slice c.kA c.knows.length c.kc] 78))
  clear HLK
  have HLK := Lib.hid hr
  clear hr
  have hr := HK.out.alloc (.cells #[.slice c.bk.A1 c.bk.b.own.length c.bk.c1, .slice c.bk.A2 c.bk.b.notes.length c.bk.c2, .int .i64 c.bk.b.locked, .int .i64 c.id, .int .i64 c.st.x.way, .int .i64 c.st.x.ver, .int .i64 c.st.x.want, .slice c.st.A1 c.st.x.sent.length c.st.c1, .slice c.st.A2 c.st.x.live.length c.st.c2, .slice c.st.A3 c.st.x.back.length c.st.c3, .slice c.st.A4 c.st.x.got.length c.st.c4, .pointer P, .slice c.kA c.knows.length c.kc] 78)
  clear HK
  have HK := Lib.hid hr
  clear hr
  have HBk := Lib.hid (Box.new w1 _ rfl 78 #[.slice c.bk.A1 c.bk.b.own.length c.bk.c1, .slice c.bk.A2 c.bk.b.notes.length c.bk.c2, .int .i64 c.bk.b.locked, .int .i64 c.id, .int .i64 c.st.x.way, .int .i64 c.st.x.ver, .int .i64 c.st.x.want, .slice c.st.A1 c.st.x.sent.length c.st.c1, .slice c.st.A2 c.st.x.live.length c.st.c2, .slice c.st.A3 c.st.x.back.length c.st.c3, .slice c.st.A4 c.st.x.got.length c.st.c4, .pointer P, .slice c.kA c.knows.length c.kc])
  go_wp2_with fail
  refine (FP.out _ HK.out).mono ?_
  rintro e w2 ⟨rfl, hk2⟩
  clear q0 q1 q2 q3 q4 q5 q6 p0 p1 p2 p3 p4 p5 p6 zq zp
  have ha := HBa.out.keeps hk2 (fun h => h)
  clear HBa
  have HBa := Lib.hid ha
  clear ha
  have hb := HBb.out.keeps hk2 (fun h => h)
  clear HBb
  have HBb := Lib.hid hb
  clear hb
  have hp := HBp.out.keeps hk2 (fun h => h)
  clear HBp
  have HBp := Lib.hid hp
  clear hp
  have hr := HBr.out.keeps hk2 (fun h => h)
  clear HBr
  have HBr := Lib.hid hr
  clear hr
  have hq := HBq.out.keeps hk2 (fun h => h)
  clear HBq
  have HBq := Lib.hid hq
  clear hq
  have hk := HBk.out.keeps hk2 (fun h => h)
  clear HBk
  have HBk := Lib.hid hk
  clear hk
  have hr := Lk.kept (HLK.out) hk2
  clear HLK
  have HLK := Lib.hid hr
  clear hr
  have hr := HK.out.trans hk2
  clear HK
  have HK := Lib.hid hr
  clear hr
  have sz2 := hk2.size
  (try simp at sz2)
  clear hk2
  have hb := HBk.out
  have k0 := hb.cell 0
  have k1 := hb.cell 1
  have k2 := hb.cell 2
  have k3 := hb.cell 3
  have k4 := hb.cell 4
  have k5 := hb.cell 5
  have k6 := hb.cell 6
  have k7 := hb.cell 7
  have k8 := hb.cell 8
  have k9 := hb.cell 9
  have k10 := hb.cell 10
  have k11 := hb.cell 11
  have k12 := hb.cell 12
  simp at k0 k1 k2 k3 k4 k5 k6 k7 k8 k9 k10 k11 k12
  have zk := hb.lt
  clear hb
  have hb := HBq.out
  have q0 := hb.cell 0
  have q1 := hb.cell 1
  have q2 := hb.cell 2
  have q3 := hb.cell 3
  have q4 := hb.cell 4
  have q5 := hb.cell 5
  have q6 := hb.cell 6
  simp at q0 q1 q2 q3 q4 q5 q6
  have zq := hb.lt
  clear hb
  have hb := HBp.out
  have p0 := hb.cell 0
  have p1 := hb.cell 1
  have p2 := hb.cell 2
  have p3 := hb.cell 3
  have p4 := hb.cell 4
  have p5 := hb.cell 5
  have p6 := hb.cell 6
  simp at p0 p1 p2 p3 p4 p5 p6
  have zp := hb.lt
  clear hb
  go_wp2_with fail
  refine (FM.out P _ _ HK.out HLK.out).mono ?_
  rintro e w3 ⟨rfl, hk3⟩
  clear k0 k1 k2 k3 k4 k5 k6 k7 k8 k9 k10 k11 k12 q0 q1 q2 q3 q4 q5 q6 p0 p1 p2 p3 p4 p5 p6 zk zq zp
  have ha := HBa.out.keeps hk3 (fun h => h)
  clear HBa
  have HBa := Lib.hid ha
  clear ha
  have hb := HBb.out.keeps hk3 (fun h => h)
  clear HBb
  have HBb := Lib.hid hb
  clear hb
  have hp := HBp.out.keeps hk3 (fun h => h)
  clear HBp
  have HBp := Lib.hid hp
  clear hp
  have hr := HBr.out.keeps hk3 (fun h => h)
  clear HBr
  have HBr := Lib.hid hr
  clear hr
  have hq := HBq.out.keeps hk3 (fun h => h)
  clear HBq
  have HBq := Lib.hid hq
  clear hq
  have hk := HBk.out.keeps hk3 (fun h => h)
  clear HBk
  have HBk := Lib.hid hk
  clear hk
  have hr := Lk.kept (HLK.out) hk3
  clear HLK
  have HLK := Lib.hid hr
  clear hr
  have hr := HK.out.trans hk3
  clear HK
  have HK := Lib.hid hr
  clear hr
  have sz3 := hk3.size
  (try simp at sz3)
  clear hk3
  have hb := HBk.out
  have k0 := hb.cell 0
  have k1 := hb.cell 1
  have k2 := hb.cell 2
  have k3 := hb.cell 3
  have k4 := hb.cell 4
  have k5 := hb.cell 5
  have k6 := hb.cell 6
  have k7 := hb.cell 7
  have k8 := hb.cell 8
  have k9 := hb.cell 9
  have k10 := hb.cell 10
  have k11 := hb.cell 11
  have k12 := hb.cell 12
  simp at k0 k1 k2 k3 k4 k5 k6 k7 k8 k9 k10 k11 k12
  have zk := hb.lt
  clear hb
  have hb := HBp.out
  have p0 := hb.cell 0
  have p1 := hb.cell 1
  have p2 := hb.cell 2
  have p3 := hb.cell 3
  have p4 := hb.cell 4
  have p5 := hb.cell 5
  have p6 := hb.cell 6
  simp at p0 p1 p2 p3 p4 p5 p6
  have zp := hb.lt
  clear hb
  go_wp2_with fail
  refine (FR.out P _ HK.out).mono ?_
  rintro e w4 ⟨s, t2, rfl, hb9, hx9, i1, i2, ha9, _, _, hk4⟩
  have HSB := Lib.hid hb9
  have HX2 := Lib.hid hx9
  have I1 := Lib.hid i1
  have I2 := Lib.hid i2
  have OT2 := Lib.hid ha9
  clear hb9 hx9 i1 i2 ha9
  clear k0 k1 k2 k3 k4 k5 k6 k7 k8 k9 k10 k11 k12 p0 p1 p2 p3 p4 p5 p6 zk zp
  have ha := HBa.out.keeps hk4 (fun h => h)
  clear HBa
  have HBa := Lib.hid ha
  clear ha
  have hb := HBb.out.keeps hk4 (fun h => h)
  clear HBb
  have HBb := Lib.hid hb
  clear hb
  have hp := HBp.out.keeps hk4 (fun h => h)
  clear HBp
  have HBp := Lib.hid hp
  clear hp
  have hr := HBr.out.keeps hk4 (fun h => h)
  clear HBr
  have HBr := Lib.hid hr
  clear hr
  have hq := HBq.out.keeps hk4 (fun h => h)
  clear HBq
  have HBq := Lib.hid hq
  clear hq
  have hk := HBk.out.keeps hk4 (fun h => h)
  clear HBk
  have HBk := Lib.hid hk
  clear hk
  have hr := Lk.kept (HLK.out) hk4
  clear HLK
  have HLK := Lib.hid hr
  clear hr
  have hr := HK.out.trans hk4
  clear HK
  have HK := Lib.hid hr
  clear hr
  have sz4 := hk4.size
  (try simp at sz4)
  clear hk4
  have szr := HBr.out.lt
  go_wp2_with fail
  have HL := Lib.hid (lchain_any { c with bk := s, st := t2 } P _ _ (lnk_turn HH.out HB.out HK.out HLK.out I1.out I2.out OT2.out (by rw [HSB.out, HQP1.out]; have q := short_get_pay (p := (⟨(k : Int) + 1, kd, pf, pt, pm, pu, pv⟩ : Pk)) (ck_bank HB.out); omega) (by rw [HSB.out, HQP1.out]; have q := short_get_pay (p := (⟨(k : Int) + 1, kd, pf, pt, pm, pu, pv⟩ : Pk)) (ck_bank HB.out); omega) (by rw [HX2.out]; dsimp only; rw [List.length_set]; have := HL8.out; omega)))
  unfold lkV at HL
  (try dsimp only at HL)
  refine HL.out.mono ?_
  rintro e w5 ⟨d, G, rfl, sm, ow, hk5⟩
  dsimp only [ChM.val]
  have OW := Lib.hid ow
  have SM := Lib.hid sm
  clear ow sm HL
  have ha := HBa.out.keeps hk5 (fun h => h)
  clear HBa
  have HBa := Lib.hid ha
  clear ha
  have hb := HBb.out.keeps hk5 (fun h => h)
  clear HBb
  have HBb := Lib.hid hb
  clear hb
  have hp := HBp.out.keeps hk5 (fun h => h)
  clear HBp
  have HBp := Lib.hid hp
  clear hp
  have hr := HBr.out.keeps hk5 (fun h => h)
  clear HBr
  have HBr := Lib.hid hr
  clear hr
  have hq := HBq.out.keeps hk5 (fun h => h)
  clear HBq
  have HBq := Lib.hid hq
  clear hq
  have hk := HBk.out.keeps hk5 (fun h => h)
  clear HBk
  have HBk := Lib.hid hk
  clear hk
  have hr := HK.out.trans hk5
  clear HK
  have HK := Lib.hid hr
  clear hr
  have sz5 := hk5.size
  (try simp at sz5)
  clear hk5
  have hb := HBr.out
  have r0 := hb.cell 0
  have r1 := hb.cell 1
  have r2 := hb.cell 2
  have r3 := hb.cell 3
  have r4 := hb.cell 4
  have r5 := hb.cell 5
  have r6 := hb.cell 6
  have r7 := hb.cell 7
  have r8 := hb.cell 8
  have r9 := hb.cell 9
  have r10 := hb.cell 10
  have r11 := hb.cell 11
  have r12 := hb.cell 12
  simp at r0 r1 r2 r3 r4 r5 r6 r7 r8 r9 r10 r11 r12
  have zr := hb.lt
  clear hb
  have hb := HBr.out
  have rf0 := hb.frozen 0
  have rf1 := hb.frozen 1
  have rf2 := hb.frozen 2
  have rf3 := hb.frozen 3
  have rf4 := hb.frozen 4
  have rf5 := hb.frozen 5
  have rf6 := hb.frozen 6
  have rf7 := hb.frozen 7
  have rf8 := hb.frozen 8
  have rf9 := hb.frozen 9
  have rf10 := hb.frozen 10
  have rf11 := hb.frozen 11
  have rf12 := hb.frozen 12
  clear hb
  go_wp2
  have hbF := (((((((((((((HBr.out.set_ 0 (.int .i64 d.id)).set_ 1 (.slice d.bk.A1 d.bk.b.own.length d.bk.c1)).set_ 2 (.slice d.bk.A2 d.bk.b.notes.length d.bk.c2)).set_ 3 (.int .i64 d.bk.b.locked)).set_ 4 (.int .i64 d.st.x.way)).set_ 5 (.int .i64 d.st.x.ver)).set_ 6 (.int .i64 d.st.x.want)).set_ 7 (.slice d.st.A1 d.st.x.sent.length d.st.c1)).set_ 8 (.slice d.st.A2 d.st.x.live.length d.st.c2)).set_ 9 (.slice d.st.A3 d.st.x.back.length d.st.c3)).set_ 10 (.slice d.st.A4 d.st.x.got.length d.st.c4)).set_ 11 (.slice d.pA d.past.length d.pc)).set_ 12 (.slice d.kA d.knows.length d.kc))
  simp only [List.setIfInBounds_toArray, List.set_cons_zero, List.set_cons_succ] at hbF
  have s10 := hbF.cell 0
  have s11 := hbF.cell 1
  have s12 := hbF.cell 2
  have s13 := hbF.cell 3
  have s14 := hbF.cell 4
  have s15 := hbF.cell 5
  have s16 := hbF.cell 6
  have s17 := hbF.cell 7
  have s18 := hbF.cell 8
  have s19 := hbF.cell 9
  have s20 := hbF.cell 10
  have s21 := hbF.cell 11
  have s22 := hbF.cell 12
  simp at s10 s11 s12 s13 s14 s15 s16 s17 s18 s19 s20 s21 s22
  clear hbF
  have kS : Keeps (fun b => b = w.heap.size + 1 + 1 + 1) w5 (((((((((((((w5.setCell ⟨w.heap.size + 1 + 1 + 1, 0, none⟩ (.int .i64 d.id)).setCell ⟨w.heap.size + 1 + 1 + 1, 1, none⟩ (.slice d.bk.A1 d.bk.b.own.length d.bk.c1)).setCell ⟨w.heap.size + 1 + 1 + 1, 2, none⟩ (.slice d.bk.A2 d.bk.b.notes.length d.bk.c2)).setCell ⟨w.heap.size + 1 + 1 + 1, 3, none⟩ (.int .i64 d.bk.b.locked)).setCell ⟨w.heap.size + 1 + 1 + 1, 4, none⟩ (.int .i64 d.st.x.way)).setCell ⟨w.heap.size + 1 + 1 + 1, 5, none⟩ (.int .i64 d.st.x.ver)).setCell ⟨w.heap.size + 1 + 1 + 1, 6, none⟩ (.int .i64 d.st.x.want)).setCell ⟨w.heap.size + 1 + 1 + 1, 7, none⟩ (.slice d.st.A1 d.st.x.sent.length d.st.c1)).setCell ⟨w.heap.size + 1 + 1 + 1, 8, none⟩ (.slice d.st.A2 d.st.x.live.length d.st.c2)).setCell ⟨w.heap.size + 1 + 1 + 1, 9, none⟩ (.slice d.st.A3 d.st.x.back.length d.st.c3)).setCell ⟨w.heap.size + 1 + 1 + 1, 10, none⟩ (.slice d.st.A4 d.st.x.got.length d.st.c4)).setCell ⟨w.heap.size + 1 + 1 + 1, 11, none⟩ (.slice d.pA d.past.length d.pc)).setCell ⟨w.heap.size + 1 + 1 + 1, 12, none⟩ (.slice d.kA d.knows.length d.kc)) := ((((((((((((((Keeps.refl (fun b => b = w.heap.size + 1 + 1 + 1) w5).setCell (p := ⟨w.heap.size + 1 + 1 + 1, 0, none⟩) (.inr rfl) (.int .i64 d.id)).setCell (p := ⟨w.heap.size + 1 + 1 + 1, 1, none⟩) (.inr rfl) (.slice d.bk.A1 d.bk.b.own.length d.bk.c1)).setCell (p := ⟨w.heap.size + 1 + 1 + 1, 2, none⟩) (.inr rfl) (.slice d.bk.A2 d.bk.b.notes.length d.bk.c2)).setCell (p := ⟨w.heap.size + 1 + 1 + 1, 3, none⟩) (.inr rfl) (.int .i64 d.bk.b.locked)).setCell (p := ⟨w.heap.size + 1 + 1 + 1, 4, none⟩) (.inr rfl) (.int .i64 d.st.x.way)).setCell (p := ⟨w.heap.size + 1 + 1 + 1, 5, none⟩) (.inr rfl) (.int .i64 d.st.x.ver)).setCell (p := ⟨w.heap.size + 1 + 1 + 1, 6, none⟩) (.inr rfl) (.int .i64 d.st.x.want)).setCell (p := ⟨w.heap.size + 1 + 1 + 1, 7, none⟩) (.inr rfl) (.slice d.st.A1 d.st.x.sent.length d.st.c1)).setCell (p := ⟨w.heap.size + 1 + 1 + 1, 8, none⟩) (.inr rfl) (.slice d.st.A2 d.st.x.live.length d.st.c2)).setCell (p := ⟨w.heap.size + 1 + 1 + 1, 9, none⟩) (.inr rfl) (.slice d.st.A3 d.st.x.back.length d.st.c3)).setCell (p := ⟨w.heap.size + 1 + 1 + 1, 10, none⟩) (.inr rfl) (.slice d.st.A4 d.st.x.got.length d.st.c4)).setCell (p := ⟨w.heap.size + 1 + 1 + 1, 11, none⟩) (.inr rfl) (.slice d.pA d.past.length d.pc)).setCell (p := ⟨w.heap.size + 1 + 1 + 1, 12, none⟩) (.inr rfl) (.slice d.kA d.knows.length d.kc))
  generalize (((((((((((((w5.setCell ⟨w.heap.size + 1 + 1 + 1, 0, none⟩ (.int .i64 d.id)).setCell ⟨w.heap.size + 1 + 1 + 1, 1, none⟩ (.slice d.bk.A1 d.bk.b.own.length d.bk.c1)).setCell ⟨w.heap.size + 1 + 1 + 1, 2, none⟩ (.slice d.bk.A2 d.bk.b.notes.length d.bk.c2)).setCell ⟨w.heap.size + 1 + 1 + 1, 3, none⟩ (.int .i64 d.bk.b.locked)).setCell ⟨w.heap.size + 1 + 1 + 1, 4, none⟩ (.int .i64 d.st.x.way)).setCell ⟨w.heap.size + 1 + 1 + 1, 5, none⟩ (.int .i64 d.st.x.ver)).setCell ⟨w.heap.size + 1 + 1 + 1, 6, none⟩ (.int .i64 d.st.x.want)).setCell ⟨w.heap.size + 1 + 1 + 1, 7, none⟩ (.slice d.st.A1 d.st.x.sent.length d.st.c1)).setCell ⟨w.heap.size + 1 + 1 + 1, 8, none⟩ (.slice d.st.A2 d.st.x.live.length d.st.c2)).setCell ⟨w.heap.size + 1 + 1 + 1, 9, none⟩ (.slice d.st.A3 d.st.x.back.length d.st.c3)).setCell ⟨w.heap.size + 1 + 1 + 1, 10, none⟩ (.slice d.st.A4 d.st.x.got.length d.st.c4)).setCell ⟨w.heap.size + 1 + 1 + 1, 11, none⟩ (.slice d.pA d.past.length d.pc)).setCell ⟨w.heap.size + 1 + 1 + 1, 12, none⟩ (.slice d.kA d.knows.length d.kc)) = WF at kS s10 s11 s12 s13 s14 s15 s16 s17 s18 s19 s20 s21 s22 ⊢
  refine bodyPost_ret (v := .tuple #[d.val, .bool true]) (by simp [results, Tryz.results13, go_sem, ChM.val, s10, s11, s12, s13, s14, s15, s16, s17, s18, s19, s20, s21, s22]) rfl ?_
  exact ⟨d, G, rfl, ⟨SM.out.id, (by rw [← SM.out.bk]; exact HSB.out.symm), (by rw [← SM.out.st]; exact HX2.out.symm), SM.out.past, SM.out.knows⟩, ((OW.out.keeps kS fun b hb h => by have q := OW.out.ge hb; (try simp at q) <;> omega).less (by first | omega | (simp <;> omega))), HK.out.then kS fun i hi h => by omega⟩
theorem implRGet_any (c : ChM) (y : StM) (p : Pk) (w : World) (h : ChAt w c) (hy : y.At w) (ht : Tabs w) :
    Calls Tryz.prog 13 #[c.val, y.val, p.val] w (RetC (fun v => .tuple #[v, .bool (rgO c y.x p)]) w (rgC c y.x p)) := by
  unfold rgC rgO
  rcases Bool.eq_false_or_eq_true (ckB c && stB y.x) with hb | hb
  case inr =>
    rw [hb, Bool.false_and, if_neg (by decide)]
    exact implRGet_bad c y p w h hy ht hb
  rw [hb, Bool.true_and]
  simp only [Bool.and_eq_true] at hb
  obtain ⟨h1, h2⟩ := hb
  rcases Bool.eq_false_or_eq_true p.ok with hp | hp
  case inr =>
    rw [hp, if_neg (by decide)]
    exact implRGet_bad2 c y p w h hy ht h1 h2 hp
  rw [hp, if_pos rfl]
  have hm := mg_get (p := p) h1 h2
  unfold getTo
  rcases Bool.eq_false_or_eq_true (getOk c y.x p) with ho | ho
  case inr =>
    rw [ho, if_neg (by decide)]
    exact implRGet_not c y p w h hy ht h1 h2 hp (hm.trans ho)
  rw [ho, if_pos rfl]
  have hs := (of_decide_eq_true h1).2.2.1
  have pp := pk_parts hp
  have g8 := (stB_ok hs).2.2.2.1
  have gp := get_pay (ck_bank h1) hp
  rw [← gp.1, ← gp.2]
  obtain ⟨ps, kd, pf, pt, pm, pu, pv⟩ := p
  dsimp only at pp ⊢
  obtain ⟨k, rfl⟩ : ∃ k : Nat, ps = (k : Int) + 1 := ⟨(ps - 1).toNat, by omega⟩
  have e : ((k : Int) + 1 - 1).toNat = k := by omega
  rw [e]
  exact implRGet_yes c y k kd pf pt pm pu pv w h hy ht h1 h2 hp (by omega) (hm.trans ho)
end Go.Proofs.YtcnbephpadmboaaGreatDoor
