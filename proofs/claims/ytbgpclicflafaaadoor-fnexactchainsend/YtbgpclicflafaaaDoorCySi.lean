/- impl.ChainSend. -/
import Derived.Test.YtbgpclicflafaaaDoorCxZ
import Derived.Test.YtbgpclicflafaaaDoorCxV
import Derived.Deep.RegionHeld3
set_option linter.unusedVariables false
set_option linter.unusedSimpArgs false
namespace Go.Proofs.YtbgpclicflafaaaDoor
open Go.RowKit

/-- What ChainSend makes of a chain, by the packet p. -/
def snO (c : ChM) (p : Pk) : Bool := ckB c && sndB c p
def snC (c : ChM) (p : Pk) : ChM := if snO c p then { c with bk := { c.bk with b := awayed c.bk.b p.k p.f p.m }, st := { c.st with x := sentX c.st.x p } } else if ckB c then c else ch0
def snN (c : ChM) (p : Pk) : Int := if snO c p then p.s else 0
theorem away_len {b : BankL} {k f s : Int} (h : awayOk b k f s = true) : (awayed b k f s).own.length = 3 ∧ (awayed b k f s).notes.length = 3 := by
  unfold awayOk at h
  simp only [Bool.and_eq_true, decide_eq_true_eq] at h
  have q := turnA_len (k := k) (f := f) (s := s) h.1.1.1.1
  unfold turnA at q
  rwa [if_pos h.2] at q
theorem lnk_sent {w W : World} {c : ChM} {P A1 A2 : Option Addr} {lo y1 y2 : Nat} {t2 : StM} {b : BankL} {x : StL} (h : ChAt w c) (hb : ckB c = true) (ha : b.own.length = 3 ∧ b.notes.length = 3)
    (hs : x.sent.length ≤ 1000 ∧ x.live.length ≤ 1000 ∧ x.back.length ≤ 1000 ∧ x.got.length ≤ 1000) (hx : t2.x = x) (hk : Keeps noBlk w W) (hl : Lk W lo P c.past.reverse) (ht : t2.At W) (i1 : Ints W A1 b.own.length b.own) (i2 : Ints W A2 b.notes.length b.notes) :
    Lnk W { c with bk := ⟨b, A1, A2, y1, y2⟩, st := t2 } P lo := by
  have q := lnk_of (h.kept hk) hb hl
  exact ⟨i1, i2, ht, q.past, q.knows, hl, by dsimp only; omega, by dsimp only; omega, by dsimp only; rw [hx]; exact hs, q.l4, q.l5, q.l6⟩
set_option maxRecDepth 100000 in
set_option maxHeartbeats 8000000 in
theorem implSend_any (c : ChM) (kd f t m u : Int) (w : World) (h : ChAt w c) (ht : Tabs w) (hf : M64 f) :
    Calls Tryd.prog 24 #[c.val, .int .i64 kd, .int .i64 f, .int .i64 t, .int .i64 m, .int .i64 u] w (RetC (fun v => .tuple #[v, .int .i64 (snN c (⟨(c.st.x.sent.length : Int) + 1, kd, f, t, m, u, c.st.x.ver⟩ : Pk)), .bool (snO c (⟨(c.st.x.sent.length : Int) + 1, kd, f, t, m, u, c.st.x.ver⟩ : Pk))]) w (snC c (⟨(c.st.x.sent.length : Int) + 1, kd, f, t, m, u, c.st.x.ver⟩ : Pk))) := by
  have HBa := Lib.hid ((Box.new w _ rfl 40 #[.int .i64 c.id, .slice c.bk.A1 c.bk.b.own.length c.bk.c1, .slice c.bk.A2 c.bk.b.notes.length c.bk.c2, .int .i64 c.bk.b.locked, .int .i64 c.st.x.way, .int .i64 c.st.x.ver, .int .i64 c.st.x.want, .slice c.st.A1 c.st.x.sent.length c.st.c1, .slice c.st.A2 c.st.x.live.length c.st.c2, .slice c.st.A3 c.st.x.back.length c.st.c3, .slice c.st.A4 c.st.x.got.length c.st.c4, .slice c.pA c.past.length c.pc, .slice c.kA c.knows.length c.kc]).alloc (.cells #[.int .i64 0, .slice none 0 0, .slice none 0 0, .int .i64 0, .int .i64 0, .int .i64 0, .int .i64 0, .slice none 0 0, .slice none 0 0, .slice none 0 0, .slice none 0 0, .slice none 0 0, .slice none 0 0] 40))
  have HBr := Lib.hid (Box.new (w.alloc (.cells #[.int .i64 c.id, .slice c.bk.A1 c.bk.b.own.length c.bk.c1, .slice c.bk.A2 c.bk.b.notes.length c.bk.c2, .int .i64 c.bk.b.locked, .int .i64 c.st.x.way, .int .i64 c.st.x.ver, .int .i64 c.st.x.want, .slice c.st.A1 c.st.x.sent.length c.st.c1, .slice c.st.A2 c.st.x.live.length c.st.c2, .slice c.st.A3 c.st.x.back.length c.st.c3, .slice c.st.A4 c.st.x.got.length c.st.c4, .slice c.pA c.past.length c.pc, .slice c.kA c.knows.length c.kc] 40)) (w.heap.size + 1) (by simp) 40 #[.int .i64 0, .slice none 0 0, .slice none 0 0, .int .i64 0, .int .i64 0, .int .i64 0, .int .i64 0, .slice none 0 0, .slice none 0 0, .slice none 0 0, .slice none 0 0, .slice none 0 0, .slice none 0 0])
  have HK := Lib.hid (((Keeps.refl noBlk w).alloc (.cells #[.int .i64 c.id, .slice c.bk.A1 c.bk.b.own.length c.bk.c1, .slice c.bk.A2 c.bk.b.notes.length c.bk.c2, .int .i64 c.bk.b.locked, .int .i64 c.st.x.way, .int .i64 c.st.x.ver, .int .i64 c.st.x.want, .slice c.st.A1 c.st.x.sent.length c.st.c1, .slice c.st.A2 c.st.x.live.length c.st.c2, .slice c.st.A3 c.st.x.back.length c.st.c3, .slice c.st.A4 c.st.x.got.length c.st.c4, .slice c.pA c.past.length c.pc, .slice c.kA c.knows.length c.kc] 40)).alloc (.cells #[.int .i64 0, .slice none 0 0, .slice none 0 0, .int .i64 0, .int .i64 0, .int .i64 0, .int .i64 0, .slice none 0 0, .slice none 0 0, .slice none 0 0, .slice none 0 0, .slice none 0 0, .slice none 0 0] 40))
  rcases Bool.eq_false_or_eq_true (ckB c) with hb | hb
  case inr =>
    have F := Lib.hid (fun W (hk : Keeps noBlk w W) => link_no c W (h.kept hk) (ht.keeps hk) hb)
    have e1 : snO c (⟨(c.st.x.sent.length : Int) + 1, kd, f, t, m, u, c.st.x.ver⟩ : Pk) = false := by unfold snO; rw [hb]; rfl
    have e2 : snC c (⟨(c.st.x.sent.length : Int) + 1, kd, f, t, m, u, c.st.x.ver⟩ : Pk) = ch0 := by unfold snC; rw [e1, if_neg (by decide), if_neg (by rw [hb]; decide)]
    have e3 : snN c (⟨(c.st.x.sent.length : Int) + 1, kd, f, t, m, u, c.st.x.ver⟩ : Pk) = 0 := by unfold snN; rw [e1, if_neg (by decide)]
    rw [e1, e2, e3]
    clear h hb ht e1 e2 e3 hf
    unfold ChM.val
    unfold ChM.val at F
    go_enter Tryd.func24, Tryd.ntmps24
    go_wp2_with fail
    refine (F.out _ HK.out).mono ?_
    rintro e w1 ⟨rfl, hk1⟩
    unfold lk0
    have ha := HBa.out.keeps hk1 (fun h => h)
    clear HBa
    have HBa := Lib.hid ha
    clear ha
    have hr := HBr.out.keeps hk1 (fun h => h)
    clear HBr
    have HBr := Lib.hid hr
    clear hr
    have hr := HK.out.trans hk1
    clear HK
    have HK := Lib.hid hr
    clear hr
    have sz1 := hk1.size
    (try simp at sz1)
    clear hk1
    have hb := HBr.out
    have r0 := hb.cell 0
    have r1 := hb.cell 1
    have r2 := hb.cell 2
    have r3 := hb.cell 3
    have r4 := hb.cell 4
    have r5 := hb.cell 5
    have r6 := hb.cell 6
    have r7 := hb.cell 7
    have r8 := hb.cell 8
    have r9 := hb.cell 9
    have r10 := hb.cell 10
    have r11 := hb.cell 11
    have r12 := hb.cell 12
    simp at r0 r1 r2 r3 r4 r5 r6 r7 r8 r9 r10 r11 r12
    have zr := hb.lt
    clear hb
    have hb := HBr.out
    have rf0 := hb.frozen 0
    have rf1 := hb.frozen 1
    have rf2 := hb.frozen 2
    have rf3 := hb.frozen 3
    have rf4 := hb.frozen 4
    have rf5 := hb.frozen 5
    have rf6 := hb.frozen 6
    have rf7 := hb.frozen 7
    have rf8 := hb.frozen 8
    have rf9 := hb.frozen 9
    have rf10 := hb.frozen 10
    have rf11 := hb.frozen 11
    have rf12 := hb.frozen 12
    clear hb
    go_wp2
    have hbF := ((((((((((((((HBr.out.set_ 0 (.int .i64 0)).set_ 1 (.slice none 0 0)).set_ 2 (.slice none 0 0)).set_ 3 (.int .i64 0)).set_ 4 (.int .i64 0)).set_ 5 (.int .i64 0)).set_ 6 (.int .i64 0)).set_ 7 (.slice none 0 0)).set_ 8 (.slice none 0 0)).set_ 9 (.slice none 0 0)).set_ 10 (.slice none 0 0)).set_ 11 (.slice none 0 0)).set_ 12 (.slice none 0 0)).alloc (.cells #[.slice none 0 0, .slice none 0 0, .int .i64 0, .int .i64 0, .int .i64 0, .int .i64 0, .int .i64 0, .slice none 0 0, .slice none 0 0, .slice none 0 0, .slice none 0 0, .pointer none, .slice none 0 0] 93))
    simp only [List.setIfInBounds_toArray, List.set_cons_zero, List.set_cons_succ] at hbF
    have s10 := hbF.cell 0
    have s11 := hbF.cell 1
    have s12 := hbF.cell 2
    have s13 := hbF.cell 3
    have s14 := hbF.cell 4
    have s15 := hbF.cell 5
    have s16 := hbF.cell 6
    have s17 := hbF.cell 7
    have s18 := hbF.cell 8
    have s19 := hbF.cell 9
    have s20 := hbF.cell 10
    have s21 := hbF.cell 11
    have s22 := hbF.cell 12
    simp at s10 s11 s12 s13 s14 s15 s16 s17 s18 s19 s20 s21 s22
    clear hbF
    have kS : Keeps (fun b => b = w.heap.size + 1) w1 ((((((((((((((w1.setCell ⟨w.heap.size + 1, 0, none⟩ (.int .i64 0)).setCell ⟨w.heap.size + 1, 1, none⟩ (.slice none 0 0)).setCell ⟨w.heap.size + 1, 2, none⟩ (.slice none 0 0)).setCell ⟨w.heap.size + 1, 3, none⟩ (.int .i64 0)).setCell ⟨w.heap.size + 1, 4, none⟩ (.int .i64 0)).setCell ⟨w.heap.size + 1, 5, none⟩ (.int .i64 0)).setCell ⟨w.heap.size + 1, 6, none⟩ (.int .i64 0)).setCell ⟨w.heap.size + 1, 7, none⟩ (.slice none 0 0)).setCell ⟨w.heap.size + 1, 8, none⟩ (.slice none 0 0)).setCell ⟨w.heap.size + 1, 9, none⟩ (.slice none 0 0)).setCell ⟨w.heap.size + 1, 10, none⟩ (.slice none 0 0)).setCell ⟨w.heap.size + 1, 11, none⟩ (.slice none 0 0)).setCell ⟨w.heap.size + 1, 12, none⟩ (.slice none 0 0)).alloc (.cells #[.slice none 0 0, .slice none 0 0, .int .i64 0, .int .i64 0, .int .i64 0, .int .i64 0, .int .i64 0, .slice none 0 0, .slice none 0 0, .slice none 0 0, .slice none 0 0, .pointer none, .slice none 0 0] 93)) := (((((((((((((((Keeps.refl (fun b => b = w.heap.size + 1) w1).setCell (p := ⟨w.heap.size + 1, 0, none⟩) (.inr rfl) (.int .i64 0)).setCell (p := ⟨w.heap.size + 1, 1, none⟩) (.inr rfl) (.slice none 0 0)).setCell (p := ⟨w.heap.size + 1, 2, none⟩) (.inr rfl) (.slice none 0 0)).setCell (p := ⟨w.heap.size + 1, 3, none⟩) (.inr rfl) (.int .i64 0)).setCell (p := ⟨w.heap.size + 1, 4, none⟩) (.inr rfl) (.int .i64 0)).setCell (p := ⟨w.heap.size + 1, 5, none⟩) (.inr rfl) (.int .i64 0)).setCell (p := ⟨w.heap.size + 1, 6, none⟩) (.inr rfl) (.int .i64 0)).setCell (p := ⟨w.heap.size + 1, 7, none⟩) (.inr rfl) (.slice none 0 0)).setCell (p := ⟨w.heap.size + 1, 8, none⟩) (.inr rfl) (.slice none 0 0)).setCell (p := ⟨w.heap.size + 1, 9, none⟩) (.inr rfl) (.slice none 0 0)).setCell (p := ⟨w.heap.size + 1, 10, none⟩) (.inr rfl) (.slice none 0 0)).setCell (p := ⟨w.heap.size + 1, 11, none⟩) (.inr rfl) (.slice none 0 0)).setCell (p := ⟨w.heap.size + 1, 12, none⟩) (.inr rfl) (.slice none 0 0)).alloc (.cells #[.slice none 0 0, .slice none 0 0, .int .i64 0, .int .i64 0, .int .i64 0, .int .i64 0, .int .i64 0, .slice none 0 0, .slice none 0 0, .slice none 0 0, .slice none 0 0, .pointer none, .slice none 0 0] 93))
    generalize ((((((((((((((w1.setCell ⟨w.heap.size + 1, 0, none⟩ (.int .i64 0)).setCell ⟨w.heap.size + 1, 1, none⟩ (.slice none 0 0)).setCell ⟨w.heap.size + 1, 2, none⟩ (.slice none 0 0)).setCell ⟨w.heap.size + 1, 3, none⟩ (.int .i64 0)).setCell ⟨w.heap.size + 1, 4, none⟩ (.int .i64 0)).setCell ⟨w.heap.size + 1, 5, none⟩ (.int .i64 0)).setCell ⟨w.heap.size + 1, 6, none⟩ (.int .i64 0)).setCell ⟨w.heap.size + 1, 7, none⟩ (.slice none 0 0)).setCell ⟨w.heap.size + 1, 8, none⟩ (.slice none 0 0)).setCell ⟨w.heap.size + 1, 9, none⟩ (.slice none 0 0)).setCell ⟨w.heap.size + 1, 10, none⟩ (.slice none 0 0)).setCell ⟨w.heap.size + 1, 11, none⟩ (.slice none 0 0)).setCell ⟨w.heap.size + 1, 12, none⟩ (.slice none 0 0)).alloc (.cells #[.slice none 0 0, .slice none 0 0, .int .i64 0, .int .i64 0, .int .i64 0, .int .i64 0, .int .i64 0, .slice none 0 0, .slice none 0 0, .slice none 0 0, .slice none 0 0, .pointer none, .slice none 0 0] 93)) = WF at kS s10 s11 s12 s13 s14 s15 s16 s17 s18 s19 s20 s21 s22 ⊢
    refine bodyPost_ret (v := .tuple #[ch0.val, .int .i64 0, .bool false]) (by simp [results, Tryd.results24, go_sem, ch0, bk0, stm0, ChM.val, s10, s11, s12, s13, s14, s15, s16, s17, s18, s19, s20, s21, s22]) rfl ?_
    exact ⟨ch0, fun _ => 0, rfl, SameC.refl _, ch0_own _ _, HK.out.then kS fun i hi h => by omega⟩
  have F := Lib.hid (fun W (hk : Keeps noBlk w W) => link_yes c W (h.kept hk) (ht.keeps hk) hb)
  have e9 := stB_len (of_decide_eq_true hb).2.2.1
  have FP := Lib.hid (fun P W => lpacket_any c P kd f t m u W (by omega))
  have SO : SndOk w c := ⟨h.own, h.notes, h.st, (ok_len2 (of_decide_eq_true hb).2.1).1, (ok_len2 (of_decide_eq_true hb).2.1).2, by omega⟩
  have HH := Lib.hid h
  have HB := Lib.hid hb
  unfold Pk.val at FP
  rcases Bool.eq_false_or_eq_true (sndB c (⟨(c.st.x.sent.length : Int) + 1, kd, f, t, m, u, c.st.x.ver⟩ : Pk)) with hs | hs
  case inr =>
    have FS := Lib.hid (fun P W (hk : Keeps noBlk w W) => lsend_no c P (⟨(c.st.x.sent.length : Int) + 1, kd, f, t, m, u, c.st.x.ver⟩ : Pk) W (SO.kept hk) (ht.keeps hk) hf hs)
    have e1 : snO c (⟨(c.st.x.sent.length : Int) + 1, kd, f, t, m, u, c.st.x.ver⟩ : Pk) = false := by unfold snO; rw [hb, hs]; rfl
    have e2 : snC c (⟨(c.st.x.sent.length : Int) + 1, kd, f, t, m, u, c.st.x.ver⟩ : Pk) = c := by unfold snC; rw [e1, if_neg (by decide), if_pos hb]
    have e3 : snN c (⟨(c.st.x.sent.length : Int) + 1, kd, f, t, m, u, c.st.x.ver⟩ : Pk) = 0 := by unfold snN; rw [e1, if_neg (by decide)]
    rw [e1, e2, e3]
    clear h hb ht e1 e2 e3 hf hs SO e9
    unfold ChM.val
    unfold ChM.val at F
    unfold lkV Pk.val at FS
    unfold lkV at FP
    go_enter Tryd.func24, Tryd.ntmps24
    go_wp2_with fail
    refine (F.out _ HK.out).mono ?_
    rintro e w1 ⟨P, rfl, hl9, hk1⟩
    unfold lkV
    have HLK := Lib.hid hl9
    clear hl9
    have ha := HBa.out.keeps hk1 (fun h => h)
    clear HBa
    have HBa := Lib.hid ha
    clear ha
    have hr := HBr.out.keeps hk1 (fun h => h)
    clear HBr
    have HBr := Lib.hid hr
    clear hr
    have hr := HK.out.trans hk1
    clear HK
    have HK := Lib.hid hr
    clear hr
    have sz1 := hk1.size
    (try simp at sz1)
    clear hk1
    have ha := HBa.out.alloc (.cells #[.slice c.bk.A1 c.bk.b.own.length c.bk.c1, .slice c.bk.A2 c.bk.b.notes.length c.bk.c2, .int .i64 c.bk.b.locked, .int .i64 c.id, .int .i64 c.st.x.way, .int .i64 c.st.x.ver, .int .i64 c.st.x.want, .slice c.st.A1 c.st.x.sent.length c.st.c1, .slice c.st.A2 c.st.x.live.length c.st.c2, .slice c.st.A3 c.st.x.back.length c.st.c3, .slice c.st.A4 c.st.x.got.length c.st.c4, .pointer P, .slice c.kA c.knows.length c.kc] 93)
    clear HBa
    have HBa := Lib.hid ha
    clear ha
    have hr := HBr.out.alloc (.cells #[.slice c.bk.A1 c.bk.b.own.length c.bk.c1, .slice c.bk.A2 c.bk.b.notes.length c.bk.c2, .int .i64 c.bk.b.locked, .int .i64 c.id, .int .i64 c.st.x.way, .int .i64 c.st.x.ver, .int .i64 c.st.x.want, .slice c.st.A1 c.st.x.sent.length c.st.c1, .slice c.st.A2 c.st.x.live.length c.st.c2, .slice c.st.A3 c.st.x.back.length c.st.c3, .slice c.st.A4 c.st.x.got.length c.st.c4, .pointer P, .slice c.kA c.knows.length c.kc] 93)
    clear HBr
    have HBr := Lib.hid hr
    clear hr
    have hr := Lk.kept (HLK.out) ((Keeps.refl noBlk w1).alloc (.cells #[.slice c.bk.A1 c.bk.b.own.length c.bk.c1, .slice c.bk.A2 c.bk.b.notes.length c.bk.c2, .int .i64 c.bk.b.locked, .int .i64 c.id, .int .i64 c.st.x.way, .int .i64 c.st.x.ver, .int .i64 c.st.x.want, .slice c.st.A1 c.st.x.sent.length c.st.c1, .slice c.st.A2 c.st.x.live.length c.st.c2, .slice c.st.A3 c.st.x.back.length c.st.c3, .slice c.st.A4 c.st.x.got.length c.st.c4, .pointer P, .slice c.kA c.knows.length c.kc] 93))
    clear HLK
    have HLK := Lib.hid hr
    clear hr
    have hr := HK.out.alloc (.cells #[.slice c.bk.A1 c.bk.b.own.length c.bk.c1, .slice c.bk.A2 c.bk.b.notes.length c.bk.c2, .int .i64 c.bk.b.locked, .int .i64 c.id, .int .i64 c.st.x.way, .int .i64 c.st.x.ver, .int .i64 c.st.x.want, .slice c.st.A1 c.st.x.sent.length c.st.c1, .slice c.st.A2 c.st.x.live.length c.st.c2, .slice c.st.A3 c.st.x.back.length c.st.c3, .slice c.st.A4 c.st.x.got.length c.st.c4, .pointer P, .slice c.kA c.knows.length c.kc] 93)
    clear HK
    have HK := Lib.hid hr
    clear hr
    have HBk := Lib.hid (Box.new w1 _ rfl 93 #[.slice c.bk.A1 c.bk.b.own.length c.bk.c1, .slice c.bk.A2 c.bk.b.notes.length c.bk.c2, .int .i64 c.bk.b.locked, .int .i64 c.id, .int .i64 c.st.x.way, .int .i64 c.st.x.ver, .int .i64 c.st.x.want, .slice c.st.A1 c.st.x.sent.length c.st.c1, .slice c.st.A2 c.st.x.live.length c.st.c2, .slice c.st.A3 c.st.x.back.length c.st.c3, .slice c.st.A4 c.st.x.got.length c.st.c4, .pointer P, .slice c.kA c.knows.length c.kc])
    go_wp2_with fail
    refine (FP.out P _).mono ?_
    rintro e w2 ⟨rfl, hk2⟩
    dsimp only
    have ha := HBa.out.keeps hk2 (fun h => h)
    clear HBa
    have HBa := Lib.hid ha
    clear ha
    have hr := HBr.out.keeps hk2 (fun h => h)
    clear HBr
    have HBr := Lib.hid hr
    clear hr
    have hk := HBk.out.keeps hk2 (fun h => h)
    clear HBk
    have HBk := Lib.hid hk
    clear hk
    have hr := Lk.kept (HLK.out) hk2
    clear HLK
    have HLK := Lib.hid hr
    clear hr
    have hr := HK.out.trans hk2
    clear HK
    have HK := Lib.hid hr
    clear hr
    have sz2 := hk2.size
    (try simp at sz2)
    clear hk2
    have hb := HBk.out
    have k0 := hb.cell 0
    have k1 := hb.cell 1
    have k2 := hb.cell 2
    have k3 := hb.cell 3
    have k4 := hb.cell 4
    have k5 := hb.cell 5
    have k6 := hb.cell 6
    have k7 := hb.cell 7
    have k8 := hb.cell 8
    have k9 := hb.cell 9
    have k10 := hb.cell 10
    have k11 := hb.cell 11
    have k12 := hb.cell 12
    simp at k0 k1 k2 k3 k4 k5 k6 k7 k8 k9 k10 k11 k12
    have zk := hb.lt
    clear hb
    have ha := HBa.out.alloc (.cells #[.int .i64 ((c.st.x.sent.length : Int) + 1), .int .i64 kd, .int .i64 f, .int .i64 t, .int .i64 m, .int .i64 u, .int .i64 c.st.x.ver] 58)
    clear HBa
    have HBa := Lib.hid ha
    clear ha
    have hr := HBr.out.alloc (.cells #[.int .i64 ((c.st.x.sent.length : Int) + 1), .int .i64 kd, .int .i64 f, .int .i64 t, .int .i64 m, .int .i64 u, .int .i64 c.st.x.ver] 58)
    clear HBr
    have HBr := Lib.hid hr
    clear hr
    have hk := HBk.out.alloc (.cells #[.int .i64 ((c.st.x.sent.length : Int) + 1), .int .i64 kd, .int .i64 f, .int .i64 t, .int .i64 m, .int .i64 u, .int .i64 c.st.x.ver] 58)
    clear HBk
    have HBk := Lib.hid hk
    clear hk
    have hr := Lk.kept (HLK.out) ((Keeps.refl noBlk w2).alloc (.cells #[.int .i64 ((c.st.x.sent.length : Int) + 1), .int .i64 kd, .int .i64 f, .int .i64 t, .int .i64 m, .int .i64 u, .int .i64 c.st.x.ver] 58))
    clear HLK
    have HLK := Lib.hid hr
    clear hr
    have hr := HK.out.alloc (.cells #[.int .i64 ((c.st.x.sent.length : Int) + 1), .int .i64 kd, .int .i64 f, .int .i64 t, .int .i64 m, .int .i64 u, .int .i64 c.st.x.ver] 58)
    clear HK
    have HK := Lib.hid hr
    clear hr
    have HBq := Lib.hid (Box.new w2 _ rfl 58 #[.int .i64 ((c.st.x.sent.length : Int) + 1), .int .i64 kd, .int .i64 f, .int .i64 t, .int .i64 m, .int .i64 u, .int .i64 c.st.x.ver])
    go_wp2_with fail
    refine (FS.out P _ HK.out).mono ?_
    rintro e w3 ⟨rfl, hk3⟩
    unfold lk0
    clear k0 k1 k2 k3 k4 k5 k6 k7 k8 k9 k10 k11 k12 zk
    have ha := HBa.out.keeps hk3 (fun h => h)
    clear HBa
    have HBa := Lib.hid ha
    clear ha
    have hr := HBr.out.keeps hk3 (fun h => h)
    clear HBr
    have HBr := Lib.hid hr
    clear hr
    have hk := HBk.out.keeps hk3 (fun h => h)
    clear HBk
    have HBk := Lib.hid hk
    clear hk
    have hq := HBq.out.keeps hk3 (fun h => h)
    clear HBq
    have HBq := Lib.hid hq
    clear hq
    have hr := Lk.kept (HLK.out) hk3
    clear HLK
    have HLK := Lib.hid hr
    clear hr
    have hr := HK.out.trans hk3
    clear HK
    have HK := Lib.hid hr
    clear hr
    have sz3 := hk3.size
    (try simp at sz3)
    clear hk3
    have hb := HBk.out
    have k0 := hb.cell 0
    have k1 := hb.cell 1
    have k2 := hb.cell 2
    have k3 := hb.cell 3
    have k4 := hb.cell 4
    have k5 := hb.cell 5
    have k6 := hb.cell 6
    have k7 := hb.cell 7
    have k8 := hb.cell 8
    have k9 := hb.cell 9
    have k10 := hb.cell 10
    have k11 := hb.cell 11
    have k12 := hb.cell 12
    simp at k0 k1 k2 k3 k4 k5 k6 k7 k8 k9 k10 k11 k12
    have zk := hb.lt
    clear hb
    have ha := HBa.out.alloc (.cells #[.slice none 0 0, .slice none 0 0, .int .i64 0, .int .i64 0, .int .i64 0, .int .i64 0, .int .i64 0, .slice none 0 0, .slice none 0 0, .slice none 0 0, .slice none 0 0, .pointer none, .slice none 0 0] 93)
    clear HBa
    have HBa := Lib.hid ha
    clear ha
    have hr := HBr.out.alloc (.cells #[.slice none 0 0, .slice none 0 0, .int .i64 0, .int .i64 0, .int .i64 0, .int .i64 0, .int .i64 0, .slice none 0 0, .slice none 0 0, .slice none 0 0, .slice none 0 0, .pointer none, .slice none 0 0] 93)
    clear HBr
    have HBr := Lib.hid hr
    clear hr
    have hk := HBk.out.alloc (.cells #[.slice none 0 0, .slice none 0 0, .int .i64 0, .int .i64 0, .int .i64 0, .int .i64 0, .int .i64 0, .slice none 0 0, .slice none 0 0, .slice none 0 0, .slice none 0 0, .pointer none, .slice none 0 0] 93)
    clear HBk
    have HBk := Lib.hid hk
    clear hk
    have hq := HBq.out.alloc (.cells #[.slice none 0 0, .slice none 0 0, .int .i64 0, .int .i64 0, .int .i64 0, .int .i64 0, .int .i64 0, .slice none 0 0, .slice none 0 0, .slice none 0 0, .slice none 0 0, .pointer none, .slice none 0 0] 93)
    clear HBq
    have HBq := Lib.hid hq
    clear hq
    have hr := Lk.kept (HLK.out) ((Keeps.refl noBlk w3).alloc (.cells #[.slice none 0 0, .slice none 0 0, .int .i64 0, .int .i64 0, .int .i64 0, .int .i64 0, .int .i64 0, .slice none 0 0, .slice none 0 0, .slice none 0 0, .slice none 0 0, .pointer none, .slice none 0 0] 93))
    clear HLK
    have HLK := Lib.hid hr
    clear hr
    have hr := HK.out.alloc (.cells #[.slice none 0 0, .slice none 0 0, .int .i64 0, .int .i64 0, .int .i64 0, .int .i64 0, .int .i64 0, .slice none 0 0, .slice none 0 0, .slice none 0 0, .slice none 0 0, .pointer none, .slice none 0 0] 93)
    clear HK
    have HK := Lib.hid hr
    clear hr
    have HBs := Lib.hid (Box.new w3 _ rfl 93 #[.slice none 0 0, .slice none 0 0, .int .i64 0, .int .i64 0, .int .i64 0, .int .i64 0, .int .i64 0, .slice none 0 0, .slice none 0 0, .slice none 0 0, .slice none 0 0, .pointer none, .slice none 0 0])
    go_wp2_with fail
    have HL := Lib.hid (lchain_any c P _ _ (lnk_of (HH.out.kept HK.out) HB.out HLK.out))
    unfold lkV at HL
    refine HL.out.mono ?_
    rintro e w4 ⟨d, G, rfl, sm, ow, hk4⟩
    dsimp only [ChM.val]
    have OW := Lib.hid ow
    have SM := Lib.hid sm
    clear ow sm HL
    clear k0 k1 k2 k3 k4 k5 k6 k7 k8 k9 k10 k11 k12 zk
    have ha := HBa.out.keeps hk4 (fun h => h)
    clear HBa
    have HBa := Lib.hid ha
    clear ha
    have hr := HBr.out.keeps hk4 (fun h => h)
    clear HBr
    have HBr := Lib.hid hr
    clear hr
    have hk := HBk.out.keeps hk4 (fun h => h)
    clear HBk
    have HBk := Lib.hid hk
    clear hk
    have hq := HBq.out.keeps hk4 (fun h => h)
    clear HBq
    have HBq := Lib.hid hq
    clear hq
    have hs := HBs.out.keeps hk4 (fun h => h)
    clear HBs
    have HBs := Lib.hid hs
    clear hs
    have hr := Lk.kept (HLK.out) hk4
    clear HLK
    have HLK := Lib.hid hr
    clear hr
    have hr := HK.out.trans hk4
    clear HK
    have HK := Lib.hid hr
    clear hr
    have sz4 := hk4.size
    (try simp at sz4)
    clear hk4
    have hb := HBr.out
    have r0 := hb.cell 0
    have r1 := hb.cell 1
    have r2 := hb.cell 2
    have r3 := hb.cell 3
    have r4 := hb.cell 4
    have r5 := hb.cell 5
    have r6 := hb.cell 6
    have r7 := hb.cell 7
    have r8 := hb.cell 8
    have r9 := hb.cell 9
    have r10 := hb.cell 10
    have r11 := hb.cell 11
    have r12 := hb.cell 12
    simp at r0 r1 r2 r3 r4 r5 r6 r7 r8 r9 r10 r11 r12
    have zr := hb.lt
    clear hb
    have hb := HBr.out
    have rf0 := hb.frozen 0
    have rf1 := hb.frozen 1
    have rf2 := hb.frozen 2
    have rf3 := hb.frozen 3
    have rf4 := hb.frozen 4
    have rf5 := hb.frozen 5
    have rf6 := hb.frozen 6
    have rf7 := hb.frozen 7
    have rf8 := hb.frozen 8
    have rf9 := hb.frozen 9
    have rf10 := hb.frozen 10
    have rf11 := hb.frozen 11
    have rf12 := hb.frozen 12
    clear hb
    go_wp2
    have hbF := (((((((((((((HBr.out.set_ 0 (.int .i64 d.id)).set_ 1 (.slice d.bk.A1 d.bk.b.own.length d.bk.c1)).set_ 2 (.slice d.bk.A2 d.bk.b.notes.length d.bk.c2)).set_ 3 (.int .i64 d.bk.b.locked)).set_ 4 (.int .i64 d.st.x.way)).set_ 5 (.int .i64 d.st.x.ver)).set_ 6 (.int .i64 d.st.x.want)).set_ 7 (.slice d.st.A1 d.st.x.sent.length d.st.c1)).set_ 8 (.slice d.st.A2 d.st.x.live.length d.st.c2)).set_ 9 (.slice d.st.A3 d.st.x.back.length d.st.c3)).set_ 10 (.slice d.st.A4 d.st.x.got.length d.st.c4)).set_ 11 (.slice d.pA d.past.length d.pc)).set_ 12 (.slice d.kA d.knows.length d.kc))
    simp only [List.setIfInBounds_toArray, List.set_cons_zero, List.set_cons_succ] at hbF
    have s10 := hbF.cell 0
    have s11 := hbF.cell 1
    have s12 := hbF.cell 2
    have s13 := hbF.cell 3
    have s14 := hbF.cell 4
    have s15 := hbF.cell 5
    have s16 := hbF.cell 6
    have s17 := hbF.cell 7
    have s18 := hbF.cell 8
    have s19 := hbF.cell 9
    have s20 := hbF.cell 10
    have s21 := hbF.cell 11
    have s22 := hbF.cell 12
    simp at s10 s11 s12 s13 s14 s15 s16 s17 s18 s19 s20 s21 s22
    clear hbF
    have kS : Keeps (fun b => b = w.heap.size + 1) w4 (((((((((((((w4.setCell ⟨w.heap.size + 1, 0, none⟩ (.int .i64 d.id)).setCell ⟨w.heap.size + 1, 1, none⟩ (.slice d.bk.A1 d.bk.b.own.length d.bk.c1)).setCell ⟨w.heap.size + 1, 2, none⟩ (.slice d.bk.A2 d.bk.b.notes.length d.bk.c2)).setCell ⟨w.heap.size + 1, 3, none⟩ (.int .i64 d.bk.b.locked)).setCell ⟨w.heap.size + 1, 4, none⟩ (.int .i64 d.st.x.way)).setCell ⟨w.heap.size + 1, 5, none⟩ (.int .i64 d.st.x.ver)).setCell ⟨w.heap.size + 1, 6, none⟩ (.int .i64 d.st.x.want)).setCell ⟨w.heap.size + 1, 7, none⟩ (.slice d.st.A1 d.st.x.sent.length d.st.c1)).setCell ⟨w.heap.size + 1, 8, none⟩ (.slice d.st.A2 d.st.x.live.length d.st.c2)).setCell ⟨w.heap.size + 1, 9, none⟩ (.slice d.st.A3 d.st.x.back.length d.st.c3)).setCell ⟨w.heap.size + 1, 10, none⟩ (.slice d.st.A4 d.st.x.got.length d.st.c4)).setCell ⟨w.heap.size + 1, 11, none⟩ (.slice d.pA d.past.length d.pc)).setCell ⟨w.heap.size + 1, 12, none⟩ (.slice d.kA d.knows.length d.kc)) := ((((((((((((((Keeps.refl (fun b => b = w.heap.size + 1) w4).setCell (p := ⟨w.heap.size + 1, 0, none⟩) (.inr rfl) (.int .i64 d.id)).setCell (p := ⟨w.heap.size + 1, 1, none⟩) (.inr rfl) (.slice d.bk.A1 d.bk.b.own.length d.bk.c1)).setCell (p := ⟨w.heap.size + 1, 2, none⟩) (.inr rfl) (.slice d.bk.A2 d.bk.b.notes.length d.bk.c2)).setCell (p := ⟨w.heap.size + 1, 3, none⟩) (.inr rfl) (.int .i64 d.bk.b.locked)).setCell (p := ⟨w.heap.size + 1, 4, none⟩) (.inr rfl) (.int .i64 d.st.x.way)).setCell (p := ⟨w.heap.size + 1, 5, none⟩) (.inr rfl) (.int .i64 d.st.x.ver)).setCell (p := ⟨w.heap.size + 1, 6, none⟩) (.inr rfl) (.int .i64 d.st.x.want)).setCell (p := ⟨w.heap.size + 1, 7, none⟩) (.inr rfl) (.slice d.st.A1 d.st.x.sent.length d.st.c1)).setCell (p := ⟨w.heap.size + 1, 8, none⟩) (.inr rfl) (.slice d.st.A2 d.st.x.live.length d.st.c2)).setCell (p := ⟨w.heap.size + 1, 9, none⟩) (.inr rfl) (.slice d.st.A3 d.st.x.back.length d.st.c3)).setCell (p := ⟨w.heap.size + 1, 10, none⟩) (.inr rfl) (.slice d.st.A4 d.st.x.got.length d.st.c4)).setCell (p := ⟨w.heap.size + 1, 11, none⟩) (.inr rfl) (.slice d.pA d.past.length d.pc)).setCell (p := ⟨w.heap.size + 1, 12, none⟩) (.inr rfl) (.slice d.kA d.knows.length d.kc))
    generalize (((((((((((((w4.setCell ⟨w.heap.size + 1, 0, none⟩ (.int .i64 d.id)).setCell ⟨w.heap.size + 1, 1, none⟩ (.slice d.bk.A1 d.bk.b.own.length d.bk.c1)).setCell ⟨w.heap.size + 1, 2, none⟩ (.slice d.bk.A2 d.bk.b.notes.length d.bk.c2)).setCell ⟨w.heap.size + 1, 3, none⟩ (.int .i64 d.bk.b.locked)).setCell ⟨w.heap.size + 1, 4, none⟩ (.int .i64 d.st.x.way)).setCell ⟨w.heap.size + 1, 5, none⟩ (.int .i64 d.st.x.ver)).setCell ⟨w.heap.size + 1, 6, none⟩ (.int .i64 d.st.x.want)).setCell ⟨w.heap.size + 1, 7, none⟩ (.slice d.st.A1 d.st.x.sent.length d.st.c1)).setCell ⟨w.heap.size + 1, 8, none⟩ (.slice d.st.A2 d.st.x.live.length d.st.c2)).setCell ⟨w.heap.size + 1, 9, none⟩ (.slice d.st.A3 d.st.x.back.length d.st.c3)).setCell ⟨w.heap.size + 1, 10, none⟩ (.slice d.st.A4 d.st.x.got.length d.st.c4)).setCell ⟨w.heap.size + 1, 11, none⟩ (.slice d.pA d.past.length d.pc)).setCell ⟨w.heap.size + 1, 12, none⟩ (.slice d.kA d.knows.length d.kc)) = WF at kS s10 s11 s12 s13 s14 s15 s16 s17 s18 s19 s20 s21 s22 ⊢
    refine bodyPost_ret (v := .tuple #[d.val, .int .i64 0, .bool false]) (by simp [results, Tryd.results24, go_sem, ChM.val, s10, s11, s12, s13, s14, s15, s16, s17, s18, s19, s20, s21, s22]) rfl ?_
    exact ⟨d, G, rfl, SM.out, ((OW.out.keeps kS fun b hb h => by have q := OW.out.ge hb; (try simp at q) <;> omega).less (by first | omega | (simp <;> omega))), HK.out.then kS fun i hi h => by omega⟩
  have FS := Lib.hid (fun P W (hk : Keeps noBlk w W) => lsend_yes c P (⟨(c.st.x.sent.length : Int) + 1, kd, f, t, m, u, c.st.x.ver⟩ : Pk) W (SO.kept hk) (ht.keeps hk) hf hs)
  have e1 : snO c (⟨(c.st.x.sent.length : Int) + 1, kd, f, t, m, u, c.st.x.ver⟩ : Pk) = true := by unfold snO; rw [hb, hs]; rfl
  have e2 : snC c (⟨(c.st.x.sent.length : Int) + 1, kd, f, t, m, u, c.st.x.ver⟩ : Pk) = { c with bk := { c.bk with b := awayed c.bk.b kd f m }, st := { c.st with x := sentX c.st.x (⟨(c.st.x.sent.length : Int) + 1, kd, f, t, m, u, c.st.x.ver⟩ : Pk) } } := by unfold snC; rw [e1, if_pos rfl]
  have e3 : snN c (⟨(c.st.x.sent.length : Int) + 1, kd, f, t, m, u, c.st.x.ver⟩ : Pk) = (c.st.x.sent.length : Int) + 1 := by unfold snN; rw [e1, if_pos rfl]
  rw [e1, e2, e3]
  have HAW : Hid ((awayed c.bk.b kd f m).own.length = 3 ∧ (awayed c.bk.b kd f m).notes.length = 3) := Lib.hid (by
    unfold sndB at hs
    simp only [Bool.and_eq_true] at hs
    exact away_len hs.1.1)
  have HSX : Hid ((sentX c.st.x (⟨(c.st.x.sent.length : Int) + 1, kd, f, t, m, u, c.st.x.ver⟩ : Pk)).sent.length ≤ 1000 ∧ (sentX c.st.x (⟨(c.st.x.sent.length : Int) + 1, kd, f, t, m, u, c.st.x.ver⟩ : Pk)).live.length ≤ 1000 ∧ (sentX c.st.x (⟨(c.st.x.sent.length : Int) + 1, kd, f, t, m, u, c.st.x.ver⟩ : Pk)).back.length ≤ 1000 ∧ (sentX c.st.x (⟨(c.st.x.sent.length : Int) + 1, kd, f, t, m, u, c.st.x.ver⟩ : Pk)).got.length ≤ 1000) := Lib.hid (by simp only [sentX, List.length_append, List.length_singleton]; omega)
  clear h hb ht e1 e2 e3 hf hs SO e9
  unfold ChM.val
  unfold ChM.val at F
  unfold lkV at FP
  go_enter Tryd.func24, Tryd.ntmps24
  go_wp2_with fail
  refine (F.out _ HK.out).mono ?_
  rintro e w1 ⟨P, rfl, hl9, hk1⟩
  unfold lkV
  have HLK := Lib.hid hl9
  clear hl9
  have ha := HBa.out.keeps hk1 (fun h => h)
  clear HBa
  have HBa := Lib.hid ha
  clear ha
  have hr := HBr.out.keeps hk1 (fun h => h)
  clear HBr
  have HBr := Lib.hid hr
  clear hr
  have hr := HK.out.trans hk1
  clear HK
  have HK := Lib.hid hr
  clear hr
  have sz1 := hk1.size
  (try simp at sz1)
  clear hk1
  have ha := HBa.out.alloc (.cells #[.slice c.bk.A1 c.bk.b.own.length c.bk.c1, .slice c.bk.A2 c.bk.b.notes.length c.bk.c2, .int .i64 c.bk.b.locked, .int .i64 c.id, .int .i64 c.st.x.way, .int .i64 c.st.x.ver, .int .i64 c.st.x.want, .slice c.st.A1 c.st.x.sent.length c.st.c1, .slice c.st.A2 c.st.x.live.length c.st.c2, .slice c.st.A3 c.st.x.back.length c.st.c3, .slice c.st.A4 c.st.x.got.length c.st.c4, .pointer P, .slice c.kA c.knows.length c.kc] 93)
  clear HBa
  have HBa := Lib.hid ha
  clear ha
  have hr := HBr.out.alloc (.cells #[.slice c.bk.A1 c.bk.b.own.length c.bk.c1, .slice c.bk.A2 c.bk.b.notes.length c.bk.c2, .int .i64 c.bk.b.locked, .int .i64 c.id, .int .i64 c.st.x.way, .int .i64 c.st.x.ver, .int .i64 c.st.x.want, .slice c.st.A1 c.st.x.sent.length c.st.c1, .slice c.st.A2 c.st.x.live.length c.st.c2, .slice c.st.A3 c.st.x.back.length c.st.c3, .slice c.st.A4 c.st.x.got.length c.st.c4, .pointer P, .slice c.kA c.knows.length c.kc] 93)
  clear HBr
  have HBr := Lib.hid hr
  clear hr
  have hr := Lk.kept (HLK.out) ((Keeps.refl noBlk w1).alloc (.cells #[.slice c.bk.A1 c.bk.b.own.length c.bk.c1, .slice c.bk.A2 c.bk.b.notes.length c.bk.c2, .int .i64 c.bk.b.locked, .int .i64 c.id, .int .i64 c.st.x.way, .int .i64 c.st.x.ver, .int .i64 c.st.x.want, .slice c.st.A1 c.st.x.sent.length c.st.c1, .slice c.st.A2 c.st.x.live.length c.st.c2, .slice c.st.A3 c.st.x.back.length c.st.c3, .slice c.st.A4 c.st.x.got.length c.st.c4, .pointer P, .slice c.kA c.knows.length c.kc] 93))
  clear HLK
  have HLK := Lib.hid hr
  clear hr
  have hr := HK.out.alloc (.cells #[.slice c.bk.A1 c.bk.b.own.length c.bk.c1, .slice c.bk.A2 c.bk.b.notes.length c.bk.c2, .int .i64 c.bk.b.locked, .int .i64 c.id, .int .i64 c.st.x.way, .int .i64 c.st.x.ver, .int .i64 c.st.x.want, .slice c.st.A1 c.st.x.sent.length c.st.c1, .slice c.st.A2 c.st.x.live.length c.st.c2, .slice c.st.A3 c.st.x.back.length c.st.c3, .slice c.st.A4 c.st.x.got.length c.st.c4, .pointer P, .slice c.kA c.knows.length c.kc] 93)
  clear HK
  have HK := Lib.hid hr
  clear hr
  have HBk := Lib.hid (Box.new w1 _ rfl 93 #[.slice c.bk.A1 c.bk.b.own.length c.bk.c1, .slice c.bk.A2 c.bk.b.notes.length c.bk.c2, .int .i64 c.bk.b.locked, .int .i64 c.id, .int .i64 c.st.x.way, .int .i64 c.st.x.ver, .int .i64 c.st.x.want, .slice c.st.A1 c.st.x.sent.length c.st.c1, .slice c.st.A2 c.st.x.live.length c.st.c2, .slice c.st.A3 c.st.x.back.length c.st.c3, .slice c.st.A4 c.st.x.got.length c.st.c4, .pointer P, .slice c.kA c.knows.length c.kc])
  go_wp2_with fail
  refine (FP.out P _).mono ?_
  rintro e w2 ⟨rfl, hk2⟩
  dsimp only
  have ha := HBa.out.keeps hk2 (fun h => h)
  clear HBa
  have HBa := Lib.hid ha
  clear ha
  have hr := HBr.out.keeps hk2 (fun h => h)
  clear HBr
  have HBr := Lib.hid hr
  clear hr
  have hk := HBk.out.keeps hk2 (fun h => h)
  clear HBk
  have HBk := Lib.hid hk
  clear hk
  have hr := Lk.kept (HLK.out) hk2
  clear HLK
  have HLK := Lib.hid hr
  clear hr
  have hr := HK.out.trans hk2
  clear HK
  have HK := Lib.hid hr
  clear hr
  have sz2 := hk2.size
  (try simp at sz2)
  clear hk2
  have hb := HBk.out
  have k0 := hb.cell 0
  have k1 := hb.cell 1
  have k2 := hb.cell 2
  have k3 := hb.cell 3
  have k4 := hb.cell 4
  have k5 := hb.cell 5
  have k6 := hb.cell 6
  have k7 := hb.cell 7
  have k8 := hb.cell 8
  have k9 := hb.cell 9
  have k10 := hb.cell 10
  have k11 := hb.cell 11
  have k12 := hb.cell 12
  simp at k0 k1 k2 k3 k4 k5 k6 k7 k8 k9 k10 k11 k12
  have zk := hb.lt
  clear hb
  have ha := HBa.out.alloc (.cells #[.int .i64 ((c.st.x.sent.length : Int) + 1), .int .i64 kd, .int .i64 f, .int .i64 t, .int .i64 m, .int .i64 u, .int .i64 c.st.x.ver] 58)
  clear HBa
  have HBa := Lib.hid ha
  clear ha
  have hr := HBr.out.alloc (.cells #[.int .i64 ((c.st.x.sent.length : Int) + 1), .int .i64 kd, .int .i64 f, .int .i64 t, .int .i64 m, .int .i64 u, .int .i64 c.st.x.ver] 58)
  clear HBr
  have HBr := Lib.hid hr
  clear hr
  have hk := HBk.out.alloc (.cells #[.int .i64 ((c.st.x.sent.length : Int) + 1), .int .i64 kd, .int .i64 f, .int .i64 t, .int .i64 m, .int .i64 u, .int .i64 c.st.x.ver] 58)
  clear HBk
  have HBk := Lib.hid hk
  clear hk
  have hr := Lk.kept (HLK.out) ((Keeps.refl noBlk w2).alloc (.cells #[.int .i64 ((c.st.x.sent.length : Int) + 1), .int .i64 kd, .int .i64 f, .int .i64 t, .int .i64 m, .int .i64 u, .int .i64 c.st.x.ver] 58))
  clear HLK
  have HLK := Lib.hid hr
  clear hr
  have hr := HK.out.alloc (.cells #[.int .i64 ((c.st.x.sent.length : Int) + 1), .int .i64 kd, .int .i64 f, .int .i64 t, .int .i64 m, .int .i64 u, .int .i64 c.st.x.ver] 58)
  clear HK
  have HK := Lib.hid hr
  clear hr
  have HBq := Lib.hid (Box.new w2 _ rfl 58 #[.int .i64 ((c.st.x.sent.length : Int) + 1), .int .i64 kd, .int .i64 f, .int .i64 t, .int .i64 m, .int .i64 u, .int .i64 c.st.x.ver])
  have FS1 := Lib.hid (FS.out P _ HK.out)
  unfold lkV Pk.val at FS1
  go_wp2_with fail
  refine FS1.out.mono ?_
  rintro e w3 ⟨A1, A2, y1, y2, t2, rfl, hx9, ha9, i1, i2, hk3⟩
  dsimp only [lkV] at i1 i2 ⊢
  have HX := Lib.hid hx9
  have OT := Lib.hid ha9
  have I1 := Lib.hid i1
  have I2 := Lib.hid i2
  clear hx9 ha9 i1 i2 FS1
  clear k0 k1 k2 k3 k4 k5 k6 k7 k8 k9 k10 k11 k12 zk
  have ha := HBa.out.keeps hk3 (fun h => h)
  clear HBa
  have HBa := Lib.hid ha
  clear ha
  have hr := HBr.out.keeps hk3 (fun h => h)
  clear HBr
  have HBr := Lib.hid hr
  clear hr
  have hk := HBk.out.keeps hk3 (fun h => h)
  clear HBk
  have HBk := Lib.hid hk
  clear hk
  have hq := HBq.out.keeps hk3 (fun h => h)
  clear HBq
  have HBq := Lib.hid hq
  clear hq
  have hr := Lk.kept (HLK.out) hk3
  clear HLK
  have HLK := Lib.hid hr
  clear hr
  have hr := HK.out.trans hk3
  clear HK
  have HK := Lib.hid hr
  clear hr
  have sz3 := hk3.size
  (try simp at sz3)
  clear hk3
  have ha := HBa.out.alloc (.cells #[.slice A1 (awayed c.bk.b kd f m).own.length y1, .slice A2 (awayed c.bk.b kd f m).notes.length y2, .int .i64 (awayed c.bk.b kd f m).locked, .int .i64 c.id, .int .i64 t2.x.way, .int .i64 t2.x.ver, .int .i64 t2.x.want, .slice t2.A1 t2.x.sent.length t2.c1, .slice t2.A2 t2.x.live.length t2.c2, .slice t2.A3 t2.x.back.length t2.c3, .slice t2.A4 t2.x.got.length t2.c4, .pointer P, .slice c.kA c.knows.length c.kc] 93)
  clear HBa
  have HBa := Lib.hid ha
  clear ha
  have hr := HBr.out.alloc (.cells #[.slice A1 (awayed c.bk.b kd f m).own.length y1, .slice A2 (awayed c.bk.b kd f m).notes.length y2, .int .i64 (awayed c.bk.b kd f m).locked, .int .i64 c.id, .int .i64 t2.x.way, .int .i64 t2.x.ver, .int .i64 t2.x.want, .slice t2.A1 t2.x.sent.length t2.c1, .slice t2.A2 t2.x.live.length t2.c2, .slice t2.A3 t2.x.back.length t2.c3, .slice t2.A4 t2.x.got.length t2.c4, .pointer P, .slice c.kA c.knows.length c.kc] 93)
  clear HBr
  have HBr := Lib.hid hr
  clear hr
  have hk := HBk.out.alloc (.cells #[.slice A1 (awayed c.bk.b kd f m).own.length y1, .slice A2 (awayed c.bk.b kd f m).notes.length y2, .int .i64 (awayed c.bk.b kd f m).locked, .int .i64 c.id, .int .i64 t2.x.way, .int .i64 t2.x.ver, .int .i64 t2.x.want, .slice t2.A1 t2.x.sent.length t2.c1, .slice t2.A2 t2.x.live.length t2.c2, .slice t2.A3 t2.x.back.length t2.c3, .slice t2.A4 t2.x.got.length t2.c4, .pointer P, .slice c.kA c.knows.length c.kc] 93)
  clear HBk
  have HBk := Lib.hid hk
  clear hk
  have hq := HBq.out.alloc (.cells #[.slice A1 (awayed c.bk.b kd f m).own.length y1, .slice A2 (awayed c.bk.b kd f m).notes.length y2, .int .i64 (awayed c.bk.b kd f m).locked, .int .i64 c.id, .int .i64 t2.x.way, .int .i64 t2.x.ver, .int .i64 t2.x.want, .slice t2.A1 t2.x.sent.length t2.c1, .slice t2.A2 t2.x.live.length t2.c2, .slice t2.A3 t2.x.back.length t2.c3, .slice t2.A4 t2.x.got.length t2.c4, .pointer P, .slice c.kA c.knows.length c.kc] 93)
  clear HBq
  have HBq := Lib.hid hq
  clear hq
  have hr := Lk.kept (HLK.out) ((Keeps.refl noBlk w3).alloc (.cells #[.slice A1 (awayed c.bk.b kd f m).own.length y1, .slice A2 (awayed c.bk.b kd f m).notes.length y2, .int .i64 (awayed c.bk.b kd f m).locked, .int .i64 c.id, .int .i64 t2.x.way, .int .i64 t2.x.ver, .int .i64 t2.x.want, .slice t2.A1 t2.x.sent.length t2.c1, .slice t2.A2 t2.x.live.length t2.c2, .slice t2.A3 t2.x.back.length t2.c3, .slice t2.A4 t2.x.got.length t2.c4, .pointer P, .slice c.kA c.knows.length c.kc] 93))
  clear HLK
  have HLK := Lib.hid hr
  clear hr
  have hr := (OT.out).kept ((Keeps.refl noBlk w3).alloc (.cells #[.slice A1 (awayed c.bk.b kd f m).own.length y1, .slice A2 (awayed c.bk.b kd f m).notes.length y2, .int .i64 (awayed c.bk.b kd f m).locked, .int .i64 c.id, .int .i64 t2.x.way, .int .i64 t2.x.ver, .int .i64 t2.x.want, .slice t2.A1 t2.x.sent.length t2.c1, .slice t2.A2 t2.x.live.length t2.c2, .slice t2.A3 t2.x.back.length t2.c3, .slice t2.A4 t2.x.got.length t2.c4, .pointer P, .slice c.kA c.knows.length c.kc] 93))
  clear OT
  have OT := Lib.hid hr
  clear hr
  have hr := (I1.out).keeps ((Keeps.refl noBlk w3).alloc (.cells #[.slice A1 (awayed c.bk.b kd f m).own.length y1, .slice A2 (awayed c.bk.b kd f m).notes.length y2, .int .i64 (awayed c.bk.b kd f m).locked, .int .i64 c.id, .int .i64 t2.x.way, .int .i64 t2.x.ver, .int .i64 t2.x.want, .slice t2.A1 t2.x.sent.length t2.c1, .slice t2.A2 t2.x.live.length t2.c2, .slice t2.A3 t2.x.back.length t2.c3, .slice t2.A4 t2.x.got.length t2.c4, .pointer P, .slice c.kA c.knows.length c.kc] 93)) (fun _ _ h => h)
  clear I1
  have I1 := Lib.hid hr
  clear hr
  have hr := (I2.out).keeps ((Keeps.refl noBlk w3).alloc (.cells #[.slice A1 (awayed c.bk.b kd f m).own.length y1, .slice A2 (awayed c.bk.b kd f m).notes.length y2, .int .i64 (awayed c.bk.b kd f m).locked, .int .i64 c.id, .int .i64 t2.x.way, .int .i64 t2.x.ver, .int .i64 t2.x.want, .slice t2.A1 t2.x.sent.length t2.c1, .slice t2.A2 t2.x.live.length t2.c2, .slice t2.A3 t2.x.back.length t2.c3, .slice t2.A4 t2.x.got.length t2.c4, .pointer P, .slice c.kA c.knows.length c.kc] 93)) (fun _ _ h => h)
  clear I2
  have I2 := Lib.hid hr
  clear hr
  have hr := HK.out.alloc (.cells #[.slice A1 (awayed c.bk.b kd f m).own.length y1, .slice A2 (awayed c.bk.b kd f m).notes.length y2, .int .i64 (awayed c.bk.b kd f m).locked, .int .i64 c.id, .int .i64 t2.x.way, .int .i64 t2.x.ver, .int .i64 t2.x.want, .slice t2.A1 t2.x.sent.length t2.c1, .slice t2.A2 t2.x.live.length t2.c2, .slice t2.A3 t2.x.back.length t2.c3, .slice t2.A4 t2.x.got.length t2.c4, .pointer P, .slice c.kA c.knows.length c.kc] 93)
  clear HK
  have HK := Lib.hid hr
  clear hr
  have HBs := Lib.hid (Box.new w3 _ rfl 93 #[.slice A1 (awayed c.bk.b kd f m).own.length y1, .slice A2 (awayed c.bk.b kd f m).notes.length y2, .int .i64 (awayed c.bk.b kd f m).locked, .int .i64 c.id, .int .i64 t2.x.way, .int .i64 t2.x.ver, .int .i64 t2.x.want, .slice t2.A1 t2.x.sent.length t2.c1, .slice t2.A2 t2.x.live.length t2.c2, .slice t2.A3 t2.x.back.length t2.c3, .slice t2.A4 t2.x.got.length t2.c4, .pointer P, .slice c.kA c.knows.length c.kc])
  have HLN := Lib.hid (fun W (hk : Keeps noBlk (w3.alloc (.cells #[.slice A1 (awayed c.bk.b kd f m).own.length y1, .slice A2 (awayed c.bk.b kd f m).notes.length y2, .int .i64 (awayed c.bk.b kd f m).locked, .int .i64 c.id, .int .i64 t2.x.way, .int .i64 t2.x.ver, .int .i64 t2.x.want, .slice t2.A1 t2.x.sent.length t2.c1, .slice t2.A2 t2.x.live.length t2.c2, .slice t2.A3 t2.x.back.length t2.c3, .slice t2.A4 t2.x.got.length t2.c4, .pointer P, .slice c.kA c.knows.length c.kc] 93)) W) => lchain_any { c with bk := ⟨awayed c.bk.b kd f m, A1, A2, y1, y2⟩, st := t2 } P _ W (lnk_sent HH.out HB.out HAW.out HSX.out HX.out (HK.out.trans hk) (HLK.out.kept hk) (OT.out.kept hk) (I1.out.keeps hk fun _ _ h => h) (I2.out.keeps hk fun _ _ h => h)))
  unfold lkV at HLN
  dsimp only at HLN
  have hb := HBs.out
  have s0 : (w3.alloc (.cells #[.slice A1 (awayed c.bk.b kd f m).own.length y1, .slice A2 (awayed c.bk.b kd f m).notes.length y2, .int .i64 (awayed c.bk.b kd f m).locked, .int .i64 c.id, .int .i64 t2.x.way, .int .i64 t2.x.ver, .int .i64 t2.x.want, .slice t2.A1 t2.x.sent.length t2.c1, .slice t2.A2 t2.x.live.length t2.c2, .slice t2.A3 t2.x.back.length t2.c3, .slice t2.A4 t2.x.got.length t2.c4, .pointer P, .slice c.kA c.knows.length c.kc] 93)).cell? ⟨w3.heap.size, 0, none⟩ = some (.slice A1 (awayed c.bk.b kd f m).own.length y1) := hb.cell 0
  have s1 : (w3.alloc (.cells #[.slice A1 (awayed c.bk.b kd f m).own.length y1, .slice A2 (awayed c.bk.b kd f m).notes.length y2, .int .i64 (awayed c.bk.b kd f m).locked, .int .i64 c.id, .int .i64 t2.x.way, .int .i64 t2.x.ver, .int .i64 t2.x.want, .slice t2.A1 t2.x.sent.length t2.c1, .slice t2.A2 t2.x.live.length t2.c2, .slice t2.A3 t2.x.back.length t2.c3, .slice t2.A4 t2.x.got.length t2.c4, .pointer P, .slice c.kA c.knows.length c.kc] 93)).cell? ⟨w3.heap.size, 1, none⟩ = some (.slice A2 (awayed c.bk.b kd f m).notes.length y2) := hb.cell 1
  have s2 : (w3.alloc (.cells #[.slice A1 (awayed c.bk.b kd f m).own.length y1, .slice A2 (awayed c.bk.b kd f m).notes.length y2, .int .i64 (awayed c.bk.b kd f m).locked, .int .i64 c.id, .int .i64 t2.x.way, .int .i64 t2.x.ver, .int .i64 t2.x.want, .slice t2.A1 t2.x.sent.length t2.c1, .slice t2.A2 t2.x.live.length t2.c2, .slice t2.A3 t2.x.back.length t2.c3, .slice t2.A4 t2.x.got.length t2.c4, .pointer P, .slice c.kA c.knows.length c.kc] 93)).cell? ⟨w3.heap.size, 2, none⟩ = some (.int .i64 (awayed c.bk.b kd f m).locked) := hb.cell 2
  have s3 : (w3.alloc (.cells #[.slice A1 (awayed c.bk.b kd f m).own.length y1, .slice A2 (awayed c.bk.b kd f m).notes.length y2, .int .i64 (awayed c.bk.b kd f m).locked, .int .i64 c.id, .int .i64 t2.x.way, .int .i64 t2.x.ver, .int .i64 t2.x.want, .slice t2.A1 t2.x.sent.length t2.c1, .slice t2.A2 t2.x.live.length t2.c2, .slice t2.A3 t2.x.back.length t2.c3, .slice t2.A4 t2.x.got.length t2.c4, .pointer P, .slice c.kA c.knows.length c.kc] 93)).cell? ⟨w3.heap.size, 3, none⟩ = some (.int .i64 c.id) := hb.cell 3
  have s4 : (w3.alloc (.cells #[.slice A1 (awayed c.bk.b kd f m).own.length y1, .slice A2 (awayed c.bk.b kd f m).notes.length y2, .int .i64 (awayed c.bk.b kd f m).locked, .int .i64 c.id, .int .i64 t2.x.way, .int .i64 t2.x.ver, .int .i64 t2.x.want, .slice t2.A1 t2.x.sent.length t2.c1, .slice t2.A2 t2.x.live.length t2.c2, .slice t2.A3 t2.x.back.length t2.c3, .slice t2.A4 t2.x.got.length t2.c4, .pointer P, .slice c.kA c.knows.length c.kc] 93)).cell? ⟨w3.heap.size, 4, none⟩ = some (.int .i64 t2.x.way) := hb.cell 4
  have s5 : (w3.alloc (.cells #[.slice A1 (awayed c.bk.b kd f m).own.length y1, .slice A2 (awayed c.bk.b kd f m).notes.length y2, .int .i64 (awayed c.bk.b kd f m).locked, .int .i64 c.id, .int .i64 t2.x.way, .int .i64 t2.x.ver, .int .i64 t2.x.want, .slice t2.A1 t2.x.sent.length t2.c1, .slice t2.A2 t2.x.live.length t2.c2, .slice t2.A3 t2.x.back.length t2.c3, .slice t2.A4 t2.x.got.length t2.c4, .pointer P, .slice c.kA c.knows.length c.kc] 93)).cell? ⟨w3.heap.size, 5, none⟩ = some (.int .i64 t2.x.ver) := hb.cell 5
  have s6 : (w3.alloc (.cells #[.slice A1 (awayed c.bk.b kd f m).own.length y1, .slice A2 (awayed c.bk.b kd f m).notes.length y2, .int .i64 (awayed c.bk.b kd f m).locked, .int .i64 c.id, .int .i64 t2.x.way, .int .i64 t2.x.ver, .int .i64 t2.x.want, .slice t2.A1 t2.x.sent.length t2.c1, .slice t2.A2 t2.x.live.length t2.c2, .slice t2.A3 t2.x.back.length t2.c3, .slice t2.A4 t2.x.got.length t2.c4, .pointer P, .slice c.kA c.knows.length c.kc] 93)).cell? ⟨w3.heap.size, 6, none⟩ = some (.int .i64 t2.x.want) := hb.cell 6
  have s7 : (w3.alloc (.cells #[.slice A1 (awayed c.bk.b kd f m).own.length y1, .slice A2 (awayed c.bk.b kd f m).notes.length y2, .int .i64 (awayed c.bk.b kd f m).locked, .int .i64 c.id, .int .i64 t2.x.way, .int .i64 t2.x.ver, .int .i64 t2.x.want, .slice t2.A1 t2.x.sent.length t2.c1, .slice t2.A2 t2.x.live.length t2.c2, .slice t2.A3 t2.x.back.length t2.c3, .slice t2.A4 t2.x.got.length t2.c4, .pointer P, .slice c.kA c.knows.length c.kc] 93)).cell? ⟨w3.heap.size, 7, none⟩ = some (.slice t2.A1 t2.x.sent.length t2.c1) := hb.cell 7
  have s8 : (w3.alloc (.cells #[.slice A1 (awayed c.bk.b kd f m).own.length y1, .slice A2 (awayed c.bk.b kd f m).notes.length y2, .int .i64 (awayed c.bk.b kd f m).locked, .int .i64 c.id, .int .i64 t2.x.way, .int .i64 t2.x.ver, .int .i64 t2.x.want, .slice t2.A1 t2.x.sent.length t2.c1, .slice t2.A2 t2.x.live.length t2.c2, .slice t2.A3 t2.x.back.length t2.c3, .slice t2.A4 t2.x.got.length t2.c4, .pointer P, .slice c.kA c.knows.length c.kc] 93)).cell? ⟨w3.heap.size, 8, none⟩ = some (.slice t2.A2 t2.x.live.length t2.c2) := hb.cell 8
  have s9 : (w3.alloc (.cells #[.slice A1 (awayed c.bk.b kd f m).own.length y1, .slice A2 (awayed c.bk.b kd f m).notes.length y2, .int .i64 (awayed c.bk.b kd f m).locked, .int .i64 c.id, .int .i64 t2.x.way, .int .i64 t2.x.ver, .int .i64 t2.x.want, .slice t2.A1 t2.x.sent.length t2.c1, .slice t2.A2 t2.x.live.length t2.c2, .slice t2.A3 t2.x.back.length t2.c3, .slice t2.A4 t2.x.got.length t2.c4, .pointer P, .slice c.kA c.knows.length c.kc] 93)).cell? ⟨w3.heap.size, 9, none⟩ = some (.slice t2.A3 t2.x.back.length t2.c3) := hb.cell 9
  have s10 : (w3.alloc (.cells #[.slice A1 (awayed c.bk.b kd f m).own.length y1, .slice A2 (awayed c.bk.b kd f m).notes.length y2, .int .i64 (awayed c.bk.b kd f m).locked, .int .i64 c.id, .int .i64 t2.x.way, .int .i64 t2.x.ver, .int .i64 t2.x.want, .slice t2.A1 t2.x.sent.length t2.c1, .slice t2.A2 t2.x.live.length t2.c2, .slice t2.A3 t2.x.back.length t2.c3, .slice t2.A4 t2.x.got.length t2.c4, .pointer P, .slice c.kA c.knows.length c.kc] 93)).cell? ⟨w3.heap.size, 10, none⟩ = some (.slice t2.A4 t2.x.got.length t2.c4) := hb.cell 10
  have s11 : (w3.alloc (.cells #[.slice A1 (awayed c.bk.b kd f m).own.length y1, .slice A2 (awayed c.bk.b kd f m).notes.length y2, .int .i64 (awayed c.bk.b kd f m).locked, .int .i64 c.id, .int .i64 t2.x.way, .int .i64 t2.x.ver, .int .i64 t2.x.want, .slice t2.A1 t2.x.sent.length t2.c1, .slice t2.A2 t2.x.live.length t2.c2, .slice t2.A3 t2.x.back.length t2.c3, .slice t2.A4 t2.x.got.length t2.c4, .pointer P, .slice c.kA c.knows.length c.kc] 93)).cell? ⟨w3.heap.size, 11, none⟩ = some (.pointer P) := hb.cell 11
  have s12 : (w3.alloc (.cells #[.slice A1 (awayed c.bk.b kd f m).own.length y1, .slice A2 (awayed c.bk.b kd f m).notes.length y2, .int .i64 (awayed c.bk.b kd f m).locked, .int .i64 c.id, .int .i64 t2.x.way, .int .i64 t2.x.ver, .int .i64 t2.x.want, .slice t2.A1 t2.x.sent.length t2.c1, .slice t2.A2 t2.x.live.length t2.c2, .slice t2.A3 t2.x.back.length t2.c3, .slice t2.A4 t2.x.got.length t2.c4, .pointer P, .slice c.kA c.knows.length c.kc] 93)).cell? ⟨w3.heap.size, 12, none⟩ = some (.slice c.kA c.knows.length c.kc) := hb.cell 12
  have zs := hb.lt
  have zv := hb.lt
  clear hb
  have hb := HBq.out
  have q0 := hb.cell 0
  (try simp at q0)
  have zq := hb.lt
  clear hb
  go_wp2_with fail
  generalize (w3.alloc (.cells #[.slice A1 (awayed c.bk.b kd f m).own.length y1, .slice A2 (awayed c.bk.b kd f m).notes.length y2, .int .i64 (awayed c.bk.b kd f m).locked, .int .i64 c.id, .int .i64 t2.x.way, .int .i64 t2.x.ver, .int .i64 t2.x.want, .slice t2.A1 t2.x.sent.length t2.c1, .slice t2.A2 t2.x.live.length t2.c2, .slice t2.A3 t2.x.back.length t2.c3, .slice t2.A4 t2.x.got.length t2.c4, .pointer P, .slice c.kA c.knows.length c.kc] 93)) = V3 at *
  have hn1 : ¬ w.heap.size + 1 = w3.heap.size := by omega
  have hn2 : ¬ w.heap.size + 1 = w2.heap.size := by omega
  go_region_held3 (fun w' => w'.cell? ⟨w3.heap.size, 0, none⟩ = some (.slice A1 (awayed c.bk.b kd f m).own.length y1) ∧ w'.cell? ⟨w3.heap.size, 1, none⟩ = some (.slice A2 (awayed c.bk.b kd f m).notes.length y2) ∧ w'.cell? ⟨w3.heap.size, 2, none⟩ = some (.int .i64 (awayed c.bk.b kd f m).locked) ∧ w'.cell? ⟨w3.heap.size, 3, none⟩ = some (.int .i64 c.id) ∧ w'.cell? ⟨w3.heap.size, 4, none⟩ = some (.int .i64 t2.x.way) ∧ w'.cell? ⟨w3.heap.size, 5, none⟩ = some (.int .i64 t2.x.ver) ∧ w'.cell? ⟨w3.heap.size, 6, none⟩ = some (.int .i64 t2.x.want) ∧ w'.cell? ⟨w3.heap.size, 7, none⟩ = some (.slice t2.A1 t2.x.sent.length t2.c1) ∧ w'.cell? ⟨w3.heap.size, 8, none⟩ = some (.slice t2.A2 t2.x.live.length t2.c2) ∧ w'.cell? ⟨w3.heap.size, 9, none⟩ = some (.slice t2.A3 t2.x.back.length t2.c3) ∧ w'.cell? ⟨w3.heap.size, 10, none⟩ = some (.slice t2.A4 t2.x.got.length t2.c4) ∧ w'.cell? ⟨w3.heap.size, 11, none⟩ = some (.pointer P) ∧ w'.cell? ⟨w3.heap.size, 12, none⟩ = some (.slice c.kA c.knows.length c.kc) ∧ w'.cell? ⟨w2.heap.size, 0, none⟩ = some (.int .i64 ((c.st.x.sent.length : Int) + 1)))
    (((try dsimp only); (repeat' apply And.intro) <;> (first | with_reducible assumption | (go_keep; done) | ((repeat rw [World.cell?_setCell_other _ _ _ _ (by intro e; injection e with e _; first | exact hn1 e | exact hn2 e)]); with_reducible assumption))))
    (first | (go_at_call 73; refine (HLN.out _ ((Keeps.refl noBlk V3).drewN 1)).mono ?_; rintro e w4 ⟨d, G, rfl, sm, ow, hk9⟩; dsimp only [ChM.val]; have hk4 := ((Keeps.refl noBlk V3).drewN 1).trans hk9; clear hk9; have OW := Lib.hid ow; have SM := Lib.hid sm; clear ow sm; have HBs4 := Lib.hid (HBs.out.keeps hk4 fun h => h); have HBq4 := Lib.hid (HBq.out.keeps hk4 fun h => h); have HBr4 := Lib.hid (HBr.out.keeps hk4 fun h => h); have HK4 := Lib.hid (HK.out.trans hk4); have sz4 := hk4.size; clear hk4 s0 s1 s2 s3 s4 s5 s6 s7 s8 s9 s10 s11 s12 zs q0 zq; have hb := HBs4.out; have s0 := hb.cell 0; have s1 := hb.cell 1; have s2 := hb.cell 2; have s3 := hb.cell 3; have s4 := hb.cell 4; have s5 := hb.cell 5; have s6 := hb.cell 6; have s7 := hb.cell 7; have s8 := hb.cell 8; have s9 := hb.cell 9; have s10 := hb.cell 10; have s11 := hb.cell 11; have s12 := hb.cell 12; simp at s0 s1 s2 s3 s4 s5 s6 s7 s8 s9 s10 s11 s12; have zs := hb.lt; clear hb; have hb := HBq4.out; have q0 := hb.cell 0; simp at q0; have zq := hb.lt; clear hb; have hb := HBr4.out; have r0 := hb.cell 0; have rf0 := hb.frozen 0; have r1 := hb.cell 1; have rf1 := hb.frozen 1; have r2 := hb.cell 2; have rf2 := hb.frozen 2; have r3 := hb.cell 3; have rf3 := hb.frozen 3; have r4 := hb.cell 4; have rf4 := hb.frozen 4; have r5 := hb.cell 5; have rf5 := hb.frozen 5; have r6 := hb.cell 6; have rf6 := hb.frozen 6; have r7 := hb.cell 7; have rf7 := hb.frozen 7; have r8 := hb.cell 8; have rf8 := hb.frozen 8; have r9 := hb.cell 9; have rf9 := hb.frozen 9; have r10 := hb.cell 10; have rf10 := hb.frozen 10; have r11 := hb.cell 11; have rf11 := hb.frozen 11; have r12 := hb.cell 12; have rf12 := hb.frozen 12; simp at r0 r1 r2 r3 r4 r5 r6 r7 r8 r9 r10 r11 r12; have zr := hb.lt; clear hb))
  go_wp2
  have hbF := (((((((((((((HBr4.out.set_ 0 (.int .i64 d.id)).set_ 1 (.slice d.bk.A1 d.bk.b.own.length d.bk.c1)).set_ 2 (.slice d.bk.A2 d.bk.b.notes.length d.bk.c2)).set_ 3 (.int .i64 d.bk.b.locked)).set_ 4 (.int .i64 d.st.x.way)).set_ 5 (.int .i64 d.st.x.ver)).set_ 6 (.int .i64 d.st.x.want)).set_ 7 (.slice d.st.A1 d.st.x.sent.length d.st.c1)).set_ 8 (.slice d.st.A2 d.st.x.live.length d.st.c2)).set_ 9 (.slice d.st.A3 d.st.x.back.length d.st.c3)).set_ 10 (.slice d.st.A4 d.st.x.got.length d.st.c4)).set_ 11 (.slice d.pA d.past.length d.pc)).set_ 12 (.slice d.kA d.knows.length d.kc))
  simp only [List.setIfInBounds_toArray, List.set_cons_zero, List.set_cons_succ] at hbF
  have s10 := hbF.cell 0
  have s11 := hbF.cell 1
  have s12 := hbF.cell 2
  have s13 := hbF.cell 3
  have s14 := hbF.cell 4
  have s15 := hbF.cell 5
  have s16 := hbF.cell 6
  have s17 := hbF.cell 7
  have s18 := hbF.cell 8
  have s19 := hbF.cell 9
  have s20 := hbF.cell 10
  have s21 := hbF.cell 11
  have s22 := hbF.cell 12
  simp at s10 s11 s12 s13 s14 s15 s16 s17 s18 s19 s20 s21 s22
  clear hbF
  have kS : Keeps (fun b => b = w.heap.size + 1) w4 (((((((((((((w4.setCell ⟨w.heap.size + 1, 0, none⟩ (.int .i64 d.id)).setCell ⟨w.heap.size + 1, 1, none⟩ (.slice d.bk.A1 d.bk.b.own.length d.bk.c1)).setCell ⟨w.heap.size + 1, 2, none⟩ (.slice d.bk.A2 d.bk.b.notes.length d.bk.c2)).setCell ⟨w.heap.size + 1, 3, none⟩ (.int .i64 d.bk.b.locked)).setCell ⟨w.heap.size + 1, 4, none⟩ (.int .i64 d.st.x.way)).setCell ⟨w.heap.size + 1, 5, none⟩ (.int .i64 d.st.x.ver)).setCell ⟨w.heap.size + 1, 6, none⟩ (.int .i64 d.st.x.want)).setCell ⟨w.heap.size + 1, 7, none⟩ (.slice d.st.A1 d.st.x.sent.length d.st.c1)).setCell ⟨w.heap.size + 1, 8, none⟩ (.slice d.st.A2 d.st.x.live.length d.st.c2)).setCell ⟨w.heap.size + 1, 9, none⟩ (.slice d.st.A3 d.st.x.back.length d.st.c3)).setCell ⟨w.heap.size + 1, 10, none⟩ (.slice d.st.A4 d.st.x.got.length d.st.c4)).setCell ⟨w.heap.size + 1, 11, none⟩ (.slice d.pA d.past.length d.pc)).setCell ⟨w.heap.size + 1, 12, none⟩ (.slice d.kA d.knows.length d.kc)) := ((((((((((((((Keeps.refl (fun b => b = w.heap.size + 1) w4).setCell (p := ⟨w.heap.size + 1, 0, none⟩) (.inr rfl) (.int .i64 d.id)).setCell (p := ⟨w.heap.size + 1, 1, none⟩) (.inr rfl) (.slice d.bk.A1 d.bk.b.own.length d.bk.c1)).setCell (p := ⟨w.heap.size + 1, 2, none⟩) (.inr rfl) (.slice d.bk.A2 d.bk.b.notes.length d.bk.c2)).setCell (p := ⟨w.heap.size + 1, 3, none⟩) (.inr rfl) (.int .i64 d.bk.b.locked)).setCell (p := ⟨w.heap.size + 1, 4, none⟩) (.inr rfl) (.int .i64 d.st.x.way)).setCell (p := ⟨w.heap.size + 1, 5, none⟩) (.inr rfl) (.int .i64 d.st.x.ver)).setCell (p := ⟨w.heap.size + 1, 6, none⟩) (.inr rfl) (.int .i64 d.st.x.want)).setCell (p := ⟨w.heap.size + 1, 7, none⟩) (.inr rfl) (.slice d.st.A1 d.st.x.sent.length d.st.c1)).setCell (p := ⟨w.heap.size + 1, 8, none⟩) (.inr rfl) (.slice d.st.A2 d.st.x.live.length d.st.c2)).setCell (p := ⟨w.heap.size + 1, 9, none⟩) (.inr rfl) (.slice d.st.A3 d.st.x.back.length d.st.c3)).setCell (p := ⟨w.heap.size + 1, 10, none⟩) (.inr rfl) (.slice d.st.A4 d.st.x.got.length d.st.c4)).setCell (p := ⟨w.heap.size + 1, 11, none⟩) (.inr rfl) (.slice d.pA d.past.length d.pc)).setCell (p := ⟨w.heap.size + 1, 12, none⟩) (.inr rfl) (.slice d.kA d.knows.length d.kc))
  generalize (((((((((((((w4.setCell ⟨w.heap.size + 1, 0, none⟩ (.int .i64 d.id)).setCell ⟨w.heap.size + 1, 1, none⟩ (.slice d.bk.A1 d.bk.b.own.length d.bk.c1)).setCell ⟨w.heap.size + 1, 2, none⟩ (.slice d.bk.A2 d.bk.b.notes.length d.bk.c2)).setCell ⟨w.heap.size + 1, 3, none⟩ (.int .i64 d.bk.b.locked)).setCell ⟨w.heap.size + 1, 4, none⟩ (.int .i64 d.st.x.way)).setCell ⟨w.heap.size + 1, 5, none⟩ (.int .i64 d.st.x.ver)).setCell ⟨w.heap.size + 1, 6, none⟩ (.int .i64 d.st.x.want)).setCell ⟨w.heap.size + 1, 7, none⟩ (.slice d.st.A1 d.st.x.sent.length d.st.c1)).setCell ⟨w.heap.size + 1, 8, none⟩ (.slice d.st.A2 d.st.x.live.length d.st.c2)).setCell ⟨w.heap.size + 1, 9, none⟩ (.slice d.st.A3 d.st.x.back.length d.st.c3)).setCell ⟨w.heap.size + 1, 10, none⟩ (.slice d.st.A4 d.st.x.got.length d.st.c4)).setCell ⟨w.heap.size + 1, 11, none⟩ (.slice d.pA d.past.length d.pc)).setCell ⟨w.heap.size + 1, 12, none⟩ (.slice d.kA d.knows.length d.kc)) = WF at kS s10 s11 s12 s13 s14 s15 s16 s17 s18 s19 s20 s21 s22 ⊢
  refine bodyPost_ret (v := .tuple #[d.val, .int .i64 ((c.st.x.sent.length : Int) + 1), .bool true]) (by simp [results, Tryd.results24, go_sem, ChM.val, s10, s11, s12, s13, s14, s15, s16, s17, s18, s19, s20, s21, s22]) rfl ?_
  exact ⟨d, G, rfl, ⟨SM.out.id, SM.out.bk, (by rw [← HX.out]; exact SM.out.st), SM.out.past, SM.out.knows⟩, ((OW.out.keeps kS fun b hb h => by have q := OW.out.ge hb; (try simp at q) <;> omega).less (by first | omega | (simp <;> omega))), HK4.out.then kS fun i hi h => by omega⟩
end Go.Proofs.YtbgpclicflafaaaDoor
