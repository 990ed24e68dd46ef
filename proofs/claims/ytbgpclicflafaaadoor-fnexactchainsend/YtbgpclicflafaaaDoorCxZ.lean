/- The program's send() of a linked chain. -/
import Derived.Test.YtbgpclicflafaaaDoorCxY
import Derived.Test.YtbgpclicflafaaaDoorCxI
import Derived.Test.YtbgpclicflafaaaDoorIAB
import Derived.Deep.RegionLaw
set_option linter.unusedVariables false
set_option linter.unusedSimpArgs false
namespace Go.Proofs.YtbgpclicflafaaaDoor
open Go.RowKit

def sndB (c : ChM) (p : Pk) : Bool := awayOk c.bk.b p.k p.f p.m && decide (c.st.x.way = 3) && p.ok
/-- What send() reads. -/
structure SndOk (w : World) (c : ChM) : Prop where
  own : Ints w c.bk.A1 c.bk.b.own.length c.bk.b.own
  notes : Ints w c.bk.A2 c.bk.b.notes.length c.bk.b.notes
  st : c.st.At w
  l1 : c.bk.b.own.length ≤ 1000
  l2 : c.bk.b.notes.length ≤ 1000
  l3 : c.st.x.sent.length ≤ 1000 ∧ c.st.x.live.length ≤ 1000 ∧ c.st.x.back.length ≤ 1000 ∧ c.st.x.got.length ≤ 1000
theorem SndOk.kept {w w' : World} {c : ChM} (h : SndOk w c) (hk : Keeps noBlk w w') : SndOk w' c := ⟨h.own.keeps hk fun _ _ h => h, h.notes.keeps hk fun _ _ h => h, h.st.kept hk, h.l1, h.l2, h.l3⟩
def RetSnd (w : World) (c : ChM) (p : Pk) (P : Option Addr) (e : Ending) (w' : World) : Prop :=
  ∃ (A1 A2 : Option Addr) (y1 y2 : Nat) (t : StM), e = .returned (.tuple #[lkV { c with bk := ⟨awayed c.bk.b p.k p.f p.m, A1, A2, y1, y2⟩, st := t } P, .bool true]) ∧ t.x = sentX c.st.x p ∧ t.At w' ∧ Ints w' A1 (awayed c.bk.b p.k p.f p.m).own.length (awayed c.bk.b p.k p.f p.m).own ∧ Ints w' A2 (awayed c.bk.b p.k p.f p.m).notes.length (awayed c.bk.b p.k p.f p.m).notes ∧ Keeps noBlk w w'
theorem retB2_no {w w' : World} {b : BankL} {e : Ending} (h : RetB2 w false b e w') : e = .returned (.tuple #[noBank, .bool false]) ∧ Keeps noBlk w w' := by
  rcases h with ⟨h, _⟩ | ⟨_, h⟩
  · cases h
  · exact h
theorem retB2_yes {w w' : World} {b : BankL} {e : Ending} (h : RetB2 w true b e w') :
    ∃ x1 n1 y1 x2 n2 y2, e = .returned (.tuple #[.agg #[.slice x1 n1 y1, .slice x2 n2 y2, .int .i64 b.locked], .bool true]) ∧ Ints w' x1 n1 b.own ∧ Ints w' x2 n2 b.notes ∧ (∀ i, (blk x1 n1 i ∨ blk x2 n2 i) → w.heap.size ≤ i) ∧ Keeps noBlk w w' := by
  rcases h with ⟨_, h⟩ | ⟨h, _⟩
  · obtain ⟨v, rfl, ⟨x1, n1, y1, x2, n2, y2, rfl, h1, h2, _⟩, hk⟩ := h
    exact ⟨x1, n1, y1, x2, n2, y2, rfl, h1.1, h2.1, fun i hi => by rcases hi with hi | hi; exact h1.ge hi; exact h2.ge hi, hk⟩
  · cases h
set_option maxRecDepth 100000 in
set_option maxHeartbeats 8000000 in
theorem lsend_no (c : ChM) (P : Option Addr) (p : Pk) (w : World) (h : SndOk w c) (ht : Tabs w) (hf : M64 p.f) (hb : sndB c p = false) :
    Calls Tryd.prog 82 #[lkV c P, p.val] w fun e w' => e = .returned (.tuple #[lk0, .bool false]) ∧ Keeps noBlk w w' := by
  have F := Lib.hid (fun W (hk : Keeps noBlk w W) => implAway_any c.bk.A1 c.bk.A2 c.bk.b.own.length c.bk.b.notes.length c.bk.c1 c.bk.c2 c.bk.b.locked c.bk.b.own c.bk.b.notes W (h.kept hk).own (h.kept hk).notes (by have := h.l1; unfold maxLen; omega) (by have := h.l2; unfold maxLen; omega) p.k p.f p.m hf)
  have FP := Lib.hid (fun W (hk : Keeps noBlk w W) => implPk_any p.s p.k p.f p.t p.m p.u p.v W (ht.keeps hk))
  have e1 : (⟨c.bk.b.own, c.bk.b.notes, c.bk.b.locked⟩ : BankL) = c.bk.b := rfl
  rw [e1] at F
  clear e1 h ht hf
  have HBl := Lib.hid (((Box.new w _ rfl 93 #[.slice c.bk.A1 c.bk.b.own.length c.bk.c1, .slice c.bk.A2 c.bk.b.notes.length c.bk.c2, .int .i64 c.bk.b.locked, .int .i64 c.id, .int .i64 c.st.x.way, .int .i64 c.st.x.ver, .int .i64 c.st.x.want, .slice c.st.A1 c.st.x.sent.length c.st.c1, .slice c.st.A2 c.st.x.live.length c.st.c2, .slice c.st.A3 c.st.x.back.length c.st.c3, .slice c.st.A4 c.st.x.got.length c.st.c4, .pointer P, .slice c.kA c.knows.length c.kc]).alloc (.cells #[.int .i64 p.s, .int .i64 p.k, .int .i64 p.f, .int .i64 p.t, .int .i64 p.m, .int .i64 p.u, .int .i64 p.v] 58)).alloc (.cells #[.slice none 0 0, .slice none 0 0, .int .i64 0, .int .i64 0, .int .i64 0, .int .i64 0, .int .i64 0, .slice none 0 0, .slice none 0 0, .slice none 0 0, .slice none 0 0, .pointer none, .slice none 0 0] 93))
  have HBp := Lib.hid ((Box.new (w.alloc (.cells #[.slice c.bk.A1 c.bk.b.own.length c.bk.c1, .slice c.bk.A2 c.bk.b.notes.length c.bk.c2, .int .i64 c.bk.b.locked, .int .i64 c.id, .int .i64 c.st.x.way, .int .i64 c.st.x.ver, .int .i64 c.st.x.want, .slice c.st.A1 c.st.x.sent.length c.st.c1, .slice c.st.A2 c.st.x.live.length c.st.c2, .slice c.st.A3 c.st.x.back.length c.st.c3, .slice c.st.A4 c.st.x.got.length c.st.c4, .pointer P, .slice c.kA c.knows.length c.kc] 93)) (w.heap.size + 1) (by simp) 58 #[.int .i64 p.s, .int .i64 p.k, .int .i64 p.f, .int .i64 p.t, .int .i64 p.m, .int .i64 p.u, .int .i64 p.v]).alloc (.cells #[.slice none 0 0, .slice none 0 0, .int .i64 0, .int .i64 0, .int .i64 0, .int .i64 0, .int .i64 0, .slice none 0 0, .slice none 0 0, .slice none 0 0, .slice none 0 0, .pointer none, .slice none 0 0] 93))
  have HBr := Lib.hid (Box.new ((w.alloc (.cells #[.slice c.bk.A1 c.bk.b.own.length c.bk.c1, .slice c.bk.A2 c.bk.b.notes.length c.bk.c2, .int .i64 c.bk.b.locked, .int .i64 c.id, .int .i64 c.st.x.way, .int .i64 c.st.x.ver, .int .i64 c.st.x.want, .slice c.st.A1 c.st.x.sent.length c.st.c1, .slice c.st.A2 c.st.x.live.length c.st.c2, .slice c.st.A3 c.st.x.back.length c.st.c3, .slice c.st.A4 c.st.x.got.length c.st.c4, .pointer P, .slice c.kA c.knows.length c.kc] 93)).alloc (.cells #[.int .i64 p.s, .int .i64 p.k, .int .i64 p.f, .int .i64 p.t, .int .i64 p.m, .int .i64 p.u, .int .i64 p.v] 58)) (w.heap.size + 1 + 1) (by simp) 93 #[.slice none 0 0, .slice none 0 0, .int .i64 0, .int .i64 0, .int .i64 0, .int .i64 0, .int .i64 0, .slice none 0 0, .slice none 0 0, .slice none 0 0, .slice none 0 0, .pointer none, .slice none 0 0])
  have HK := Lib.hid ((((Keeps.refl noBlk w).alloc (.cells #[.slice c.bk.A1 c.bk.b.own.length c.bk.c1, .slice c.bk.A2 c.bk.b.notes.length c.bk.c2, .int .i64 c.bk.b.locked, .int .i64 c.id, .int .i64 c.st.x.way, .int .i64 c.st.x.ver, .int .i64 c.st.x.want, .slice c.st.A1 c.st.x.sent.length c.st.c1, .slice c.st.A2 c.st.x.live.length c.st.c2, .slice c.st.A3 c.st.x.back.length c.st.c3, .slice c.st.A4 c.st.x.got.length c.st.c4, .pointer P, .slice c.kA c.knows.length c.kc] 93)).alloc (.cells #[.int .i64 p.s, .int .i64 p.k, .int .i64 p.f, .int .i64 p.t, .int .i64 p.m, .int .i64 p.u, .int .i64 p.v] 58)).alloc (.cells #[.slice none 0 0, .slice none 0 0, .int .i64 0, .int .i64 0, .int .i64 0, .int .i64 0, .int .i64 0, .slice none 0 0, .slice none 0 0, .slice none 0 0, .slice none 0 0, .pointer none, .slice none 0 0] 93))
  unfold lkV Pk.val
  unfold sndB at hb
  rcases Bool.eq_false_or_eq_true (awayOk c.bk.b p.k p.f p.m) with ha | ha
  case inr =>
    rw [ha] at F
    clear hb ha FP
    go_enter Tryd.func82, Tryd.ntmps82
    go_wp2_with fail
    refine (F.out _ HK.out).mono ?_
    rintro e w1 hF9
    obtain ⟨rfl, hk1⟩ := retB2_no hF9
    have hl := HBl.out.keeps hk1 (fun h => h)
    clear HBl
    have HBl := Lib.hid hl
    clear hl
    have hp := HBp.out.keeps hk1 (fun h => h)
    clear HBp
    have HBp := Lib.hid hp
    clear hp
    have hr := HBr.out.keeps hk1 (fun h => h)
    clear HBr
    have HBr := Lib.hid hr
    clear hr
    have hr := HK.out.trans hk1
    clear HK
    have HK := Lib.hid hr
    clear hr
    have sz1 := hk1.size
    (try simp at sz1)
    clear hk1 hF9
    have HBr0 := HBr
    have HK0 := HK
    unfold noBank
    have hb := HBr.out
    have r0 := hb.cell 0
    have r1 := hb.cell 1
    have r2 := hb.cell 2
    have r3 := hb.cell 3
    have r4 := hb.cell 4
    have r5 := hb.cell 5
    have r6 := hb.cell 6
    have r7 := hb.cell 7
    have r8 := hb.cell 8
    have r9 := hb.cell 9
    have r10 := hb.cell 10
    have r11 := hb.cell 11
    have r12 := hb.cell 12
    simp at r0 r1 r2 r3 r4 r5 r6 r7 r8 r9 r10 r11 r12
    have zr := hb.lt
    clear hb
    have hb := HBr.out
    have rf0 := hb.frozen 0
    have rf1 := hb.frozen 1
    have rf2 := hb.frozen 2
    have rf3 := hb.frozen 3
    have rf4 := hb.frozen 4
    have rf5 := hb.frozen 5
    have rf6 := hb.frozen 6
    have rf7 := hb.frozen 7
    have rf8 := hb.frozen 8
    have rf9 := hb.frozen 9
    have rf10 := hb.frozen 10
    have rf11 := hb.frozen 11
    have rf12 := hb.frozen 12
    clear hb
    go_wp2
    have hbF := ((((((((((((((HBr0.out.set_ 0 (.slice none 0 0)).set_ 1 (.slice none 0 0)).set_ 2 (.int .i64 0)).set_ 3 (.int .i64 0)).set_ 4 (.int .i64 0)).set_ 5 (.int .i64 0)).set_ 6 (.int .i64 0)).set_ 7 (.slice none 0 0)).set_ 8 (.slice none 0 0)).set_ 9 (.slice none 0 0)).set_ 10 (.slice none 0 0)).set_ 11 (.pointer none)).set_ 12 (.slice none 0 0)).alloc (.cells #[.slice none 0 0, .slice none 0 0, .int .i64 0] 34))
    simp only [List.setIfInBounds_toArray, List.set_cons_zero, List.set_cons_succ] at hbF
    have s10 := hbF.cell 0
    have s11 := hbF.cell 1
    have s12 := hbF.cell 2
    have s13 := hbF.cell 3
    have s14 := hbF.cell 4
    have s15 := hbF.cell 5
    have s16 := hbF.cell 6
    have s17 := hbF.cell 7
    have s18 := hbF.cell 8
    have s19 := hbF.cell 9
    have s20 := hbF.cell 10
    have s21 := hbF.cell 11
    have s22 := hbF.cell 12
    simp at s10 s11 s12 s13 s14 s15 s16 s17 s18 s19 s20 s21 s22
    clear hbF
    have kS : Keeps (fun b => b = w.heap.size + 1 + 1) w1 ((((((((((((((w1.setCell ⟨w.heap.size + 1 + 1, 0, none⟩ (.slice none 0 0)).setCell ⟨w.heap.size + 1 + 1, 1, none⟩ (.slice none 0 0)).setCell ⟨w.heap.size + 1 + 1, 2, none⟩ (.int .i64 0)).setCell ⟨w.heap.size + 1 + 1, 3, none⟩ (.int .i64 0)).setCell ⟨w.heap.size + 1 + 1, 4, none⟩ (.int .i64 0)).setCell ⟨w.heap.size + 1 + 1, 5, none⟩ (.int .i64 0)).setCell ⟨w.heap.size + 1 + 1, 6, none⟩ (.int .i64 0)).setCell ⟨w.heap.size + 1 + 1, 7, none⟩ (.slice none 0 0)).setCell ⟨w.heap.size + 1 + 1, 8, none⟩ (.slice none 0 0)).setCell ⟨w.heap.size + 1 + 1, 9, none⟩ (.slice none 0 0)).setCell ⟨w.heap.size + 1 + 1, 10, none⟩ (.slice none 0 0)).setCell ⟨w.heap.size + 1 + 1, 11, none⟩ (.pointer none)).setCell ⟨w.heap.size + 1 + 1, 12, none⟩ (.slice none 0 0)).alloc (.cells #[.slice none 0 0, .slice none 0 0, .int .i64 0] 34)) := (((((((((((((((Keeps.refl (fun b => b = w.heap.size + 1 + 1) w1).setCell (p := ⟨w.heap.size + 1 + 1, 0, none⟩) (.inr rfl) (.slice none 0 0)).setCell (p := ⟨w.heap.size + 1 + 1, 1, none⟩) (.inr rfl) (.slice none 0 0)).setCell (p := ⟨w.heap.size + 1 + 1, 2, none⟩) (.inr rfl) (.int .i64 0)).setCell (p := ⟨w.heap.size + 1 + 1, 3, none⟩) (.inr rfl) (.int .i64 0)).setCell (p := ⟨w.heap.size + 1 + 1, 4, none⟩) (.inr rfl) (.int .i64 0)).setCell (p := ⟨w.heap.size + 1 + 1, 5, none⟩) (.inr rfl) (.int .i64 0)).setCell (p := ⟨w.heap.size + 1 + 1, 6, none⟩) (.inr rfl) (.int .i64 0)).setCell (p := ⟨w.heap.size + 1 + 1, 7, none⟩) (.inr rfl) (.slice none 0 0)).setCell (p := ⟨w.heap.size + 1 + 1, 8, none⟩) (.inr rfl) (.slice none 0 0)).setCell (p := ⟨w.heap.size + 1 + 1, 9, none⟩) (.inr rfl) (.slice none 0 0)).setCell (p := ⟨w.heap.size + 1 + 1, 10, none⟩) (.inr rfl) (.slice none 0 0)).setCell (p := ⟨w.heap.size + 1 + 1, 11, none⟩) (.inr rfl) (.pointer none)).setCell (p := ⟨w.heap.size + 1 + 1, 12, none⟩) (.inr rfl) (.slice none 0 0)).alloc (.cells #[.slice none 0 0, .slice none 0 0, .int .i64 0] 34))
    generalize ((((((((((((((w1.setCell ⟨w.heap.size + 1 + 1, 0, none⟩ (.slice none 0 0)).setCell ⟨w.heap.size + 1 + 1, 1, none⟩ (.slice none 0 0)).setCell ⟨w.heap.size + 1 + 1, 2, none⟩ (.int .i64 0)).setCell ⟨w.heap.size + 1 + 1, 3, none⟩ (.int .i64 0)).setCell ⟨w.heap.size + 1 + 1, 4, none⟩ (.int .i64 0)).setCell ⟨w.heap.size + 1 + 1, 5, none⟩ (.int .i64 0)).setCell ⟨w.heap.size + 1 + 1, 6, none⟩ (.int .i64 0)).setCell ⟨w.heap.size + 1 + 1, 7, none⟩ (.slice none 0 0)).setCell ⟨w.heap.size + 1 + 1, 8, none⟩ (.slice none 0 0)).setCell ⟨w.heap.size + 1 + 1, 9, none⟩ (.slice none 0 0)).setCell ⟨w.heap.size + 1 + 1, 10, none⟩ (.slice none 0 0)).setCell ⟨w.heap.size + 1 + 1, 11, none⟩ (.pointer none)).setCell ⟨w.heap.size + 1 + 1, 12, none⟩ (.slice none 0 0)).alloc (.cells #[.slice none 0 0, .slice none 0 0, .int .i64 0] 34)) = WF at kS s10 s11 s12 s13 s14 s15 s16 s17 s18 s19 s20 s21 s22 ⊢
    refine bodyPost_ret (v := .tuple #[lk0, .bool false]) (by simp [results, Tryd.results82, go_sem, lk0, s10, s11, s12, s13, s14, s15, s16, s17, s18, s19, s20, s21, s22]) rfl ?_
    exact ⟨rfl, HK0.out.then kS fun i hi h => by omega⟩
  rw [ha] at F
  by_cases hw : c.st.x.way = 3
  case neg =>
    have hwd : (c.st.x.way != 3) = true := by simpa using hw
    clear hb ha FP hw
    go_enter Tryd.func82, Tryd.ntmps82
    go_wp2_with fail
    refine (F.out _ HK.out).mono ?_
    rintro e w1 hF9
    obtain ⟨x1, n1, y1, x2, n2, y2, rfl, hi1, hi2, hge, hk1⟩ := retB2_yes hF9
    obtain rfl := hi1.1
    obtain rfl := hi2.1
    have I1 := Lib.hid hi1
    have I2 := Lib.hid hi2
    have HGE := Lib.hid hge
    clear hge
    have hl := HBl.out.keeps hk1 (fun h => h)
    clear HBl
    have HBl := Lib.hid hl
    clear hl
    have hp := HBp.out.keeps hk1 (fun h => h)
    clear HBp
    have HBp := Lib.hid hp
    clear hp
    have hr := HBr.out.keeps hk1 (fun h => h)
    clear HBr
    have HBr := Lib.hid hr
    clear hr
    have hr := HK.out.trans hk1
    clear HK
    have HK := Lib.hid hr
    clear hr
    have sz1 := hk1.size
    (try simp at sz1)
    clear hk1 hF9 hi1 hi2
    have HBr0 := HBr
    have HK0 := HK
    have hb := HBl.out
    have l0 := hb.cell 0
    have l1 := hb.cell 1
    have l2 := hb.cell 2
    have l3 := hb.cell 3
    have l4 := hb.cell 4
    have l5 := hb.cell 5
    have l6 := hb.cell 6
    have l7 := hb.cell 7
    have l8 := hb.cell 8
    have l9 := hb.cell 9
    have l10 := hb.cell 10
    have l11 := hb.cell 11
    have l12 := hb.cell 12
    simp at l0 l1 l2 l3 l4 l5 l6 l7 l8 l9 l10 l11 l12
    have zl := hb.lt
    clear hb
    have hb := HBr.out
    have r0 := hb.cell 0
    have r1 := hb.cell 1
    have r2 := hb.cell 2
    have r3 := hb.cell 3
    have r4 := hb.cell 4
    have r5 := hb.cell 5
    have r6 := hb.cell 6
    have r7 := hb.cell 7
    have r8 := hb.cell 8
    have r9 := hb.cell 9
    have r10 := hb.cell 10
    have r11 := hb.cell 11
    have r12 := hb.cell 12
    simp at r0 r1 r2 r3 r4 r5 r6 r7 r8 r9 r10 r11 r12
    have zr := hb.lt
    clear hb
    have hb := HBr.out
    have rf0 := hb.frozen 0
    have rf1 := hb.frozen 1
    have rf2 := hb.frozen 2
    have rf3 := hb.frozen 3
    have rf4 := hb.frozen 4
    have rf5 := hb.frozen 5
    have rf6 := hb.frozen 6
    have rf7 := hb.frozen 7
    have rf8 := hb.frozen 8
    have rf9 := hb.frozen 9
    have rf10 := hb.frozen 10
    have rf11 := hb.frozen 11
    have rf12 := hb.frozen 12
    clear hb
    go_wp2
    have hbF := ((((((((((((((HBr0.out.set_ 0 (.slice none 0 0)).set_ 1 (.slice none 0 0)).set_ 2 (.int .i64 0)).set_ 3 (.int .i64 0)).set_ 4 (.int .i64 0)).set_ 5 (.int .i64 0)).set_ 6 (.int .i64 0)).set_ 7 (.slice none 0 0)).set_ 8 (.slice none 0 0)).set_ 9 (.slice none 0 0)).set_ 10 (.slice none 0 0)).set_ 11 (.pointer none)).set_ 12 (.slice none 0 0)).alloc (.cells #[.slice x1 (awayed c.bk.b p.k p.f p.m).own.length y1, .slice x2 (awayed c.bk.b p.k p.f p.m).notes.length y2, .int .i64 (awayed c.bk.b p.k p.f p.m).locked] 34))
    simp only [List.setIfInBounds_toArray, List.set_cons_zero, List.set_cons_succ] at hbF
    have s10 := hbF.cell 0
    have s11 := hbF.cell 1
    have s12 := hbF.cell 2
    have s13 := hbF.cell 3
    have s14 := hbF.cell 4
    have s15 := hbF.cell 5
    have s16 := hbF.cell 6
    have s17 := hbF.cell 7
    have s18 := hbF.cell 8
    have s19 := hbF.cell 9
    have s20 := hbF.cell 10
    have s21 := hbF.cell 11
    have s22 := hbF.cell 12
    simp at s10 s11 s12 s13 s14 s15 s16 s17 s18 s19 s20 s21 s22
    clear hbF
    have kS : Keeps (fun b => b = w.heap.size + 1 + 1) w1 ((((((((((((((w1.setCell ⟨w.heap.size + 1 + 1, 0, none⟩ (.slice none 0 0)).setCell ⟨w.heap.size + 1 + 1, 1, none⟩ (.slice none 0 0)).setCell ⟨w.heap.size + 1 + 1, 2, none⟩ (.int .i64 0)).setCell ⟨w.heap.size + 1 + 1, 3, none⟩ (.int .i64 0)).setCell ⟨w.heap.size + 1 + 1, 4, none⟩ (.int .i64 0)).setCell ⟨w.heap.size + 1 + 1, 5, none⟩ (.int .i64 0)).setCell ⟨w.heap.size + 1 + 1, 6, none⟩ (.int .i64 0)).setCell ⟨w.heap.size + 1 + 1, 7, none⟩ (.slice none 0 0)).setCell ⟨w.heap.size + 1 + 1, 8, none⟩ (.slice none 0 0)).setCell ⟨w.heap.size + 1 + 1, 9, none⟩ (.slice none 0 0)).setCell ⟨w.heap.size + 1 + 1, 10, none⟩ (.slice none 0 0)).setCell ⟨w.heap.size + 1 + 1, 11, none⟩ (.pointer none)).setCell ⟨w.heap.size + 1 + 1, 12, none⟩ (.slice none 0 0)).alloc (.cells #[.slice x1 (awayed c.bk.b p.k p.f p.m).own.length y1, .slice x2 (awayed c.bk.b p.k p.f p.m).notes.length y2, .int .i64 (awayed c.bk.b p.k p.f p.m).locked] 34)) := (((((((((((((((Keeps.refl (fun b => b = w.heap.size + 1 + 1) w1).setCell (p := ⟨w.heap.size + 1 + 1, 0, none⟩) (.inr rfl) (.slice none 0 0)).setCell (p := ⟨w.heap.size + 1 + 1, 1, none⟩) (.inr rfl) (.slice none 0 0)).setCell (p := ⟨w.heap.size + 1 + 1, 2, none⟩) (.inr rfl) (.int .i64 0)).setCell (p := ⟨w.heap.size + 1 + 1, 3, none⟩) (.inr rfl) (.int .i64 0)).setCell (p := ⟨w.heap.size + 1 + 1, 4, none⟩) (.inr rfl) (.int .i64 0)).setCell (p := ⟨w.heap.size + 1 + 1, 5, none⟩) (.inr rfl) (.int .i64 0)).setCell (p := ⟨w.heap.size + 1 + 1, 6, none⟩) (.inr rfl) (.int .i64 0)).setCell (p := ⟨w.heap.size + 1 + 1, 7, none⟩) (.inr rfl) (.slice none 0 0)).setCell (p := ⟨w.heap.size + 1 + 1, 8, none⟩) (.inr rfl) (.slice none 0 0)).setCell (p := ⟨w.heap.size + 1 + 1, 9, none⟩) (.inr rfl) (.slice none 0 0)).setCell (p := ⟨w.heap.size + 1 + 1, 10, none⟩) (.inr rfl) (.slice none 0 0)).setCell (p := ⟨w.heap.size + 1 + 1, 11, none⟩) (.inr rfl) (.pointer none)).setCell (p := ⟨w.heap.size + 1 + 1, 12, none⟩) (.inr rfl) (.slice none 0 0)).alloc (.cells #[.slice x1 (awayed c.bk.b p.k p.f p.m).own.length y1, .slice x2 (awayed c.bk.b p.k p.f p.m).notes.length y2, .int .i64 (awayed c.bk.b p.k p.f p.m).locked] 34))
    generalize ((((((((((((((w1.setCell ⟨w.heap.size + 1 + 1, 0, none⟩ (.slice none 0 0)).setCell ⟨w.heap.size + 1 + 1, 1, none⟩ (.slice none 0 0)).setCell ⟨w.heap.size + 1 + 1, 2, none⟩ (.int .i64 0)).setCell ⟨w.heap.size + 1 + 1, 3, none⟩ (.int .i64 0)).setCell ⟨w.heap.size + 1 + 1, 4, none⟩ (.int .i64 0)).setCell ⟨w.heap.size + 1 + 1, 5, none⟩ (.int .i64 0)).setCell ⟨w.heap.size + 1 + 1, 6, none⟩ (.int .i64 0)).setCell ⟨w.heap.size + 1 + 1, 7, none⟩ (.slice none 0 0)).setCell ⟨w.heap.size + 1 + 1, 8, none⟩ (.slice none 0 0)).setCell ⟨w.heap.size + 1 + 1, 9, none⟩ (.slice none 0 0)).setCell ⟨w.heap.size + 1 + 1, 10, none⟩ (.slice none 0 0)).setCell ⟨w.heap.size + 1 + 1, 11, none⟩ (.pointer none)).setCell ⟨w.heap.size + 1 + 1, 12, none⟩ (.slice none 0 0)).alloc (.cells #[.slice x1 (awayed c.bk.b p.k p.f p.m).own.length y1, .slice x2 (awayed c.bk.b p.k p.f p.m).notes.length y2, .int .i64 (awayed c.bk.b p.k p.f p.m).locked] 34)) = WF at kS s10 s11 s12 s13 s14 s15 s16 s17 s18 s19 s20 s21 s22 ⊢
    refine bodyPost_ret (v := .tuple #[lk0, .bool false]) (by simp [results, Tryd.results82, go_sem, lk0, s10, s11, s12, s13, s14, s15, s16, s17, s18, s19, s20, s21, s22]) rfl ?_
    exact ⟨rfl, HK0.out.then kS fun i hi h => by omega⟩
  have hpk : p.ok = false := by
    rw [ha, hw] at hb
    simpa using hb
  have hwd : (c.st.x.way != 3) = false := by simpa using hw
  unfold Pk.ok at hpk
  rw [hpk] at FP
  clear hb ha hw hpk
  go_enter Tryd.func82, Tryd.ntmps82
  go_wp2_with fail
  refine (F.out _ HK.out).mono ?_
  rintro e w1 hF9
  obtain ⟨x1, n1, y1, x2, n2, y2, rfl, hi1, hi2, hge, hk1⟩ := retB2_yes hF9
  obtain rfl := hi1.1
  obtain rfl := hi2.1
  have I1 := Lib.hid hi1
  have I2 := Lib.hid hi2
  have HGE := Lib.hid hge
  clear hge
  have hl := HBl.out.keeps hk1 (fun h => h)
  clear HBl
  have HBl := Lib.hid hl
  clear hl
  have hp := HBp.out.keeps hk1 (fun h => h)
  clear HBp
  have HBp := Lib.hid hp
  clear hp
  have hr := HBr.out.keeps hk1 (fun h => h)
  clear HBr
  have HBr := Lib.hid hr
  clear hr
  have hr := HK.out.trans hk1
  clear HK
  have HK := Lib.hid hr
  clear hr
  have sz1 := hk1.size
  (try simp at sz1)
  clear hk1 hF9 hi1 hi2
  have hb := HBl.out
  have l0 := hb.cell 0
  have l1 := hb.cell 1
  have l2 := hb.cell 2
  have l3 := hb.cell 3
  have l4 := hb.cell 4
  have l5 := hb.cell 5
  have l6 := hb.cell 6
  have l7 := hb.cell 7
  have l8 := hb.cell 8
  have l9 := hb.cell 9
  have l10 := hb.cell 10
  have l11 := hb.cell 11
  have l12 := hb.cell 12
  simp at l0 l1 l2 l3 l4 l5 l6 l7 l8 l9 l10 l11 l12
  have zl := hb.lt
  clear hb
  have hb := HBp.out
  have p0 := hb.cell 0
  have p1 := hb.cell 1
  have p2 := hb.cell 2
  have p3 := hb.cell 3
  have p4 := hb.cell 4
  have p5 := hb.cell 5
  have p6 := hb.cell 6
  simp at p0 p1 p2 p3 p4 p5 p6
  have zp := hb.lt
  clear hb
  have hl := HBl.out.alloc (.cells #[.slice x1 (awayed c.bk.b p.k p.f p.m).own.length y1, .slice x2 (awayed c.bk.b p.k p.f p.m).notes.length y2, .int .i64 (awayed c.bk.b p.k p.f p.m).locked] 34)
  clear HBl
  have HBl := Lib.hid hl
  clear hl
  have hp := HBp.out.alloc (.cells #[.slice x1 (awayed c.bk.b p.k p.f p.m).own.length y1, .slice x2 (awayed c.bk.b p.k p.f p.m).notes.length y2, .int .i64 (awayed c.bk.b p.k p.f p.m).locked] 34)
  clear HBp
  have HBp := Lib.hid hp
  clear hp
  have hr := HBr.out.alloc (.cells #[.slice x1 (awayed c.bk.b p.k p.f p.m).own.length y1, .slice x2 (awayed c.bk.b p.k p.f p.m).notes.length y2, .int .i64 (awayed c.bk.b p.k p.f p.m).locked] 34)
  clear HBr
  have HBr := Lib.hid hr
  clear hr
  have hr := HK.out.alloc (.cells #[.slice x1 (awayed c.bk.b p.k p.f p.m).own.length y1, .slice x2 (awayed c.bk.b p.k p.f p.m).notes.length y2, .int .i64 (awayed c.bk.b p.k p.f p.m).locked] 34)
  clear HK
  have HK := Lib.hid hr
  clear hr
  have HBb := Lib.hid (Box.new w1 _ rfl 34 #[.slice x1 (awayed c.bk.b p.k p.f p.m).own.length y1, .slice x2 (awayed c.bk.b p.k p.f p.m).notes.length y2, .int .i64 (awayed c.bk.b p.k p.f p.m).locked])
  go_wp2_with fail
  refine (FP.out _ HK.out).mono ?_
  rintro e w2 ⟨rfl, hk2⟩
  clear l0 l1 l2 l3 l4 l5 l6 l7 l8 l9 l10 l11 l12 p0 p1 p2 p3 p4 p5 p6 zl zp
  have hl := HBl.out.keeps hk2 (fun h => h)
  clear HBl
  have HBl := Lib.hid hl
  clear hl
  have hp := HBp.out.keeps hk2 (fun h => h)
  clear HBp
  have HBp := Lib.hid hp
  clear hp
  have hr := HBr.out.keeps hk2 (fun h => h)
  clear HBr
  have HBr := Lib.hid hr
  clear hr
  have hb := HBb.out.keeps hk2 (fun h => h)
  clear HBb
  have HBb := Lib.hid hb
  clear hb
  have hr := HK.out.trans hk2
  clear HK
  have HK := Lib.hid hr
  clear hr
  have sz2 := hk2.size
  (try simp at sz2)
  clear hk2
  have hb := HBr.out
  have r0 := hb.cell 0
  have r1 := hb.cell 1
  have r2 := hb.cell 2
  have r3 := hb.cell 3
  have r4 := hb.cell 4
  have r5 := hb.cell 5
  have r6 := hb.cell 6
  have r7 := hb.cell 7
  have r8 := hb.cell 8
  have r9 := hb.cell 9
  have r10 := hb.cell 10
  have r11 := hb.cell 11
  have r12 := hb.cell 12
  simp at r0 r1 r2 r3 r4 r5 r6 r7 r8 r9 r10 r11 r12
  have zr := hb.lt
  clear hb
  have hb := HBr.out
  have rf0 := hb.frozen 0
  have rf1 := hb.frozen 1
  have rf2 := hb.frozen 2
  have rf3 := hb.frozen 3
  have rf4 := hb.frozen 4
  have rf5 := hb.frozen 5
  have rf6 := hb.frozen 6
  have rf7 := hb.frozen 7
  have rf8 := hb.frozen 8
  have rf9 := hb.frozen 9
  have rf10 := hb.frozen 10
  have rf11 := hb.frozen 11
  have rf12 := hb.frozen 12
  clear hb
  go_wp2
  have hbF := (((((((((((((HBr.out.set_ 0 (.slice none 0 0)).set_ 1 (.slice none 0 0)).set_ 2 (.int .i64 0)).set_ 3 (.int .i64 0)).set_ 4 (.int .i64 0)).set_ 5 (.int .i64 0)).set_ 6 (.int .i64 0)).set_ 7 (.slice none 0 0)).set_ 8 (.slice none 0 0)).set_ 9 (.slice none 0 0)).set_ 10 (.slice none 0 0)).set_ 11 (.pointer none)).set_ 12 (.slice none 0 0))
  simp only [List.setIfInBounds_toArray, List.set_cons_zero, List.set_cons_succ] at hbF
  have s10 := hbF.cell 0
  have s11 := hbF.cell 1
  have s12 := hbF.cell 2
  have s13 := hbF.cell 3
  have s14 := hbF.cell 4
  have s15 := hbF.cell 5
  have s16 := hbF.cell 6
  have s17 := hbF.cell 7
  have s18 := hbF.cell 8
  have s19 := hbF.cell 9
  have s20 := hbF.cell 10
  have s21 := hbF.cell 11
  have s22 := hbF.cell 12
  simp at s10 s11 s12 s13 s14 s15 s16 s17 s18 s19 s20 s21 s22
  clear hbF
  have kS : Keeps (fun b => b = w.heap.size + 1 + 1) w2 (((((((((((((w2.setCell ⟨w.heap.size + 1 + 1, 0, none⟩ (.slice none 0 0)).setCell ⟨w.heap.size + 1 + 1, 1, none⟩ (.slice none 0 0)).setCell ⟨w.heap.size + 1 + 1, 2, none⟩ (.int .i64 0)).setCell ⟨w.heap.size + 1 + 1, 3, none⟩ (.int .i64 0)).setCell ⟨w.heap.size + 1 + 1, 4, none⟩ (.int .i64 0)).setCell ⟨w.heap.size + 1 + 1, 5, none⟩ (.int .i64 0)).setCell ⟨w.heap.size + 1 + 1, 6, none⟩ (.int .i64 0)).setCell ⟨w.heap.size + 1 + 1, 7, none⟩ (.slice none 0 0)).setCell ⟨w.heap.size + 1 + 1, 8, none⟩ (.slice none 0 0)).setCell ⟨w.heap.size + 1 + 1, 9, none⟩ (.slice none 0 0)).setCell ⟨w.heap.size + 1 + 1, 10, none⟩ (.slice none 0 0)).setCell ⟨w.heap.size + 1 + 1, 11, none⟩ (.pointer none)).setCell ⟨w.heap.size + 1 + 1, 12, none⟩ (.slice none 0 0)) := ((((((((((((((Keeps.refl (fun b => b = w.heap.size + 1 + 1) w2).setCell (p := ⟨w.heap.size + 1 + 1, 0, none⟩) (.inr rfl) (.slice none 0 0)).setCell (p := ⟨w.heap.size + 1 + 1, 1, none⟩) (.inr rfl) (.slice none 0 0)).setCell (p := ⟨w.heap.size + 1 + 1, 2, none⟩) (.inr rfl) (.int .i64 0)).setCell (p := ⟨w.heap.size + 1 + 1, 3, none⟩) (.inr rfl) (.int .i64 0)).setCell (p := ⟨w.heap.size + 1 + 1, 4, none⟩) (.inr rfl) (.int .i64 0)).setCell (p := ⟨w.heap.size + 1 + 1, 5, none⟩) (.inr rfl) (.int .i64 0)).setCell (p := ⟨w.heap.size + 1 + 1, 6, none⟩) (.inr rfl) (.int .i64 0)).setCell (p := ⟨w.heap.size + 1 + 1, 7, none⟩) (.inr rfl) (.slice none 0 0)).setCell (p := ⟨w.heap.size + 1 + 1, 8, none⟩) (.inr rfl) (.slice none 0 0)).setCell (p := ⟨w.heap.size + 1 + 1, 9, none⟩) (.inr rfl) (.slice none 0 0)).setCell (p := ⟨w.heap.size + 1 + 1, 10, none⟩) (.inr rfl) (.slice none 0 0)).setCell (p := ⟨w.heap.size + 1 + 1, 11, none⟩) (.inr rfl) (.pointer none)).setCell (p := ⟨w.heap.size + 1 + 1, 12, none⟩) (.inr rfl) (.slice none 0 0))
  generalize (((((((((((((w2.setCell ⟨w.heap.size + 1 + 1, 0, none⟩ (.slice none 0 0)).setCell ⟨w.heap.size + 1 + 1, 1, none⟩ (.slice none 0 0)).setCell ⟨w.heap.size + 1 + 1, 2, none⟩ (.int .i64 0)).setCell ⟨w.heap.size + 1 + 1, 3, none⟩ (.int .i64 0)).setCell ⟨w.heap.size + 1 + 1, 4, none⟩ (.int .i64 0)).setCell ⟨w.heap.size + 1 + 1, 5, none⟩ (.int .i64 0)).setCell ⟨w.heap.size + 1 + 1, 6, none⟩ (.int .i64 0)).setCell ⟨w.heap.size + 1 + 1, 7, none⟩ (.slice none 0 0)).setCell ⟨w.heap.size + 1 + 1, 8, none⟩ (.slice none 0 0)).setCell ⟨w.heap.size + 1 + 1, 9, none⟩ (.slice none 0 0)).setCell ⟨w.heap.size + 1 + 1, 10, none⟩ (.slice none 0 0)).setCell ⟨w.heap.size + 1 + 1, 11, none⟩ (.pointer none)).setCell ⟨w.heap.size + 1 + 1, 12, none⟩ (.slice none 0 0)) = WF at kS s10 s11 s12 s13 s14 s15 s16 s17 s18 s19 s20 s21 s22 ⊢
  refine bodyPost_ret (v := .tuple #[lk0, .bool false]) (by simp [results, Tryd.results82, go_sem, lk0, s10, s11, s12, s13, s14, s15, s16, s17, s18, s19, s20, s21, s22]) rfl ?_
  exact ⟨rfl, HK.out.then kS fun i hi h => by omega⟩
set_option maxRecDepth 100000 in
set_option maxHeartbeats 8000000 in
theorem lsend_yes (c : ChM) (P : Option Addr) (p : Pk) (w : World) (h : SndOk w c) (ht : Tabs w) (hf : M64 p.f) (hb : sndB c p = true) :
    Calls Tryd.prog 82 #[lkV c P, p.val] w (RetSnd w c p P) := by
  have F := Lib.hid (fun W (hk : Keeps noBlk w W) => implAway_any c.bk.A1 c.bk.A2 c.bk.b.own.length c.bk.b.notes.length c.bk.c1 c.bk.c2 c.bk.b.locked c.bk.b.own c.bk.b.notes W (h.kept hk).own (h.kept hk).notes (by have := h.l1; unfold maxLen; omega) (by have := h.l2; unfold maxLen; omega) p.k p.f p.m hf)
  have FP := Lib.hid (fun W (hk : Keeps noBlk w W) => implPk_any p.s p.k p.f p.t p.m p.u p.v W (ht.keeps hk))
  have FW := Lib.hid (fun W (hk : Keeps noBlk w W) => withSent_any c.st p W (h.kept hk).st h.l3.1 h.l3.2.1 h.l3.2.2.1 h.l3.2.2.2)
  have e1 : (⟨c.bk.b.own, c.bk.b.notes, c.bk.b.locked⟩ : BankL) = c.bk.b := rfl
  rw [e1] at F
  unfold sndB at hb
  simp only [Bool.and_eq_true, decide_eq_true_eq] at hb
  obtain ⟨⟨ha, hw⟩, hpk⟩ := hb
  have hwd : (c.st.x.way != 3) = false := by simpa using hw
  unfold Pk.ok at hpk
  rw [hpk] at FP
  rw [ha] at F
  clear e1 h ht hf ha hw hpk
  have HBl := Lib.hid (((Box.new w _ rfl 93 #[.slice c.bk.A1 c.bk.b.own.length c.bk.c1, .slice c.bk.A2 c.bk.b.notes.length c.bk.c2, .int .i64 c.bk.b.locked, .int .i64 c.id, .int .i64 c.st.x.way, .int .i64 c.st.x.ver, .int .i64 c.st.x.want, .slice c.st.A1 c.st.x.sent.length c.st.c1, .slice c.st.A2 c.st.x.live.length c.st.c2, .slice c.st.A3 c.st.x.back.length c.st.c3, .slice c.st.A4 c.st.x.got.length c.st.c4, .pointer P, .slice c.kA c.knows.length c.kc]).alloc (.cells #[.int .i64 p.s, .int .i64 p.k, .int .i64 p.f, .int .i64 p.t, .int .i64 p.m, .int .i64 p.u, .int .i64 p.v] 58)).alloc (.cells #[.slice none 0 0, .slice none 0 0, .int .i64 0, .int .i64 0, .int .i64 0, .int .i64 0, .int .i64 0, .slice none 0 0, .slice none 0 0, .slice none 0 0, .slice none 0 0, .pointer none, .slice none 0 0] 93))
  have HBp := Lib.hid ((Box.new (w.alloc (.cells #[.slice c.bk.A1 c.bk.b.own.length c.bk.c1, .slice c.bk.A2 c.bk.b.notes.length c.bk.c2, .int .i64 c.bk.b.locked, .int .i64 c.id, .int .i64 c.st.x.way, .int .i64 c.st.x.ver, .int .i64 c.st.x.want, .slice c.st.A1 c.st.x.sent.length c.st.c1, .slice c.st.A2 c.st.x.live.length c.st.c2, .slice c.st.A3 c.st.x.back.length c.st.c3, .slice c.st.A4 c.st.x.got.length c.st.c4, .pointer P, .slice c.kA c.knows.length c.kc] 93)) (w.heap.size + 1) (by simp) 58 #[.int .i64 p.s, .int .i64 p.k, .int .i64 p.f, .int .i64 p.t, .int .i64 p.m, .int .i64 p.u, .int .i64 p.v]).alloc (.cells #[.slice none 0 0, .slice none 0 0, .int .i64 0, .int .i64 0, .int .i64 0, .int .i64 0, .int .i64 0, .slice none 0 0, .slice none 0 0, .slice none 0 0, .slice none 0 0, .pointer none, .slice none 0 0] 93))
  have HBr := Lib.hid (Box.new ((w.alloc (.cells #[.slice c.bk.A1 c.bk.b.own.length c.bk.c1, .slice c.bk.A2 c.bk.b.notes.length c.bk.c2, .int .i64 c.bk.b.locked, .int .i64 c.id, .int .i64 c.st.x.way, .int .i64 c.st.x.ver, .int .i64 c.st.x.want, .slice c.st.A1 c.st.x.sent.length c.st.c1, .slice c.st.A2 c.st.x.live.length c.st.c2, .slice c.st.A3 c.st.x.back.length c.st.c3, .slice c.st.A4 c.st.x.got.length c.st.c4, .pointer P, .slice c.kA c.knows.length c.kc] 93)).alloc (.cells #[.int .i64 p.s, .int .i64 p.k, .int .i64 p.f, .int .i64 p.t, .int .i64 p.m, .int .i64 p.u, .int .i64 p.v] 58)) (w.heap.size + 1 + 1) (by simp) 93 #[.slice none 0 0, .slice none 0 0, .int .i64 0, .int .i64 0, .int .i64 0, .int .i64 0, .int .i64 0, .slice none 0 0, .slice none 0 0, .slice none 0 0, .slice none 0 0, .pointer none, .slice none 0 0])
  have HK := Lib.hid ((((Keeps.refl noBlk w).alloc (.cells #[.slice c.bk.A1 c.bk.b.own.length c.bk.c1, .slice c.bk.A2 c.bk.b.notes.length c.bk.c2, .int .i64 c.bk.b.locked, .int .i64 c.id, .int .i64 c.st.x.way, .int .i64 c.st.x.ver, .int .i64 c.st.x.want, .slice c.st.A1 c.st.x.sent.length c.st.c1, .slice c.st.A2 c.st.x.live.length c.st.c2, .slice c.st.A3 c.st.x.back.length c.st.c3, .slice c.st.A4 c.st.x.got.length c.st.c4, .pointer P, .slice c.kA c.knows.length c.kc] 93)).alloc (.cells #[.int .i64 p.s, .int .i64 p.k, .int .i64 p.f, .int .i64 p.t, .int .i64 p.m, .int .i64 p.u, .int .i64 p.v] 58)).alloc (.cells #[.slice none 0 0, .slice none 0 0, .int .i64 0, .int .i64 0, .int .i64 0, .int .i64 0, .int .i64 0, .slice none 0 0, .slice none 0 0, .slice none 0 0, .slice none 0 0, .pointer none, .slice none 0 0] 93))
  unfold StM.val Pk.val at FW
  unfold lkV Pk.val
  go_enter Tryd.func82, Tryd.ntmps82
  go_wp2_with fail
  refine (F.out _ HK.out).mono ?_
  rintro e w1 hF9
  obtain ⟨x1, n1, y1, x2, n2, y2, rfl, hi1, hi2, hge, hk1⟩ := retB2_yes hF9
  obtain rfl := hi1.1
  obtain rfl := hi2.1
  have I1 := Lib.hid hi1
  have I2 := Lib.hid hi2
  have HGE := Lib.hid hge
  clear hge
  have hl := HBl.out.keeps hk1 (fun h => h)
  clear HBl
  have HBl := Lib.hid hl
  clear hl
  have hp := HBp.out.keeps hk1 (fun h => h)
  clear HBp
  have HBp := Lib.hid hp
  clear hp
  have hr := HBr.out.keeps hk1 (fun h => h)
  clear HBr
  have HBr := Lib.hid hr
  clear hr
  have hr := HK.out.trans hk1
  clear HK
  have HK := Lib.hid hr
  clear hr
  have sz1 := hk1.size
  (try simp at sz1)
  clear hk1 hF9 hi1 hi2
  have HI1 := I1
  have HI2 := I2
  clear I1 I2
  have hb := HBl.out
  have l0 := hb.cell 0
  have l1 := hb.cell 1
  have l2 := hb.cell 2
  have l3 := hb.cell 3
  have l4 := hb.cell 4
  have l5 := hb.cell 5
  have l6 := hb.cell 6
  have l7 := hb.cell 7
  have l8 := hb.cell 8
  have l9 := hb.cell 9
  have l10 := hb.cell 10
  have l11 := hb.cell 11
  have l12 := hb.cell 12
  simp at l0 l1 l2 l3 l4 l5 l6 l7 l8 l9 l10 l11 l12
  have zl := hb.lt
  clear hb
  have hb := HBp.out
  have p0 := hb.cell 0
  have p1 := hb.cell 1
  have p2 := hb.cell 2
  have p3 := hb.cell 3
  have p4 := hb.cell 4
  have p5 := hb.cell 5
  have p6 := hb.cell 6
  simp at p0 p1 p2 p3 p4 p5 p6
  have zp := hb.lt
  clear hb
  have hl := HBl.out.alloc (.cells #[.slice x1 (awayed c.bk.b p.k p.f p.m).own.length y1, .slice x2 (awayed c.bk.b p.k p.f p.m).notes.length y2, .int .i64 (awayed c.bk.b p.k p.f p.m).locked] 34)
  clear HBl
  have HBl := Lib.hid hl
  clear hl
  have hp := HBp.out.alloc (.cells #[.slice x1 (awayed c.bk.b p.k p.f p.m).own.length y1, .slice x2 (awayed c.bk.b p.k p.f p.m).notes.length y2, .int .i64 (awayed c.bk.b p.k p.f p.m).locked] 34)
  clear HBp
  have HBp := Lib.hid hp
  clear hp
  have hr := HBr.out.alloc (.cells #[.slice x1 (awayed c.bk.b p.k p.f p.m).own.length y1, .slice x2 (awayed c.bk.b p.k p.f p.m).notes.length y2, .int .i64 (awayed c.bk.b p.k p.f p.m).locked] 34)
  clear HBr
  have HBr := Lib.hid hr
  clear hr
  have hr := (HI1.out).keeps ((Keeps.refl noBlk w1).alloc (.cells #[.slice x1 (awayed c.bk.b p.k p.f p.m).own.length y1, .slice x2 (awayed c.bk.b p.k p.f p.m).notes.length y2, .int .i64 (awayed c.bk.b p.k p.f p.m).locked] 34)) (fun _ _ h => h)
  clear HI1
  have HI1 := Lib.hid hr
  clear hr
  have hr := (HI2.out).keeps ((Keeps.refl noBlk w1).alloc (.cells #[.slice x1 (awayed c.bk.b p.k p.f p.m).own.length y1, .slice x2 (awayed c.bk.b p.k p.f p.m).notes.length y2, .int .i64 (awayed c.bk.b p.k p.f p.m).locked] 34)) (fun _ _ h => h)
  clear HI2
  have HI2 := Lib.hid hr
  clear hr
  have hr := HK.out.alloc (.cells #[.slice x1 (awayed c.bk.b p.k p.f p.m).own.length y1, .slice x2 (awayed c.bk.b p.k p.f p.m).notes.length y2, .int .i64 (awayed c.bk.b p.k p.f p.m).locked] 34)
  clear HK
  have HK := Lib.hid hr
  clear hr
  have HBb := Lib.hid (Box.new w1 _ rfl 34 #[.slice x1 (awayed c.bk.b p.k p.f p.m).own.length y1, .slice x2 (awayed c.bk.b p.k p.f p.m).notes.length y2, .int .i64 (awayed c.bk.b p.k p.f p.m).locked])
  go_wp2_with fail
  refine (FP.out _ HK.out).mono ?_
  rintro e w2 ⟨rfl, hk2⟩
  clear l0 l1 l2 l3 l4 l5 l6 l7 l8 l9 l10 l11 l12 p0 p1 p2 p3 p4 p5 p6 zl zp
  have hl := HBl.out.keeps hk2 (fun h => h)
  clear HBl
  have HBl := Lib.hid hl
  clear hl
  have hp := HBp.out.keeps hk2 (fun h => h)
  clear HBp
  have HBp := Lib.hid hp
  clear hp
  have hr := HBr.out.keeps hk2 (fun h => h)
  clear HBr
  have HBr := Lib.hid hr
  clear hr
  have hb := HBb.out.keeps hk2 (fun h => h)
  clear HBb
  have HBb := Lib.hid hb
  clear hb
  have hr := (HI1.out).keeps hk2 (fun _ _ h => h)
  clear HI1
  have HI1 := Lib.hid hr
  clear hr
  have hr := (HI2.out).keeps hk2 (fun _ _ h => h)
  clear HI2
  have HI2 := Lib.hid hr
  clear hr
  have hr := HK.out.trans hk2
  clear HK
  have HK := Lib.hid hr
  clear hr
  have sz2 := hk2.size
  (try simp at sz2)
  clear hk2
  go_upto_region 4 with fail
  have hb := HBl.out
  have l0 := hb.cell 0
  have l1 := hb.cell 1
  have l2 := hb.cell 2
  have l3 := hb.cell 3
  have l4 := hb.cell 4
  have l5 := hb.cell 5
  have l6 := hb.cell 6
  have l7 := hb.cell 7
  have l8 := hb.cell 8
  have l9 := hb.cell 9
  have l10 := hb.cell 10
  have l11 := hb.cell 11
  have l12 := hb.cell 12
  simp at l0 l1 l2 l3 l4 l5 l6 l7 l8 l9 l10 l11 l12
  have zl := hb.lt
  clear hb
  have hb := HBp.out
  have p0 := hb.cell 0
  have p1 := hb.cell 1
  have p2 := hb.cell 2
  have p3 := hb.cell 3
  have p4 := hb.cell 4
  have p5 := hb.cell 5
  have p6 := hb.cell 6
  simp at p0 p1 p2 p3 p4 p5 p6
  have zp := hb.lt
  clear hb
  have hb := HBb.out
  have b0 := hb.cell 0
  have b1 := hb.cell 1
  have b2 := hb.cell 2
  simp at b0 b1 b2
  have zb := hb.lt
  clear hb
  go_region_law (first | (go_simp; go_at_call 127; refine (FW.out _ (HK.out.drewN 1)).mono ?_; rintro e w3 ⟨t, rfl, hx9, ha9, hb9, hk9⟩; dsimp only [StM.val]; have hk3 := ((Keeps.refl noBlk w2).drewN 1).trans hk9; have HBl2 := Lib.hid (HBl.out.keeps hk3 fun h => h); have HBp2 := Lib.hid (HBp.out.keeps hk3 fun h => h); have HBb2 := Lib.hid (HBb.out.keeps hk3 fun h => h); have HBr2 := Lib.hid (HBr.out.keeps hk3 fun h => h); have HX := Lib.hid hx9; have HAT := Lib.hid ha9; have HTB := Lib.hid hb9; have J1 := Lib.hid (HI1.out.keeps hk3 fun _ _ h => h); have J2 := Lib.hid (HI2.out.keeps hk3 fun _ _ h => h); have sz3 := hk3.size; have HK3 := Lib.hid (HK.out.trans hk3); clear hx9 ha9 hb9 hk9 hk3 l0 l1 l2 l3 l4 l5 l6 l7 l8 l9 l10 l11 l12 p0 p1 p2 p3 p4 p5 p6 b0 b1 b2 zl zp zb; have hb := HBl2.out; have l0 := hb.cell 0; have l1 := hb.cell 1; have l2 := hb.cell 2; have l3 := hb.cell 3; have l4 := hb.cell 4; have l5 := hb.cell 5; have l6 := hb.cell 6; have l7 := hb.cell 7; have l8 := hb.cell 8; have l9 := hb.cell 9; have l10 := hb.cell 10; have l11 := hb.cell 11; have l12 := hb.cell 12; simp at l0 l1 l2 l3 l4 l5 l6 l7 l8 l9 l10 l11 l12; have zl := hb.lt; clear hb; have hb := HBp2.out; have p0 := hb.cell 0; have p1 := hb.cell 1; have p2 := hb.cell 2; have p3 := hb.cell 3; have p4 := hb.cell 4; have p5 := hb.cell 5; have p6 := hb.cell 6; simp at p0 p1 p2 p3 p4 p5 p6; have zp := hb.lt; clear hb; have hb := HBb2.out; have b0 := hb.cell 0; have b1 := hb.cell 1; have b2 := hb.cell 2; simp at b0 b1 b2; have zb := hb.lt; clear hb; have hb := HBl2.out; have lf0 := hb.frozen 0; have lf1 := hb.frozen 1; have lf2 := hb.frozen 2; have lf3 := hb.frozen 3; have lf4 := hb.frozen 4; have lf5 := hb.frozen 5; have lf6 := hb.frozen 6; have lf7 := hb.frozen 7; have lf8 := hb.frozen 8; have lf9 := hb.frozen 9; have lf10 := hb.frozen 10; have lf11 := hb.frozen 11; have lf12 := hb.frozen 12; clear hb))
  all_goals
    have kt : Keeps (fun b => b = w.heap.size) w3 ((((((((((w3.setCell ⟨w.heap.size, 0, none⟩ (.slice x1 (awayed c.bk.b p.k p.f p.m).own.length y1)).setCell ⟨w.heap.size, 1, none⟩ (.slice x2 (awayed c.bk.b p.k p.f p.m).notes.length y2)).setCell ⟨w.heap.size, 2, none⟩ (.int .i64 (awayed c.bk.b p.k p.f p.m).locked)).setCell ⟨w.heap.size, 4, none⟩ (.int .i64 t.x.way)).setCell ⟨w.heap.size, 5, none⟩ (.int .i64 t.x.ver)).setCell ⟨w.heap.size, 6, none⟩ (.int .i64 t.x.want)).setCell ⟨w.heap.size, 7, none⟩ (.slice t.A1 t.x.sent.length t.c1)).setCell ⟨w.heap.size, 8, none⟩ (.slice t.A2 t.x.live.length t.c2)).setCell ⟨w.heap.size, 9, none⟩ (.slice t.A3 t.x.back.length t.c3)).setCell ⟨w.heap.size, 10, none⟩ (.slice t.A4 t.x.got.length t.c4)) := (((((((((((Keeps.refl (fun b => b = w.heap.size) w3).setCell (p := ⟨w.heap.size, 0, none⟩) (.inr rfl) (.slice x1 (awayed c.bk.b p.k p.f p.m).own.length y1)).setCell (p := ⟨w.heap.size, 1, none⟩) (.inr rfl) (.slice x2 (awayed c.bk.b p.k p.f p.m).notes.length y2)).setCell (p := ⟨w.heap.size, 2, none⟩) (.inr rfl) (.int .i64 (awayed c.bk.b p.k p.f p.m).locked)).setCell (p := ⟨w.heap.size, 4, none⟩) (.inr rfl) (.int .i64 t.x.way)).setCell (p := ⟨w.heap.size, 5, none⟩) (.inr rfl) (.int .i64 t.x.ver)).setCell (p := ⟨w.heap.size, 6, none⟩) (.inr rfl) (.int .i64 t.x.want)).setCell (p := ⟨w.heap.size, 7, none⟩) (.inr rfl) (.slice t.A1 t.x.sent.length t.c1)).setCell (p := ⟨w.heap.size, 8, none⟩) (.inr rfl) (.slice t.A2 t.x.live.length t.c2)).setCell (p := ⟨w.heap.size, 9, none⟩) (.inr rfl) (.slice t.A3 t.x.back.length t.c3)).setCell (p := ⟨w.heap.size, 10, none⟩) (.inr rfl) (.slice t.A4 t.x.got.length t.c4))
    have hb := ((((((((((HBl2.out.set_ 0 (.slice x1 (awayed c.bk.b p.k p.f p.m).own.length y1)).set_ 1 (.slice x2 (awayed c.bk.b p.k p.f p.m).notes.length y2)).set_ 2 (.int .i64 (awayed c.bk.b p.k p.f p.m).locked)).set_ 4 (.int .i64 t.x.way)).set_ 5 (.int .i64 t.x.ver)).set_ 6 (.int .i64 t.x.want)).set_ 7 (.slice t.A1 t.x.sent.length t.c1)).set_ 8 (.slice t.A2 t.x.live.length t.c2)).set_ 9 (.slice t.A3 t.x.back.length t.c3)).set_ 10 (.slice t.A4 t.x.got.length t.c4))
    simp only [List.setIfInBounds_toArray, List.set_cons_zero, List.set_cons_succ] at hb
    have HBl3 := Lib.hid hb
    clear hb
    have HBr3 := Lib.hid (HBr2.out.keeps kt fun h => by omega)
    have HK4 := Lib.hid (HK3.out.then kt fun i hi h => by omega)
    have HAT4 := Lib.hid (HAT.out.keeps kt fun b hb h => by have q := HTB.out b hb; (try simp at q) <;> omega)
    have J14 := Lib.hid (J1.out.keeps kt fun b hb h => by have q := HGE.out b (.inl hb); (try simp at q) <;> omega)
    have J24 := Lib.hid (J2.out.keeps kt fun b hb h => by have q := HGE.out b (.inr hb); (try simp at q) <;> omega)
    clear kt
    go_upto_region 5 with fail
    clear l0 l1 l2 l3 l4 l5 l6 l7 l8 l9 l10 l11 l12 p0 p1 p2 p3 p4 p5 p6 b0 b1 b2 zl zp zb lf0 lf1 lf2 lf3 lf4 lf5 lf6 lf7 lf8 lf9 lf10 lf11 lf12
    generalize ((((((((((w3.setCell ⟨w.heap.size, 0, none⟩ (.slice x1 (awayed c.bk.b p.k p.f p.m).own.length y1)).setCell ⟨w.heap.size, 1, none⟩ (.slice x2 (awayed c.bk.b p.k p.f p.m).notes.length y2)).setCell ⟨w.heap.size, 2, none⟩ (.int .i64 (awayed c.bk.b p.k p.f p.m).locked)).setCell ⟨w.heap.size, 4, none⟩ (.int .i64 t.x.way)).setCell ⟨w.heap.size, 5, none⟩ (.int .i64 t.x.ver)).setCell ⟨w.heap.size, 6, none⟩ (.int .i64 t.x.want)).setCell ⟨w.heap.size, 7, none⟩ (.slice t.A1 t.x.sent.length t.c1)).setCell ⟨w.heap.size, 8, none⟩ (.slice t.A2 t.x.live.length t.c2)).setCell ⟨w.heap.size, 9, none⟩ (.slice t.A3 t.x.back.length t.c3)).setCell ⟨w.heap.size, 10, none⟩ (.slice t.A4 t.x.got.length t.c4)) = V at *
    have hb := HBl3.out
    have l0 := hb.cell 0
    have l1 := hb.cell 1
    have l2 := hb.cell 2
    have l3 := hb.cell 3
    have l4 := hb.cell 4
    have l5 := hb.cell 5
    have l6 := hb.cell 6
    have l7 := hb.cell 7
    have l8 := hb.cell 8
    have l9 := hb.cell 9
    have l10 := hb.cell 10
    have l11 := hb.cell 11
    have l12 := hb.cell 12
    simp at l0 l1 l2 l3 l4 l5 l6 l7 l8 l9 l10 l11 l12
    have zl := hb.lt
    clear hb
    have hb := HBr3.out
    have r0 := hb.cell 0
    have rf0 := hb.frozen 0
    have r1 := hb.cell 1
    have rf1 := hb.frozen 1
    have r2 := hb.cell 2
    have rf2 := hb.frozen 2
    have r3 := hb.cell 3
    have rf3 := hb.frozen 3
    have r4 := hb.cell 4
    have rf4 := hb.frozen 4
    have r5 := hb.cell 5
    have rf5 := hb.frozen 5
    have r6 := hb.cell 6
    have rf6 := hb.frozen 6
    have r7 := hb.cell 7
    have rf7 := hb.frozen 7
    have r8 := hb.cell 8
    have rf8 := hb.frozen 8
    have r9 := hb.cell 9
    have rf9 := hb.frozen 9
    have r10 := hb.cell 10
    have rf10 := hb.frozen 10
    have r11 := hb.cell 11
    have rf11 := hb.frozen 11
    have r12 := hb.cell 12
    have rf12 := hb.frozen 12
    simp at r0 r1 r2 r3 r4 r5 r6 r7 r8 r9 r10 r11 r12
    have zr := hb.lt
    clear hb
    go_wp2
    have hbF := (((((((((((((HBr3.out.set_ 0 (.slice x1 (awayed c.bk.b p.k p.f p.m).own.length y1)).set_ 1 (.slice x2 (awayed c.bk.b p.k p.f p.m).notes.length y2)).set_ 2 (.int .i64 (awayed c.bk.b p.k p.f p.m).locked)).set_ 3 (.int .i64 c.id)).set_ 4 (.int .i64 t.x.way)).set_ 5 (.int .i64 t.x.ver)).set_ 6 (.int .i64 t.x.want)).set_ 7 (.slice t.A1 t.x.sent.length t.c1)).set_ 8 (.slice t.A2 t.x.live.length t.c2)).set_ 9 (.slice t.A3 t.x.back.length t.c3)).set_ 10 (.slice t.A4 t.x.got.length t.c4)).set_ 11 (.pointer P)).set_ 12 (.slice c.kA c.knows.length c.kc))
    simp only [List.setIfInBounds_toArray, List.set_cons_zero, List.set_cons_succ] at hbF
    have s10 := hbF.cell 0
    have s11 := hbF.cell 1
    have s12 := hbF.cell 2
    have s13 := hbF.cell 3
    have s14 := hbF.cell 4
    have s15 := hbF.cell 5
    have s16 := hbF.cell 6
    have s17 := hbF.cell 7
    have s18 := hbF.cell 8
    have s19 := hbF.cell 9
    have s20 := hbF.cell 10
    have s21 := hbF.cell 11
    have s22 := hbF.cell 12
    simp at s10 s11 s12 s13 s14 s15 s16 s17 s18 s19 s20 s21 s22
    clear hbF
    have kS : Keeps (fun b => b = w.heap.size + 1 + 1) V (((((((((((((V.setCell ⟨w.heap.size + 1 + 1, 0, none⟩ (.slice x1 (awayed c.bk.b p.k p.f p.m).own.length y1)).setCell ⟨w.heap.size + 1 + 1, 1, none⟩ (.slice x2 (awayed c.bk.b p.k p.f p.m).notes.length y2)).setCell ⟨w.heap.size + 1 + 1, 2, none⟩ (.int .i64 (awayed c.bk.b p.k p.f p.m).locked)).setCell ⟨w.heap.size + 1 + 1, 3, none⟩ (.int .i64 c.id)).setCell ⟨w.heap.size + 1 + 1, 4, none⟩ (.int .i64 t.x.way)).setCell ⟨w.heap.size + 1 + 1, 5, none⟩ (.int .i64 t.x.ver)).setCell ⟨w.heap.size + 1 + 1, 6, none⟩ (.int .i64 t.x.want)).setCell ⟨w.heap.size + 1 + 1, 7, none⟩ (.slice t.A1 t.x.sent.length t.c1)).setCell ⟨w.heap.size + 1 + 1, 8, none⟩ (.slice t.A2 t.x.live.length t.c2)).setCell ⟨w.heap.size + 1 + 1, 9, none⟩ (.slice t.A3 t.x.back.length t.c3)).setCell ⟨w.heap.size + 1 + 1, 10, none⟩ (.slice t.A4 t.x.got.length t.c4)).setCell ⟨w.heap.size + 1 + 1, 11, none⟩ (.pointer P)).setCell ⟨w.heap.size + 1 + 1, 12, none⟩ (.slice c.kA c.knows.length c.kc)) := ((((((((((((((Keeps.refl (fun b => b = w.heap.size + 1 + 1) V).setCell (p := ⟨w.heap.size + 1 + 1, 0, none⟩) (.inr rfl) (.slice x1 (awayed c.bk.b p.k p.f p.m).own.length y1)).setCell (p := ⟨w.heap.size + 1 + 1, 1, none⟩) (.inr rfl) (.slice x2 (awayed c.bk.b p.k p.f p.m).notes.length y2)).setCell (p := ⟨w.heap.size + 1 + 1, 2, none⟩) (.inr rfl) (.int .i64 (awayed c.bk.b p.k p.f p.m).locked)).setCell (p := ⟨w.heap.size + 1 + 1, 3, none⟩) (.inr rfl) (.int .i64 c.id)).setCell (p := ⟨w.heap.size + 1 + 1, 4, none⟩) (.inr rfl) (.int .i64 t.x.way)).setCell (p := ⟨w.heap.size + 1 + 1, 5, none⟩) (.inr rfl) (.int .i64 t.x.ver)).setCell (p := ⟨w.heap.size + 1 + 1, 6, none⟩) (.inr rfl) (.int .i64 t.x.want)).setCell (p := ⟨w.heap.size + 1 + 1, 7, none⟩) (.inr rfl) (.slice t.A1 t.x.sent.length t.c1)).setCell (p := ⟨w.heap.size + 1 + 1, 8, none⟩) (.inr rfl) (.slice t.A2 t.x.live.length t.c2)).setCell (p := ⟨w.heap.size + 1 + 1, 9, none⟩) (.inr rfl) (.slice t.A3 t.x.back.length t.c3)).setCell (p := ⟨w.heap.size + 1 + 1, 10, none⟩) (.inr rfl) (.slice t.A4 t.x.got.length t.c4)).setCell (p := ⟨w.heap.size + 1 + 1, 11, none⟩) (.inr rfl) (.pointer P)).setCell (p := ⟨w.heap.size + 1 + 1, 12, none⟩) (.inr rfl) (.slice c.kA c.knows.length c.kc))
    generalize (((((((((((((V.setCell ⟨w.heap.size + 1 + 1, 0, none⟩ (.slice x1 (awayed c.bk.b p.k p.f p.m).own.length y1)).setCell ⟨w.heap.size + 1 + 1, 1, none⟩ (.slice x2 (awayed c.bk.b p.k p.f p.m).notes.length y2)).setCell ⟨w.heap.size + 1 + 1, 2, none⟩ (.int .i64 (awayed c.bk.b p.k p.f p.m).locked)).setCell ⟨w.heap.size + 1 + 1, 3, none⟩ (.int .i64 c.id)).setCell ⟨w.heap.size + 1 + 1, 4, none⟩ (.int .i64 t.x.way)).setCell ⟨w.heap.size + 1 + 1, 5, none⟩ (.int .i64 t.x.ver)).setCell ⟨w.heap.size + 1 + 1, 6, none⟩ (.int .i64 t.x.want)).setCell ⟨w.heap.size + 1 + 1, 7, none⟩ (.slice t.A1 t.x.sent.length t.c1)).setCell ⟨w.heap.size + 1 + 1, 8, none⟩ (.slice t.A2 t.x.live.length t.c2)).setCell ⟨w.heap.size + 1 + 1, 9, none⟩ (.slice t.A3 t.x.back.length t.c3)).setCell ⟨w.heap.size + 1 + 1, 10, none⟩ (.slice t.A4 t.x.got.length t.c4)).setCell ⟨w.heap.size + 1 + 1, 11, none⟩ (.pointer P)).setCell ⟨w.heap.size + 1 + 1, 12, none⟩ (.slice c.kA c.knows.length c.kc)) = WF at kS s10 s11 s12 s13 s14 s15 s16 s17 s18 s19 s20 s21 s22 ⊢
    refine bodyPost_ret (v := .tuple #[lkV { c with bk := ⟨awayed c.bk.b p.k p.f p.m, x1, x2, y1, y2⟩, st := t } P, .bool true]) (by simp [results, Tryd.results82, go_sem, lkV, s10, s11, s12, s13, s14, s15, s16, s17, s18, s19, s20, s21, s22]) rfl ?_
    exact ⟨x1, x2, y1, y2, t, rfl, HX.out, HAT4.out.keeps kS (fun b hb h => by have q := HTB.out b hb; (try simp at q) <;> omega), J14.out.keeps kS (fun b hb h => by have q := HGE.out b (.inl hb); (try simp at q) <;> omega), J24.out.keeps kS (fun b hb h => by have q := HGE.out b (.inr hb); (try simp at q) <;> omega), HK4.out.then kS fun i hi h => by omega⟩
end Go.Proofs.YtbgpclicflafaaaDoor
