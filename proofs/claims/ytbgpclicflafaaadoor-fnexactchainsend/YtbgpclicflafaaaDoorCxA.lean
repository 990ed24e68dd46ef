/- spec.ChainAt, impl.ChainAt: the state at a height. -/
import Derived.Test.YtbgpclicflafaaaDoorCxI
import Derived.Test.YtbgpclicflafaaaDoorCxK
import Derived.Test.YtbgpclicflafaaaDoorICopy
set_option linter.unusedVariables false
set_option linter.unusedSimpArgs false
namespace Go.Proofs.YtbgpclicflafaaaDoor
open Go.RowKit

theorem upto_head (l : List StM) (h : Int) (hc : 1 ≤ h ∧ h ≤ l.length) : ∃ rest, upto l.reverse h = l.getD (h.toNat - 1) stm0 :: rest := by
  unfold upto
  rw [if_pos (by rw [List.length_reverse]; exact hc)]
  have hk : l.reverse.length - h.toNat < l.reverse.length := by rw [List.length_reverse]; omega
  rw [List.drop_eq_getElem_cons hk, List.getElem_reverse]
  refine ⟨List.drop (l.reverse.length - h.toNat + 1) l.reverse, ?_⟩
  congr 1
  rw [List.getD_eq_getElem?_getD, List.getElem?_eq_getElem (by omega : h.toNat - 1 < l.length)]
  simp only [List.length_reverse, Option.getD_some]
  congr 1
  omega
theorem upto_none (l : List StM) (h : Int) (hc : ¬ (1 ≤ h ∧ h ≤ l.length)) : upto l.reverse h = [] := by
  unfold upto
  rw [if_neg (by rw [List.length_reverse]; exact hc)]
/-- Is there such a height? -/
def atB (c : ChM) (h : Int) : Bool := ckB c && in2 h 1 c.past.length
def atX (c : ChM) (h : Int) : StL := if atB c h then (c.past.getD (h.toNat - 1) stm0).x else stm0.x
theorem stB_len {x : StL} (h : stB x = true) : x.sent.length ≤ 8 ∧ x.live.length ≤ 8 ∧ x.back.length ≤ 8 ∧ x.got.length ≤ 8 := by
  have k := of_decide_eq_true h
  have h1 := k.2.1.small
  have h2 := k.2.2.1.1
  have h3 := k.2.2.1.2.1
  have h4 := k.2.2.2.1
  omega
theorem stB_Len {s : StM} (h : stB s.x = true) : s.Len := by
  have := stB_len h
  unfold StM.Len maxLen
  omega
/-- The call hands back a state that can be read, and whether there is one. -/
def RetSR (w : World) (x : StL) (o : Bool) (e : Ending) (w' : World) : Prop := ∃ s : StM, e = .returned (.tuple #[s.val, .bool o]) ∧ s.x = x ∧ s.At w' ∧ Keeps noBlk w w'
/-- .. a state of its own .. -/
def RetSO (w : World) (x : StL) (o : Bool) (e : Ending) (w' : World) : Prop := ∃ s : StM, e = .returned (.tuple #[s.val, .bool o]) ∧ s.x = x ∧ s.Own w' w.heap.size ∧ s.Len ∧ Keeps noBlk w w'
theorem copy_fresh {w w' : World} {s : StM} (h : ∀ G ρ : Nat → Nat, ∃ G' : Nat → Nat, (∀ b, b < w.heap.size → G' b = G b) ∧ StR G' ρ w' s) {b : Nat} (hb : s.bl b) : w.heap.size ≤ b := by
  obtain ⟨G', h1, h2⟩ := h (fun _ => 0) (fun _ => 1)
  have h3 : G' b = 1 := by
    rcases hb with hb | hb | hb | hb
    · exact h2.1.2 b (blk_own hb)
    · exact h2.2.1.2 b (blk_own hb)
    · exact h2.2.2.1.2 b (blk_own hb)
    · exact h2.2.2.2.2 b (blk_own hb)
  rcases Nat.lt_or_ge b w.heap.size with hl | hl
  · rw [h1 b hl] at h3
    cases h3
  · exact hl
theorem stm0_len : stm0.Len := ⟨by decide, by decide, by decide, by decide⟩
theorem stm0_own (w : World) (lo : Nat) : stm0.Own w lo :=
  ⟨lo, lo, lo, ⟨PRow.nil _ _ _, BRow.nil _ _ _, BRow.nil _ _ _, Row.nil _ _ _⟩, fun _ h => absurd h.1 (by decide), fun _ h => absurd h.1 (by decide), fun _ h => absurd h.1 (by decide), Nat.le_refl _, Nat.le_refl _, Nat.le_refl _⟩
set_option maxRecDepth 100000 in
set_option maxHeartbeats 4000000 in
theorem specAt_any (c : ChM) (n : Int) (w : World) (h : ChAt w c) (hL : c.bk.b.locked ≤ 9223372036854775807) : Calls Tryd.prog 25 #[c.val, .int .i64 n] w (RetSR w (atX c n) (atB c n)) := by
  have F := Lib.hid (fun W (hk : Keeps noBlk w W) => specChOk_any c W (h.kept hk) hL)
  have FI := Lib.hid (fun W => l6In_any n 1 c.past.length W)
  have HBa := Lib.hid ((Box.new w _ rfl 40 #[.int .i64 c.id, .slice c.bk.A1 c.bk.b.own.length c.bk.c1, .slice c.bk.A2 c.bk.b.notes.length c.bk.c2, .int .i64 c.bk.b.locked, .int .i64 c.st.x.way, .int .i64 c.st.x.ver, .int .i64 c.st.x.want, .slice c.st.A1 c.st.x.sent.length c.st.c1, .slice c.st.A2 c.st.x.live.length c.st.c2, .slice c.st.A3 c.st.x.back.length c.st.c3, .slice c.st.A4 c.st.x.got.length c.st.c4, .slice c.pA c.past.length c.pc, .slice c.kA c.knows.length c.kc]).alloc (.cells #[.int .i64 0, .int .i64 0, .int .i64 0, .slice none 0 0, .slice none 0 0, .slice none 0 0, .slice none 0 0] 37))
  have HBr := Lib.hid (Box.new (w.alloc (.cells #[.int .i64 c.id, .slice c.bk.A1 c.bk.b.own.length c.bk.c1, .slice c.bk.A2 c.bk.b.notes.length c.bk.c2, .int .i64 c.bk.b.locked, .int .i64 c.st.x.way, .int .i64 c.st.x.ver, .int .i64 c.st.x.want, .slice c.st.A1 c.st.x.sent.length c.st.c1, .slice c.st.A2 c.st.x.live.length c.st.c2, .slice c.st.A3 c.st.x.back.length c.st.c3, .slice c.st.A4 c.st.x.got.length c.st.c4, .slice c.pA c.past.length c.pc, .slice c.kA c.knows.length c.kc] 40)) (w.heap.size + 1) (by simp) 37 #[.int .i64 0, .int .i64 0, .int .i64 0, .slice none 0 0, .slice none 0 0, .slice none 0 0, .slice none 0 0])
  have HK := Lib.hid (((Keeps.refl noBlk w).alloc (.cells #[.int .i64 c.id, .slice c.bk.A1 c.bk.b.own.length c.bk.c1, .slice c.bk.A2 c.bk.b.notes.length c.bk.c2, .int .i64 c.bk.b.locked, .int .i64 c.st.x.way, .int .i64 c.st.x.ver, .int .i64 c.st.x.want, .slice c.st.A1 c.st.x.sent.length c.st.c1, .slice c.st.A2 c.st.x.live.length c.st.c2, .slice c.st.A3 c.st.x.back.length c.st.c3, .slice c.st.A4 c.st.x.got.length c.st.c4, .slice c.pA c.past.length c.pc, .slice c.kA c.knows.length c.kc] 40)).alloc (.cells #[.int .i64 0, .int .i64 0, .int .i64 0, .slice none 0 0, .slice none 0 0, .slice none 0 0, .slice none 0 0] 37))
  rcases Bool.eq_false_or_eq_true (ckB c) with hb | hb
  case inr =>
    have e1 : atB c n = false := by unfold atB; rw [hb]; rfl
    have e2 : atX c n = stm0.x := by unfold atX; rw [if_neg (by rw [e1]; decide)]
    rw [e1, e2]
    rw [hb] at F
    clear h hb hL e1 e2 FI
    unfold ChM.val
    unfold ChM.val at F
    go_enter Tryd.func25, Tryd.ntmps25
    go_wp2_with fail
    refine (F.out _ HK.out).mono ?_
    rintro e w1 ⟨rfl, hk1⟩
    have ha := HBa.out.keeps hk1 (fun h => h)
    clear HBa
    have HBa := Lib.hid ha
    clear ha
    have hr := HBr.out.keeps hk1 (fun h => h)
    clear HBr
    have HBr := Lib.hid hr
    clear hr
    have hr := HK.out.trans hk1
    clear HK
    have HK := Lib.hid hr
    clear hr
    have sz1 := hk1.size
    (try simp at sz1)
    clear hk1
    have hb := HBr.out
    have r0 := hb.cell 0
    have r1 := hb.cell 1
    have r2 := hb.cell 2
    have r3 := hb.cell 3
    have r4 := hb.cell 4
    have r5 := hb.cell 5
    have r6 := hb.cell 6
    simp at r0 r1 r2 r3 r4 r5 r6
    have zr := hb.lt
    clear hb
    have hb := HBr.out
    have rf0 := hb.frozen 0
    have rf1 := hb.frozen 1
    have rf2 := hb.frozen 2
    have rf3 := hb.frozen 3
    have rf4 := hb.frozen 4
    have rf5 := hb.frozen 5
    have rf6 := hb.frozen 6
    clear hb
    go_wp2
    refine bodyPost_ret (v := .tuple #[stm0.val, .bool false]) (by simp [results, Tryd.results25, go_sem, stm0, StM.val, r0, r1, r2, r3, r4, r5, r6]) rfl ?_
    exact ⟨stm0, rfl, rfl, (stm0_own _ 0).at_ stm0_len, HK.out.then ((((((((Keeps.refl (fun b => b = w.heap.size + 1) w1).setCell (p := ⟨w.heap.size + 1, 0, none⟩) (.inr rfl) (.int .i64 0)).setCell (p := ⟨w.heap.size + 1, 1, none⟩) (.inr rfl) (.int .i64 0)).setCell (p := ⟨w.heap.size + 1, 2, none⟩) (.inr rfl) (.int .i64 0)).setCell (p := ⟨w.heap.size + 1, 3, none⟩) (.inr rfl) (.slice none 0 0)).setCell (p := ⟨w.heap.size + 1, 4, none⟩) (.inr rfl) (.slice none 0 0)).setCell (p := ⟨w.heap.size + 1, 5, none⟩) (.inr rfl) (.slice none 0 0)).setCell (p := ⟨w.heap.size + 1, 6, none⟩) (.inr rfl) (.slice none 0 0)) fun i hi h => by omega⟩
  rcases Bool.eq_false_or_eq_true (in2 n 1 c.past.length) with hi | hi
  case inr =>
    have e1 : atB c n = false := by unfold atB; rw [hb, hi]; rfl
    have e2 : atX c n = stm0.x := by unfold atX; rw [if_neg (by rw [e1]; decide)]
    rw [e1, e2]
    rw [hb] at F
    rw [hi] at FI
    clear h hb hi hL e1 e2
    unfold ChM.val
    unfold ChM.val at F
    go_enter Tryd.func25, Tryd.ntmps25
    go_wp2_with fail
    refine (F.out _ HK.out).mono ?_
    rintro e w1 ⟨rfl, hk1⟩
    have ha := HBa.out.keeps hk1 (fun h => h)
    clear HBa
    have HBa := Lib.hid ha
    clear ha
    have hr := HBr.out.keeps hk1 (fun h => h)
    clear HBr
    have HBr := Lib.hid hr
    clear hr
    have hr := HK.out.trans hk1
    clear HK
    have HK := Lib.hid hr
    clear hr
    have sz1 := hk1.size
    (try simp at sz1)
    clear hk1
    have hb := HBa.out
    have a0 := hb.cell 0
    have a1 := hb.cell 1
    have a2 := hb.cell 2
    have a3 := hb.cell 3
    have a4 := hb.cell 4
    have a5 := hb.cell 5
    have a6 := hb.cell 6
    have a7 := hb.cell 7
    have a8 := hb.cell 8
    have a9 := hb.cell 9
    have a10 := hb.cell 10
    have a11 := hb.cell 11
    have a12 := hb.cell 12
    simp at a0 a1 a2 a3 a4 a5 a6 a7 a8 a9 a10 a11 a12
    have za := hb.lt
    clear hb
    have hb := HBr.out
    have r0 := hb.cell 0
    have r1 := hb.cell 1
    have r2 := hb.cell 2
    have r3 := hb.cell 3
    have r4 := hb.cell 4
    have r5 := hb.cell 5
    have r6 := hb.cell 6
    simp at r0 r1 r2 r3 r4 r5 r6
    have zr := hb.lt
    clear hb
    have hb := HBr.out
    have rf0 := hb.frozen 0
    have rf1 := hb.frozen 1
    have rf2 := hb.frozen 2
    have rf3 := hb.frozen 3
    have rf4 := hb.frozen 4
    have rf5 := hb.frozen 5
    have rf6 := hb.frozen 6
    clear hb
    go_wp2_with (go_at_call 54; refine (FI.out _).mono ?_; rintro e w' ⟨rfl, rfl⟩)
    refine bodyPost_ret (v := .tuple #[stm0.val, .bool false]) (by simp [results, Tryd.results25, go_sem, stm0, StM.val, r0, r1, r2, r3, r4, r5, r6]) rfl ?_
    exact ⟨stm0, rfl, rfl, (stm0_own _ 0).at_ stm0_len, HK.out.then ((((((((Keeps.refl (fun b => b = w.heap.size + 1) w1).setCell (p := ⟨w.heap.size + 1, 0, none⟩) (.inr rfl) (.int .i64 0)).setCell (p := ⟨w.heap.size + 1, 1, none⟩) (.inr rfl) (.int .i64 0)).setCell (p := ⟨w.heap.size + 1, 2, none⟩) (.inr rfl) (.int .i64 0)).setCell (p := ⟨w.heap.size + 1, 3, none⟩) (.inr rfl) (.slice none 0 0)).setCell (p := ⟨w.heap.size + 1, 4, none⟩) (.inr rfl) (.slice none 0 0)).setCell (p := ⟨w.heap.size + 1, 5, none⟩) (.inr rfl) (.slice none 0 0)).setCell (p := ⟨w.heap.size + 1, 6, none⟩) (.inr rfl) (.slice none 0 0)) fun i hi h => by omega⟩
  have hin := in2_parts hi
  have e1 : atB c n = true := by unfold atB; rw [hb, hi]; rfl
  have e2 : atX c n = (c.past.getD (n.toNat - 1) stm0).x := by unfold atX; rw [if_pos e1]
  rw [e1, e2]
  rw [hb] at F
  rw [hi] at FI
  have hlt : n.toNat - 1 < c.past.length := by omega
  have hok := (of_decide_eq_true hb).2.2.2.2.1 _ hlt
  have HAT := Lib.hid (h.past _ (getD_mem' stm0 hlt))
  have HRW := Lib.hid (fun W (hk : Keeps noBlk w W) => (h.kept hk).row.at_ hlt)
  have hn1 : n = ((n.toNat - 1 : Nat) : Int) + 1 := by omega
  have hlt' : ((n.toNat - 1 : Nat) : Int) < (c.past.length : Int) := by omega
  have hlen := stB_len hok
  have h90 : (c.past.length : Int) ≤ 90 := by have := (of_decide_eq_true hb).2.2.2.1; omega
  clear h hb hi hL e1 e2 hok hin
  generalize hj : n.toNat - 1 = j at *
  clear hj
  subst hn1
  generalize c.past.getD j stm0 = s at *
  have FC := Lib.hid (fun W (hk : Keeps noBlk w W) => l3Copy_any s.x s.A1 s.A2 s.A3 s.A4 s.c1 s.c2 s.c3 s.c4 W (HAT.out.kept hk) (by omega) (by omega) (by omega) (by omega))
  unfold stV at FC
  clear hlen
  unfold ChM.val
  unfold ChM.val at F
  go_enter Tryd.func25, Tryd.ntmps25
  go_wp2_with fail
  refine (F.out _ HK.out).mono ?_
  rintro e w1 ⟨rfl, hk1⟩
  have ha := HBa.out.keeps hk1 (fun h => h)
  clear HBa
  have HBa := Lib.hid ha
  clear ha
  have hr := HBr.out.keeps hk1 (fun h => h)
  clear HBr
  have HBr := Lib.hid hr
  clear hr
  have hr := HK.out.trans hk1
  clear HK
  have HK := Lib.hid hr
  clear hr
  have sz1 := hk1.size
  (try simp at sz1)
  clear hk1
  have hb := HBa.out
  have a0 := hb.cell 0
  have a1 := hb.cell 1
  have a2 := hb.cell 2
  have a3 := hb.cell 3
  have a4 := hb.cell 4
  have a5 := hb.cell 5
  have a6 := hb.cell 6
  have a7 := hb.cell 7
  have a8 := hb.cell 8
  have a9 := hb.cell 9
  have a10 := hb.cell 10
  have a11 := hb.cell 11
  have a12 := hb.cell 12
  simp at a0 a1 a2 a3 a4 a5 a6 a7 a8 a9 a10 a11 a12
  have za := hb.lt
  clear hb
  obtain ⟨b1, o1, hpA, _, q0, q1, q2, q3, q4, q5, q6⟩ := HRW.out _ HK.out
  rw [hpA] at a11
  go_wp2_with (go_at_call 54; refine (FI.out _).mono ?_; rintro e w' ⟨rfl, rfl⟩)
  clear q0 q1 q2 q3 q4 q5 q6 hpA
  refine (FC.out _ HK.out).mono ?_
  rintro e w2 ⟨t, rfl, hx9, hk2, hg9⟩
  unfold StM.val
  obtain ⟨G9, _, hr9⟩ := hg9 (fun _ => 0) (fun _ => 0)
  have OT := Lib.hid hr9.at_
  have HX := Lib.hid hx9
  have HFR := Lib.hid (fun b (hb : t.bl b) => copy_fresh hg9 hb)
  clear hg9 hr9 hx9
  clear a0 a1 a2 a3 a4 a5 a6 a7 a8 a9 a10 a11 a12 za
  have ha := HBa.out.keeps hk2 (fun h => h)
  clear HBa
  have HBa := Lib.hid ha
  clear ha
  have hr := HBr.out.keeps hk2 (fun h => h)
  clear HBr
  have HBr := Lib.hid hr
  clear hr
  have hr := HK.out.trans hk2
  clear HK
  have HK := Lib.hid hr
  clear hr
  have sz2 := hk2.size
  (try simp at sz2)
  clear hk2
  have hb := HBr.out
  have r0 := hb.cell 0
  have r1 := hb.cell 1
  have r2 := hb.cell 2
  have r3 := hb.cell 3
  have r4 := hb.cell 4
  have r5 := hb.cell 5
  have r6 := hb.cell 6
  simp at r0 r1 r2 r3 r4 r5 r6
  have zr := hb.lt
  clear hb
  have hb := HBr.out
  have rf0 := hb.frozen 0
  have rf1 := hb.frozen 1
  have rf2 := hb.frozen 2
  have rf3 := hb.frozen 3
  have rf4 := hb.frozen 4
  have rf5 := hb.frozen 5
  have rf6 := hb.frozen 6
  clear hb
  go_wp2
  refine bodyPost_ret (v := .tuple #[t.val, .bool true]) (by simp [results, Tryd.results25, go_sem, StM.val, r0, r1, r2, r3, r4, r5, r6]) rfl ?_
  have kS := ((((((((Keeps.refl (fun b => b = w.heap.size + 1) w2).setCell (p := ⟨w.heap.size + 1, 0, none⟩) (.inr rfl) (.int .i64 t.x.way)).setCell (p := ⟨w.heap.size + 1, 1, none⟩) (.inr rfl) (.int .i64 t.x.ver)).setCell (p := ⟨w.heap.size + 1, 2, none⟩) (.inr rfl) (.int .i64 t.x.want)).setCell (p := ⟨w.heap.size + 1, 3, none⟩) (.inr rfl) (.slice t.A1 t.x.sent.length t.c1)).setCell (p := ⟨w.heap.size + 1, 4, none⟩) (.inr rfl) (.slice t.A2 t.x.live.length t.c2)).setCell (p := ⟨w.heap.size + 1, 5, none⟩) (.inr rfl) (.slice t.A3 t.x.back.length t.c3)).setCell (p := ⟨w.heap.size + 1, 6, none⟩) (.inr rfl) (.slice t.A4 t.x.got.length t.c4))
  have hlo : w.heap.size + 1 < w2.heap.size := by have := zr; (try simp at this); omega
  have hfr : ∀ b, t.bl b → w1.heap.size ≤ b := HFR.out
  exact ⟨t, rfl, HX.out, StAt.keeps OT.out kS (fun b hb h => by have := hfr b hb; omega), HK.out.then kS fun i hi h => by omega⟩
set_option maxRecDepth 100000 in
set_option maxHeartbeats 4000000 in
theorem implAt_any (c : ChM) (n : Int) (w : World) (h : ChAt w c) (ht : Tabs w) : Calls Tryd.prog 26 #[c.val, .int .i64 n] w (RetSO w (atX c n) (atB c n)) := by
  have HBa := Lib.hid ((Box.new w _ rfl 40 #[.int .i64 c.id, .slice c.bk.A1 c.bk.b.own.length c.bk.c1, .slice c.bk.A2 c.bk.b.notes.length c.bk.c2, .int .i64 c.bk.b.locked, .int .i64 c.st.x.way, .int .i64 c.st.x.ver, .int .i64 c.st.x.want, .slice c.st.A1 c.st.x.sent.length c.st.c1, .slice c.st.A2 c.st.x.live.length c.st.c2, .slice c.st.A3 c.st.x.back.length c.st.c3, .slice c.st.A4 c.st.x.got.length c.st.c4, .slice c.pA c.past.length c.pc, .slice c.kA c.knows.length c.kc]).alloc (.cells #[.int .i64 0, .int .i64 0, .int .i64 0, .slice none 0 0, .slice none 0 0, .slice none 0 0, .slice none 0 0] 37))
  have HBr := Lib.hid (Box.new (w.alloc (.cells #[.int .i64 c.id, .slice c.bk.A1 c.bk.b.own.length c.bk.c1, .slice c.bk.A2 c.bk.b.notes.length c.bk.c2, .int .i64 c.bk.b.locked, .int .i64 c.st.x.way, .int .i64 c.st.x.ver, .int .i64 c.st.x.want, .slice c.st.A1 c.st.x.sent.length c.st.c1, .slice c.st.A2 c.st.x.live.length c.st.c2, .slice c.st.A3 c.st.x.back.length c.st.c3, .slice c.st.A4 c.st.x.got.length c.st.c4, .slice c.pA c.past.length c.pc, .slice c.kA c.knows.length c.kc] 40)) (w.heap.size + 1) (by simp) 37 #[.int .i64 0, .int .i64 0, .int .i64 0, .slice none 0 0, .slice none 0 0, .slice none 0 0, .slice none 0 0])
  have HK := Lib.hid (((Keeps.refl noBlk w).alloc (.cells #[.int .i64 c.id, .slice c.bk.A1 c.bk.b.own.length c.bk.c1, .slice c.bk.A2 c.bk.b.notes.length c.bk.c2, .int .i64 c.bk.b.locked, .int .i64 c.st.x.way, .int .i64 c.st.x.ver, .int .i64 c.st.x.want, .slice c.st.A1 c.st.x.sent.length c.st.c1, .slice c.st.A2 c.st.x.live.length c.st.c2, .slice c.st.A3 c.st.x.back.length c.st.c3, .slice c.st.A4 c.st.x.got.length c.st.c4, .slice c.pA c.past.length c.pc, .slice c.kA c.knows.length c.kc] 40)).alloc (.cells #[.int .i64 0, .int .i64 0, .int .i64 0, .slice none 0 0, .slice none 0 0, .slice none 0 0, .slice none 0 0] 37))
  rcases Bool.eq_false_or_eq_true (ckB c) with hb | hb
  case inr =>
    have F := Lib.hid (fun W (hk : Keeps noBlk w W) => link_no c W (h.kept hk) (ht.keeps hk) hb)
    have e1 : atB c n = false := by unfold atB; rw [hb]; rfl
    have e2 : atX c n = stm0.x := by unfold atX; rw [if_neg (by rw [e1]; decide)]
    rw [e1, e2]
    clear h hb ht e1 e2
    unfold ChM.val
    unfold ChM.val at F
    go_enter Tryd.func26, Tryd.ntmps26
    go_wp2_with fail
    refine (F.out _ HK.out).mono ?_
    rintro e w1 ⟨rfl, hk1⟩
    unfold lk0
    have ha := HBa.out.keeps hk1 (fun h => h)
    clear HBa
    have HBa := Lib.hid ha
    clear ha
    have hr := HBr.out.keeps hk1 (fun h => h)
    clear HBr
    have HBr := Lib.hid hr
    clear hr
    have hr := HK.out.trans hk1
    clear HK
    have HK := Lib.hid hr
    clear hr
    have sz1 := hk1.size
    (try simp at sz1)
    clear hk1
    have hb := HBr.out
    have r0 := hb.cell 0
    have r1 := hb.cell 1
    have r2 := hb.cell 2
    have r3 := hb.cell 3
    have r4 := hb.cell 4
    have r5 := hb.cell 5
    have r6 := hb.cell 6
    simp at r0 r1 r2 r3 r4 r5 r6
    have zr := hb.lt
    clear hb
    have hb := HBr.out
    have rf0 := hb.frozen 0
    have rf1 := hb.frozen 1
    have rf2 := hb.frozen 2
    have rf3 := hb.frozen 3
    have rf4 := hb.frozen 4
    have rf5 := hb.frozen 5
    have rf6 := hb.frozen 6
    clear hb
    go_wp2
    have hbF := ((((((((HBr.out.set_ 0 (.int .i64 0)).set_ 1 (.int .i64 0)).set_ 2 (.int .i64 0)).set_ 3 (.slice none 0 0)).set_ 4 (.slice none 0 0)).set_ 5 (.slice none 0 0)).set_ 6 (.slice none 0 0)).alloc (.cells #[.slice none 0 0, .slice none 0 0, .int .i64 0, .int .i64 0, .int .i64 0, .int .i64 0, .int .i64 0, .slice none 0 0, .slice none 0 0, .slice none 0 0, .slice none 0 0, .pointer none, .slice none 0 0] 93))
    simp only [List.setIfInBounds_toArray, List.set_cons_zero, List.set_cons_succ] at hbF
    have s10 := hbF.cell 0
    have s11 := hbF.cell 1
    have s12 := hbF.cell 2
    have s13 := hbF.cell 3
    have s14 := hbF.cell 4
    have s15 := hbF.cell 5
    have s16 := hbF.cell 6
    simp at s10 s11 s12 s13 s14 s15 s16
    clear hbF
    have kS : Keeps (fun b => b = w.heap.size + 1) w1 ((((((((w1.setCell ⟨w.heap.size + 1, 0, none⟩ (.int .i64 0)).setCell ⟨w.heap.size + 1, 1, none⟩ (.int .i64 0)).setCell ⟨w.heap.size + 1, 2, none⟩ (.int .i64 0)).setCell ⟨w.heap.size + 1, 3, none⟩ (.slice none 0 0)).setCell ⟨w.heap.size + 1, 4, none⟩ (.slice none 0 0)).setCell ⟨w.heap.size + 1, 5, none⟩ (.slice none 0 0)).setCell ⟨w.heap.size + 1, 6, none⟩ (.slice none 0 0)).alloc (.cells #[.slice none 0 0, .slice none 0 0, .int .i64 0, .int .i64 0, .int .i64 0, .int .i64 0, .int .i64 0, .slice none 0 0, .slice none 0 0, .slice none 0 0, .slice none 0 0, .pointer none, .slice none 0 0] 93)) := (((((((((Keeps.refl (fun b => b = w.heap.size + 1) w1).setCell (p := ⟨w.heap.size + 1, 0, none⟩) (.inr rfl) (.int .i64 0)).setCell (p := ⟨w.heap.size + 1, 1, none⟩) (.inr rfl) (.int .i64 0)).setCell (p := ⟨w.heap.size + 1, 2, none⟩) (.inr rfl) (.int .i64 0)).setCell (p := ⟨w.heap.size + 1, 3, none⟩) (.inr rfl) (.slice none 0 0)).setCell (p := ⟨w.heap.size + 1, 4, none⟩) (.inr rfl) (.slice none 0 0)).setCell (p := ⟨w.heap.size + 1, 5, none⟩) (.inr rfl) (.slice none 0 0)).setCell (p := ⟨w.heap.size + 1, 6, none⟩) (.inr rfl) (.slice none 0 0)).alloc (.cells #[.slice none 0 0, .slice none 0 0, .int .i64 0, .int .i64 0, .int .i64 0, .int .i64 0, .int .i64 0, .slice none 0 0, .slice none 0 0, .slice none 0 0, .slice none 0 0, .pointer none, .slice none 0 0] 93))
    generalize ((((((((w1.setCell ⟨w.heap.size + 1, 0, none⟩ (.int .i64 0)).setCell ⟨w.heap.size + 1, 1, none⟩ (.int .i64 0)).setCell ⟨w.heap.size + 1, 2, none⟩ (.int .i64 0)).setCell ⟨w.heap.size + 1, 3, none⟩ (.slice none 0 0)).setCell ⟨w.heap.size + 1, 4, none⟩ (.slice none 0 0)).setCell ⟨w.heap.size + 1, 5, none⟩ (.slice none 0 0)).setCell ⟨w.heap.size + 1, 6, none⟩ (.slice none 0 0)).alloc (.cells #[.slice none 0 0, .slice none 0 0, .int .i64 0, .int .i64 0, .int .i64 0, .int .i64 0, .int .i64 0, .slice none 0 0, .slice none 0 0, .slice none 0 0, .slice none 0 0, .pointer none, .slice none 0 0] 93)) = WF at kS s10 s11 s12 s13 s14 s15 s16 ⊢
    refine bodyPost_ret (v := .tuple #[stm0.val, .bool false]) (by simp [results, Tryd.results26, go_sem, stm0, StM.val, s10, s11, s12, s13, s14, s15, s16]) rfl ?_
    exact ⟨stm0, rfl, rfl, stm0_own _ _, stm0_len, HK.out.then kS fun i hi h => by omega⟩
  have F := Lib.hid (fun W (hk : Keeps noBlk w W) => link_yes c W (h.kept hk) (ht.keeps hk) hb)
  by_cases hin : 1 ≤ n ∧ n ≤ c.past.length
  case neg =>
    have hu := upto_none c.past n hin
    have hi : in2 n 1 c.past.length = false := by simp only [in2, Bool.and_eq_false_iff, decide_eq_false_iff_not]; omega
    have e1 : atB c n = false := by unfold atB; rw [hb, hi]; rfl
    have e2 : atX c n = stm0.x := by unfold atX; rw [if_neg (by rw [e1]; decide)]
    rw [e1, e2]
    have HU := Lib.hid hu
    clear h hb ht e1 e2 hi hu hin
    unfold ChM.val
    unfold ChM.val at F
    go_enter Tryd.func26, Tryd.ntmps26
    go_wp2_with fail
    refine (F.out _ HK.out).mono ?_
    rintro e w1 ⟨P, rfl, hl9, hk1⟩
    unfold lkV
    have FA := Lib.hid (fun W (hk : Keeps noBlk w1 W) => at_any P _ n _ W (hl9.kept hk))
    rw [HU.out] at FA
    clear hl9
    have ha := HBa.out.keeps hk1 (fun h => h)
    clear HBa
    have HBa := Lib.hid ha
    clear ha
    have hr := HBr.out.keeps hk1 (fun h => h)
    clear HBr
    have HBr := Lib.hid hr
    clear hr
    have hr := HK.out.trans hk1
    clear HK
    have HK := Lib.hid hr
    clear hr
    have sz1 := hk1.size
    (try simp at sz1)
    clear hk1
    have hb := HBr.out
    have r0 := hb.cell 0
    have r1 := hb.cell 1
    have r2 := hb.cell 2
    have r3 := hb.cell 3
    have r4 := hb.cell 4
    have r5 := hb.cell 5
    have r6 := hb.cell 6
    simp at r0 r1 r2 r3 r4 r5 r6
    have zr := hb.lt
    clear hb
    have hb := HBr.out
    have rf0 := hb.frozen 0
    have rf1 := hb.frozen 1
    have rf2 := hb.frozen 2
    have rf3 := hb.frozen 3
    have rf4 := hb.frozen 4
    have rf5 := hb.frozen 5
    have rf6 := hb.frozen 6
    clear hb
    have hal := Lib.hid ((Keeps.refl noBlk w1).alloc (.cells #[.slice c.bk.A1 c.bk.b.own.length c.bk.c1, .slice c.bk.A2 c.bk.b.notes.length c.bk.c2, .int .i64 c.bk.b.locked, .int .i64 c.id, .int .i64 c.st.x.way, .int .i64 c.st.x.ver, .int .i64 c.st.x.want, .slice c.st.A1 c.st.x.sent.length c.st.c1, .slice c.st.A2 c.st.x.live.length c.st.c2, .slice c.st.A3 c.st.x.back.length c.st.c3, .slice c.st.A4 c.st.x.got.length c.st.c4, .pointer P, .slice c.kA c.knows.length c.kc] 93))
    go_wp2_with fail
    refine (FA.out _ hal.out).mono ?_
    rintro e W2 ⟨Q, rfl, hQ, rfl⟩
    obtain rfl : Q = none := hQ
    go_wp2
    have hbF := ((((((((HBr.out.set_ 0 (.int .i64 0)).set_ 1 (.int .i64 0)).set_ 2 (.int .i64 0)).set_ 3 (.slice none 0 0)).set_ 4 (.slice none 0 0)).set_ 5 (.slice none 0 0)).set_ 6 (.slice none 0 0)).alloc (.cells #[.slice c.bk.A1 c.bk.b.own.length c.bk.c1, .slice c.bk.A2 c.bk.b.notes.length c.bk.c2, .int .i64 c.bk.b.locked, .int .i64 c.id, .int .i64 c.st.x.way, .int .i64 c.st.x.ver, .int .i64 c.st.x.want, .slice c.st.A1 c.st.x.sent.length c.st.c1, .slice c.st.A2 c.st.x.live.length c.st.c2, .slice c.st.A3 c.st.x.back.length c.st.c3, .slice c.st.A4 c.st.x.got.length c.st.c4, .pointer P, .slice c.kA c.knows.length c.kc] 93))
    simp only [List.setIfInBounds_toArray, List.set_cons_zero, List.set_cons_succ] at hbF
    have s10 := hbF.cell 0
    have s11 := hbF.cell 1
    have s12 := hbF.cell 2
    have s13 := hbF.cell 3
    have s14 := hbF.cell 4
    have s15 := hbF.cell 5
    have s16 := hbF.cell 6
    simp at s10 s11 s12 s13 s14 s15 s16
    clear hbF
    have kS : Keeps (fun b => b = w.heap.size + 1) w1 ((((((((w1.setCell ⟨w.heap.size + 1, 0, none⟩ (.int .i64 0)).setCell ⟨w.heap.size + 1, 1, none⟩ (.int .i64 0)).setCell ⟨w.heap.size + 1, 2, none⟩ (.int .i64 0)).setCell ⟨w.heap.size + 1, 3, none⟩ (.slice none 0 0)).setCell ⟨w.heap.size + 1, 4, none⟩ (.slice none 0 0)).setCell ⟨w.heap.size + 1, 5, none⟩ (.slice none 0 0)).setCell ⟨w.heap.size + 1, 6, none⟩ (.slice none 0 0)).alloc (.cells #[.slice c.bk.A1 c.bk.b.own.length c.bk.c1, .slice c.bk.A2 c.bk.b.notes.length c.bk.c2, .int .i64 c.bk.b.locked, .int .i64 c.id, .int .i64 c.st.x.way, .int .i64 c.st.x.ver, .int .i64 c.st.x.want, .slice c.st.A1 c.st.x.sent.length c.st.c1, .slice c.st.A2 c.st.x.live.length c.st.c2, .slice c.st.A3 c.st.x.back.length c.st.c3, .slice c.st.A4 c.st.x.got.length c.st.c4, .pointer P, .slice c.kA c.knows.length c.kc] 93)) := (((((((((Keeps.refl (fun b => b = w.heap.size + 1) w1).setCell (p := ⟨w.heap.size + 1, 0, none⟩) (.inr rfl) (.int .i64 0)).setCell (p := ⟨w.heap.size + 1, 1, none⟩) (.inr rfl) (.int .i64 0)).setCell (p := ⟨w.heap.size + 1, 2, none⟩) (.inr rfl) (.int .i64 0)).setCell (p := ⟨w.heap.size + 1, 3, none⟩) (.inr rfl) (.slice none 0 0)).setCell (p := ⟨w.heap.size + 1, 4, none⟩) (.inr rfl) (.slice none 0 0)).setCell (p := ⟨w.heap.size + 1, 5, none⟩) (.inr rfl) (.slice none 0 0)).setCell (p := ⟨w.heap.size + 1, 6, none⟩) (.inr rfl) (.slice none 0 0)).alloc (.cells #[.slice c.bk.A1 c.bk.b.own.length c.bk.c1, .slice c.bk.A2 c.bk.b.notes.length c.bk.c2, .int .i64 c.bk.b.locked, .int .i64 c.id, .int .i64 c.st.x.way, .int .i64 c.st.x.ver, .int .i64 c.st.x.want, .slice c.st.A1 c.st.x.sent.length c.st.c1, .slice c.st.A2 c.st.x.live.length c.st.c2, .slice c.st.A3 c.st.x.back.length c.st.c3, .slice c.st.A4 c.st.x.got.length c.st.c4, .pointer P, .slice c.kA c.knows.length c.kc] 93))
    generalize ((((((((w1.setCell ⟨w.heap.size + 1, 0, none⟩ (.int .i64 0)).setCell ⟨w.heap.size + 1, 1, none⟩ (.int .i64 0)).setCell ⟨w.heap.size + 1, 2, none⟩ (.int .i64 0)).setCell ⟨w.heap.size + 1, 3, none⟩ (.slice none 0 0)).setCell ⟨w.heap.size + 1, 4, none⟩ (.slice none 0 0)).setCell ⟨w.heap.size + 1, 5, none⟩ (.slice none 0 0)).setCell ⟨w.heap.size + 1, 6, none⟩ (.slice none 0 0)).alloc (.cells #[.slice c.bk.A1 c.bk.b.own.length c.bk.c1, .slice c.bk.A2 c.bk.b.notes.length c.bk.c2, .int .i64 c.bk.b.locked, .int .i64 c.id, .int .i64 c.st.x.way, .int .i64 c.st.x.ver, .int .i64 c.st.x.want, .slice c.st.A1 c.st.x.sent.length c.st.c1, .slice c.st.A2 c.st.x.live.length c.st.c2, .slice c.st.A3 c.st.x.back.length c.st.c3, .slice c.st.A4 c.st.x.got.length c.st.c4, .pointer P, .slice c.kA c.knows.length c.kc] 93)) = WF at kS s10 s11 s12 s13 s14 s15 s16 ⊢
    refine bodyPost_ret (v := .tuple #[stm0.val, .bool false]) (by simp [results, Tryd.results26, go_sem, stm0, StM.val, s10, s11, s12, s13, s14, s15, s16]) rfl ?_
    exact ⟨stm0, rfl, rfl, stm0_own _ _, stm0_len, HK.out.then kS fun i hi h => by omega⟩
  obtain ⟨rest, hu⟩ := upto_head c.past n hin
  have hi : in2 n 1 c.past.length = true := in2_yes hin.1 hin.2
  have e1 : atB c n = true := by unfold atB; rw [hb, hi]; rfl
  have e2 : atX c n = (c.past.getD (n.toNat - 1) stm0).x := by unfold atX; rw [if_pos e1]
  rw [e1, e2]
  have hlt : n.toNat - 1 < c.past.length := by omega
  have hok := (of_decide_eq_true hb).2.2.2.2.1 _ hlt
  have HAT := Lib.hid (h.past _ (getD_mem' stm0 hlt))
  have hlen := stB_len hok
  have HLN : Hid (∀ t : StM, t.x = (c.past.getD (n.toNat - 1) stm0).x → t.Len) := Lib.hid fun t e => stB_Len (by rw [e]; exact hok)
  generalize c.past.getD (n.toNat - 1) stm0 = s at *
  have FC := Lib.hid (fun W (hk : Keeps noBlk w W) => implCopy_any s.x s.A1 s.A2 s.A3 s.A4 s.c1 s.c2 s.c3 s.c4 W (HAT.out.kept hk) (by omega) (by omega) (by omega) (by omega))
  unfold stV at FC
  have HU := Lib.hid hu
  clear h hb ht e1 e2 hi hu hin hlen hok hlt
  unfold ChM.val
  unfold ChM.val at F
  go_enter Tryd.func26, Tryd.ntmps26
  go_wp2_with fail
  refine (F.out _ HK.out).mono ?_
  rintro e w1 ⟨P, rfl, hl9, hk1⟩
  unfold lkV
  have FA := Lib.hid (fun W (hk : Keeps noBlk w1 W) => at_any P _ n _ W (hl9.kept hk))
  rw [HU.out] at FA
  clear hl9
  have ha := HBa.out.keeps hk1 (fun h => h)
  clear HBa
  have HBa := Lib.hid ha
  clear ha
  have hr := HBr.out.keeps hk1 (fun h => h)
  clear HBr
  have HBr := Lib.hid hr
  clear hr
  have hr := HK.out.trans hk1
  clear HK
  have HK := Lib.hid hr
  clear hr
  have sz1 := hk1.size
  (try simp at sz1)
  clear hk1
  have hal := Lib.hid ((Keeps.refl noBlk w1).alloc (.cells #[.slice c.bk.A1 c.bk.b.own.length c.bk.c1, .slice c.bk.A2 c.bk.b.notes.length c.bk.c2, .int .i64 c.bk.b.locked, .int .i64 c.id, .int .i64 c.st.x.way, .int .i64 c.st.x.ver, .int .i64 c.st.x.want, .slice c.st.A1 c.st.x.sent.length c.st.c1, .slice c.st.A2 c.st.x.live.length c.st.c2, .slice c.st.A3 c.st.x.back.length c.st.c3, .slice c.st.A4 c.st.x.got.length c.st.c4, .pointer P, .slice c.kA c.knows.length c.kc] 93))
  have ha := HBa.out.alloc (.cells #[.slice c.bk.A1 c.bk.b.own.length c.bk.c1, .slice c.bk.A2 c.bk.b.notes.length c.bk.c2, .int .i64 c.bk.b.locked, .int .i64 c.id, .int .i64 c.st.x.way, .int .i64 c.st.x.ver, .int .i64 c.st.x.want, .slice c.st.A1 c.st.x.sent.length c.st.c1, .slice c.st.A2 c.st.x.live.length c.st.c2, .slice c.st.A3 c.st.x.back.length c.st.c3, .slice c.st.A4 c.st.x.got.length c.st.c4, .pointer P, .slice c.kA c.knows.length c.kc] 93)
  clear HBa
  have HBa := Lib.hid ha
  clear ha
  have hr := HBr.out.alloc (.cells #[.slice c.bk.A1 c.bk.b.own.length c.bk.c1, .slice c.bk.A2 c.bk.b.notes.length c.bk.c2, .int .i64 c.bk.b.locked, .int .i64 c.id, .int .i64 c.st.x.way, .int .i64 c.st.x.ver, .int .i64 c.st.x.want, .slice c.st.A1 c.st.x.sent.length c.st.c1, .slice c.st.A2 c.st.x.live.length c.st.c2, .slice c.st.A3 c.st.x.back.length c.st.c3, .slice c.st.A4 c.st.x.got.length c.st.c4, .pointer P, .slice c.kA c.knows.length c.kc] 93)
  clear HBr
  have HBr := Lib.hid hr
  clear hr
  have hr := HK.out.alloc (.cells #[.slice c.bk.A1 c.bk.b.own.length c.bk.c1, .slice c.bk.A2 c.bk.b.notes.length c.bk.c2, .int .i64 c.bk.b.locked, .int .i64 c.id, .int .i64 c.st.x.way, .int .i64 c.st.x.ver, .int .i64 c.st.x.want, .slice c.st.A1 c.st.x.sent.length c.st.c1, .slice c.st.A2 c.st.x.live.length c.st.c2, .slice c.st.A3 c.st.x.back.length c.st.c3, .slice c.st.A4 c.st.x.got.length c.st.c4, .pointer P, .slice c.kA c.knows.length c.kc] 93)
  clear HK
  have HK := Lib.hid hr
  clear hr
  have HBk := Lib.hid (Box.new w1 _ rfl 93 #[.slice c.bk.A1 c.bk.b.own.length c.bk.c1, .slice c.bk.A2 c.bk.b.notes.length c.bk.c2, .int .i64 c.bk.b.locked, .int .i64 c.id, .int .i64 c.st.x.way, .int .i64 c.st.x.ver, .int .i64 c.st.x.want, .slice c.st.A1 c.st.x.sent.length c.st.c1, .slice c.st.A2 c.st.x.live.length c.st.c2, .slice c.st.A3 c.st.x.back.length c.st.c3, .slice c.st.A4 c.st.x.got.length c.st.c4, .pointer P, .slice c.kA c.knows.length c.kc])
  go_wp2_with fail
  generalize (w1.alloc (.cells #[.slice c.bk.A1 c.bk.b.own.length c.bk.c1, .slice c.bk.A2 c.bk.b.notes.length c.bk.c2, .int .i64 c.bk.b.locked, .int .i64 c.id, .int .i64 c.st.x.way, .int .i64 c.st.x.ver, .int .i64 c.st.x.want, .slice c.st.A1 c.st.x.sent.length c.st.c1, .slice c.st.A2 c.st.x.live.length c.st.c2, .slice c.st.A3 c.st.x.back.length c.st.c3, .slice c.st.A4 c.st.x.got.length c.st.c4, .pointer P, .slice c.kA c.knows.length c.kc] 93)) = W1 at *
  refine (FA.out _ hal.out).mono ?_
  rintro e W2 ⟨Q, rfl, hQ, rfl⟩
  obtain ⟨gb, R, rfl, _, hbx, _⟩ := hQ
  have t1 := hbx.cell 1
  have t2 := hbx.cell 2
  have t3 := hbx.cell 3
  have t4 := hbx.cell 4
  have t5 := hbx.cell 5
  have t6 := hbx.cell 6
  have t7 := hbx.cell 7
  simp at t1 t2 t3 t4 t5 t6 t7
  clear hbx
  have zz := HBr.out.lt
  go_wp2_with fail
  clear t1 t2 t3 t4 t5 t6 t7
  refine (FC.out _ HK.out).mono ?_
  rintro e w2 ⟨t, rfl, hx9, hk2, _, ho9⟩
  unfold StM.val
  have OT := Lib.hid (show t.Own w2 W1.heap.size from ho9)
  have HX := Lib.hid hx9
  clear ho9 hx9
  have ha := HBa.out.keeps hk2 (fun h => h)
  clear HBa
  have HBa := Lib.hid ha
  clear ha
  have hr := HBr.out.keeps hk2 (fun h => h)
  clear HBr
  have HBr := Lib.hid hr
  clear hr
  have hk := HBk.out.keeps hk2 (fun h => h)
  clear HBk
  have HBk := Lib.hid hk
  clear hk
  have hr := HK.out.trans hk2
  clear HK
  have HK := Lib.hid hr
  clear hr
  have sz2 := hk2.size
  (try simp at sz2)
  clear hk2
  have hb := HBr.out
  have r0 := hb.cell 0
  have r1 := hb.cell 1
  have r2 := hb.cell 2
  have r3 := hb.cell 3
  have r4 := hb.cell 4
  have r5 := hb.cell 5
  have r6 := hb.cell 6
  simp at r0 r1 r2 r3 r4 r5 r6
  have zr := hb.lt
  clear hb
  have hb := HBr.out
  have rf0 := hb.frozen 0
  have rf1 := hb.frozen 1
  have rf2 := hb.frozen 2
  have rf3 := hb.frozen 3
  have rf4 := hb.frozen 4
  have rf5 := hb.frozen 5
  have rf6 := hb.frozen 6
  clear hb
  go_wp2
  have hbF := (((((((HBr.out.set_ 0 (.int .i64 t.x.way)).set_ 1 (.int .i64 t.x.ver)).set_ 2 (.int .i64 t.x.want)).set_ 3 (.slice t.A1 t.x.sent.length t.c1)).set_ 4 (.slice t.A2 t.x.live.length t.c2)).set_ 5 (.slice t.A3 t.x.back.length t.c3)).set_ 6 (.slice t.A4 t.x.got.length t.c4))
  simp only [List.setIfInBounds_toArray, List.set_cons_zero, List.set_cons_succ] at hbF
  have s10 := hbF.cell 0
  have s11 := hbF.cell 1
  have s12 := hbF.cell 2
  have s13 := hbF.cell 3
  have s14 := hbF.cell 4
  have s15 := hbF.cell 5
  have s16 := hbF.cell 6
  simp at s10 s11 s12 s13 s14 s15 s16
  clear hbF
  have kS : Keeps (fun b => b = w.heap.size + 1) w2 (((((((w2.setCell ⟨w.heap.size + 1, 0, none⟩ (.int .i64 t.x.way)).setCell ⟨w.heap.size + 1, 1, none⟩ (.int .i64 t.x.ver)).setCell ⟨w.heap.size + 1, 2, none⟩ (.int .i64 t.x.want)).setCell ⟨w.heap.size + 1, 3, none⟩ (.slice t.A1 t.x.sent.length t.c1)).setCell ⟨w.heap.size + 1, 4, none⟩ (.slice t.A2 t.x.live.length t.c2)).setCell ⟨w.heap.size + 1, 5, none⟩ (.slice t.A3 t.x.back.length t.c3)).setCell ⟨w.heap.size + 1, 6, none⟩ (.slice t.A4 t.x.got.length t.c4)) := ((((((((Keeps.refl (fun b => b = w.heap.size + 1) w2).setCell (p := ⟨w.heap.size + 1, 0, none⟩) (.inr rfl) (.int .i64 t.x.way)).setCell (p := ⟨w.heap.size + 1, 1, none⟩) (.inr rfl) (.int .i64 t.x.ver)).setCell (p := ⟨w.heap.size + 1, 2, none⟩) (.inr rfl) (.int .i64 t.x.want)).setCell (p := ⟨w.heap.size + 1, 3, none⟩) (.inr rfl) (.slice t.A1 t.x.sent.length t.c1)).setCell (p := ⟨w.heap.size + 1, 4, none⟩) (.inr rfl) (.slice t.A2 t.x.live.length t.c2)).setCell (p := ⟨w.heap.size + 1, 5, none⟩) (.inr rfl) (.slice t.A3 t.x.back.length t.c3)).setCell (p := ⟨w.heap.size + 1, 6, none⟩) (.inr rfl) (.slice t.A4 t.x.got.length t.c4))
  generalize (((((((w2.setCell ⟨w.heap.size + 1, 0, none⟩ (.int .i64 t.x.way)).setCell ⟨w.heap.size + 1, 1, none⟩ (.int .i64 t.x.ver)).setCell ⟨w.heap.size + 1, 2, none⟩ (.int .i64 t.x.want)).setCell ⟨w.heap.size + 1, 3, none⟩ (.slice t.A1 t.x.sent.length t.c1)).setCell ⟨w.heap.size + 1, 4, none⟩ (.slice t.A2 t.x.live.length t.c2)).setCell ⟨w.heap.size + 1, 5, none⟩ (.slice t.A3 t.x.back.length t.c3)).setCell ⟨w.heap.size + 1, 6, none⟩ (.slice t.A4 t.x.got.length t.c4)) = WF at kS s10 s11 s12 s13 s14 s15 s16 ⊢
  refine bodyPost_ret (v := .tuple #[t.val, .bool true]) (by simp [results, Tryd.results26, go_sem, StM.val, s10, s11, s12, s13, s14, s15, s16]) rfl ?_
  have hz2 : w.heap.size ≤ W1.heap.size := by omega
  exact ⟨t, rfl, HX.out, (OT.out.keeps kS (fun b hb h => by have := OT.out.ge hb; omega)).less hz2, HLN.out t HX.out, HK.out.then kS fun i hi h => by omega⟩
end Go.Proofs.YtbgpclicflafaaaDoor
