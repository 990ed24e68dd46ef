/- The program's linked chain; ChainNext. -/
import Derived.Test.YtbgpclicflafaaaDoorCxB
import Derived.Test.YtbgpclicflafaaaDoorCxO
import Derived.Test.YtbgpclicflafaaaDoorCxP
set_option linter.unusedVariables false
set_option linter.unusedSimpArgs false
namespace Go.Proofs.YtbgpclicflafaaaDoor
open Go.RowKit

/-- A chain with its heights linked. -/
def lkV (c : ChM) (P : Option Addr) : Value := .agg #[.slice c.bk.A1 c.bk.b.own.length c.bk.c1, .slice c.bk.A2 c.bk.b.notes.length c.bk.c2, .int .i64 c.bk.b.locked, .int .i64 c.id, .int .i64 c.st.x.way, .int .i64 c.st.x.ver, .int .i64 c.st.x.want, .slice c.st.A1 c.st.x.sent.length c.st.c1, .slice c.st.A2 c.st.x.live.length c.st.c2, .slice c.st.A3 c.st.x.back.length c.st.c3, .slice c.st.A4 c.st.x.got.length c.st.c4, .pointer P, .slice c.kA c.knows.length c.kc]
def lk0 : Value := .agg #[.slice none 0 0, .slice none 0 0, .int .i64 0, .int .i64 0, .int .i64 0, .int .i64 0, .int .i64 0, .slice none 0 0, .slice none 0 0, .slice none 0 0, .slice none 0 0, .pointer none, .slice none 0 0]
def RetLink (w : World) (c : ChM) (e : Ending) (w' : World) : Prop := ∃ P, e = .returned (.tuple #[lkV c P, .bool true]) ∧ Lk w' w.heap.size P c.past.reverse ∧ Keeps noBlk w w'
set_option maxRecDepth 100000 in
set_option maxHeartbeats 4000000 in
theorem link_no (c : ChM) (w : World) (h : ChAt w c) (ht : Tabs w) (hb : ckB c = false) :
    Calls Tryd.prog 70 #[c.val] w fun e w' => e = .returned (.tuple #[lk0, .bool false]) ∧ Keeps noBlk w w' := by
  have F := Lib.hid (fun W (hk : Keeps noBlk w W) => (show Calls Tryd.prog 17 #[c.val] W (fun e w' => e = .returned (.bool false) ∧ Keeps noBlk W w') from by rw [← hb]; exact implChOk_any c W (h.kept hk) (ht.keeps hk)))
  clear h ht hb
  have HBa := Lib.hid ((Box.new w _ rfl 40 #[.int .i64 c.id, .slice c.bk.A1 c.bk.b.own.length c.bk.c1, .slice c.bk.A2 c.bk.b.notes.length c.bk.c2, .int .i64 c.bk.b.locked, .int .i64 c.st.x.way, .int .i64 c.st.x.ver, .int .i64 c.st.x.want, .slice c.st.A1 c.st.x.sent.length c.st.c1, .slice c.st.A2 c.st.x.live.length c.st.c2, .slice c.st.A3 c.st.x.back.length c.st.c3, .slice c.st.A4 c.st.x.got.length c.st.c4, .slice c.pA c.past.length c.pc, .slice c.kA c.knows.length c.kc]).alloc (.cells #[.slice none 0 0, .slice none 0 0, .int .i64 0, .int .i64 0, .int .i64 0, .int .i64 0, .int .i64 0, .slice none 0 0, .slice none 0 0, .slice none 0 0, .slice none 0 0, .pointer none, .slice none 0 0] 93))
  have HBr := Lib.hid (Box.new (w.alloc (.cells #[.int .i64 c.id, .slice c.bk.A1 c.bk.b.own.length c.bk.c1, .slice c.bk.A2 c.bk.b.notes.length c.bk.c2, .int .i64 c.bk.b.locked, .int .i64 c.st.x.way, .int .i64 c.st.x.ver, .int .i64 c.st.x.want, .slice c.st.A1 c.st.x.sent.length c.st.c1, .slice c.st.A2 c.st.x.live.length c.st.c2, .slice c.st.A3 c.st.x.back.length c.st.c3, .slice c.st.A4 c.st.x.got.length c.st.c4, .slice c.pA c.past.length c.pc, .slice c.kA c.knows.length c.kc] 40)) (w.heap.size + 1) (by simp) 93 #[.slice none 0 0, .slice none 0 0, .int .i64 0, .int .i64 0, .int .i64 0, .int .i64 0, .int .i64 0, .slice none 0 0, .slice none 0 0, .slice none 0 0, .slice none 0 0, .pointer none, .slice none 0 0])
  have HK := Lib.hid (((Keeps.refl noBlk w).alloc (.cells #[.int .i64 c.id, .slice c.bk.A1 c.bk.b.own.length c.bk.c1, .slice c.bk.A2 c.bk.b.notes.length c.bk.c2, .int .i64 c.bk.b.locked, .int .i64 c.st.x.way, .int .i64 c.st.x.ver, .int .i64 c.st.x.want, .slice c.st.A1 c.st.x.sent.length c.st.c1, .slice c.st.A2 c.st.x.live.length c.st.c2, .slice c.st.A3 c.st.x.back.length c.st.c3, .slice c.st.A4 c.st.x.got.length c.st.c4, .slice c.pA c.past.length c.pc, .slice c.kA c.knows.length c.kc] 40)).alloc (.cells #[.slice none 0 0, .slice none 0 0, .int .i64 0, .int .i64 0, .int .i64 0, .int .i64 0, .int .i64 0, .slice none 0 0, .slice none 0 0, .slice none 0 0, .slice none 0 0, .pointer none, .slice none 0 0] 93))
  unfold ChM.val
  unfold ChM.val at F
  go_enter Tryd.func70, Tryd.ntmps70
  go_wp2_with fail
  refine (F.out _ HK.out).mono ?_
  rintro e w1 ⟨rfl, hk1⟩
  have ha := HBa.out.keeps hk1 (fun h => h)
  clear HBa
  have HBa := Lib.hid ha
  clear ha
  have hr := HBr.out.keeps hk1 (fun h => h)
  clear HBr
  have HBr := Lib.hid hr
  clear hr
  have hr := HK.out.trans hk1
  clear HK
  have HK := Lib.hid hr
  clear hr
  have sz1 := hk1.size
  (try simp at sz1)
  clear hk1
  have hb := HBr.out
  have r0 := hb.cell 0
  have r1 := hb.cell 1
  have r2 := hb.cell 2
  have r3 := hb.cell 3
  have r4 := hb.cell 4
  have r5 := hb.cell 5
  have r6 := hb.cell 6
  have r7 := hb.cell 7
  have r8 := hb.cell 8
  have r9 := hb.cell 9
  have r10 := hb.cell 10
  have r11 := hb.cell 11
  have r12 := hb.cell 12
  simp at r0 r1 r2 r3 r4 r5 r6 r7 r8 r9 r10 r11 r12
  have zr := hb.lt
  clear hb
  have hb := HBr.out
  have rf0 := hb.frozen 0
  have rf1 := hb.frozen 1
  have rf2 := hb.frozen 2
  have rf3 := hb.frozen 3
  have rf4 := hb.frozen 4
  have rf5 := hb.frozen 5
  have rf6 := hb.frozen 6
  have rf7 := hb.frozen 7
  have rf8 := hb.frozen 8
  have rf9 := hb.frozen 9
  have rf10 := hb.frozen 10
  have rf11 := hb.frozen 11
  have rf12 := hb.frozen 12
  clear hb
  go_wp2
  refine bodyPost_ret (v := .tuple #[lk0, .bool false]) (by simp [results, Tryd.results70, go_sem, lk0, r0, r1, r2, r3, r4, r5, r6, r7, r8, r9, r10, r11, r12]) rfl ?_
  exact ⟨rfl, HK.out.then ((((((((((((((Keeps.refl (fun b => b = w.heap.size + 1) w1).setCell (p := ⟨w.heap.size + 1, 0, none⟩) (.inr rfl) (.slice none 0 0)).setCell (p := ⟨w.heap.size + 1, 1, none⟩) (.inr rfl) (.slice none 0 0)).setCell (p := ⟨w.heap.size + 1, 2, none⟩) (.inr rfl) (.int .i64 0)).setCell (p := ⟨w.heap.size + 1, 3, none⟩) (.inr rfl) (.int .i64 0)).setCell (p := ⟨w.heap.size + 1, 4, none⟩) (.inr rfl) (.int .i64 0)).setCell (p := ⟨w.heap.size + 1, 5, none⟩) (.inr rfl) (.int .i64 0)).setCell (p := ⟨w.heap.size + 1, 6, none⟩) (.inr rfl) (.int .i64 0)).setCell (p := ⟨w.heap.size + 1, 7, none⟩) (.inr rfl) (.slice none 0 0)).setCell (p := ⟨w.heap.size + 1, 8, none⟩) (.inr rfl) (.slice none 0 0)).setCell (p := ⟨w.heap.size + 1, 9, none⟩) (.inr rfl) (.slice none 0 0)).setCell (p := ⟨w.heap.size + 1, 10, none⟩) (.inr rfl) (.slice none 0 0)).setCell (p := ⟨w.heap.size + 1, 11, none⟩) (.inr rfl) (.pointer none)).setCell (p := ⟨w.heap.size + 1, 12, none⟩) (.inr rfl) (.slice none 0 0)) fun i hi h => by omega⟩
set_option maxRecDepth 100000 in
set_option maxHeartbeats 4000000 in
theorem link_yes (c : ChM) (w : World) (h : ChAt w c) (ht : Tabs w) (hb : ckB c = true) : Calls Tryd.prog 70 #[c.val] w (RetLink w c) := by
  have F := Lib.hid (fun W (hk : Keeps noBlk w W) => (show Calls Tryd.prog 17 #[c.val] W (fun e w' => e = .returned (.bool true) ∧ Keeps noBlk W w') from by rw [← hb]; exact implChOk_any c W (h.kept hk) (ht.keeps hk)))
  have h9 : c.past.length ≤ 1000000 := by have := (of_decide_eq_true hb).2.2.2.1; omega
  have FB := Lib.hid (fun W (hk : Keeps noBlk w W) => blocksOf_any c.pA c.pc c.past W (h.kept hk).row h9)
  clear h ht hb h9
  have HBa := Lib.hid ((Box.new w _ rfl 40 #[.int .i64 c.id, .slice c.bk.A1 c.bk.b.own.length c.bk.c1, .slice c.bk.A2 c.bk.b.notes.length c.bk.c2, .int .i64 c.bk.b.locked, .int .i64 c.st.x.way, .int .i64 c.st.x.ver, .int .i64 c.st.x.want, .slice c.st.A1 c.st.x.sent.length c.st.c1, .slice c.st.A2 c.st.x.live.length c.st.c2, .slice c.st.A3 c.st.x.back.length c.st.c3, .slice c.st.A4 c.st.x.got.length c.st.c4, .slice c.pA c.past.length c.pc, .slice c.kA c.knows.length c.kc]).alloc (.cells #[.slice none 0 0, .slice none 0 0, .int .i64 0, .int .i64 0, .int .i64 0, .int .i64 0, .int .i64 0, .slice none 0 0, .slice none 0 0, .slice none 0 0, .slice none 0 0, .pointer none, .slice none 0 0] 93))
  have HBr := Lib.hid (Box.new (w.alloc (.cells #[.int .i64 c.id, .slice c.bk.A1 c.bk.b.own.length c.bk.c1, .slice c.bk.A2 c.bk.b.notes.length c.bk.c2, .int .i64 c.bk.b.locked, .int .i64 c.st.x.way, .int .i64 c.st.x.ver, .int .i64 c.st.x.want, .slice c.st.A1 c.st.x.sent.length c.st.c1, .slice c.st.A2 c.st.x.live.length c.st.c2, .slice c.st.A3 c.st.x.back.length c.st.c3, .slice c.st.A4 c.st.x.got.length c.st.c4, .slice c.pA c.past.length c.pc, .slice c.kA c.knows.length c.kc] 40)) (w.heap.size + 1) (by simp) 93 #[.slice none 0 0, .slice none 0 0, .int .i64 0, .int .i64 0, .int .i64 0, .int .i64 0, .int .i64 0, .slice none 0 0, .slice none 0 0, .slice none 0 0, .slice none 0 0, .pointer none, .slice none 0 0])
  have HK := Lib.hid (((Keeps.refl noBlk w).alloc (.cells #[.int .i64 c.id, .slice c.bk.A1 c.bk.b.own.length c.bk.c1, .slice c.bk.A2 c.bk.b.notes.length c.bk.c2, .int .i64 c.bk.b.locked, .int .i64 c.st.x.way, .int .i64 c.st.x.ver, .int .i64 c.st.x.want, .slice c.st.A1 c.st.x.sent.length c.st.c1, .slice c.st.A2 c.st.x.live.length c.st.c2, .slice c.st.A3 c.st.x.back.length c.st.c3, .slice c.st.A4 c.st.x.got.length c.st.c4, .slice c.pA c.past.length c.pc, .slice c.kA c.knows.length c.kc] 40)).alloc (.cells #[.slice none 0 0, .slice none 0 0, .int .i64 0, .int .i64 0, .int .i64 0, .int .i64 0, .int .i64 0, .slice none 0 0, .slice none 0 0, .slice none 0 0, .slice none 0 0, .pointer none, .slice none 0 0] 93))
  unfold ChM.val
  unfold ChM.val at F
  go_enter Tryd.func70, Tryd.ntmps70
  go_wp2_with fail
  refine (F.out _ HK.out).mono ?_
  rintro e w1 ⟨rfl, hk1⟩
  have ha := HBa.out.keeps hk1 (fun h => h)
  clear HBa
  have HBa := Lib.hid ha
  clear ha
  have hr := HBr.out.keeps hk1 (fun h => h)
  clear HBr
  have HBr := Lib.hid hr
  clear hr
  have hr := HK.out.trans hk1
  clear HK
  have HK := Lib.hid hr
  clear hr
  have sz1 := hk1.size
  (try simp at sz1)
  clear hk1
  have hb := HBa.out
  have a0 := hb.cell 0
  have a1 := hb.cell 1
  have a2 := hb.cell 2
  have a3 := hb.cell 3
  have a4 := hb.cell 4
  have a5 := hb.cell 5
  have a6 := hb.cell 6
  have a7 := hb.cell 7
  have a8 := hb.cell 8
  have a9 := hb.cell 9
  have a10 := hb.cell 10
  have a11 := hb.cell 11
  have a12 := hb.cell 12
  simp at a0 a1 a2 a3 a4 a5 a6 a7 a8 a9 a10 a11 a12
  have za := hb.lt
  clear hb
  have hb := HBr.out
  have r0 := hb.cell 0
  have r1 := hb.cell 1
  have r2 := hb.cell 2
  have r3 := hb.cell 3
  have r4 := hb.cell 4
  have r5 := hb.cell 5
  have r6 := hb.cell 6
  have r7 := hb.cell 7
  have r8 := hb.cell 8
  have r9 := hb.cell 9
  have r10 := hb.cell 10
  have r11 := hb.cell 11
  have r12 := hb.cell 12
  simp at r0 r1 r2 r3 r4 r5 r6 r7 r8 r9 r10 r11 r12
  have zr := hb.lt
  clear hb
  have hb := HBr.out
  have rf0 := hb.frozen 0
  have rf1 := hb.frozen 1
  have rf2 := hb.frozen 2
  have rf3 := hb.frozen 3
  have rf4 := hb.frozen 4
  have rf5 := hb.frozen 5
  have rf6 := hb.frozen 6
  have rf7 := hb.frozen 7
  have rf8 := hb.frozen 8
  have rf9 := hb.frozen 9
  have rf10 := hb.frozen 10
  have rf11 := hb.frozen 11
  have rf12 := hb.frozen 12
  clear hb
  go_wp2_with fail
  go_region_held3 (fun w' => w'.cell? ⟨w.heap.size, 0, none⟩ = some (.int .i64 c.id) ∧ w'.cell? ⟨w.heap.size, 1, none⟩ = some (.slice c.bk.A1 c.bk.b.own.length c.bk.c1) ∧ w'.cell? ⟨w.heap.size, 2, none⟩ = some (.slice c.bk.A2 c.bk.b.notes.length c.bk.c2) ∧ w'.cell? ⟨w.heap.size, 3, none⟩ = some (.int .i64 c.bk.b.locked) ∧ w'.cell? ⟨w.heap.size, 4, none⟩ = some (.int .i64 c.st.x.way) ∧ w'.cell? ⟨w.heap.size, 5, none⟩ = some (.int .i64 c.st.x.ver) ∧ w'.cell? ⟨w.heap.size, 6, none⟩ = some (.int .i64 c.st.x.want) ∧ w'.cell? ⟨w.heap.size, 7, none⟩ = some (.slice c.st.A1 c.st.x.sent.length c.st.c1) ∧ w'.cell? ⟨w.heap.size, 8, none⟩ = some (.slice c.st.A2 c.st.x.live.length c.st.c2) ∧ w'.cell? ⟨w.heap.size, 9, none⟩ = some (.slice c.st.A3 c.st.x.back.length c.st.c3) ∧ w'.cell? ⟨w.heap.size, 10, none⟩ = some (.slice c.st.A4 c.st.x.got.length c.st.c4) ∧ w'.cell? ⟨w.heap.size, 11, none⟩ = some (.slice c.pA c.past.length c.pc) ∧ w'.cell? ⟨w.heap.size, 12, none⟩ = some (.slice c.kA c.knows.length c.kc))
    (((try dsimp only); (repeat' apply And.intro) <;> (first | with_reducible assumption | (go_keep; done))))
    (first | (clear rf0 rf1 rf2 rf3 rf4 rf5 rf6 rf7 rf8 rf9 rf10 rf11 rf12; go_at_call 121; refine (FB.out _ (HK.out.drewN 1)).mono ?_; rintro e w2 ⟨P, rfl, hl9, hk2⟩; have hq := ((Keeps.refl noBlk w1).drewN 1).trans hk2; clear hk2; have hk2 := hq; clear hq; have HLK := Lib.hid hl9; clear hl9; clear a0 a1 a2 a3 a4 a5 a6 a7 a8 a9 a10 a11 a12 r0 r1 r2 r3 r4 r5 r6 r7 r8 r9 r10 r11 r12 za zr; have ha := HBa.out.keeps hk2 (fun h => h); clear HBa; have HBa := Lib.hid ha; clear ha; have hr := HBr.out.keeps hk2 (fun h => h); clear HBr; have HBr := Lib.hid hr; clear hr; have hr := HK.out.trans hk2; clear HK; have HK := Lib.hid hr; clear hr; have sz2 := hk2.size; (try simp at sz2); clear hk2; have hb := HBa.out; have a0 := hb.cell 0; have a1 := hb.cell 1; have a2 := hb.cell 2; have a3 := hb.cell 3; have a4 := hb.cell 4; have a5 := hb.cell 5; have a6 := hb.cell 6; have a7 := hb.cell 7; have a8 := hb.cell 8; have a9 := hb.cell 9; have a10 := hb.cell 10; have a11 := hb.cell 11; have a12 := hb.cell 12; simp at a0 a1 a2 a3 a4 a5 a6 a7 a8 a9 a10 a11 a12; have za := hb.lt; clear hb; have hb := HBr.out; have r0 := hb.cell 0; have r1 := hb.cell 1; have r2 := hb.cell 2; have r3 := hb.cell 3; have r4 := hb.cell 4; have r5 := hb.cell 5; have r6 := hb.cell 6; have r7 := hb.cell 7; have r8 := hb.cell 8; have r9 := hb.cell 9; have r10 := hb.cell 10; have r11 := hb.cell 11; have r12 := hb.cell 12; simp at r0 r1 r2 r3 r4 r5 r6 r7 r8 r9 r10 r11 r12; have zr := hb.lt; clear hb; have hb := HBr.out; have rf0 := hb.frozen 0; have rf1 := hb.frozen 1; have rf2 := hb.frozen 2; have rf3 := hb.frozen 3; have rf4 := hb.frozen 4; have rf5 := hb.frozen 5; have rf6 := hb.frozen 6; have rf7 := hb.frozen 7; have rf8 := hb.frozen 8; have rf9 := hb.frozen 9; have rf10 := hb.frozen 10; have rf11 := hb.frozen 11; have rf12 := hb.frozen 12; clear hb))
  go_wp2
  refine bodyPost_ret (v := .tuple #[lkV c P, .bool true]) (by simp [results, Tryd.results70, go_sem, lkV, r0, r1, r2, r3, r4, r5, r6, r7, r8, r9, r10, r11, r12]) rfl ?_
  have kS := ((((((((((((((Keeps.refl (fun b => b = w.heap.size + 1) w2).setCell (p := ⟨w.heap.size + 1, 0, none⟩) (.inr rfl) (.slice c.bk.A1 c.bk.b.own.length c.bk.c1)).setCell (p := ⟨w.heap.size + 1, 1, none⟩) (.inr rfl) (.slice c.bk.A2 c.bk.b.notes.length c.bk.c2)).setCell (p := ⟨w.heap.size + 1, 2, none⟩) (.inr rfl) (.int .i64 c.bk.b.locked)).setCell (p := ⟨w.heap.size + 1, 3, none⟩) (.inr rfl) (.int .i64 c.id)).setCell (p := ⟨w.heap.size + 1, 4, none⟩) (.inr rfl) (.int .i64 c.st.x.way)).setCell (p := ⟨w.heap.size + 1, 5, none⟩) (.inr rfl) (.int .i64 c.st.x.ver)).setCell (p := ⟨w.heap.size + 1, 6, none⟩) (.inr rfl) (.int .i64 c.st.x.want)).setCell (p := ⟨w.heap.size + 1, 7, none⟩) (.inr rfl) (.slice c.st.A1 c.st.x.sent.length c.st.c1)).setCell (p := ⟨w.heap.size + 1, 8, none⟩) (.inr rfl) (.slice c.st.A2 c.st.x.live.length c.st.c2)).setCell (p := ⟨w.heap.size + 1, 9, none⟩) (.inr rfl) (.slice c.st.A3 c.st.x.back.length c.st.c3)).setCell (p := ⟨w.heap.size + 1, 10, none⟩) (.inr rfl) (.slice c.st.A4 c.st.x.got.length c.st.c4)).setCell (p := ⟨w.heap.size + 1, 11, none⟩) (.inr rfl) (.pointer P)).setCell (p := ⟨w.heap.size + 1, 12, none⟩) (.inr rfl) (.slice c.kA c.knows.length c.kc))
  have hlo : w.heap.size + 1 < w1.heap.size := by have := sz1; (try simp at this); omega
  exact ⟨P, rfl, Lk.less (by first | omega | (simp; omega)) (Lk.keeps kS (fun b hb => by first | omega | (simp; omega)) HLK.out), HK.out.then kS fun i hi h => by omega⟩

def nxt (n m : Int) : Int := if n < m then n + 1 else 0
theorem nextNumber_any (n m : Int) (w : World) (h0 : 0 ≤ n) (h1 : n ≤ 9223372036854775806) : Calls Tryd.prog 92 #[.int .i64 n, .int .i64 m] w fun e w' => e = .returned (.int .i64 (nxt n m)) ∧ w = w' := by
  by_cases h : n < m
  · have HR : Hid (nxt n m = n + 1) := Lib.hid (by unfold nxt; rw [if_pos h])
    have h' : ¬ m ≤ n := by omega
    go_enter Tryd.func92, Tryd.ntmps92
    go_wp2
    go_ret
    exact ⟨(by rw [HR.out]; first | done | rfl), rfl⟩
  · have HR : Hid (nxt n m = 0) := Lib.hid (by unfold nxt; rw [if_neg h])
    have h' : m ≤ n := by omega
    go_enter Tryd.func92, Tryd.ntmps92
    go_wp2
    go_ret
    exact ⟨(by rw [HR.out]; first | done | rfl), rfl⟩
/-- The next height, the next packet. -/
def nxH (c : ChM) : Int := if ckB c then nxt c.past.length 90 else 0
def nxP (c : ChM) : Int := if ckB c then nxt c.st.x.sent.length 8 else 0
set_option maxRecDepth 100000 in
set_option maxHeartbeats 4000000 in
theorem implNext_any (c : ChM) (w : World) (h : ChAt w c) (ht : Tabs w) :
    Calls Tryd.prog 31 #[c.val] w fun e w' => e = .returned (.tuple #[.int .i64 (nxH c), .int .i64 (nxP c)]) ∧ Keeps noBlk w w' := by
  have hm := h.st.2.1
  unfold maxLen at hm
  have HBa := Lib.hid (Box.new w _ rfl 40 #[.int .i64 c.id, .slice c.bk.A1 c.bk.b.own.length c.bk.c1, .slice c.bk.A2 c.bk.b.notes.length c.bk.c2, .int .i64 c.bk.b.locked, .int .i64 c.st.x.way, .int .i64 c.st.x.ver, .int .i64 c.st.x.want, .slice c.st.A1 c.st.x.sent.length c.st.c1, .slice c.st.A2 c.st.x.live.length c.st.c2, .slice c.st.A3 c.st.x.back.length c.st.c3, .slice c.st.A4 c.st.x.got.length c.st.c4, .slice c.pA c.past.length c.pc, .slice c.kA c.knows.length c.kc])
  have HK := Lib.hid ((Keeps.refl noBlk w).alloc (.cells #[.int .i64 c.id, .slice c.bk.A1 c.bk.b.own.length c.bk.c1, .slice c.bk.A2 c.bk.b.notes.length c.bk.c2, .int .i64 c.bk.b.locked, .int .i64 c.st.x.way, .int .i64 c.st.x.ver, .int .i64 c.st.x.want, .slice c.st.A1 c.st.x.sent.length c.st.c1, .slice c.st.A2 c.st.x.live.length c.st.c2, .slice c.st.A3 c.st.x.back.length c.st.c3, .slice c.st.A4 c.st.x.got.length c.st.c4, .slice c.pA c.past.length c.pc, .slice c.kA c.knows.length c.kc] 40))
  rcases Bool.eq_false_or_eq_true (ckB c) with hb | hb
  · have FY := Lib.hid (fun W (hk : Keeps noBlk w W) => link_yes c W (h.kept hk) (ht.keeps hk) hb)
    have h8 : c.st.x.sent.length ≤ 8 := by
      have := (of_decide_eq_true (of_decide_eq_true hb).2.2.1).2.1.small
      exact this
    have h9 := (of_decide_eq_true hb).2.2.2.1
    have HR : Hid (nxH c = nxt c.past.length 90 ∧ nxP c = nxt c.st.x.sent.length 8) := Lib.hid ⟨by unfold nxH; rw [if_pos hb], by unfold nxP; rw [if_pos hb]⟩
    have N1 := Lib.hid (fun W => nextNumber_any c.past.length 90 W (by omega) (by omega))
    have N2 := Lib.hid (fun W => nextNumber_any c.st.x.sent.length 8 W (by omega) (by omega))
    clear h ht hb h8 h9
    unfold ChM.val
    unfold ChM.val at FY
    go_enter Tryd.func31, Tryd.ntmps31
    go_wp2_with fail
    refine (FY.out _ HK.out).mono ?_
    rintro e w1 ⟨P, rfl, hl, hk1⟩
    unfold lkV
    have HK1 := Lib.hid (HK.out.trans hk1)
    have hal := (Keeps.refl noBlk w1).alloc (.cells #[.slice c.bk.A1 c.bk.b.own.length c.bk.c1, .slice c.bk.A2 c.bk.b.notes.length c.bk.c2, .int .i64 c.bk.b.locked, .int .i64 c.id, .int .i64 c.st.x.way, .int .i64 c.st.x.ver, .int .i64 c.st.x.want, .slice c.st.A1 c.st.x.sent.length c.st.c1, .slice c.st.A2 c.st.x.live.length c.st.c2, .slice c.st.A3 c.st.x.back.length c.st.c3, .slice c.st.A4 c.st.x.got.length c.st.c4, .pointer P, .slice c.kA c.knows.length c.kc] 93)
    have HC := Lib.hid (fun W (hk : Keeps noBlk (w1.alloc (.cells #[.slice c.bk.A1 c.bk.b.own.length c.bk.c1, .slice c.bk.A2 c.bk.b.notes.length c.bk.c2, .int .i64 c.bk.b.locked, .int .i64 c.id, .int .i64 c.st.x.way, .int .i64 c.st.x.ver, .int .i64 c.st.x.want, .slice c.st.A1 c.st.x.sent.length c.st.c1, .slice c.st.A2 c.st.x.live.length c.st.c2, .slice c.st.A3 c.st.x.back.length c.st.c3, .slice c.st.A4 c.st.x.got.length c.st.c4, .pointer P, .slice c.kA c.knows.length c.kc] 93)) W) => (show Calls Tryd.prog 71 #[.pointer P] W (fun e w' => e = .returned (.int .i64 (c.past.length : Int)) ∧ W = w') from by have := count_any P _ _ W (hl.kept (hal.trans hk)); rwa [List.length_reverse] at this))
    have hb := Box.new w1 _ rfl 93 #[.slice c.bk.A1 c.bk.b.own.length c.bk.c1, .slice c.bk.A2 c.bk.b.notes.length c.bk.c2, .int .i64 c.bk.b.locked, .int .i64 c.id, .int .i64 c.st.x.way, .int .i64 c.st.x.ver, .int .i64 c.st.x.want, .slice c.st.A1 c.st.x.sent.length c.st.c1, .slice c.st.A2 c.st.x.live.length c.st.c2, .slice c.st.A3 c.st.x.back.length c.st.c3, .slice c.st.A4 c.st.x.got.length c.st.c4, .pointer P, .slice c.kA c.knows.length c.kc]
    have b7 : (w1.alloc (.cells #[.slice c.bk.A1 c.bk.b.own.length c.bk.c1, .slice c.bk.A2 c.bk.b.notes.length c.bk.c2, .int .i64 c.bk.b.locked, .int .i64 c.id, .int .i64 c.st.x.way, .int .i64 c.st.x.ver, .int .i64 c.st.x.want, .slice c.st.A1 c.st.x.sent.length c.st.c1, .slice c.st.A2 c.st.x.live.length c.st.c2, .slice c.st.A3 c.st.x.back.length c.st.c3, .slice c.st.A4 c.st.x.got.length c.st.c4, .pointer P, .slice c.kA c.knows.length c.kc] 93)).cell? ⟨w1.heap.size, 7, none⟩ = some (.slice c.st.A1 c.st.x.sent.length c.st.c1) := hb.cell 7
    have b11 : (w1.alloc (.cells #[.slice c.bk.A1 c.bk.b.own.length c.bk.c1, .slice c.bk.A2 c.bk.b.notes.length c.bk.c2, .int .i64 c.bk.b.locked, .int .i64 c.id, .int .i64 c.st.x.way, .int .i64 c.st.x.ver, .int .i64 c.st.x.want, .slice c.st.A1 c.st.x.sent.length c.st.c1, .slice c.st.A2 c.st.x.live.length c.st.c2, .slice c.st.A3 c.st.x.back.length c.st.c3, .slice c.st.A4 c.st.x.got.length c.st.c4, .pointer P, .slice c.kA c.knows.length c.kc] 93)).cell? ⟨w1.heap.size, 11, none⟩ = some (.pointer P) := hb.cell 11
    have HK2 := Lib.hid (HK1.out.alloc (.cells #[.slice c.bk.A1 c.bk.b.own.length c.bk.c1, .slice c.bk.A2 c.bk.b.notes.length c.bk.c2, .int .i64 c.bk.b.locked, .int .i64 c.id, .int .i64 c.st.x.way, .int .i64 c.st.x.ver, .int .i64 c.st.x.want, .slice c.st.A1 c.st.x.sent.length c.st.c1, .slice c.st.A2 c.st.x.live.length c.st.c2, .slice c.st.A3 c.st.x.back.length c.st.c3, .slice c.st.A4 c.st.x.got.length c.st.c4, .pointer P, .slice c.kA c.knows.length c.kc] 93))
    clear hb hal hl hk1 hm
    go_wp2_with fail
    have W2 : Nonempty (GW (w1.alloc (.cells #[.slice c.bk.A1 c.bk.b.own.length c.bk.c1, .slice c.bk.A2 c.bk.b.notes.length c.bk.c2, .int .i64 c.bk.b.locked, .int .i64 c.id, .int .i64 c.st.x.way, .int .i64 c.st.x.ver, .int .i64 c.st.x.want, .slice c.st.A1 c.st.x.sent.length c.st.c1, .slice c.st.A2 c.st.x.live.length c.st.c2, .slice c.st.A3 c.st.x.back.length c.st.c3, .slice c.st.A4 c.st.x.got.length c.st.c4, .pointer P, .slice c.kA c.knows.length c.kc] 93))) := inferInstance
    generalize (w1.alloc (.cells #[.slice c.bk.A1 c.bk.b.own.length c.bk.c1, .slice c.bk.A2 c.bk.b.notes.length c.bk.c2, .int .i64 c.bk.b.locked, .int .i64 c.id, .int .i64 c.st.x.way, .int .i64 c.st.x.ver, .int .i64 c.st.x.want, .slice c.st.A1 c.st.x.sent.length c.st.c1, .slice c.st.A2 c.st.x.live.length c.st.c2, .slice c.st.A3 c.st.x.back.length c.st.c3, .slice c.st.A4 c.st.x.got.length c.st.c4, .pointer P, .slice c.kA c.knows.length c.kc] 93)) = w2 at *
    have b7 := fun U : GW w2 => GW.cell b7 U
    have b11 := fun U : GW w2 => GW.cell b11 U
    refine wp_region_grow (by kernel_rfl) (by kernel_rfl) ?_
    repeat (go_big_quiet_step ((first | (go_at_call 71; exact Calls.grow _ ((HC.out _ (GW.keep _)).mono fun _ _ ⟨h1, h2⟩ => ⟨h1, h2 ▸ Keeps.refl noBlk _⟩)) | (go_at_call 92; exact Calls.grow _ ((N1.out _).mono fun _ _ ⟨h1, h2⟩ => ⟨h1, h2 ▸ Keeps.refl noBlk _⟩)) | (go_at_call 92; exact Calls.grow _ ((N2.out _).mono fun _ _ ⟨h1, h2⟩ => ⟨h1, h2 ▸ Keeps.refl noBlk _⟩)))))
    refine wpQuiet_nil ?_
    rintro _ ⟨U1, rfl⟩
    have HK3 := Lib.hid (HK2.out.trans U1.keep)
    go_wp2
    refine bodyPost_ret (v := .tuple #[.int .i64 (nxt c.past.length 90), .int .i64 (nxt c.st.x.sent.length 8)]) (by simp [results, Tryd.results31, go_sem]) rfl ?_
    exact ⟨by rw [HR.out.1, HR.out.2]; first | done | rfl, HK3.out⟩
  · have FN := Lib.hid (fun W (hk : Keeps noBlk w W) => link_no c W (h.kept hk) (ht.keeps hk) hb)
    have HR : Hid (nxH c = 0 ∧ nxP c = 0) := Lib.hid ⟨by unfold nxH; rw [if_neg (by rw [hb]; decide)], by unfold nxP; rw [if_neg (by rw [hb]; decide)]⟩
    clear h ht hb hm
    unfold ChM.val
    unfold ChM.val at FN
    go_enter Tryd.func31, Tryd.ntmps31
    go_wp2_with fail
    refine (FN.out _ HK.out).mono ?_
    rintro e w1 ⟨rfl, hk1⟩
    unfold lk0
    have HK1 := Lib.hid (HK.out.trans (hk1.alloc (.cells #[.slice none 0 0, .slice none 0 0, .int .i64 0, .int .i64 0, .int .i64 0, .int .i64 0, .int .i64 0, .slice none 0 0, .slice none 0 0, .slice none 0 0, .slice none 0 0, .pointer none, .slice none 0 0] 93)))
    clear hk1
    go_wp2
    refine bodyPost_ret (v := .tuple #[.int .i64 0, .int .i64 0]) (by simp [results, Tryd.results31, go_sem]) rfl ?_
    exact ⟨by rw [HR.out.1, HR.out.2]; first | done | rfl, HK1.out⟩
set_option maxRecDepth 100000 in
set_option maxHeartbeats 4000000 in
theorem specNext_any (c : ChM) (w : World) (h : ChAt w c) (hL : c.bk.b.locked ≤ 9223372036854775807) :
    Calls Tryd.prog 30 #[c.val] w fun e w' => e = .returned (.tuple #[.int .i64 (nxH c), .int .i64 (nxP c)]) ∧ Keeps noBlk w w' := by
  have F := Lib.hid (fun W (hk : Keeps noBlk w W) => specChOk_any c W (h.kept hk) hL)
  have HBa := Lib.hid (Box.new w _ rfl 40 #[.int .i64 c.id, .slice c.bk.A1 c.bk.b.own.length c.bk.c1, .slice c.bk.A2 c.bk.b.notes.length c.bk.c2, .int .i64 c.bk.b.locked, .int .i64 c.st.x.way, .int .i64 c.st.x.ver, .int .i64 c.st.x.want, .slice c.st.A1 c.st.x.sent.length c.st.c1, .slice c.st.A2 c.st.x.live.length c.st.c2, .slice c.st.A3 c.st.x.back.length c.st.c3, .slice c.st.A4 c.st.x.got.length c.st.c4, .slice c.pA c.past.length c.pc, .slice c.kA c.knows.length c.kc])
  have HK := Lib.hid ((Keeps.refl noBlk w).alloc (.cells #[.int .i64 c.id, .slice c.bk.A1 c.bk.b.own.length c.bk.c1, .slice c.bk.A2 c.bk.b.notes.length c.bk.c2, .int .i64 c.bk.b.locked, .int .i64 c.st.x.way, .int .i64 c.st.x.ver, .int .i64 c.st.x.want, .slice c.st.A1 c.st.x.sent.length c.st.c1, .slice c.st.A2 c.st.x.live.length c.st.c2, .slice c.st.A3 c.st.x.back.length c.st.c3, .slice c.st.A4 c.st.x.got.length c.st.c4, .slice c.pA c.past.length c.pc, .slice c.kA c.knows.length c.kc] 40))
  rcases Bool.eq_false_or_eq_true (ckB c) with hb | hb
  · have h8 : c.st.x.sent.length ≤ 8 := by
      have := (of_decide_eq_true (of_decide_eq_true hb).2.2.1).2.1.small
      exact this
    have h9 := (of_decide_eq_true hb).2.2.2.1
    have HR : Hid (nxH c = nxt c.past.length 90 ∧ nxP c = nxt c.st.x.sent.length 8) := Lib.hid ⟨by unfold nxH; rw [if_pos hb], by unfold nxP; rw [if_pos hb]⟩
    rw [hb] at F
    have H1 : Hid ((c.past.length : Int) < 90 → nxt c.past.length 90 = (c.past.length : Int) + 1) := Lib.hid fun h => by unfold nxt; rw [if_pos h]
    have H2 : Hid (¬ (c.past.length : Int) < 90 → nxt c.past.length 90 = 0) := Lib.hid fun h => by unfold nxt; rw [if_neg h]
    have H3 : Hid ((c.st.x.sent.length : Int) < 8 → nxt c.st.x.sent.length 8 = (c.st.x.sent.length : Int) + 1) := Lib.hid fun h => by unfold nxt; rw [if_pos h]
    have H4 : Hid (¬ (c.st.x.sent.length : Int) < 8 → nxt c.st.x.sent.length 8 = 0) := Lib.hid fun h => by unfold nxt; rw [if_neg h]
    clear h hb hL
    unfold ChM.val
    unfold ChM.val at F
    generalize nxH c = y1 at HR
    generalize nxP c = y2 at HR
    generalize nxt c.past.length 90 = z1 at *
    generalize nxt c.st.x.sent.length 8 = z2 at *
    by_cases k1 : (c.past.length : Int) < 90
    · have HE1 := Lib.hid (H1.out k1)
      have k1' : ¬ (90 : Int) < (c.past.length : Int) + 1 := by omega
      by_cases k2 : (c.st.x.sent.length : Int) < 8
      · have HE2 := Lib.hid (H3.out k2)
        have k2' : ¬ (8 : Int) < (c.st.x.sent.length : Int) + 1 := by omega
        go_enter Tryd.func30, Tryd.ntmps30
        go_wp2_with fail
        refine (F.out _ HK.out).mono ?_
        rintro e w1 ⟨rfl, hk1⟩
        have hb := HBa.out.keeps hk1 fun h => h
        have b7 := hb.cell 7
        have b11 := hb.cell 11
        simp at b7 b11
        have HK1 := Lib.hid (HK.out.trans hk1)
        clear hk1 hb
        go_wp2
        refine bodyPost_ret (v := .tuple #[.int .i64 ((c.past.length : Int) + 1), .int .i64 ((c.st.x.sent.length : Int) + 1)]) (by simp [results, Tryd.results30, go_sem]) rfl ?_
        exact ⟨by rw [HR.out.1, HR.out.2, HE1.out, HE2.out]; first | done | rfl, HK1.out⟩
      · have HE2 := Lib.hid (H4.out k2)
        have k2' : (8 : Int) < (c.st.x.sent.length : Int) + 1 := by omega
        go_enter Tryd.func30, Tryd.ntmps30
        go_wp2_with fail
        refine (F.out _ HK.out).mono ?_
        rintro e w1 ⟨rfl, hk1⟩
        have hb := HBa.out.keeps hk1 fun h => h
        have b7 := hb.cell 7
        have b11 := hb.cell 11
        simp at b7 b11
        have HK1 := Lib.hid (HK.out.trans hk1)
        clear hk1 hb
        go_wp2
        refine bodyPost_ret (v := .tuple #[.int .i64 ((c.past.length : Int) + 1), .int .i64 0]) (by simp [results, Tryd.results30, go_sem]) rfl ?_
        exact ⟨by rw [HR.out.1, HR.out.2, HE1.out, HE2.out]; first | done | rfl, HK1.out⟩
    · have HE1 := Lib.hid (H2.out k1)
      have k1' : (90 : Int) < (c.past.length : Int) + 1 := by omega
      by_cases k2 : (c.st.x.sent.length : Int) < 8
      · have HE2 := Lib.hid (H3.out k2)
        have k2' : ¬ (8 : Int) < (c.st.x.sent.length : Int) + 1 := by omega
        go_enter Tryd.func30, Tryd.ntmps30
        go_wp2_with fail
        refine (F.out _ HK.out).mono ?_
        rintro e w1 ⟨rfl, hk1⟩
        have hb := HBa.out.keeps hk1 fun h => h
        have b7 := hb.cell 7
        have b11 := hb.cell 11
        simp at b7 b11
        have HK1 := Lib.hid (HK.out.trans hk1)
        clear hk1 hb
        go_wp2
        refine bodyPost_ret (v := .tuple #[.int .i64 0, .int .i64 ((c.st.x.sent.length : Int) + 1)]) (by simp [results, Tryd.results30, go_sem]) rfl ?_
        exact ⟨by rw [HR.out.1, HR.out.2, HE1.out, HE2.out]; first | done | rfl, HK1.out⟩
      · have HE2 := Lib.hid (H4.out k2)
        have k2' : (8 : Int) < (c.st.x.sent.length : Int) + 1 := by omega
        go_enter Tryd.func30, Tryd.ntmps30
        go_wp2_with fail
        refine (F.out _ HK.out).mono ?_
        rintro e w1 ⟨rfl, hk1⟩
        have hb := HBa.out.keeps hk1 fun h => h
        have b7 := hb.cell 7
        have b11 := hb.cell 11
        simp at b7 b11
        have HK1 := Lib.hid (HK.out.trans hk1)
        clear hk1 hb
        go_wp2
        refine bodyPost_ret (v := .tuple #[.int .i64 0, .int .i64 0]) (by simp [results, Tryd.results30, go_sem]) rfl ?_
        exact ⟨by rw [HR.out.1, HR.out.2, HE1.out, HE2.out]; first | done | rfl, HK1.out⟩
  · have HR : Hid (nxH c = 0 ∧ nxP c = 0) := Lib.hid ⟨by unfold nxH; rw [if_neg (by rw [hb]; decide)], by unfold nxP; rw [if_neg (by rw [hb]; decide)]⟩
    rw [hb] at F
    clear h hb hL
    unfold ChM.val
    unfold ChM.val at F
    go_enter Tryd.func30, Tryd.ntmps30
    go_wp2_with fail
    refine (F.out _ HK.out).mono ?_
    rintro e w1 ⟨rfl, hk1⟩
    have HK1 := Lib.hid (HK.out.trans hk1)
    clear hk1
    go_wp2
    refine bodyPost_ret (v := .tuple #[.int .i64 0, .int .i64 0]) (by simp [results, Tryd.results30, go_sem]) rfl ?_
    exact ⟨by rw [HR.out.1, HR.out.2]; first | done | rfl, HK1.out⟩
end Go.Proofs.YtbgpclicflafaaaDoor
