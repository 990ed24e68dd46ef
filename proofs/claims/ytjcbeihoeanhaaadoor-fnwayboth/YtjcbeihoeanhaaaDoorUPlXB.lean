/- l71Two of the model: two states, most often of one world behind a drawn play. DrawWayMay of the model. DrawWayNext of the model. -/
import Derived.Test.YtjcbeihoeanhaaaDoorUPlLB
import Derived.Test.YtjcbeihoeanhaaaDoorUOwnB
set_option maxRecDepth 100000
set_option maxHeartbeats 24000000
set_option linter.unusedVariables false
set_option linter.unusedSimpArgs false
/-! PlX -/
namespace Go.Proofs.YtjcbeihoeanhaaaDoor
open Go.RowKit

def RetTwo (w : World) (g : Nat) (lim : Int) (e : Ending) (w' : World) : Prop :=
 ∃ s o : StM, e = .returned (.tuple #[s.val, o.val]) ∧ s.At w' ∧ o.At w' ∧ (∀ b, s.bl b → w.heap.size ≤ b) ∧ (∀ b, o.bl b → w.heap.size ≤ b) ∧ Rd w' g lim ∧ Keeps (one g) w w'
def chW (W : World) (r : Nat) (c : ChM) : World := (((((((((((((W.setCell ⟨r, 0, none⟩ (.int .i64 c.id)).setCell ⟨r, 1, none⟩ (.slice c.bk.A1 c.bk.b.own.length c.bk.c1)).setCell ⟨r, 2, none⟩ (.slice c.bk.A2 c.bk.b.notes.length c.bk.c2)).setCell ⟨r, 3, none⟩ (.int .i64 c.bk.b.locked)).setCell ⟨r, 4, none⟩ (.int .i64 c.st.x.way)).setCell ⟨r, 5, none⟩ (.int .i64 c.st.x.ver)).setCell ⟨r, 6, none⟩ (.int .i64 c.st.x.want)).setCell ⟨r, 7, none⟩ (.slice c.st.A1 c.st.x.sent.length c.st.c1)).setCell ⟨r, 8, none⟩ (.slice c.st.A2 c.st.x.live.length c.st.c2)).setCell ⟨r, 9, none⟩ (.slice c.st.A3 c.st.x.back.length c.st.c3)).setCell ⟨r, 10, none⟩ (.slice c.st.A4 c.st.x.got.length c.st.c4)).setCell ⟨r, 11, none⟩ (.slice c.pA c.past.length c.pc)).setCell ⟨r, 12, none⟩ (.slice c.kA c.knows.length c.kc))
theorem chW_keeps (W : World) (r : Nat) (c : ChM) : Keeps (fun b => b = r) W (chW W r c) := ((((((((((((((Keeps.refl (fun b => b = r) W).setCell (p := ⟨r, 0, none⟩) (.inr rfl) (.int .i64 c.id)).setCell (p := ⟨r, 1, none⟩) (.inr rfl) (.slice c.bk.A1 c.bk.b.own.length c.bk.c1)).setCell (p := ⟨r, 2, none⟩) (.inr rfl) (.slice c.bk.A2 c.bk.b.notes.length c.bk.c2)).setCell (p := ⟨r, 3, none⟩) (.inr rfl) (.int .i64 c.bk.b.locked)).setCell (p := ⟨r, 4, none⟩) (.inr rfl) (.int .i64 c.st.x.way)).setCell (p := ⟨r, 5, none⟩) (.inr rfl) (.int .i64 c.st.x.ver)).setCell (p := ⟨r, 6, none⟩) (.inr rfl) (.int .i64 c.st.x.want)).setCell (p := ⟨r, 7, none⟩) (.inr rfl) (.slice c.st.A1 c.st.x.sent.length c.st.c1)).setCell (p := ⟨r, 8, none⟩) (.inr rfl) (.slice c.st.A2 c.st.x.live.length c.st.c2)).setCell (p := ⟨r, 9, none⟩) (.inr rfl) (.slice c.st.A3 c.st.x.back.length c.st.c3)).setCell (p := ⟨r, 10, none⟩) (.inr rfl) (.slice c.st.A4 c.st.x.got.length c.st.c4)).setCell (p := ⟨r, 11, none⟩) (.inr rfl) (.slice c.pA c.past.length c.pc)).setCell (p := ⟨r, 12, none⟩) (.inr rfl) (.slice c.kA c.knows.length c.kc))
theorem chW_box {W : World} {r : Nat} {v0 v1 v2 v3 v4 v5 v6 v7 v8 v9 v10 v11 v12 : Value} (h : Box W r 94 #[v0, v1, v2, v3, v4, v5, v6, v7, v8, v9, v10, v11, v12]) (c : ChM) : Box (chW W r c) r 94 (chC c) := by
 have hb := (((((((((((((h.set_ 0 (.int .i64 c.id)).set_ 1 (.slice c.bk.A1 c.bk.b.own.length c.bk.c1)).set_ 2 (.slice c.bk.A2 c.bk.b.notes.length c.bk.c2)).set_ 3 (.int .i64 c.bk.b.locked)).set_ 4 (.int .i64 c.st.x.way)).set_ 5 (.int .i64 c.st.x.ver)).set_ 6 (.int .i64 c.st.x.want)).set_ 7 (.slice c.st.A1 c.st.x.sent.length c.st.c1)).set_ 8 (.slice c.st.A2 c.st.x.live.length c.st.c2)).set_ 9 (.slice c.st.A3 c.st.x.back.length c.st.c3)).set_ 10 (.slice c.st.A4 c.st.x.got.length c.st.c4)).set_ 11 (.slice c.pA c.past.length c.pc)).set_ 12 (.slice c.kA c.knows.length c.kc)); simp only [sx] at hb; exact hb
def Xy (m : WdM) (x y : ChM) : Prop := (x = m.a ∧ y = m.b) ∨ (x = m.b ∧ y = m.a)
theorem Xy.st {G : Nat → Nat} {W : World} {m : WdM} {x y : ChM} {g : Nat} {lim : Int} {q n0 : Nat} (h : Xy m x y) (hp : Pl G W m g lim q n0) : StW G W n0 x.st ∧ StW G W n0 y.st := by
 have ha : StW G W n0 m.a.st := ⟨0, hp.wd.2.2.1.2.1, hp.z⟩; have hb : StW G W n0 m.b.st := ⟨1, hp.wd.2.2.2.2.1, hp.z⟩
 rcases h with ⟨rfl, rfl⟩ | ⟨rfl, rfl⟩
 ·exact ⟨ha, hb⟩
 ·exact ⟨hb, ha⟩
theorem StW.ne0 {G : Nat → Nat} {w : World} {n0 : Nat} {s : StM} (h : StW G w n0 s) {b : Nat} (hb : s.bl b) : G b ≠ 0 := by
 obtain ⟨i, hs, _⟩ := h
 have r : ∀ k, G b = rl i k → G b ≠ 0 := fun k e => by rw [e]; unfold rl; omega
 rcases hb with hb | hb | hb | hb
 ·exact r 0 (hs.1.2 b (blk_owned hb))
 ·exact r 1 (hs.2.1.2 b (blk_owned hb))
 ·exact r 2 (hs.2.2.1.2 b (blk_owned hb))
 ·exact r 3 (hs.2.2.2.2 b (blk_owned hb))
theorem im_bl {G : Nat → Nat} {w : World} {n0 : Nat} {s : StM} (h : StR G im w s) (hz : ∀ b, b < n0 → G b = 0) {b : Nat} (hb : s.bl b) : n0 ≤ b ∧ G b ≠ 0 := by
 have h1 : G b = 1 := by
  rcases hb with hb | hb | hb | hb
  ·exact h.1.2 b (blk_owned hb)
  ·exact h.2.1.2 b (blk_owned hb)
  ·exact h.2.2.1.2 b (blk_owned hb)
  ·exact h.2.2.2.2 b (blk_owned hb)
 refine ⟨?_, by rw [h1]; decide⟩
 rcases Nat.lt_or_ge b n0 with hl | hl
 ·rw [hz b hl] at h1; cases h1
 ·exact hl
theorem Xy.past {G : Nat → Nat} {W : World} {m : WdM} {x y : ChM} {g : Nat} {lim : Int} {q n0 : Nat} (h : Xy m x y) (hp : Pl G W m g lim q n0) {k : Nat} (hk : k < y.past.length) :
  ∃ b, y.pA = some ⟨b, 0, none⟩ ∧ b < W.heap.size ∧ G b ≠ 0 ∧ n0 ≤ b ∧ StR G im W (y.past.getD k stm0) ∧ W.cell? ⟨b, k * 7, none⟩ = some (.int .i64 (y.past.getD k stm0).x.way) ∧ W.cell? ⟨b, k * 7 + 1, none⟩ = some (.int .i64 (y.past.getD k stm0).x.ver) ∧ W.cell? ⟨b, k * 7 + 2, none⟩ = some (.int .i64 (y.past.getD k stm0).x.want) ∧ W.cell? ⟨b, k * 7 + 3, none⟩ = some (.slice (y.past.getD k stm0).A1 (y.past.getD k stm0).x.sent.length (y.past.getD k stm0).c1) ∧ W.cell? ⟨b, k * 7 + 4, none⟩ = some (.slice (y.past.getD k stm0).A2 (y.past.getD k stm0).x.live.length (y.past.getD k stm0).c2) ∧ W.cell? ⟨b, k * 7 + 5, none⟩ = some (.slice (y.past.getD k stm0).A3 (y.past.getD k stm0).x.back.length (y.past.getD k stm0).c3) ∧ W.cell? ⟨b, k * 7 + 6, none⟩ = some (.slice (y.past.getD k stm0).A4 (y.past.getD k stm0).x.got.length (y.past.getD k stm0).c4) := by
 have hy : ∃ i, ChR G i W y := by
  rcases h with ⟨rfl, rfl⟩ | ⟨rfl, rfl⟩
  ·exact ⟨1, hp.wd.2.2.2⟩
  ·exact ⟨0, hp.wd.2.2.1⟩
 obtain ⟨i, hy⟩ := hy; obtain ⟨b, e, hb, h0, h1, h2, h3, h4, h5, h6⟩ := past_at hy.2.2.1 (getD_some stm0 hk); have hr := hy.2.2.1.2 b (by rw [e]; rfl)
 have hn : G b ≠ 0 := by rw [hr]; unfold rl; omega
 refine ⟨b, e, hb, hn, ?_, hy.2.2.2.1 _ (List.mem_of_getElem? (getD_some stm0 hk)), h0, h1, h2, h3, h4, h5, h6⟩
 rcases Nat.lt_or_ge b n0 with hl | hl
 ·exact absurd (hp.z b hl) hn
 ·exact hl
theorem l71Two_any (g : Nat) (lim : Int) (w : World) (hr : Rd w g lim) (hl : lim ≤ 80000) : Calls Tryd.prog 57 #[.pointer (some ⟨g, 0, none⟩)] w (RetTwo w g (lim + 3000)) := by
 have hgw := hr.lt; have HBr := hH ((Box.new w _ rfl 27 zCS).alloc (.cells zCS 27)); have HBq := hH (Box.new (w.alloc (.cells zCS 27)) (w.heap.size + 1) (by simp) 27 zCS); have HK := hH (((Keeps.refl (one g) w).alloc (.cells zCS 27)).alloc (.cells zCS 27)); have HRD := hH ((hr.alloc (.cells zCS 27)).alloc (.cells zCS 27))
 have hs0 : w.heap.size + 2 = ((w.alloc (.cells zCS 27)).alloc (.cells zCS 27)).heap.size := by simp
 clear hr
 go_enter Tryd.func57, Tryd.ntmps57
 go_wp2_with fail; generalize ((w.alloc (.cells zCS 27)).alloc (.cells zCS 27)) = w0 at HBr HBq HK HRD hs0 ⊢; refine (l71Play_any g lim w0 HRD.out (by omega)).mono ?_; rintro e w1 ⟨G, m, l, A, c, rfl, hpl, -, -, -, hk⟩; replace HBr := hH (HBr.out.keeps hk (nq (by omega))); replace HBq := hH (HBq.out.keeps hk (nq (by omega))); replace HK := hH (HK.out.trans hk); have sz1 := hk.size; have HPL := hH hpl; have HNZ := hH hpl.nz; have HNG := hH hpl.lt; clear hpl hk HRD; unfold WdM.val
 go_upto_region 2 with fail
 replace HBr := hH (HBr.out.alloc (.cells #[.slice (some ⟨m.g, 0, none⟩) 2 2] 87)); replace HBq := hH (HBq.out.alloc (.cells #[.slice (some ⟨m.g, 0, none⟩) 2 2] 87)); replace HK := hH (HK.out.alloc (.cells #[.slice (some ⟨m.g, 0, none⟩) 2 2] 87)); replace HPL := hH (HPL.out.kept ((Keeps.refl noBlk w1).alloc (.cells #[.slice (some ⟨m.g, 0, none⟩) 2 2] 87))); have HBw := hH (Box.new w1 _ rfl 87 #[.slice (some ⟨m.g, 0, none⟩) 2 2])
 have sz2 : w1.heap.size + 1 = (w1.alloc (.cells #[.slice (some ⟨m.g, 0, none⟩) 2 2] 87)).heap.size := by simp
 generalize w1.alloc (.cells #[.slice (some ⟨m.g, 0, none⟩) 2 2] 87) = w2 at HBr HBq HBw HK HPL sz2 ⊢; have hb := HBw.out; have v0 := hb.cell 0; simp at v0; have zv := hb.lt; clear hb; have hwb := HPL.out.wd.1
 have c0 : w2.cell? ⟨m.g, 0, none⟩ = some (.int .i64 m.a.id) := by rw [hwb.cell _]; rfl
 have c1 : w2.cell? ⟨m.g, 1, none⟩ = some (.slice m.a.bk.A1 m.a.bk.b.own.length m.a.bk.c1) := by rw [hwb.cell _]; rfl
 have c2 : w2.cell? ⟨m.g, 2, none⟩ = some (.slice m.a.bk.A2 m.a.bk.b.notes.length m.a.bk.c2) := by rw [hwb.cell _]; rfl
 have c3 : w2.cell? ⟨m.g, 3, none⟩ = some (.int .i64 m.a.bk.b.locked) := by rw [hwb.cell _]; rfl
 have c4 : w2.cell? ⟨m.g, 4, none⟩ = some (.int .i64 m.a.st.x.way) := by rw [hwb.cell _]; rfl
 have c5 : w2.cell? ⟨m.g, 5, none⟩ = some (.int .i64 m.a.st.x.ver) := by rw [hwb.cell _]; rfl
 have c6 : w2.cell? ⟨m.g, 6, none⟩ = some (.int .i64 m.a.st.x.want) := by rw [hwb.cell _]; rfl
 have c7 : w2.cell? ⟨m.g, 7, none⟩ = some (.slice m.a.st.A1 m.a.st.x.sent.length m.a.st.c1) := by rw [hwb.cell _]; rfl
 have c8 : w2.cell? ⟨m.g, 8, none⟩ = some (.slice m.a.st.A2 m.a.st.x.live.length m.a.st.c2) := by rw [hwb.cell _]; rfl
 have c9 : w2.cell? ⟨m.g, 9, none⟩ = some (.slice m.a.st.A3 m.a.st.x.back.length m.a.st.c3) := by rw [hwb.cell _]; rfl
 have c10 : w2.cell? ⟨m.g, 10, none⟩ = some (.slice m.a.st.A4 m.a.st.x.got.length m.a.st.c4) := by rw [hwb.cell _]; rfl
 have c11 : w2.cell? ⟨m.g, 11, none⟩ = some (.slice m.a.pA m.a.past.length m.a.pc) := by rw [hwb.cell _]; rfl
 have c12 : w2.cell? ⟨m.g, 12, none⟩ = some (.slice m.a.kA m.a.knows.length m.a.kc) := by rw [hwb.cell _]; rfl
 have d0 : w2.cell? ⟨m.g, 13, none⟩ = some (.int .i64 m.b.id) := by rw [hwb.cell _]; rfl
 have d1 : w2.cell? ⟨m.g, 14, none⟩ = some (.slice m.b.bk.A1 m.b.bk.b.own.length m.b.bk.c1) := by rw [hwb.cell _]; rfl
 have d2 : w2.cell? ⟨m.g, 15, none⟩ = some (.slice m.b.bk.A2 m.b.bk.b.notes.length m.b.bk.c2) := by rw [hwb.cell _]; rfl
 have d3 : w2.cell? ⟨m.g, 16, none⟩ = some (.int .i64 m.b.bk.b.locked) := by rw [hwb.cell _]; rfl
 have d4 : w2.cell? ⟨m.g, 17, none⟩ = some (.int .i64 m.b.st.x.way) := by rw [hwb.cell _]; rfl
 have d5 : w2.cell? ⟨m.g, 18, none⟩ = some (.int .i64 m.b.st.x.ver) := by rw [hwb.cell _]; rfl
 have d6 : w2.cell? ⟨m.g, 19, none⟩ = some (.int .i64 m.b.st.x.want) := by rw [hwb.cell _]; rfl
 have d7 : w2.cell? ⟨m.g, 20, none⟩ = some (.slice m.b.st.A1 m.b.st.x.sent.length m.b.st.c1) := by rw [hwb.cell _]; rfl
 have d8 : w2.cell? ⟨m.g, 21, none⟩ = some (.slice m.b.st.A2 m.b.st.x.live.length m.b.st.c2) := by rw [hwb.cell _]; rfl
 have d9 : w2.cell? ⟨m.g, 22, none⟩ = some (.slice m.b.st.A3 m.b.st.x.back.length m.b.st.c3) := by rw [hwb.cell _]; rfl
 have d10 : w2.cell? ⟨m.g, 23, none⟩ = some (.slice m.b.st.A4 m.b.st.x.got.length m.b.st.c4) := by rw [hwb.cell _]; rfl
 have d11 : w2.cell? ⟨m.g, 24, none⟩ = some (.slice m.b.pA m.b.past.length m.b.pc) := by rw [hwb.cell _]; rfl
 have d12 : w2.cell? ⟨m.g, 25, none⟩ = some (.slice m.b.kA m.b.knows.length m.b.kc) := by rw [hwb.cell _]; rfl
 have zm := hwb.lt; clear hwb
 have lw2 : w1.heap.size < w2.heap.size := by omega
 clear sz2
 go_upto_region 4 with fail
 clear v0 zv zm c0 d0 c1 d1 c2 d2 c3 d3 c4 d4 c5 d5 c6 d6 c7 d7 c8 d8 c9 d9 c10 d10 c11 d11 c12 d12; replace HBr := hH (HBr.out.alloc (.cells (chC m.a) 94)); replace HBq := hH (HBq.out.alloc (.cells (chC m.a) 94)); replace HK := hH (HK.out.alloc (.cells (chC m.a) 94)); replace HPL := hH (HPL.out.kept ((Keeps.refl noBlk w2).alloc (.cells (chC m.a) 94))); replace HBr := hH (HBr.out.alloc (.cells (chC m.b) 94)); replace HBq := hH (HBq.out.alloc (.cells (chC m.b) 94)); replace HK := hH (HK.out.alloc (.cells (chC m.b) 94)); replace HPL := hH (HPL.out.kept ((Keeps.refl noBlk (w2.alloc (.cells (chC m.a) 94))).alloc (.cells (chC m.b) 94))); have HBa := hH ((Box.new w2 _ rfl 94 (chC m.a)).alloc (.cells (chC m.b) 94)); have HBb := hH (Box.new (w2.alloc (.cells (chC m.a) 94)) (w2.heap.size + 1) (by simp) 94 (chC m.b))
 have sz4 : w2.heap.size + 2 = ((w2.alloc (.cells (chC m.a) 94)).alloc (.cells (chC m.b) 94)).heap.size := by simp
 clear HBw; generalize ((w2.alloc (.cells (chC m.a) 94)).alloc (.cells (chC m.b) 94)) = w4 at HBr HBq HBa HBb HK HPL sz4 ⊢
 have lw4 : w2.heap.size + 2 ≤ w4.heap.size := by omega
 clear sz4; go_wp2_with fail; refine (pick_any g (lim + 1000) 2 _ HPL.out.rd (by omega) (by omega) (by omega)).mono ?_; rintro e w5 ⟨x1, rfl, x1a, x1b, hrd, hk⟩; replace HBr := hH (HBr.out.keeps hk (nq (by omega))); replace HBq := hH (HBq.out.keeps hk (nq (by omega))); replace HBa := hH (HBa.out.keeps hk (nq (by omega))); replace HBb := hH (HBb.out.keeps hk (nq (by omega))); replace HPL := hH (HPL.out.one hk (hrd.more (lim' := lim + 1001) (by omega))); replace HK := hH (HK.out.trans hk); have sw5 := hk.size; clear hk hrd
 go_upto_if 24 with fail
 go_cut [] from 22 to 26 (fun wx => ∃ x y : ChM, Xy m x y ∧ Box wx (w2.heap.size) 94 (chC x) ∧ Box wx (w2.heap.size + 1) 94 (chC y) ∧ Box wx (w.heap.size) 27 zCS ∧ Box wx (w.heap.size + 1) 27 zCS ∧ Pl G wx m g (lim + 1001) 100 w0.heap.size ∧ Keeps (one g) w wx ∧ w5.heap.size ≤ wx.heap.size)
 case first =>
  by_cases hx1 : x1 = 0
  ·have hxb : (x1 == 0) = true := by simp [hx1]
   clear hx1; have hb := HBa.out; obtain ⟨a0, a1, a2, a3, a4, a5, a6, a7, a8, a9, a10, a11, a12⟩ := hb.cells13; obtain ⟨af0, af1, af2, af3, af4, af5, af6, af7, af8, af9, af10, af11, af12⟩ := hb.fz13; have za := hb.lt; clear hb; have hb := HBb.out; obtain ⟨b0, b1, b2, b3, b4, b5, b6, b7, b8, b9, b10, b11, b12⟩ := hb.cells13; obtain ⟨bf0, bf1, bf2, bf3, bf4, bf5, bf6, bf7, bf8, bf9, bf10, bf11, bf12⟩ := hb.fz13; have zb := hb.lt; clear hb
   have : ¬ w2.heap.size = w2.heap.size + 1 := by omega
   have : ¬ w2.heap.size + 1 = w2.heap.size := by omega
   go_wp2_with fail; have f1 := (chW_box HBa.out m.b).keeps (chW_keeps (chW w5 (w2.heap.size) m.b) (w2.heap.size + 1) m.a) (nq (by omega)); have f2 := chW_box (HBb.out.keeps (chW_keeps w5 (w2.heap.size) m.b) (nq (by omega))) m.a; have f3 := (HBr.out.keeps (chW_keeps w5 (w2.heap.size) m.b) (nq (by omega))).keeps (chW_keeps (chW w5 (w2.heap.size) m.b) (w2.heap.size + 1) m.a) (nq (by omega)); have f4 := (HBq.out.keeps (chW_keeps w5 (w2.heap.size) m.b) (nq (by omega))).keeps (chW_keeps (chW w5 (w2.heap.size) m.b) (w2.heap.size + 1) m.a) (nq (by omega))
   have f5 := (HPL.out.keeps (chW_keeps w5 (w2.heap.size) m.b) fun b h => by have h' : b = w2.heap.size := h; subst h'; exact ⟨HNZ.out _ (by omega), by omega⟩).keeps (chW_keeps (chW w5 (w2.heap.size) m.b) (w2.heap.size + 1) m.a) fun b h => by have h' : b = w2.heap.size + 1 := h; subst h'; exact ⟨HNZ.out _ (by omega), by omega⟩
   have f6 := (HK.out.then (chW_keeps w5 (w2.heap.size) m.b) fun i hi h => by have h' : i = w2.heap.size := h; omega).then (chW_keeps (chW w5 (w2.heap.size) m.b) (w2.heap.size + 1) m.a) (fun i hi h => by have h' : i = w2.heap.size + 1 := h; omega)
   have f7 := Nat.le_trans (chW_keeps w5 (w2.heap.size) m.b).size (chW_keeps (chW w5 (w2.heap.size) m.b) (w2.heap.size + 1) m.a).size; change Met _ _ (chW (chW w5 (w2.heap.size) m.b) (w2.heap.size + 1) m.a); generalize chW (chW w5 (w2.heap.size) m.b) (w2.heap.size + 1) m.a = WE at f1 f2 f3 f4 f5 f6 f7 ⊢
   go_meet
   exact ⟨m.b, m.a, .inr ⟨rfl, rfl⟩, f1, f2, f3, f4, f5, f6, f7⟩
  ·have hxb : (x1 == 0) = false := by simp [hx1]
   clear hx1; go_wp2_with fail
   go_meet
   exact ⟨m.a, m.b, .inl ⟨rfl, rfl⟩, HBa.out, HBb.out, HBr.out, HBq.out, HPL.out, HK.out, Nat.le_refl _⟩
 case rest =>
  obtain ⟨x, y, hxy, hba, hbb, hbr, hbq, hpl, hkk, hsz⟩ := hcut; clear HBr HBq HBa HBb HPL HK; have HXY := hH hxy; have HBa := hH hba; have HBb := hH hbb; have HBr := hH hbr; have HBq := hH hbq; have HPL := hH hpl; have HK := hH hkk; clear hxy hba hbb hbr hbq hpl hkk; obtain ⟨w6, hww⟩ : ∃ x, x = wc := ⟨_, rfl⟩; subst hww; have hb := HBb.out; obtain ⟨b0, b1, b2, b3, b4, b5, b6, b7, b8, b9, b10, b11, b12⟩ := hb.cells13; have zb := hb.lt; clear hb
  go_upto_region 7 with fail
  clear b0 b1 b2 b3 b4 b5 b6 b7 b8 b9 b10 b11 b12 zb; replace HBr := hH (HBr.out.alloc (.cells (smC y.st) 27)); replace HBq := hH (HBq.out.alloc (.cells (smC y.st) 27)); replace HBa := hH (HBa.out.alloc (.cells (smC y.st) 27)); replace HBb := hH (HBb.out.alloc (.cells (smC y.st) 27)); replace HK := hH (HK.out.alloc (.cells (smC y.st) 27)); replace HPL := hH (HPL.out.kept ((Keeps.refl noBlk w6).alloc (.cells (smC y.st) 27))); have HBs := hH (Box.new w6 _ rfl 27 (smC y.st))
  have sz7 : w6.heap.size + 1 = (w6.alloc (.cells (smC y.st) 27)).heap.size := by simp
  generalize w6.alloc (.cells (smC y.st) 27) = w7 at HBr HBq HBa HBb HBs HK HPL sz7 ⊢
  have lw7 : w6.heap.size < w7.heap.size := by omega
  clear sz7
  go_cut [37] from 29 to 36 (fun so wx => ∃ o9 : Bool, so = .bool o9 ∧ (o9 = true → 0 < y.past.length) ∧ Box wx (w2.heap.size) 94 (chC x) ∧ Box wx (w2.heap.size + 1) 94 (chC y) ∧ Box wx (w.heap.size) 27 zCS ∧ Box wx (w.heap.size + 1) 27 zCS ∧ Box wx (w6.heap.size) 27 (smC y.st) ∧ Pl G wx m g (lim + 1002) 100 w0.heap.size ∧ Keeps (one g) w wx ∧ w7.heap.size ≤ wx.heap.size)
  case first =>
   have hb := HBb.out; obtain ⟨b0, b1, b2, b3, b4, b5, b6, b7, b8, b9, b10, b11, b12⟩ := hb.cells13; have zb := hb.lt; clear hb
   by_cases hz : 0 < y.past.length
   ·have hzb : decide ((0 : Int) < (y.past.length : Int)) = true := decide_eq_true (by omega)
    have hzn : decide (0 < y.past.length) = true := decide_eq_true hz; go_wp2_with fail; refine (pick_any g (lim + 1001) 2 _ HPL.out.rd (by omega) (by omega) (by omega)).mono ?_; rintro e w8 ⟨x2, rfl, x2a, x2b, hrd, hk⟩; clear b0 b1 b2 b3 b4 b5 b6 b7 b8 b9 b10 b11 b12 zb; replace HBr := hH (HBr.out.keeps hk (nq (by omega))); replace HBq := hH (HBq.out.keeps hk (nq (by omega))); replace HBa := hH (HBa.out.keeps hk (nq (by omega))); replace HBb := hH (HBb.out.keeps hk (nq (by omega))); replace HBs := hH (HBs.out.keeps hk (nq (by omega))); replace HPL := hH (HPL.out.one hk (hrd.more (lim' := lim + 1002) (by omega))); replace HK := hH (HK.out.trans hk); have sw8 := hk.size; clear hk hrd; go_wp2_with fail
    go_meet
    exact ⟨_, rfl, fun _ => hz, HBa.out, HBb.out, HBr.out, HBq.out, HBs.out, HPL.out, HK.out, by omega⟩
   ·have hzb : decide ((0 : Int) < (y.past.length : Int)) = false := decide_eq_false (by omega)
    have hzn : decide (0 < y.past.length) = false := decide_eq_false hz; go_wp2_with fail
    go_meet
    exact ⟨false, rfl, fun h => (by cases h), HBa.out, HBb.out, HBr.out, HBq.out, HBs.out, HPL.out.more (Nat.le_refl _) (by omega), HK.out, Nat.le_refl _⟩
  case rest =>
   obtain ⟨o9, rfl, ho9, hba, hbb, hbr, hbq, hbs, hpl, hkk, hsz⟩ := hcut; clear HBr HBq HBa HBb HBs HPL HK; have HO9 := hH ho9; have HBa := hH hba; have HBb := hH hbb; have HBr := hH hbr; have HBq := hH hbq; have HBs := hH hbs; have HPL := hH hpl; have HK := hH hkk; clear ho9 hba hbb hbr hbq hbs hpl hkk; obtain ⟨w9, hww⟩ : ∃ x, x = wc := ⟨_, rfl⟩; subst hww
   go_upto_if 37 with fail
   go_cut [] from 38 to 46 (fun wx => ∃ st : StM, Box wx (w2.heap.size) 94 (chC x) ∧ Box wx (w.heap.size) 27 zCS ∧ Box wx (w.heap.size + 1) 27 zCS ∧ Box wx (w6.heap.size) 27 (smC st) ∧ st.At wx ∧ (∀ b, st.bl b → w0.heap.size ≤ b ∧ ¬ b = w6.heap.size) ∧ Pl G wx m g (lim + 1003) 100 w0.heap.size ∧ Keeps (one g) w wx ∧ w9.heap.size ≤ wx.heap.size)
   case first =>
    have HGS : Hid (G w6.heap.size = 0) := hH (HNZ.out _ (by omega))
    cases o9 with
    | true =>
     have hz := HO9.out rfl; clear HO9; obtain ⟨pv, pv0, pvn, hpd⟩ := pick_det g (lim + 1002) (y.past.length : Int) w9 HPL.out.rd (by omega) (by omega) (by rcases HXY.out with ⟨-, rfl⟩ | ⟨-, rfl⟩ <;> (first | (have := HPL.out.ok.b.pl; omega) | (have := HPL.out.ok.a.pl; omega))); obtain ⟨pn, rfl⟩ := Int.eq_ofNat_of_zero_le pv0; have HPD := hH hpd
     have hpn : pn < y.past.length := by omega
     have hip : (pn : Int) < (y.past.length : Int) := by omega
     clear hpd pv0 pvn; obtain ⟨bp, eP, hbp, hbn, hbg, hst, d0, d1, d2, d3, d4, d5, d6⟩ := HXY.out.past HPL.out hpn; generalize y.past.getD pn stm0 = st at hst d0 d1 d2 d3 d4 d5 d6; have HST := hH hst; clear hst; have HEP := hH eP; clear eP
     have hpg : ¬ bp = g := by have := HNG.out; omega
     have hps : ¬ bp = w6.heap.size := fun h => hbn (by rw [h]; exact HGS.out)
     have hps' : ¬ w6.heap.size = bp := fun h => hps h.symm
     have hb := HBb.out; obtain ⟨b0, b1, b2, b3, b4, b5, b6, b7, b8, b9, b10, b11, b12⟩ := hb.cells13; have zb := hb.lt; clear hb; rw [HEP.out] at b11; go_wp2_with fail
     go_region_held3 (fun w' => w'.cell? ⟨w2.heap.size + 1, 11, none⟩ = some (.slice (some ⟨bp, 0, none⟩) y.past.length y.pc) ∧ w'.cell? ⟨bp, pn * 7, none⟩ = some (.int .i64 st.x.way) ∧ w'.cell? ⟨bp, pn * 7 + 1, none⟩ = some (.int .i64 st.x.ver) ∧ w'.cell? ⟨bp, pn * 7 + 2, none⟩ = some (.int .i64 st.x.want) ∧ w'.cell? ⟨bp, pn * 7 + 3, none⟩ = some (.slice st.A1 st.x.sent.length st.c1) ∧ w'.cell? ⟨bp, pn * 7 + 4, none⟩ = some (.slice st.A2 st.x.live.length st.c2) ∧ w'.cell? ⟨bp, pn * 7 + 5, none⟩ = some (.slice st.A3 st.x.back.length st.c3) ∧ w'.cell? ⟨bp, pn * 7 + 6, none⟩ = some (.slice st.A4 st.x.got.length st.c4))
      (((try dsimp only); (repeat' apply And.intro) <;> (first | with_reducible assumption | (go_keep; done) | ((repeat rw [World.cell?_setCell_other _ _ _ _ (by intro e; injection e with e _; omega)]); with_reducible assumption))))
      (first | (go_at_call 43; refine (HPD.out _ ((Keeps.refl noBlk w9).drewN 1)).mono ?_; rintro e v1 ⟨rfl, hrd, hk⟩; have HQ1 := hH (((Keeps.refl (one g) w9).drewN 1).trans hk); have HRD1 := hH hrd; have e0 := (HQ1.out.cell hbp (fun h => hpg h)).trans d0; have e1 := (HQ1.out.cell hbp (fun h => hpg h)).trans d1; have e2 := (HQ1.out.cell hbp (fun h => hpg h)).trans d2; have e3 := (HQ1.out.cell hbp (fun h => hpg h)).trans d3; have e4 := (HQ1.out.cell hbp (fun h => hpg h)).trans d4; have e5 := (HQ1.out.cell hbp (fun h => hpg h)).trans d5; have e6 := (HQ1.out.cell hbp (fun h => hpg h)).trans d6; have hb9 := HBb.out.keeps HQ1.out (nq (by omega)); have a11 := hb9.cell 11; simp at a11; rw [HEP.out] at a11; have za := hb9.lt; have hbs9 := HBs.out.keeps HQ1.out (nq (by omega)); obtain ⟨k0, k1, k2, k3, k4, k5, k6⟩ := hbs9.cells7; obtain ⟨kf0, kf1, kf2, kf3, kf4, kf5, kf6⟩ := hbs9.fz7; have zk := hbs9.lt; have HBS9 := hH hbs9; have sq1 := HQ1.out.size; (try simp at sq1); have hbp9 : bp < v1.heap.size := (by omega); clear hrd hk hb9 hbs9))
     all_goals go_wp2_with fail
     all_goals go_meet
     all_goals exact ⟨st, ((HBa.out.keeps HQ1.out (nq (by omega))).keeps (stW_keeps v1 (w6.heap.size) st) (nq (by omega))), ((HBr.out.keeps HQ1.out (nq (by omega))).keeps (stW_keeps v1 (w6.heap.size) st) (nq (by omega))), ((HBq.out.keeps HQ1.out (nq (by omega))).keeps (stW_keeps v1 (w6.heap.size) st) (nq (by omega))), stW_box HBS9.out st, (((HST.out.keeps HQ1.out fun b k _ hb h => by have h' : b = g := h; rw [h', HPL.out.z g HNG.out] at hb; unfold im at hb; omega).at_).keeps (stW_keeps v1 (w6.heap.size) st) fun b hb h => (im_bl HST.out HPL.out.z hb).2 (by have h' : b = w6.heap.size := h; rw [h']; exact HGS.out)), fun b hb => ⟨(im_bl HST.out HPL.out.z hb).1, fun h => (im_bl HST.out HPL.out.z hb).2 (by rw [h]; exact HGS.out)⟩, (HPL.out.one HQ1.out (HRD1.out.more (lim' := lim + 1003) (by omega))).keeps (stW_keeps v1 (w6.heap.size) st) (fun b h => by have h' : b = w6.heap.size := h; subst h'; exact ⟨HGS.out, by omega⟩), (HK.out.trans HQ1.out).then (stW_keeps v1 (w6.heap.size) st) (fun i hi h => by have h' : i = w6.heap.size := h; omega), Nat.le_trans HQ1.out.size (stW_keeps v1 (w6.heap.size) st).size⟩
    | false =>
     have hys := (HXY.out.st HPL.out).2; go_wp2_with fail
     go_meet
     exact ⟨y.st, HBa.out, HBr.out, HBq.out, HBs.out, hys.at_, fun b hb => ⟨hys.ge hb, fun h => hys.ne0 hb (by rw [h]; exact HGS.out)⟩, HPL.out.more (Nat.le_refl _) (by omega), HK.out, Nat.le_refl _⟩
   case rest =>
    clear HBb; obtain ⟨st, hba, hbr, hbq, hbs, hat, hge, hpl, hkk, hsz2⟩ := hcut; clear HBr HBq HBa HBs HPL HK; have HBa := hH hba; have HBr := hH hbr; have HBq := hH hbq; have HBs := hH hbs; have HAT := hH hat; have HGE := hH hge; have HPL := hH hpl; have HK := hH hkk; clear hba hbr hbq hbs hat hge hpl hkk; obtain ⟨w10, hww⟩ : ∃ x, x = wc := ⟨_, rfl⟩; subst hww; go_wp2_with fail; refine (pick_any g (lim + 1003) 20 _ HPL.out.rd (by omega) (by omega) (by omega)).mono ?_; rintro e w11 ⟨x3, rfl, x3a, x3b, hrd, hk⟩; replace HAT := hH (HAT.out.keeps hk (fun b hb h => by have h' : b = g := h; have := (HGE.out b hb).1; have := HNG.out; omega)); replace HBr := hH (HBr.out.keeps hk (nq (by omega))); replace HBq := hH (HBq.out.keeps hk (nq (by omega))); replace HBa := hH (HBa.out.keeps hk (nq (by omega))); replace HBs := hH (HBs.out.keeps hk (nq (by omega))); replace HPL := hH (HPL.out.one hk (hrd.more (lim' := lim + 1004) (by omega))); replace HK := hH (HK.out.trans hk); have sw11 := hk.size; clear hk hrd
    go_upto_if 49 with fail
    go_cut [] from 47 to 51 (fun wx => ∃ st : StM, Box wx (w2.heap.size) 94 (chC x) ∧ Box wx (w.heap.size) 27 zCS ∧ Box wx (w.heap.size + 1) 27 zCS ∧ Box wx (w6.heap.size) 27 (smC st) ∧ st.At wx ∧ (∀ b, st.bl b → w0.heap.size ≤ b ∧ ¬ b = w6.heap.size) ∧ Pl G wx m g (lim + 2100) 100 w0.heap.size ∧ Keeps (one g) w wx ∧ w11.heap.size ≤ wx.heap.size)
    case first =>
     by_cases hx3 : x3 = 0
     ·have hxb : (x3 == 0) = true := by simp [hx3]
      clear hx3; go_wp2_with fail; refine (l71State0_any g (lim + 1004) _ HPL.out.rd (by omega)).mono ?_; rintro e w12 ⟨s2, x9, rfl, hx9, hsp, hat, hge, hrd, hk⟩; clear hx9 hsp; replace HBr := hH (HBr.out.keeps hk (nq (by omega))); replace HBq := hH (HBq.out.keeps hk (nq (by omega))); replace HBa := hH (HBa.out.keeps hk (nq (by omega))); replace HBs := hH (HBs.out.keeps hk (nq (by omega))); replace HPL := hH (HPL.out.one hk (hrd.more (lim' := lim + 2100) (by omega))); replace HK := hH (HK.out.trans hk); have s12 := hk.size; have HAT2 := hH hat; have HGE2 := hH hge; clear hk hrd hat hge HAT HGE; unfold StM.val; have hb := HBs.out; obtain ⟨k0, k1, k2, k3, k4, k5, k6⟩ := hb.cells7; obtain ⟨kf0, kf1, kf2, kf3, kf4, kf5, kf6⟩ := hb.fz7; have zk := hb.lt; clear hb; go_wp2_with fail
      go_meet
      exact ⟨s2, (HBa.out.keeps (stW_keeps w12 (w6.heap.size) s2) (nq (by omega))), (HBr.out.keeps (stW_keeps w12 (w6.heap.size) s2) (nq (by omega))), (HBq.out.keeps (stW_keeps w12 (w6.heap.size) s2) (nq (by omega))), stW_box HBs.out s2, HAT2.out.keeps (stW_keeps w12 (w6.heap.size) s2) (fun b hb h => by have h' : b = w6.heap.size := h; have := HGE2.out b hb; omega), fun b hb => ⟨by have := HGE2.out b hb; omega, by have := HGE2.out b hb; omega⟩, HPL.out.keeps (stW_keeps w12 (w6.heap.size) s2) (fun b h => by have h' : b = w6.heap.size := h; subst h'; exact ⟨HNZ.out _ (by omega), by omega⟩), HK.out.then (stW_keeps w12 (w6.heap.size) s2) (fun i hi h => by have h' : i = w6.heap.size := h; omega), Nat.le_trans s12 (stW_keeps w12 (w6.heap.size) s2).size⟩
     ·have hxb : (x3 == 0) = false := by simp [hx3]
      clear hx3; go_wp2_with fail
      go_meet
      exact ⟨st, HBa.out, HBr.out, HBq.out, HBs.out, HAT.out, HGE.out, HPL.out.more (Nat.le_refl _) (by omega), HK.out, Nat.le_refl _⟩
    case rest =>
     clear HAT HGE; obtain ⟨st, hba, hbr, hbq, hbs, hat, hge, hpl, hkk, hsz2⟩ := hcut; clear HBr HBq HBa HBs HPL HK; have HBa := hH hba; have HBr := hH hbr; have HBq := hH hbq; have HBs := hH hbs; have HAT := hH hat; have HGE := hH hge; have HPL := hH hpl; have HK := hH hkk; clear hba hbr hbq hbs hat hge hpl hkk; obtain ⟨w13, hww⟩ : ∃ x, x = wc := ⟨_, rfl⟩; subst hww; have hxs := (HXY.out.st HPL.out).1; have HXA := hH hxs.at_; have HXG := hH (fun b (hb : x.st.bl b) => (show w0.heap.size ≤ b from hxs.ge hb)); have HRD := hH HPL.out.rd; clear hxs HPL HXY HNZ; have hb := HBa.out; obtain ⟨a0, a1, a2, a3, a4, a5, a6, a7, a8, a9, a10, a11, a12⟩ := hb.cells13; have za := hb.lt; clear hb; have hb := HBs.out; obtain ⟨s0, s1, s2, s3, s4, s5, s6⟩ := hb.cells7; have zs := hb.lt; clear hb; have hb := HBr.out; obtain ⟨r0, r1, r2, r3, r4, r5, r6⟩ := hb.cells7; obtain ⟨rf0, rf1, rf2, rf3, rf4, rf5, rf6⟩ := hb.fz7; have zr := hb.lt; clear hb; have hb := HBq.out; obtain ⟨q0, q1, q2, q3, q4, q5, q6⟩ := hb.cells7; obtain ⟨qf0, qf1, qf2, qf3, qf4, qf5, qf6⟩ := hb.fz7; have zq := hb.lt; clear hb
     have : ¬ w.heap.size = w2.heap.size := by omega
     have : ¬ w2.heap.size = w.heap.size := by omega
     have : ¬ w.heap.size = w6.heap.size := by omega
     have : ¬ w6.heap.size = w.heap.size := by omega
     have : ¬ w.heap.size + 1 = w2.heap.size := by omega
     have : ¬ w2.heap.size = w.heap.size + 1 := by omega
     have : ¬ w.heap.size + 1 = w6.heap.size := by omega
     have : ¬ w6.heap.size = w.heap.size + 1 := by omega
     have : ¬ w.heap.size = w.heap.size + 1 := by omega
     have : ¬ w.heap.size + 1 = w.heap.size := by omega
     clear HBa HBs; go_wp2_with fail
     go_region
     all_goals
      go_wp2; clear a0 a1 a2 a3 a4 a5 a6 a7 a8 a9 a10 a11 a12 za s0 s1 s2 s3 s4 s5 s6 zs r0 r1 r2 r3 r4 r5 r6 rf0 rf1 rf2 rf3 rf4 rf5 rf6 zr q0 q1 q2 q3 q4 q5 q6 qf0 qf1 qf2 qf3 qf4 qf5 qf6 zq; have kF0 := stW_keeps w13 (w.heap.size) x.st; have bQ := HBq.out.keeps kF0 (nq (by omega)); have kF1 := stW_keeps (stW w13 (w.heap.size) x.st) (w.heap.size + 1) st; have hr0 := ((stW_box HBr.out x.st).keeps kF1 (nq (by omega))).drew; have hq0 := (stW_box bQ st).drew; have s0 := hr0.cell 0; have q0 := hq0.cell 0; have s1 := hr0.cell 1; have q1 := hq0.cell 1; have s2 := hr0.cell 2; have q2 := hq0.cell 2; have s3 := hr0.cell 3; have q3 := hq0.cell 3; have s4 := hr0.cell 4; have q4 := hq0.cell 4; have s5 := hr0.cell 5; have q5 := hq0.cell 5; have s6 := hr0.cell 6; have q6 := hq0.cell 6; have a1 := ((HXA.out.keeps kF0 (fun b hb h => by have h' : b = w.heap.size := h; have := HXG.out b hb; omega)).keeps kF1 (fun b hb h => by have h' : b = w.heap.size + 1 := h; have := HXG.out b hb; omega)).kept ((Keeps.refl noBlk _).drew); have a2 := ((HAT.out.keeps kF0 (fun b hb h => by have h' : b = w.heap.size := h; have := (HGE.out b hb).1; omega)).keeps kF1 (fun b hb h => by have h' : b = w.heap.size + 1 := h; have := (HGE.out b hb).1; omega)).kept ((Keeps.refl noBlk _).drew); have rF := ((HRD.out.keeps kF0 (fun b hb h => by have h' : b = w.heap.size := h; omega)).keeps kF1 (fun b hb h => by have h' : b = w.heap.size + 1 := h; omega)).drew; have kF := ((HK.out.then kF0 fun i hi h => by have h' : i = w.heap.size := h; omega).then kF1 (fun i hi h => by have h' : i = w.heap.size + 1 := h; omega)).drew; clear hr0 hq0 bQ kF0 kF1; change bodyPost _ _ _ _ _ (stW (stW w13 (w.heap.size) x.st) (w.heap.size + 1) st).drew; generalize (stW (stW w13 (w.heap.size) x.st) (w.heap.size + 1) st).drew = WF at a1 a2 rF kF s0 q0 s1 q1 s2 q2 s3 q3 s4 q4 s5 q5 s6 q6 ⊢; simp at s0 q0 s1 q1 s2 q2 s3 q3 s4 q4 s5 q5 s6 q6; refine bodyPost_ret (v := .tuple #[x.st.val, st.val]) (by simp [results, Tryd.results57, go_sem, StM.val, s0, q0, s1, q1, s2, q2, s3, q3, s4, q4, s5, q5, s6, q6]) rfl ?_; exact ⟨x.st, st, rfl, a1, a2, fun b hb => by have := HXG.out b hb; omega, fun b hb => by have := (HGE.out b hb).1; omega, rF.more (by omega), kF⟩

def RetDSSI (w : World) (e : Ending) (w' : World) : Prop := ∃ (s o : StM) (k : Int), e = .returned (.tuple #[s.val, o.val, .int .i64 k]) ∧ s.At w' ∧ o.At w' ∧ (∀ b, s.bl b → w.heap.size ≤ b) ∧ (∀ b, o.bl b → w.heap.size ≤ b) ∧ Keeps noBlk w w'
theorem drawWayMay_any (A : Option Addr) (n c : Nat) (zs : List Int) (w : World) (h : Bytes w A n zs) (hc : n ≤ c) (hcm : c ≤ maxLen) :
  Calls Tryd.prog 34 #[.slice A n c] w (RetDSSI w) := by
 have HBr := hH ((Box.new w _ rfl 27 zCS).alloc (.cells zCS 27)); have HBq := hH (Box.new (w.alloc (.cells zCS 27)) (w.heap.size + 1) (by simp) 27 zCS); have HK := hH (((Keeps.refl noBlk w).alloc (.cells zCS 27)).alloc (.cells zCS 27)); have H := hH (h.keeps (((Keeps.refl noBlk w).alloc (.cells zCS 27)).alloc (.cells zCS 27)) fun _ _ x => x)
 have hs0 : w.heap.size + 2 = ((w.alloc (.cells zCS 27)).alloc (.cells zCS 27)).heap.size := by simp
 clear h
 go_enter Tryd.func34, Tryd.ntmps34
 go_wp2_with fail; generalize ((w.alloc (.cells zCS 27)).alloc (.cells zCS 27)) = w0 at HBr HBq HK H hs0 ⊢; refine (l6Open_any A n _ zs w0 H.out hc hcm).mono ?_; rintro e w1 ⟨g, rfl, hg, hrd, hk⟩
 have hg0 : w0.heap.size ≤ g := by omega
 clear hg; replace HBr := hH (HBr.out.keeps hk (fun h => h)); replace HBq := hH (HBq.out.keeps hk (fun h => h)); replace HK := hH (HK.out.trans hk); have HRD := hH hrd; have hg1 := hrd.lt; clear hrd hk H; go_wp2_with fail; refine (l71Two_any g 0 w1 HRD.out (by omega)).mono ?_; rintro e w2 ⟨s, o, rfl, hs, ho, hsg, hog, hrd, hk⟩; replace HBr := hH (HBr.out.keeps hk (nq (by omega))); replace HBq := hH (HBq.out.keeps hk (nq (by omega))); replace HK := hH (HK.out.then hk (fun i hi h => by have h' : i = g := h; omega)); have HS := hH hs; have HO := hH ho; have HSG := hH hsg; have HOG := hH hog; have HLS := hH (fun b (hb : s.bl b) => StAt.lt HS.out hb); have HLO := hH (fun b (hb : o.bl b) => StAt.lt HO.out hb); replace HRD := hH (hrd.more (lim' := 3100) (by omega)); have sz2 := hk.size; clear hs ho hsg hog hrd hk; unfold StM.val
 go_upto_region 3 with fail
 replace HBr := hH ((HBr.out.alloc (.cells (smC s) 27)).alloc (.cells (smC o) 27)); replace HBq := hH ((HBq.out.alloc (.cells (smC s) 27)).alloc (.cells (smC o) 27)); replace HK := hH ((HK.out.alloc (.cells (smC s) 27)).alloc (.cells (smC o) 27)); replace HRD := hH ((HRD.out.alloc (.cells (smC s) 27)).alloc (.cells (smC o) 27)); replace HS := hH (HS.out.kept (((Keeps.refl noBlk w2).alloc (.cells (smC s) 27)).alloc (.cells (smC o) 27))); replace HO := hH (HO.out.kept (((Keeps.refl noBlk w2).alloc (.cells (smC s) 27)).alloc (.cells (smC o) 27))); have HBs := hH ((Box.new w2 _ rfl 27 (smC s)).alloc (.cells (smC o) 27)); have HBo := hH (Box.new (w2.alloc (.cells (smC s) 27)) (w2.heap.size + 1) (by simp) 27 (smC o))
 have sz3 : w2.heap.size + 2 = ((w2.alloc (.cells (smC s) 27)).alloc (.cells (smC o) 27)).heap.size := by simp
 generalize ((w2.alloc (.cells (smC s) 27)).alloc (.cells (smC o) 27)) = w3 at HBr HBq HBs HBo HK HRD HS HO sz3 ⊢
 have lw3 : w2.heap.size + 2 ≤ w3.heap.size := by omega
 clear sz3; have HGS := hH (fun b (hb : s.bl b) => (show w1.heap.size ≤ b ∧ b < w2.heap.size from ⟨HSG.out b hb, HLS.out b hb⟩)); have HGS : Hid (∀ b, s.bl b → w1.heap.size ≤ b ∧ ¬ b = w2.heap.size ∧ ¬ b = w2.heap.size + 1) := hH (fun b hb => ⟨HSG.out b hb, by have := HLS.out b hb; omega, by have := HLS.out b hb; omega⟩); have HGO : Hid (∀ b, o.bl b → w1.heap.size ≤ b ∧ ¬ b = w2.heap.size ∧ ¬ b = w2.heap.size + 1) := hH (fun b hb => ⟨HOG.out b hb, by have := HLO.out b hb; omega, by have := HLO.out b hb; omega⟩); clear HSG HOG HLS HLO
 have hs2 : w1.heap.size ≤ w2.heap.size := by omega
 have hw01 : w0.heap.size ≤ w1.heap.size := by omega
 have hb := HBs.out; obtain ⟨a0, a1, a2, a3, a4, a5, a6⟩ := hb.cells7; have za := hb.lt; clear hb; have hb := HBo.out; obtain ⟨b0, b1, b2, b3, b4, b5, b6⟩ := hb.cells7; have zb := hb.lt; clear hb; go_wp2_with fail; refine (specNext_any s.x o.x s.A1 s.A2 s.A3 s.A4 o.A1 o.A2 o.A3 o.A4 s.c1 s.c2 s.c3 s.c4 o.c1 o.c2 o.c3 o.c4 w3 HS.out HO.out).mono ?_; rintro e w4 ⟨LA, Lc, rfl, ho9, hg9, hk⟩; have hln : (nextL s.x o.x).length ≤ 7 := nextTo_len s.x o.x 7; generalize nextL s.x o.x = L at ho9 hg9 hln ⊢; have HL := hH (owns_ints ho9); have HLG := hH (fun b (hb : blk LA L.length b) => (show w2.heap.size + 2 ≤ b from by have h0 := hg9 b (blk_owned hb); omega)); clear ho9 hg9 a0 a1 a2 a3 a4 a5 a6 za b0 b1 b2 b3 b4 b5 b6 zb; replace HBr := hH (HBr.out.keeps hk (fun h => h)); replace HBq := hH (HBq.out.keeps hk (fun h => h)); replace HBs := hH (HBs.out.keeps hk (fun h => h)); replace HBo := hH (HBo.out.keeps hk (fun h => h)); replace HS := hH (HS.out.kept hk); replace HO := hH (HO.out.kept hk); replace HRD := hH (HRD.out.keeps hk fun _ _ h => h); replace HK := hH (HK.out.trans hk); have sw4 := hk.size; clear hk; go_wp2
 go_loopg [8, 9] (4) (fun gk nx ii wr => ∃ (s o : StM) (L : List Int) (LA : Option Addr) (Lc k : Nat), k + gk = 4 ∧ ii = .int .i64 k ∧ nx = .slice LA L.length Lc ∧ s.At wr ∧ o.At wr ∧ (∀ b, s.bl b → w1.heap.size ≤ b ∧ ¬ b = w2.heap.size ∧ ¬ b = w2.heap.size + 1) ∧ (∀ b, o.bl b → w1.heap.size ≤ b ∧ ¬ b = w2.heap.size ∧ ¬ b = w2.heap.size + 1) ∧ Ints wr LA L.length L ∧ L.length ≤ 7 ∧ (∀ b, blk LA L.length b → w2.heap.size + 2 ≤ b) ∧ Rd wr g (20000 - 3200 * gk) ∧ Box wr (w.heap.size) 27 zCS ∧ Box wr (w.heap.size + 1) 27 zCS ∧ Box wr (w2.heap.size) 27 (smC s) ∧ Box wr (w2.heap.size + 1) 27 (smC o) ∧ Keeps noBlk w wr ∧ w3.heap.size ≤ wr.heap.size)
 case atStart => exact ⟨s, o, L, LA, Lc, 0, rfl, rfl, rfl, HS.out, HO.out, HGS.out, HGO.out, HL.out, hln, HLG.out, HRD.out.more (by omega), HBr.out, HBq.out, HBs.out, HBo.out, HK.out, by omega⟩
 case round =>
  clear HS HO HGS HGO HL HLG HRD HBr HBq HBs HBo HK; obtain ⟨s, o, L, LA, Lc, k, hk4, rfl, rfl, hs, ho, hgs, hgo, hl, hln, hlg, hrd, hbr, hbq, hbs, hbo, hkk, hsz⟩ := hrel; have HS := hH hs; have HO := hH ho; have HGS := hH hgs; have HGO := hH hgo; have HL := hH hl; have HLG := hH hlg; have HRD := hH hrd; have HBr := hH hbr; have HBq := hH hbq; have HBs := hH hbs; have HBo := hH hbo; have HK := hH hkk; clear hs ho hgs hgo hl hlg hrd hbr hbq hbs hbo hkk
  go_upto_region 5 with fail
  go_cut [31] from 20 to 41 (fun so wx => ∃ o9 : Bool, so = .bool o9 ∧ (o9 = true → k < 4) ∧ s.At wx ∧ o.At wx ∧ (∀ b, s.bl b → w1.heap.size ≤ b ∧ ¬ b = w2.heap.size ∧ ¬ b = w2.heap.size + 1) ∧ (∀ b, o.bl b → w1.heap.size ≤ b ∧ ¬ b = w2.heap.size ∧ ¬ b = w2.heap.size + 1) ∧ Ints wx LA L.length L ∧ L.length ≤ 7 ∧ (∀ b, blk LA L.length b → w2.heap.size + 2 ≤ b) ∧ Rd wx g (20000 - 3200 * gk + 1) ∧ Box wx (w.heap.size) 27 zCS ∧ Box wx (w.heap.size + 1) 27 zCS ∧ Box wx (w2.heap.size) 27 (smC s) ∧ Box wx (w2.heap.size + 1) 27 (smC o) ∧ Keeps noBlk w wx ∧ w3.heap.size ≤ wx.heap.size ∧ wr.heap.size ≤ wx.heap.size)
  case first =>
   by_cases hk5 : k < 4
   ·have hki : (k : Int) < 4 := by omega
    by_cases hL : L.length = 0
    ·have hLb : ((L.length : Int) == 0) = true := by rw [beq_iff_eq]; omega
     clear hL; go_wp2_with fail; refine (pick_any g (20000 - 3200 * gk) 8 _ HRD.out (by omega) (by omega) (by omega)).mono ?_; rintro e w5 ⟨p, rfl, pa, pb, hrd, hk⟩; replace HBr := hH (HBr.out.keeps hk (nq (by omega))); replace HBq := hH (HBq.out.keeps hk (nq (by omega))); replace HBs := hH (HBs.out.keeps hk (nq (by omega))); replace HBo := hH (HBo.out.keeps hk (nq (by omega))); replace HS := hH (HS.out.keeps hk (fun b hb h => by have h' : b = g := h; have := (HGS.out b hb).1; omega)); replace HO := hH (HO.out.keeps hk (fun b hb h => by have h' : b = g := h; have := (HGO.out b hb).1; omega)); replace HL := hH (HL.out.keeps hk (fun b hb h => by have h' : b = g := h; have := HLG.out b hb; omega)); replace HRD := hH (hrd.more (lim' := 20000 - 3200 * gk + 1) (by omega)); replace HK := hH (HK.out.then hk (fun i hi h => by have h' : i = g := h; omega)); have s5 := hk.size; clear hk hrd; go_wp2_with fail
     go_meet
     exact ⟨_, rfl, fun _ => hk5, HS.out, HO.out, HGS.out, HGO.out, HL.out, hln, HLG.out, HRD.out, HBr.out, HBq.out, HBs.out, HBo.out, HK.out, by omega, by omega⟩
    ·have hLb : ((L.length : Int) == 0) = false := by rw [beq_eq_false_iff_ne]; omega
     clear hL; go_wp2_with fail
     go_meet
     exact ⟨false, rfl, fun h => (by cases h), HS.out, HO.out, HGS.out, HGO.out, HL.out, hln, HLG.out, HRD.out.more (by omega), HBr.out, HBq.out, HBs.out, HBo.out, HK.out, hsz, Nat.le_refl _⟩
   ·have hki : ¬ (k : Int) < 4 := by omega
    have hkb : decide ((k : Int) < 4) = false := decide_eq_false hki; go_wp2_with fail
    go_meet
    exact ⟨false, rfl, fun h => (by cases h), HS.out, HO.out, HGS.out, HGO.out, HL.out, hln, HLG.out, HRD.out.more (by omega), HBr.out, HBq.out, HBs.out, HBo.out, HK.out, hsz, Nat.le_refl _⟩
  case rest =>
   obtain ⟨o9, rfl, ho9, hs, ho, hgs, hgo, hl, hln, hlg, hrd, hbr, hbq, hbs, hbo, hkk, hsz, hsz9⟩ := hcut; clear HS HO HGS HGO HL HLG HRD HBr HBq HBs HBo HK; have HS := hH hs; have HO := hH ho; have HGS := hH hgs; have HGO := hH hgo; have HL := hH hl; have HLG := hH hlg; have HRD := hH hrd; have HBr := hH hbr; have HBq := hH hbq; have HBs := hH hbs; have HBo := hH hbo; have HK := hH hkk; clear hs ho hgs hgo hl hlg hrd hbr hbq hbs hbo hkk; obtain ⟨w6, hww⟩ : ∃ x, x = wc := ⟨_, rfl⟩; subst hww
   cases o9 with
   | true =>
    have hk5 := ho9 rfl; clear ho9 HS HO HGS HGO HL HLG hln; go_wp2_with fail; refine (l71Two_any g (20000 - 3200 * gk + 1) w6 HRD.out (by omega)).mono ?_; rintro e w7 ⟨s2, o2, rfl, hs, ho, hsg, hog, hrd, hk⟩; replace HBr := hH (HBr.out.keeps hk (nq (by omega))); replace HBq := hH (HBq.out.keeps hk (nq (by omega))); replace HBs := hH (HBs.out.keeps hk (nq (by omega))); replace HBo := hH (HBo.out.keeps hk (nq (by omega))); replace HK := hH (HK.out.then hk (fun i hi h => by have h' : i = g := h; omega)); have HRD7 := hH hrd; have HS2 := hH hs; have HO2 := hH ho; have sz7 := hk.size; have HGS : Hid (∀ b, s2.bl b → w1.heap.size ≤ b ∧ ¬ b = w2.heap.size ∧ ¬ b = w2.heap.size + 1) := hH (fun b hb => by have := hsg b hb; exact ⟨by omega, by omega, by omega⟩); have HGO : Hid (∀ b, o2.bl b → w1.heap.size ≤ b ∧ ¬ b = w2.heap.size ∧ ¬ b = w2.heap.size + 1) := hH (fun b hb => by have := hog b hb; exact ⟨by omega, by omega, by omega⟩); clear hs ho hsg hog hrd hk HRD; unfold StM.val; have hb := HBs.out; obtain ⟨a0, a1, a2, a3, a4, a5, a6⟩ := hb.cells7; obtain ⟨af0, af1, af2, af3, af4, af5, af6⟩ := hb.fz7; have za := hb.lt; clear hb; have hb := HBo.out; obtain ⟨b0, b1, b2, b3, b4, b5, b6⟩ := hb.cells7; obtain ⟨bf0, bf1, bf2, bf3, bf4, bf5, bf6⟩ := hb.fz7; have zb := hb.lt; clear hb
    have : ¬ w2.heap.size = w2.heap.size + 1 := by omega
    have : ¬ w2.heap.size + 1 = w2.heap.size := by omega
    go_upto_region 8 with fail
    clear a0 a1 a2 a3 a4 a5 a6 af0 af1 af2 af3 af4 af5 af6 za b0 b1 b2 b3 b4 b5 b6 bf0 bf1 bf2 bf3 bf4 bf5 bf6 zb; replace HBr := hH ((HBr.out.keeps (stW_keeps w7 (w2.heap.size) s2) (nq (by omega))).keeps (stW_keeps (stW w7 (w2.heap.size) s2) (w2.heap.size + 1) o2) (nq (by omega))); replace HBq := hH ((HBq.out.keeps (stW_keeps w7 (w2.heap.size) s2) (nq (by omega))).keeps (stW_keeps (stW w7 (w2.heap.size) s2) (w2.heap.size + 1) o2) (nq (by omega))); have hbs2 := (stW_box HBs.out s2).keeps (stW_keeps (stW w7 (w2.heap.size) s2) (w2.heap.size + 1) o2) (nq (by omega)); have hbo2 := stW_box (HBo.out.keeps (stW_keeps w7 (w2.heap.size) s2) (nq (by omega))) o2; replace HBs := hH (hbs2); replace HBo := hH (hbo2); clear hbs2 hbo2; replace HS2 := hH ((HS2.out.keeps (stW_keeps w7 (w2.heap.size) s2) (fun b hb h => (HGS.out b hb).2.1 h)).keeps (stW_keeps (stW w7 (w2.heap.size) s2) (w2.heap.size + 1) o2) (fun b hb h => (HGS.out b hb).2.2 h)); replace HO2 := hH ((HO2.out.keeps (stW_keeps w7 (w2.heap.size) s2) (fun b hb h => (HGO.out b hb).2.1 h)).keeps (stW_keeps (stW w7 (w2.heap.size) s2) (w2.heap.size + 1) o2) (fun b hb h => (HGO.out b hb).2.2 h)); replace HRD7 := hH ((HRD7.out.keeps (stW_keeps w7 (w2.heap.size) s2) fun b hb h => by have h' : b = w2.heap.size := h; omega).keeps (stW_keeps (stW w7 (w2.heap.size) s2) (w2.heap.size + 1) o2) fun b hb h => by have h' : b = w2.heap.size + 1 := h; omega); replace HK := hH ((HK.out.then (stW_keeps w7 (w2.heap.size) s2) fun i hi h => by have h' : i = w2.heap.size := h; omega).then (stW_keeps (stW w7 (w2.heap.size) s2) (w2.heap.size + 1) o2) fun i hi h => by have h' : i = w2.heap.size + 1 := h; omega); have sz8 := Nat.le_trans (stW_keeps w7 (w2.heap.size) s2).size (stW_keeps (stW w7 (w2.heap.size) s2) (w2.heap.size + 1) o2).size; have hW8 : stW (stW w7 (w2.heap.size) s2) (w2.heap.size + 1) o2 = stW (stW w7 (w2.heap.size) s2) (w2.heap.size + 1) o2 := rfl
    conv at hW8 => lhs; unfold stW
    generalize hWW : stW (stW w7 (w2.heap.size) s2) (w2.heap.size + 1) o2 = w8 at HBr HBq HBs HBo HS2 HO2 HRD7 HK sz8 hW8; clear hWW; rw [hW8]; clear hW8; have HS := HS2; have HO := HO2; have HRD := HRD7; clear HS2 HO2 HRD7; have hb := HBs.out; obtain ⟨a0, a1, a2, a3, a4, a5, a6⟩ := hb.cells7; have za := hb.lt; clear hb; have hb := HBo.out; obtain ⟨b0, b1, b2, b3, b4, b5, b6⟩ := hb.cells7; have zb := hb.lt; clear hb; go_wp2_with fail; refine (specNext_any s2.x o2.x s2.A1 s2.A2 s2.A3 s2.A4 o2.A1 o2.A2 o2.A3 o2.A4 s2.c1 s2.c2 s2.c3 s2.c4 o2.c1 o2.c2 o2.c3 o2.c4 w8 HS.out HO.out).mono ?_; rintro e w10 ⟨LA2, Lc2, rfl, ho9, hg9, hk⟩; have hln : (nextL s2.x o2.x).length ≤ 7 := nextTo_len s2.x o2.x 7; generalize nextL s2.x o2.x = L2 at ho9 hg9 hln ⊢; have HL := hH (owns_ints ho9); have HLG := hH (fun b (hb : blk LA2 L2.length b) => (show w2.heap.size + 2 ≤ b from by have h0 := hg9 b (blk_owned hb); omega)); clear ho9 hg9 a0 a1 a2 a3 a4 a5 a6 za b0 b1 b2 b3 b4 b5 b6 zb; replace HBr := hH (HBr.out.keeps hk (fun h => h)); replace HBq := hH (HBq.out.keeps hk (fun h => h)); replace HBs := hH (HBs.out.keeps hk (fun h => h)); replace HBo := hH (HBo.out.keeps hk (fun h => h)); replace HS := hH (HS.out.kept hk); replace HO := hH (HO.out.kept hk); replace HRD := hH (HRD.out.keeps hk fun _ _ h => h); replace HK := hH (HK.out.trans hk); have sw10 := hk.size; clear hk; go_wp2
    go_roundg (gk - 1)
    case measure => omega
    case rel =>
     exact ⟨s2, o2, L2, LA2, Lc2, k + 1, by omega, by go_num, rfl, HS.out, HO.out, HGS.out, HGO.out, HL.out, hln, HLG.out, HRD.out.more (by omega), HBr.out, HBq.out, HBs.out, HBo.out, HK.out, by omega⟩
   | false =>
    clear ho9
    go_upto_region 9 with fail
    have HRD9 := hH (HRD.out.more (lim' := 20001) (by omega)); clear HRD; have HRD := HRD9; clear HRD9
    go_cut [49] from 43 to 48 (fun so wx => ∃ o9 : Bool, so = .bool o9 ∧ (o9 = true → 0 < L.length) ∧ s.At wx ∧ o.At wx ∧ (∀ b, s.bl b → w1.heap.size ≤ b ∧ ¬ b = w2.heap.size ∧ ¬ b = w2.heap.size + 1) ∧ (∀ b, o.bl b → w1.heap.size ≤ b ∧ ¬ b = w2.heap.size ∧ ¬ b = w2.heap.size + 1) ∧ Ints wx LA L.length L ∧ L.length ≤ 7 ∧ (∀ b, blk LA L.length b → w2.heap.size + 2 ≤ b) ∧ Rd wx g (20002) ∧ Box wx (w.heap.size) 27 zCS ∧ Box wx (w.heap.size + 1) 27 zCS ∧ Box wx (w2.heap.size) 27 (smC s) ∧ Box wx (w2.heap.size + 1) 27 (smC o) ∧ Keeps noBlk w wx ∧ w3.heap.size ≤ wx.heap.size)
    case first =>
     by_cases hL : 0 < L.length
     ·have hLb : decide ((0 : Int) < (L.length : Int)) = true := decide_eq_true (by omega)
      have hLn : decide (0 < L.length) = true := decide_eq_true hL; go_wp2_with fail; refine (pick_any g 20001 4 _ HRD.out (by omega) (by omega) (by omega)).mono ?_; rintro e w11 ⟨p, rfl, pa, pb, hrd, hk⟩; replace HBr := hH (HBr.out.keeps hk (nq (by omega))); replace HBq := hH (HBq.out.keeps hk (nq (by omega))); replace HBs := hH (HBs.out.keeps hk (nq (by omega))); replace HBo := hH (HBo.out.keeps hk (nq (by omega))); replace HS := hH (HS.out.keeps hk (fun b hb h => by have h' : b = g := h; have := (HGS.out b hb).1; omega)); replace HO := hH (HO.out.keeps hk (fun b hb h => by have h' : b = g := h; have := (HGO.out b hb).1; omega)); replace HL := hH (HL.out.keeps hk (fun b hb h => by have h' : b = g := h; have := HLG.out b hb; omega)); replace HRD := hH (hrd.more (lim' := 20002) (by omega)); replace HK := hH (HK.out.then hk (fun i hi h => by have h' : i = g := h; omega)); have s11 := hk.size; clear hk hrd; go_wp2_with fail
      go_meet
      exact ⟨_, rfl, fun _ => hL, HS.out, HO.out, HGS.out, HGO.out, HL.out, hln, HLG.out, HRD.out, HBr.out, HBq.out, HBs.out, HBo.out, HK.out, by omega⟩
     ·have hLb : decide ((0 : Int) < (L.length : Int)) = false := decide_eq_false (by omega)
      have hLn : decide (0 < L.length) = false := decide_eq_false hL; go_wp2_with fail
      go_meet
      exact ⟨false, rfl, fun h => (by cases h), HS.out, HO.out, HGS.out, HGO.out, HL.out, hln, HLG.out, HRD.out.more (by omega), HBr.out, HBq.out, HBs.out, HBo.out, HK.out, by omega⟩
    case rest =>
     obtain ⟨o9, rfl, ho9, hs, ho, hgs, hgo, hl, hln, hlg, hrd, hbr, hbq, hbs, hbo, hkk, hsz⟩ := hcut; clear HS HO HGS HGO HL HLG HRD HBr HBq HBs HBo HK; have HS := hH hs; have HO := hH ho; have HGS := hH hgs; have HGO := hH hgo; have HL := hH hl; have HLG := hH hlg; have HRD := hH hrd; have HBr := hH hbr; have HBq := hH hbq; have HBs := hH hbs; have HBo := hH hbo; have HK := hH hkk; clear hs ho hgs hgo hl hlg hrd hbr hbq hbs hbo hkk; obtain ⟨w12, hww⟩ : ∃ x, x = wc := ⟨_, rfl⟩; subst hww
     have : ¬ w.heap.size = w2.heap.size := by omega
     have : ¬ w2.heap.size = w.heap.size := by omega
     have : ¬ w.heap.size = w2.heap.size + 1 := by omega
     have : ¬ w2.heap.size + 1 = w.heap.size := by omega
     have : ¬ w.heap.size + 1 = w2.heap.size := by omega
     have : ¬ w2.heap.size = w.heap.size + 1 := by omega
     have : ¬ w.heap.size + 1 = w2.heap.size + 1 := by omega
     have : ¬ w2.heap.size + 1 = w.heap.size + 1 := by omega
     have : ¬ w.heap.size = w.heap.size + 1 := by omega
     have : ¬ w.heap.size + 1 = w.heap.size := by omega
     have hb := HBs.out; obtain ⟨a0, a1, a2, a3, a4, a5, a6⟩ := hb.cells7; have za := hb.lt; clear hb; have hb := HBo.out; obtain ⟨b0, b1, b2, b3, b4, b5, b6⟩ := hb.cells7; have zb := hb.lt; clear hb; have hb := HBr.out; obtain ⟨r0, r1, r2, r3, r4, r5, r6⟩ := hb.cells7; obtain ⟨rf0, rf1, rf2, rf3, rf4, rf5, rf6⟩ := hb.fz7; have zr := hb.lt; clear hb; have hb := HBq.out; obtain ⟨q0, q1, q2, q3, q4, q5, q6⟩ := hb.cells7; obtain ⟨qf0, qf1, qf2, qf3, qf4, qf5, qf6⟩ := hb.fz7; have zq := hb.lt; clear hb
     cases o9 with
     | true =>
      have hL := ho9 rfl; clear ho9
      have hLi : (L.length : Int) ≤ 7 := by omega
      obtain ⟨pv, pv0, pvn, hpd⟩ := pick_det g 20002 (L.length : Int) w12 HRD.out (by omega) (by omega) (by omega); obtain ⟨pn, rfl⟩ := Int.eq_ofNat_of_zero_le pv0; have HPD := hH hpd
      have hpn : pn < L.length := by omega
      have hip : (pn : Int) < (L.length : Int) := by omega
      clear hpd pv0 pvn; obtain ⟨bL, oL, rfl, hbL, d0⟩ := HL.out.at_ hpn
      have hbLg : ¬ bL = g := fun h => by have := HLG.out bL ⟨hL, _, rfl, rfl⟩; omega
      generalize L.getD pn 0 = vL at d0
      have : ¬ bL = w.heap.size := by have := HLG.out bL ⟨hL, _, rfl, rfl⟩; omega
      have : ¬ w.heap.size = bL := by have := HLG.out bL ⟨hL, _, rfl, rfl⟩; omega
      have : ¬ bL = w.heap.size + 1 := by have := HLG.out bL ⟨hL, _, rfl, rfl⟩; omega
      have : ¬ w.heap.size + 1 = bL := by have := HLG.out bL ⟨hL, _, rfl, rfl⟩; omega
      go_wp2_with fail
      go_region_held3 (fun w' => w'.cell? ⟨w2.heap.size, 0, none⟩ = some (.int .i64 s.x.way) ∧ w'.cell? ⟨w2.heap.size, 1, none⟩ = some (.int .i64 s.x.ver) ∧ w'.cell? ⟨w2.heap.size, 2, none⟩ = some (.int .i64 s.x.want) ∧ w'.cell? ⟨w2.heap.size, 3, none⟩ = some (.slice s.A1 s.x.sent.length s.c1) ∧ w'.cell? ⟨w2.heap.size, 4, none⟩ = some (.slice s.A2 s.x.live.length s.c2) ∧ w'.cell? ⟨w2.heap.size, 5, none⟩ = some (.slice s.A3 s.x.back.length s.c3) ∧ w'.cell? ⟨w2.heap.size, 6, none⟩ = some (.slice s.A4 s.x.got.length s.c4) ∧ w'.cell? ⟨w2.heap.size + 1, 0, none⟩ = some (.int .i64 o.x.way) ∧ w'.cell? ⟨w2.heap.size + 1, 1, none⟩ = some (.int .i64 o.x.ver) ∧ w'.cell? ⟨w2.heap.size + 1, 2, none⟩ = some (.int .i64 o.x.want) ∧ w'.cell? ⟨w2.heap.size + 1, 3, none⟩ = some (.slice o.A1 o.x.sent.length o.c1) ∧ w'.cell? ⟨w2.heap.size + 1, 4, none⟩ = some (.slice o.A2 o.x.live.length o.c2) ∧ w'.cell? ⟨w2.heap.size + 1, 5, none⟩ = some (.slice o.A3 o.x.back.length o.c3) ∧ w'.cell? ⟨w2.heap.size + 1, 6, none⟩ = some (.slice o.A4 o.x.got.length o.c4) ∧ w'.cell? ⟨bL, oL + pn, none⟩ = some (.int .i64 vL))
       (((try dsimp only); (repeat' apply And.intro) <;> (first | with_reducible assumption | (go_keep; done) | ((repeat rw [World.cell?_setCell_other _ _ _ _ (by intro e; injection e with e _; omega)]); with_reducible assumption))))
       (first | (go_at_call 43; refine (HPD.out _ ((Keeps.refl noBlk w12).drewN 1)).mono ?_; rintro e v1 ⟨rfl, hrd, hk⟩; have HQ1 := hH (((Keeps.refl (one g) w12).drewN 1).trans hk); have sq1 := HQ1.out.size; (try simp at sq1); have hb := HBs.out.keeps HQ1.out (nq (by omega)); obtain ⟨a_0, a_1, a_2, a_3, a_4, a_5, a_6⟩ := hb.cells7; have a_z := hb.lt; clear hb; have hb := HBo.out.keeps HQ1.out (nq (by omega)); obtain ⟨b_0, b_1, b_2, b_3, b_4, b_5, b_6⟩ := hb.cells7; have b_z := hb.lt; clear hb; have hb := HBr.out.keeps HQ1.out (nq (by omega)); obtain ⟨r_0, r_1, r_2, r_3, r_4, r_5, r_6⟩ := hb.cells7; obtain ⟨r_f0, r_f1, r_f2, r_f3, r_f4, r_f5, r_f6⟩ := hb.fz7; have r_z := hb.lt; clear hb; have hb := HBq.out.keeps HQ1.out (nq (by omega)); obtain ⟨q_0, q_1, q_2, q_3, q_4, q_5, q_6⟩ := hb.cells7; obtain ⟨q_f0, q_f1, q_f2, q_f3, q_f4, q_f5, q_f6⟩ := hb.fz7; have q_z := hb.lt; clear hb; have dL := (HQ1.out.cell hbL (fun h => hbLg h)).trans d0; clear hrd hk))
      clear a0 a1 a2 a3 a4 a5 a6 za b0 b1 b2 b3 b4 b5 b6 zb r0 r1 r2 r3 r4 r5 r6 rf0 rf1 rf2 rf3 rf4 rf5 rf6 zr q0 q1 q2 q3 q4 q5 q6 qf0 qf1 qf2 qf3 qf4 qf5 qf6 zq
      all_goals
       go_wp2; replace HBr := hH (HBr.out.keeps HQ1.out (nq (by omega))); replace HBq := hH (HBq.out.keeps HQ1.out (nq (by omega))); replace HS := hH (HS.out.keeps HQ1.out (fun b hb h => by have h' : b = g := h; have := (HGS.out b hb).1; omega)); replace HO := hH (HO.out.keeps HQ1.out (fun b hb h => by have h' : b = g := h; have := (HGO.out b hb).1; omega)); replace HK := hH (HK.out.then HQ1.out (fun i hi h => by have h' : i = g := h; omega)); clear a_0 a_1 a_2 a_3 a_4 a_5 a_6 a_z b_0 b_1 b_2 b_3 b_4 b_5 b_6 b_z r_0 r_1 r_2 r_3 r_4 r_5 r_6 r_z q_0 q_1 q_2 q_3 q_4 q_5 q_6 q_z r_f0 r_f1 r_f2 r_f3 r_f4 r_f5 r_f6 q_f0 q_f1 q_f2 q_f3 q_f4 q_f5 q_f6; have kF0 := stW_keeps v1 (w.heap.size) s; have bQ := HBq.out.keeps kF0 (nq (by omega)); have kF1 := stW_keeps (stW v1 (w.heap.size) s) (w.heap.size + 1) o; have hr0 := (stW_box HBr.out s).keeps kF1 (nq (by omega)); have hq0 := stW_box bQ o; have s0 := hr0.cell 0; have q0 := hq0.cell 0; have s1 := hr0.cell 1; have q1 := hq0.cell 1; have s2 := hr0.cell 2; have q2 := hq0.cell 2; have s3 := hr0.cell 3; have q3 := hq0.cell 3; have s4 := hr0.cell 4; have q4 := hq0.cell 4; have s5 := hr0.cell 5; have q5 := hq0.cell 5; have s6 := hr0.cell 6; have q6 := hq0.cell 6; simp at s0 q0 s1 q1 s2 q2 s3 q3 s4 q4 s5 q5 s6 q6; have a1 := (HS.out.keeps kF0 (fun b hb h => by have h' : b = w.heap.size := h; have := (HGS.out b hb).1; omega)).keeps kF1 (fun b hb h => by have h' : b = w.heap.size + 1 := h; have := (HGS.out b hb).1; omega); have a2 := (HO.out.keeps kF0 (fun b hb h => by have h' : b = w.heap.size := h; have := (HGO.out b hb).1; omega)).keeps kF1 (fun b hb h => by have h' : b = w.heap.size + 1 := h; have := (HGO.out b hb).1; omega)
       have kF := (HK.out.then kF0 fun i hi h => by have h' : i = w.heap.size := h; omega).then kF1 (fun i hi h => by have h' : i = w.heap.size + 1 := h; omega)
       clear hr0 hq0 bQ kF0 kF1; change bodyPost _ _ _ _ _ (stW (stW v1 (w.heap.size) s) (w.heap.size + 1) o); generalize stW (stW v1 (w.heap.size) s) (w.heap.size + 1) o = WF at a1 a2 kF s0 q0 s1 q1 s2 q2 s3 q3 s4 q4 s5 q5 s6 q6 ⊢; refine bodyPost_ret (v := .tuple #[s.val, o.val, .int .i64 vL]) (by simp [results, Tryd.results34, go_sem, StM.val, s0, q0, s1, q1, s2, q2, s3, q3, s4, q4, s5, q5, s6, q6]) rfl ?_; exact ⟨s, o, vL, rfl, a1, a2, fun b hb => by have := (HGS.out b hb).1; omega, fun b hb => by have := (HGO.out b hb).1; omega, kF⟩
     | false =>
      go_wp2_with fail
      go_region_held3 (fun w' => w'.cell? ⟨w2.heap.size, 0, none⟩ = some (.int .i64 s.x.way) ∧ w'.cell? ⟨w2.heap.size, 1, none⟩ = some (.int .i64 s.x.ver) ∧ w'.cell? ⟨w2.heap.size, 2, none⟩ = some (.int .i64 s.x.want) ∧ w'.cell? ⟨w2.heap.size, 3, none⟩ = some (.slice s.A1 s.x.sent.length s.c1) ∧ w'.cell? ⟨w2.heap.size, 4, none⟩ = some (.slice s.A2 s.x.live.length s.c2) ∧ w'.cell? ⟨w2.heap.size, 5, none⟩ = some (.slice s.A3 s.x.back.length s.c3) ∧ w'.cell? ⟨w2.heap.size, 6, none⟩ = some (.slice s.A4 s.x.got.length s.c4) ∧ w'.cell? ⟨w2.heap.size + 1, 0, none⟩ = some (.int .i64 o.x.way) ∧ w'.cell? ⟨w2.heap.size + 1, 1, none⟩ = some (.int .i64 o.x.ver) ∧ w'.cell? ⟨w2.heap.size + 1, 2, none⟩ = some (.int .i64 o.x.want) ∧ w'.cell? ⟨w2.heap.size + 1, 3, none⟩ = some (.slice o.A1 o.x.sent.length o.c1) ∧ w'.cell? ⟨w2.heap.size + 1, 4, none⟩ = some (.slice o.A2 o.x.live.length o.c2) ∧ w'.cell? ⟨w2.heap.size + 1, 5, none⟩ = some (.slice o.A3 o.x.back.length o.c3) ∧ w'.cell? ⟨w2.heap.size + 1, 6, none⟩ = some (.slice o.A4 o.x.got.length o.c4))
       (((try dsimp only); (repeat' apply And.intro) <;> (first | with_reducible assumption | (go_keep; done) | ((repeat rw [World.cell?_setCell_other _ _ _ _ (by intro e; injection e with e _; omega)]); with_reducible assumption))))
       (first | (go_at_call 43; refine (pick_any g 20002 9 _ (HRD.out.drewN 1) (by omega) (by omega) (by omega)).mono ?_; rintro e v1 ⟨p9, rfl, pa9, pb9, hrd, hk⟩; have HQ1 := hH (((Keeps.refl (one g) w12).drewN 1).trans hk); have sq1 := HQ1.out.size; (try simp at sq1); have hb := HBs.out.keeps HQ1.out (nq (by omega)); obtain ⟨a_0, a_1, a_2, a_3, a_4, a_5, a_6⟩ := hb.cells7; have a_z := hb.lt; clear hb; have hb := HBo.out.keeps HQ1.out (nq (by omega)); obtain ⟨b_0, b_1, b_2, b_3, b_4, b_5, b_6⟩ := hb.cells7; have b_z := hb.lt; clear hb; have hb := HBr.out.keeps HQ1.out (nq (by omega)); obtain ⟨r_0, r_1, r_2, r_3, r_4, r_5, r_6⟩ := hb.cells7; obtain ⟨r_f0, r_f1, r_f2, r_f3, r_f4, r_f5, r_f6⟩ := hb.fz7; have r_z := hb.lt; clear hb; have hb := HBq.out.keeps HQ1.out (nq (by omega)); obtain ⟨q_0, q_1, q_2, q_3, q_4, q_5, q_6⟩ := hb.cells7; obtain ⟨q_f0, q_f1, q_f2, q_f3, q_f4, q_f5, q_f6⟩ := hb.fz7; have q_z := hb.lt; clear hb; clear hrd hk))
      clear a0 a1 a2 a3 a4 a5 a6 za b0 b1 b2 b3 b4 b5 b6 zb r0 r1 r2 r3 r4 r5 r6 rf0 rf1 rf2 rf3 rf4 rf5 rf6 zr q0 q1 q2 q3 q4 q5 q6 qf0 qf1 qf2 qf3 qf4 qf5 qf6 zq
      all_goals
       go_wp2; replace HBr := hH (HBr.out.keeps HQ1.out (nq (by omega))); replace HBq := hH (HBq.out.keeps HQ1.out (nq (by omega))); replace HS := hH (HS.out.keeps HQ1.out (fun b hb h => by have h' : b = g := h; have := (HGS.out b hb).1; omega)); replace HO := hH (HO.out.keeps HQ1.out (fun b hb h => by have h' : b = g := h; have := (HGO.out b hb).1; omega)); replace HK := hH (HK.out.then HQ1.out (fun i hi h => by have h' : i = g := h; omega)); clear a_0 a_1 a_2 a_3 a_4 a_5 a_6 a_z b_0 b_1 b_2 b_3 b_4 b_5 b_6 b_z r_0 r_1 r_2 r_3 r_4 r_5 r_6 r_z q_0 q_1 q_2 q_3 q_4 q_5 q_6 q_z r_f0 r_f1 r_f2 r_f3 r_f4 r_f5 r_f6 q_f0 q_f1 q_f2 q_f3 q_f4 q_f5 q_f6; have kF0 := stW_keeps v1 (w.heap.size) s; have bQ := HBq.out.keeps kF0 (nq (by omega)); have kF1 := stW_keeps (stW v1 (w.heap.size) s) (w.heap.size + 1) o; have hr0 := (stW_box HBr.out s).keeps kF1 (nq (by omega)); have hq0 := stW_box bQ o; have s0 := hr0.cell 0; have q0 := hq0.cell 0; have s1 := hr0.cell 1; have q1 := hq0.cell 1; have s2 := hr0.cell 2; have q2 := hq0.cell 2; have s3 := hr0.cell 3; have q3 := hq0.cell 3; have s4 := hr0.cell 4; have q4 := hq0.cell 4; have s5 := hr0.cell 5; have q5 := hq0.cell 5; have s6 := hr0.cell 6; have q6 := hq0.cell 6; simp at s0 q0 s1 q1 s2 q2 s3 q3 s4 q4 s5 q5 s6 q6; have a1 := (HS.out.keeps kF0 (fun b hb h => by have h' : b = w.heap.size := h; have := (HGS.out b hb).1; omega)).keeps kF1 (fun b hb h => by have h' : b = w.heap.size + 1 := h; have := (HGS.out b hb).1; omega); have a2 := (HO.out.keeps kF0 (fun b hb h => by have h' : b = w.heap.size := h; have := (HGO.out b hb).1; omega)).keeps kF1 (fun b hb h => by have h' : b = w.heap.size + 1 := h; have := (HGO.out b hb).1; omega)
       have kF := (HK.out.then kF0 fun i hi h => by have h' : i = w.heap.size := h; omega).then kF1 (fun i hi h => by have h' : i = w.heap.size + 1 := h; omega)
       clear hr0 hq0 bQ kF0 kF1; change bodyPost _ _ _ _ _ (stW (stW v1 (w.heap.size) s) (w.heap.size + 1) o); generalize stW (stW v1 (w.heap.size) s) (w.heap.size + 1) o = WF at a1 a2 kF s0 q0 s1 q1 s2 q2 s3 q3 s4 q4 s5 q5 s6 q6 ⊢; refine bodyPost_ret (v := .tuple #[s.val, o.val, .int .i64 p9]) (by simp [results, Tryd.results34, go_sem, StM.val, s0, q0, s1, q1, s2, q2, s3, q3, s4, q4, s5, q5, s6, q6]) rfl ?_; exact ⟨s, o, p9, rfl, a1, a2, fun b hb => by have := (HGS.out b hb).1; omega, fun b hb => by have := (HGO.out b hb).1; omega, kF⟩

end Go.Proofs.YtjcbeihoeanhaaaDoor
