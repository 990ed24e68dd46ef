/- l21Chain of the model: what happens on a chain. -/
import Derived.Test.YtjcbeihoeanhaaaDoorURel
set_option maxHeartbeats 4000000
set_option maxRecDepth 100000
set_option linter.unusedVariables false
set_option linter.unusedSimpArgs false
namespace Go.Proofs.YtjcbeihoeanhaaaDoor
open Go.RowKit

theorem blk_own9 {A : Option Addr} {n c b : Nat} (h : blk A n b) : (Value.slice A n c).ownBlock = some b := by
 obtain ⟨_, a, rfl, rfl⟩ := h
 rfl
theorem bank_new {G0 : Nat → Nat} {i : Nat} {W0 w1 : World} {c : ChM} {own notes : List Int} {lk : Int} {A1 A2 : Option Addr} {c1 c2 : Nat} (hC : ChR G0 i W0 c) (hk : Keeps noBlk W0 w1) (r1 : Row w1 W0.heap.size A1 own.length own) (r2 : Row w1 W0.heap.size A2 notes.length notes)
  (hd : ∀ b, blk A1 own.length b → ¬ blk A2 notes.length b) (hn : 0 < own.length) : ∃ G1 : Nat → Nat, (∀ b, b < W0.heap.size → G1 b = G0 b) ∧ ChR G1 i w1 { c with bk := ⟨⟨own, notes, lk⟩, A1, A2, c1, c2⟩ } := by
 refine ⟨fun b => if b < W0.heap.size then G0 b else if (Value.slice A1 own.length c1).ownBlock = some b then rl i 4 else rl i 5, fun b hb => by simp only [if_pos hb], ?_⟩
 have hC1 := (hC.ext (G' := fun b => if b < W0.heap.size then G0 b else if (Value.slice A1 own.length c1).ownBlock = some b then rl i 4 else rl i 5) fun b hb => by simp only [if_pos hb]).kept hk
 refine ⟨⟨⟨r1.less (Nat.zero_le _), fun b hb => ?_⟩, r2.less (Nat.zero_le _), fun b hb => ?_⟩, hC1.2⟩
 ·have := r1.ge hb
  dsimp only
  rw [if_neg (by omega), if_pos (blk_own9 hb)]
 ·have := r2.ge hb
  dsimp only
  rw [if_neg (by omega), if_neg]
  intro e
  cases A1 with
  | none => cases e
  | some a =>
   injection e with e
   exact hd b ⟨hn, a, rfl, e⟩ hb
theorem l21Chain_move (G : Nat → Nat) (i j : Nat) (c d : ChM) (ch h n : Int) (p : Pk) (w : World) (hc : ChR G i w c) (hd : ChR G j w d) (hkl : c.knows.length ≤ 1000) (oc : ChOk c) (od : ChOk d) (hL : c.bk.b.locked ≤ 9223372036854775807) (hm : moveOk c.bk.b p.k p.f p.t p.m = true) (hb : okB (moved c.bk.b p.k p.f p.t p.m) = true) :
  Calls Tryd.prog 84 #[c.val, d.val, Ev.val ⟨8, ch, h, n, p⟩] w (RetCh G i w (fun c' => ∃ b A1 A2 k1 k2, okB b = true ∧ c' = { c with bk := ⟨b, A1, A2, k1, k2⟩ })) := by
 have hc := hc.ext (G' := up G w.heap.size 0) fun b hb => up_old hb
 have HG := hH (show ∀ b, w.heap.size ≤ b → up G w.heap.size 0 b = 0 from fun b hb => up_new hb)
 have HG' := hH (show ∀ b, b < w.heap.size → up G w.heap.size 0 b = G b from fun b hb => up_old hb)
 generalize up G w.heap.size 0 = G0 at hc HG HG'
 have HCL := hH (fun W (hk : Keeps noBlk w W) => (show Calls Tryd.prog 91 #[c.bk.val, .int .i64 p.k, .int .i64 p.f, .int .i64 p.t, .int .i64 p.m] W (RetB2 W (moveOk c.bk.b p.k p.f p.t p.m) (moved c.bk.b p.k p.f p.t p.m)) from specMove_any c.bk.A1 c.bk.A2 _ _ c.bk.c1 c.bk.c2 c.bk.b.locked c.bk.b.own c.bk.b.notes W (hc.kept hk).1.1.1.ints (hc.kept hk).1.2.1.ints (by have := (okB_len oc.bank).1; unfold maxLen; omega) (by have := (okB_len oc.bank).2; unfold maxLen; omega) hL p.k p.f p.t p.m))
 rw [hm] at HCL
 have HC := hH hc
 generalize moved c.bk.b p.k p.f p.t p.m = b' at HCL hb
 obtain ⟨own', notes', lk'⟩ := b'
 have HOB := hH hb
 clear hc hd hkl oc od hm hL hb
 unfold BkM.val at HCL
 have HBC := hH (((((Box.new w (w.heap.size) (by simp) 94 (chC c)).alloc (.cells (chC d) 94)).alloc (.cells (evC 8 ch h n p) 102)).alloc (.cells zC13 94)).alloc (.cells (pkC p) 29))
 have HBO := hH ((((Box.new (w.alloc (.cells (chC c) 94)) (w.heap.size + 1) (by simp) 94 (chC d)).alloc (.cells (evC 8 ch h n p) 102)).alloc (.cells zC13 94)).alloc (.cells (pkC p) 29))
 have HBE := hH (((Box.new ((w.alloc (.cells (chC c) 94)).alloc (.cells (chC d) 94)) (w.heap.size + 1 + 1) (by simp) 102 (evC 8 ch h n p)).alloc (.cells zC13 94)).alloc (.cells (pkC p) 29))
 have HBZ := hH ((Box.new (((w.alloc (.cells (chC c) 94)).alloc (.cells (chC d) 94)).alloc (.cells (evC 8 ch h n p) 102)) (w.heap.size + 1 + 1 + 1) (by simp) 94 zC13).alloc (.cells (pkC p) 29))
 have HBP := hH (Box.new ((((w.alloc (.cells (chC c) 94)).alloc (.cells (chC d) 94)).alloc (.cells (evC 8 ch h n p) 102)).alloc (.cells zC13 94)) (w.heap.size + 1 + 1 + 1 + 1) (by simp) 29 (pkC p))
 have HK := hH ((((((Keeps.refl (noBlk) w).alloc (.cells (chC c) 94)).alloc (.cells (chC d) 94)).alloc (.cells (evC 8 ch h n p) 102)).alloc (.cells zC13 94)).alloc (.cells (pkC p) 29))
 have hsz : w.heap.size + 5 ≤ (((((w.alloc (.cells (chC c) 94)).alloc (.cells (chC d) 94)).alloc (.cells (evC 8 ch h n p) 102)).alloc (.cells zC13 94)).alloc (.cells (pkC p) 29)).heap.size := by simp
 have hs0 : w.heap.size + 5 = (((((w.alloc (.cells (chC c) 94)).alloc (.cells (chC d) 94)).alloc (.cells (evC 8 ch h n p) 102)).alloc (.cells zC13 94)).alloc (.cells (pkC p) 29)).heap.size := by simp
 unfold ChM.val Ev.val
 dsimp only
 go_enter Tryd.func84, Tryd.ntmps84
 go_wp2_with fail
 refine (HCL.out _ HK.out).mono ?_
 rintro e w1 (⟨_, v, rfl, ⟨A1, n1, c1, A2, n2, c2, rfl, r1, r2, hdis, -⟩, hk1⟩ | ⟨h0, _⟩)
 rotate_left
 ·cases h0
 obtain rfl : own'.length = n1 := r1.1.1
 obtain rfl : notes'.length = n2 := r2.1.1
 have hbz := HBZ.out.keeps hk1 (fun h => h)
 have hbc := HBC.out.keeps hk1 (fun h => h)
 have z0 := hbz.cell 0
 have zf0 := hbz.frozen 0
 have x0 := hbc.cell 0
 have xf0 := hbc.frozen 0
 have z1 := hbz.cell 1
 have zf1 := hbz.frozen 1
 have x1 := hbc.cell 1
 have xf1 := hbc.frozen 1
 have z2 := hbz.cell 2
 have zf2 := hbz.frozen 2
 have x2 := hbc.cell 2
 have xf2 := hbc.frozen 2
 have z3 := hbz.cell 3
 have zf3 := hbz.frozen 3
 have x3 := hbc.cell 3
 have xf3 := hbc.frozen 3
 have z4 := hbz.cell 4
 have zf4 := hbz.frozen 4
 have x4 := hbc.cell 4
 have xf4 := hbc.frozen 4
 have z5 := hbz.cell 5
 have zf5 := hbz.frozen 5
 have x5 := hbc.cell 5
 have xf5 := hbc.frozen 5
 have z6 := hbz.cell 6
 have zf6 := hbz.frozen 6
 have x6 := hbc.cell 6
 have xf6 := hbc.frozen 6
 have z7 := hbz.cell 7
 have zf7 := hbz.frozen 7
 have x7 := hbc.cell 7
 have xf7 := hbc.frozen 7
 have z8 := hbz.cell 8
 have zf8 := hbz.frozen 8
 have x8 := hbc.cell 8
 have xf8 := hbc.frozen 8
 have z9 := hbz.cell 9
 have zf9 := hbz.frozen 9
 have x9 := hbc.cell 9
 have xf9 := hbc.frozen 9
 have z10 := hbz.cell 10
 have zf10 := hbz.frozen 10
 have x10 := hbc.cell 10
 have xf10 := hbc.frozen 10
 have z11 := hbz.cell 11
 have zf11 := hbz.frozen 11
 have x11 := hbc.cell 11
 have xf11 := hbc.frozen 11
 have z12 := hbz.cell 12
 have zf12 := hbz.frozen 12
 have x12 := hbc.cell 12
 have xf12 := hbc.frozen 12
 simp at z0 x0 z1 x1 z2 x2 z3 x3 z4 x4 z5 x5 z6 x6 z7 x7 z8 x8 z9 x9 z10 x10 z11 x11 z12 x12
 have zz := hbz.lt
 have zx := hbc.lt
 have HR1 := hH r1
 have HR2 := hH r2
 have HDI := hH hdis
 clear r1 r2 hdis
 have HK1 := hH hk1
 clear hbz hbc hk1 HBC HBO HBE HBZ HBP HCL
 have : w.heap.size < w1.heap.size + 1 := by omega
 have : ¬ w.heap.size = w1.heap.size := by omega
 have : ¬ w1.heap.size = w.heap.size := by omega
 have : w.heap.size + 1 + 1 + 1 < w1.heap.size + 1 := by omega
 have : ¬ w.heap.size + 1 + 1 + 1 = w1.heap.size := by omega
 have : ¬ w1.heap.size = w.heap.size + 1 + 1 + 1 := by omega
 go_wp2
 refine bodyPost_ret (v := .agg #[.int .i64 c.id, .slice A1 own'.length c1, .slice A2 notes'.length c2, .int .i64 lk', .int .i64 c.st.x.way, .int .i64 c.st.x.ver, .int .i64 c.st.x.want, .slice c.st.A1 c.st.x.sent.length c.st.c1, .slice c.st.A2 c.st.x.live.length c.st.c2, .slice c.st.A3 c.st.x.back.length c.st.c3, .slice c.st.A4 c.st.x.got.length c.st.c4, .slice c.pA c.past.length c.pc, .slice c.kA c.knows.length c.kc]) (by simp [results, Tryd.results84, go_sem, *]) rfl ?_
 obtain ⟨G1, hG1, hC1⟩ := bank_new (c1 := c1) (c2 := c2) (lk := lk') (HC.out.kept HK.out) HK1.out HR1.out HR2.out HDI.out (by have := (okB_len HOB.out).1; dsimp only at this; omega)
 exact ch_turnP (c := { c with bk := ⟨⟨own', notes', lk'⟩, A1, A2, c1, c2⟩ }) ⟨_, A1, A2, c1, c2, HOB.out, rfl⟩ HG'.out HK.out hG1 hC1 (HK1.out.more fun _ _ h => h.elim) (fun b h h' => (hG1 b h').trans (HG.out b h)) (((((Keeps.refl (fun b => w.heap.size ≤ b ∧ b < (((((w.alloc (.cells (chC c) 94)).alloc (.cells (chC d) 94)).alloc (.cells (evC 8 ch h n p) 102)).alloc (.cells zC13 94)).alloc (.cells (pkC p) 29)).heap.size) w1)).put3 (w.heap.size) (.inr ⟨by first | omega | (dsimp only; omega), by first | omega | (dsimp only; omega)⟩)).put13 (w.heap.size + 1 + 1 + 1) (.inr ⟨by first | omega | (dsimp only; omega), by first | omega | (dsimp only; omega)⟩)).alloc _)
theorem l21Chain_stay (G : Nat → Nat) (i j : Nat) (c d : ChM) (ch h n : Int) (p : Pk) (w : World) (hc : ChR G i w c) (hd : ChR G j w d) (hkl : c.knows.length ≤ 1000) (oc : ChOk c) (od : ChOk d) (hL : c.bk.b.locked ≤ 9223372036854775807) (hm : moveOk c.bk.b p.k p.f p.t p.m = false) :
  Calls Tryd.prog 84 #[c.val, d.val, Ev.val ⟨8, ch, h, n, p⟩] w (RetCh G i w (fun c' => c' = c)) := by
 have hc := hc.ext (G' := up G w.heap.size 0) fun b hb => up_old hb
 have HG := hH (show ∀ b, w.heap.size ≤ b → up G w.heap.size 0 b = 0 from fun b hb => up_new hb)
 have HG' := hH (show ∀ b, b < w.heap.size → up G w.heap.size 0 b = G b from fun b hb => up_old hb)
 generalize up G w.heap.size 0 = G0 at hc HG HG'
 have HCL := hH (fun W (hk : Keeps noBlk w W) => (show Calls Tryd.prog 91 #[c.bk.val, .int .i64 p.k, .int .i64 p.f, .int .i64 p.t, .int .i64 p.m] W (RetB2 W (moveOk c.bk.b p.k p.f p.t p.m) (moved c.bk.b p.k p.f p.t p.m)) from specMove_any c.bk.A1 c.bk.A2 _ _ c.bk.c1 c.bk.c2 c.bk.b.locked c.bk.b.own c.bk.b.notes W (hc.kept hk).1.1.1.ints (hc.kept hk).1.2.1.ints (by have := (okB_len oc.bank).1; unfold maxLen; omega) (by have := (okB_len oc.bank).2; unfold maxLen; omega) hL p.k p.f p.t p.m))
 rw [hm] at HCL
 have HC := hH hc
 clear hc hd hkl oc od hm hL
 unfold BkM.val at HCL
 have HBC := hH (((((Box.new w (w.heap.size) (by simp) 94 (chC c)).alloc (.cells (chC d) 94)).alloc (.cells (evC 8 ch h n p) 102)).alloc (.cells zC13 94)).alloc (.cells (pkC p) 29))
 have HBO := hH ((((Box.new (w.alloc (.cells (chC c) 94)) (w.heap.size + 1) (by simp) 94 (chC d)).alloc (.cells (evC 8 ch h n p) 102)).alloc (.cells zC13 94)).alloc (.cells (pkC p) 29))
 have HBE := hH (((Box.new ((w.alloc (.cells (chC c) 94)).alloc (.cells (chC d) 94)) (w.heap.size + 1 + 1) (by simp) 102 (evC 8 ch h n p)).alloc (.cells zC13 94)).alloc (.cells (pkC p) 29))
 have HBZ := hH ((Box.new (((w.alloc (.cells (chC c) 94)).alloc (.cells (chC d) 94)).alloc (.cells (evC 8 ch h n p) 102)) (w.heap.size + 1 + 1 + 1) (by simp) 94 zC13).alloc (.cells (pkC p) 29))
 have HBP := hH (Box.new ((((w.alloc (.cells (chC c) 94)).alloc (.cells (chC d) 94)).alloc (.cells (evC 8 ch h n p) 102)).alloc (.cells zC13 94)) (w.heap.size + 1 + 1 + 1 + 1) (by simp) 29 (pkC p))
 have HK := hH ((((((Keeps.refl (noBlk) w).alloc (.cells (chC c) 94)).alloc (.cells (chC d) 94)).alloc (.cells (evC 8 ch h n p) 102)).alloc (.cells zC13 94)).alloc (.cells (pkC p) 29))
 have hsz : w.heap.size + 5 ≤ (((((w.alloc (.cells (chC c) 94)).alloc (.cells (chC d) 94)).alloc (.cells (evC 8 ch h n p) 102)).alloc (.cells zC13 94)).alloc (.cells (pkC p) 29)).heap.size := by simp
 have hs0 : w.heap.size + 5 = (((((w.alloc (.cells (chC c) 94)).alloc (.cells (chC d) 94)).alloc (.cells (evC 8 ch h n p) 102)).alloc (.cells zC13 94)).alloc (.cells (pkC p) 29)).heap.size := by simp
 unfold ChM.val Ev.val
 dsimp only
 go_enter Tryd.func84, Tryd.ntmps84
 go_wp2_with fail
 refine (HCL.out _ HK.out).mono ?_
 rintro e w1 (⟨h0, _⟩ | ⟨_, rfl, hk1⟩)
 ·cases h0
 unfold noBank
 have hbz := HBZ.out.keeps hk1 (fun h => h)
 have hbc := HBC.out.keeps hk1 (fun h => h)
 have z0 := hbz.cell 0
 have zf0 := hbz.frozen 0
 have x0 := hbc.cell 0
 have xf0 := hbc.frozen 0
 have z1 := hbz.cell 1
 have zf1 := hbz.frozen 1
 have x1 := hbc.cell 1
 have xf1 := hbc.frozen 1
 have z2 := hbz.cell 2
 have zf2 := hbz.frozen 2
 have x2 := hbc.cell 2
 have xf2 := hbc.frozen 2
 have z3 := hbz.cell 3
 have zf3 := hbz.frozen 3
 have x3 := hbc.cell 3
 have xf3 := hbc.frozen 3
 have z4 := hbz.cell 4
 have zf4 := hbz.frozen 4
 have x4 := hbc.cell 4
 have xf4 := hbc.frozen 4
 have z5 := hbz.cell 5
 have zf5 := hbz.frozen 5
 have x5 := hbc.cell 5
 have xf5 := hbc.frozen 5
 have z6 := hbz.cell 6
 have zf6 := hbz.frozen 6
 have x6 := hbc.cell 6
 have xf6 := hbc.frozen 6
 have z7 := hbz.cell 7
 have zf7 := hbz.frozen 7
 have x7 := hbc.cell 7
 have xf7 := hbc.frozen 7
 have z8 := hbz.cell 8
 have zf8 := hbz.frozen 8
 have x8 := hbc.cell 8
 have xf8 := hbc.frozen 8
 have z9 := hbz.cell 9
 have zf9 := hbz.frozen 9
 have x9 := hbc.cell 9
 have xf9 := hbc.frozen 9
 have z10 := hbz.cell 10
 have zf10 := hbz.frozen 10
 have x10 := hbc.cell 10
 have xf10 := hbc.frozen 10
 have z11 := hbz.cell 11
 have zf11 := hbz.frozen 11
 have x11 := hbc.cell 11
 have xf11 := hbc.frozen 11
 have z12 := hbz.cell 12
 have zf12 := hbz.frozen 12
 have x12 := hbc.cell 12
 have xf12 := hbc.frozen 12
 simp at z0 x0 z1 x1 z2 x2 z3 x3 z4 x4 z5 x5 z6 x6 z7 x7 z8 x8 z9 x9 z10 x10 z11 x11 z12 x12
 have zz := hbz.lt
 have zx := hbc.lt
 have HK1 := hH hk1
 clear hbz hbc hk1 HBC HBO HBE HBZ HBP HCL
 have : w.heap.size < w1.heap.size + 1 := by omega
 have : ¬ w.heap.size = w1.heap.size := by omega
 have : ¬ w1.heap.size = w.heap.size := by omega
 have : w.heap.size + 1 + 1 + 1 < w1.heap.size + 1 := by omega
 have : ¬ w.heap.size + 1 + 1 + 1 = w1.heap.size := by omega
 have : ¬ w1.heap.size = w.heap.size + 1 + 1 + 1 := by omega
 go_wp2
 refine bodyPost_ret (v := .agg (chC c)) (by simp [results, Tryd.results84, go_sem, *]) rfl ?_
 exact ch_turnP (c := c) rfl HG'.out HK.out (fun _ _ => rfl) ((HC.out.kept HK.out).kept HK1.out) (HK1.out.more fun _ _ h => h.elim) (fun b h h' => HG.out b h) ((((Keeps.refl (fun b => w.heap.size ≤ b ∧ b < (((((w.alloc (.cells (chC c) 94)).alloc (.cells (chC d) 94)).alloc (.cells (evC 8 ch h n p) 102)).alloc (.cells zC13 94)).alloc (.cells (pkC p) 29)).heap.size) w1)).put13 (w.heap.size + 1 + 1 + 1) (.inr ⟨by first | omega | (dsimp only; omega), by first | omega | (dsimp only; omega)⟩)).alloc _)
end Go.Proofs.YtjcbeihoeanhaaaDoor
