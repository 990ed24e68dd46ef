/- l21Chain of the model: what happens on a chain. l21Chain of the model: what happens on a chain. l21Chain of the model: what happens on a chain. -/
import Derived.Test.YtjcbeihoeanhaaaDoorURel
set_option linter.unusedVariables false
set_option linter.unusedSimpArgs false
/-! GChB -/
set_option maxHeartbeats 4000000
set_option maxRecDepth 100000
namespace Go.Proofs.YtjcbeihoeanhaaaDoor
open Go.RowKit

theorem l21Chain_block (G : Nat → Nat) (i j : Nat) (c d : ChM) (ch h n : Int) (p : Pk) (w : World) (hc : ChR G i w c) (hd : ChR G j w d) (hkl : c.knows.length ≤ 1000) (oc : ChOk c) (od : ChOk d)  :
  Calls Tryd.prog 84 #[c.val, d.val, Ev.val ⟨1, ch, h, n, p⟩] w (RetCh G i w (blockP c)) := by
 have hc := hc.ext (G' := up G w.heap.size 0) fun b hb => up_old hb
 have hd := hd.ext (G' := up G w.heap.size 0) fun b hb => up_old hb
 have HG := hH (show ∀ b, w.heap.size ≤ b → up G w.heap.size 0 b = 0 from fun b hb => up_new hb)
 have HG' := hH (show ∀ b, b < w.heap.size → up G w.heap.size 0 b = G b from fun b hb => up_old hb)
 generalize up G w.heap.size 0 = G0 at hc hd HG HG'
 have HCL := hH (fun W (hk : Keeps noBlk w W) => (show Calls Tryd.prog 88 #[c.val] W (RetCh G0 i W (blockP c)) from l12Block_any G0 i c W (hc.kept hk) (fit_of_ok oc.st) (by have := oc.pl; omega)))
 have HC := hH hc
 clear hc hd hkl oc od
 unfold RetCh at HCL
 unfold ChM.val at HCL
 have HBC := hH (((((Box.new w (w.heap.size) (by simp) 94 (chC c)).alloc (.cells (chC d) 94)).alloc (.cells (evC 1 ch h n p) 102)).alloc (.cells zC13 94)).alloc (.cells (pkC p) 29))
 have HBO := hH ((((Box.new (w.alloc (.cells (chC c) 94)) (w.heap.size + 1) (by simp) 94 (chC d)).alloc (.cells (evC 1 ch h n p) 102)).alloc (.cells zC13 94)).alloc (.cells (pkC p) 29))
 have HBE := hH (((Box.new ((w.alloc (.cells (chC c) 94)).alloc (.cells (chC d) 94)) (w.heap.size + 1 + 1) (by simp) 102 (evC 1 ch h n p)).alloc (.cells zC13 94)).alloc (.cells (pkC p) 29))
 have HBZ := hH ((Box.new (((w.alloc (.cells (chC c) 94)).alloc (.cells (chC d) 94)).alloc (.cells (evC 1 ch h n p) 102)) (w.heap.size + 1 + 1 + 1) (by simp) 94 zC13).alloc (.cells (pkC p) 29))
 have HBP := hH (Box.new ((((w.alloc (.cells (chC c) 94)).alloc (.cells (chC d) 94)).alloc (.cells (evC 1 ch h n p) 102)).alloc (.cells zC13 94)) (w.heap.size + 1 + 1 + 1 + 1) (by simp) 29 (pkC p))
 have HK := hH ((((((Keeps.refl (noBlk) w).alloc (.cells (chC c) 94)).alloc (.cells (chC d) 94)).alloc (.cells (evC 1 ch h n p) 102)).alloc (.cells zC13 94)).alloc (.cells (pkC p) 29))
 have hsz : w.heap.size + 5 ≤ (((((w.alloc (.cells (chC c) 94)).alloc (.cells (chC d) 94)).alloc (.cells (evC 1 ch h n p) 102)).alloc (.cells zC13 94)).alloc (.cells (pkC p) 29)).heap.size := by simp
 have hs0 : w.heap.size + 5 = (((((w.alloc (.cells (chC c) 94)).alloc (.cells (chC d) 94)).alloc (.cells (evC 1 ch h n p) 102)).alloc (.cells zC13 94)).alloc (.cells (pkC p) 29)).heap.size := by simp
 unfold ChM.val Ev.val
 dsimp only
 go_enter Tryd.func84, Tryd.ntmps84
 go_wp2_with fail
 refine (HCL.out _ HK.out).mono ?_
 rintro e w1 ⟨G1, r, rfl, hP, hG1, hC1, hkc⟩
 skip
 have hbz := HBZ.out.keeps hkc (fun h => by obtain ⟨q, _, h⟩ := h; rw [HG.out _ (by omega)] at h; unfold rl at h; omega)
 have z0 := hbz.cell 0
 have zf0 := hbz.frozen 0
 have z1 := hbz.cell 1
 have zf1 := hbz.frozen 1
 have z2 := hbz.cell 2
 have zf2 := hbz.frozen 2
 have z3 := hbz.cell 3
 have zf3 := hbz.frozen 3
 have z4 := hbz.cell 4
 have zf4 := hbz.frozen 4
 have z5 := hbz.cell 5
 have zf5 := hbz.frozen 5
 have z6 := hbz.cell 6
 have zf6 := hbz.frozen 6
 have z7 := hbz.cell 7
 have zf7 := hbz.frozen 7
 have z8 := hbz.cell 8
 have zf8 := hbz.frozen 8
 have z9 := hbz.cell 9
 have zf9 := hbz.frozen 9
 have z10 := hbz.cell 10
 have zf10 := hbz.frozen 10
 have z11 := hbz.cell 11
 have zf11 := hbz.frozen 11
 have z12 := hbz.cell 12
 have zf12 := hbz.frozen 12
 simp at z0 z1 z2 z3 z4 z5 z6 z7 z8 z9 z10 z11 z12
 have zz := hbz.lt
 have HKC := hH hkc
 have HC1 := hH hC1
 have HG1 := hH hG1
 have HP := hH hP
 clear hbz hkc hC1 hG1 hP HBC HBO HBE HBZ HBP HCL
 go_wp2
 refine bodyPost_ret (v := .agg (chC r)) (by simp [results, Tryd.results84, go_sem, *]) rfl ?_
 exact ch_turnP HP.out HG'.out HK.out HG1.out HC1.out HKC.out (fun b h h' => (HG1.out b h').trans (HG.out b h)) (((Keeps.refl (fun b => w.heap.size ≤ b ∧ b < (((((w.alloc (.cells (chC c) 94)).alloc (.cells (chC d) 94)).alloc (.cells (evC 1 ch h n p) 102)).alloc (.cells zC13 94)).alloc (.cells (pkC p) 29)).heap.size) w1)).put13 (w.heap.size + 1 + 1 + 1) (.inr ⟨by first | omega | (dsimp only; omega), by first | omega | (dsimp only; omega)⟩))
set_option maxHeartbeats 4000000
set_option maxRecDepth 100000

theorem l21Chain_know (G : Nat → Nat) (i j : Nat) (c d : ChM) (ch h n : Int) (p : Pk) (w : World) (hc : ChR G i w c) (hd : ChR G j w d) (hkl : c.knows.length ≤ 1000) (oc : ChOk c) (od : ChOk d)  :
  Calls Tryd.prog 84 #[c.val, d.val, Ev.val ⟨2, ch, h, n, p⟩] w (RetCh G i w (knowP c d.past.length h)) := by
 have hc := hc.ext (G' := up G w.heap.size 0) fun b hb => up_old hb
 have hd := hd.ext (G' := up G w.heap.size 0) fun b hb => up_old hb
 have HG := hH (show ∀ b, w.heap.size ≤ b → up G w.heap.size 0 b = 0 from fun b hb => up_new hb)
 have HG' := hH (show ∀ b, b < w.heap.size → up G w.heap.size 0 b = G b from fun b hb => up_old hb)
 generalize up G w.heap.size 0 = G0 at hc hd HG HG'
 have HCL := hH (fun W (hk : Keeps noBlk w W) => (show Calls Tryd.prog 89 #[c.val, d.val, .int .i64 h] W (RetCh G0 i W (knowP c d.past.length h)) from (l21Know_any G0 i c d h W (hc.kept hk) hkl (by have := od.pl; omega)).mono fun _ _ h => h.ch))
 have HC := hH hc
 clear hc hd hkl oc od
 unfold RetCh at HCL
 unfold ChM.val at HCL
 have HBC := hH (((((Box.new w (w.heap.size) (by simp) 94 (chC c)).alloc (.cells (chC d) 94)).alloc (.cells (evC 2 ch h n p) 102)).alloc (.cells zC13 94)).alloc (.cells (pkC p) 29))
 have HBO := hH ((((Box.new (w.alloc (.cells (chC c) 94)) (w.heap.size + 1) (by simp) 94 (chC d)).alloc (.cells (evC 2 ch h n p) 102)).alloc (.cells zC13 94)).alloc (.cells (pkC p) 29))
 have HBE := hH (((Box.new ((w.alloc (.cells (chC c) 94)).alloc (.cells (chC d) 94)) (w.heap.size + 1 + 1) (by simp) 102 (evC 2 ch h n p)).alloc (.cells zC13 94)).alloc (.cells (pkC p) 29))
 have HBZ := hH ((Box.new (((w.alloc (.cells (chC c) 94)).alloc (.cells (chC d) 94)).alloc (.cells (evC 2 ch h n p) 102)) (w.heap.size + 1 + 1 + 1) (by simp) 94 zC13).alloc (.cells (pkC p) 29))
 have HBP := hH (Box.new ((((w.alloc (.cells (chC c) 94)).alloc (.cells (chC d) 94)).alloc (.cells (evC 2 ch h n p) 102)).alloc (.cells zC13 94)) (w.heap.size + 1 + 1 + 1 + 1) (by simp) 29 (pkC p))
 have HK := hH ((((((Keeps.refl (noBlk) w).alloc (.cells (chC c) 94)).alloc (.cells (chC d) 94)).alloc (.cells (evC 2 ch h n p) 102)).alloc (.cells zC13 94)).alloc (.cells (pkC p) 29))
 have hsz : w.heap.size + 5 ≤ (((((w.alloc (.cells (chC c) 94)).alloc (.cells (chC d) 94)).alloc (.cells (evC 2 ch h n p) 102)).alloc (.cells zC13 94)).alloc (.cells (pkC p) 29)).heap.size := by simp
 have hs0 : w.heap.size + 5 = (((((w.alloc (.cells (chC c) 94)).alloc (.cells (chC d) 94)).alloc (.cells (evC 2 ch h n p) 102)).alloc (.cells zC13 94)).alloc (.cells (pkC p) 29)).heap.size := by simp
 unfold ChM.val Ev.val
 dsimp only
 go_enter Tryd.func84, Tryd.ntmps84
 go_wp2_with fail
 refine (HCL.out _ HK.out).mono ?_
 rintro e w1 ⟨G1, r, rfl, hP, hG1, hC1, hkc⟩
 skip
 have hbz := HBZ.out.keeps hkc (fun h => by obtain ⟨q, _, h⟩ := h; rw [HG.out _ (by omega)] at h; unfold rl at h; omega)
 have z0 := hbz.cell 0
 have zf0 := hbz.frozen 0
 have z1 := hbz.cell 1
 have zf1 := hbz.frozen 1
 have z2 := hbz.cell 2
 have zf2 := hbz.frozen 2
 have z3 := hbz.cell 3
 have zf3 := hbz.frozen 3
 have z4 := hbz.cell 4
 have zf4 := hbz.frozen 4
 have z5 := hbz.cell 5
 have zf5 := hbz.frozen 5
 have z6 := hbz.cell 6
 have zf6 := hbz.frozen 6
 have z7 := hbz.cell 7
 have zf7 := hbz.frozen 7
 have z8 := hbz.cell 8
 have zf8 := hbz.frozen 8
 have z9 := hbz.cell 9
 have zf9 := hbz.frozen 9
 have z10 := hbz.cell 10
 have zf10 := hbz.frozen 10
 have z11 := hbz.cell 11
 have zf11 := hbz.frozen 11
 have z12 := hbz.cell 12
 have zf12 := hbz.frozen 12
 simp at z0 z1 z2 z3 z4 z5 z6 z7 z8 z9 z10 z11 z12
 have zz := hbz.lt
 have HKC := hH hkc
 have HC1 := hH hC1
 have HG1 := hH hG1
 have HP := hH hP
 clear hbz hkc hC1 hG1 hP HBC HBO HBE HBZ HBP HCL
 go_wp2
 refine bodyPost_ret (v := .agg (chC r)) (by simp [results, Tryd.results84, go_sem, *]) rfl ?_
 exact ch_turnP HP.out HG'.out HK.out HG1.out HC1.out HKC.out (fun b h h' => (HG1.out b h').trans (HG.out b h)) (((Keeps.refl (fun b => w.heap.size ≤ b ∧ b < (((((w.alloc (.cells (chC c) 94)).alloc (.cells (chC d) 94)).alloc (.cells (evC 2 ch h n p) 102)).alloc (.cells zC13 94)).alloc (.cells (pkC p) 29)).heap.size) w1)).put13 (w.heap.size + 1 + 1 + 1) (.inr ⟨by first | omega | (dsimp only; omega), by first | omega | (dsimp only; omega)⟩))
set_option maxHeartbeats 4000000
set_option maxRecDepth 100000

theorem l21Chain_relay (G : Nat → Nat) (i j : Nat) (c d : ChM) (ch h n : Int) (p : Pk) (w : World) (hc : ChR G i w c) (hd : ChR G j w d) (hkl : c.knows.length ≤ 1000) (oc : ChOk c) (od : ChOk d) (kd : Int) (n1 : kd ≠ 1) (n2 : kd ≠ 2) (n3 : kd ≠ 3) (n8 : kd ≠ 8) (n7 : kd ≠ 7) :
  Calls Tryd.prog 84 #[c.val, d.val, Ev.val ⟨kd, ch, h, n, p⟩] w (RetCh G i w (fun c' => c' = relayCh c d ⟨kd, ch, h, n, p⟩)) := by
 have hc := hc.ext (G' := up G w.heap.size 0) fun b hb => up_old hb
 have hd := hd.ext (G' := up G w.heap.size 0) fun b hb => up_old hb
 have HG := hH (show ∀ b, w.heap.size ≤ b → up G w.heap.size 0 b = 0 from fun b hb => up_new hb)
 have HG' := hH (show ∀ b, b < w.heap.size → up G w.heap.size 0 b = G b from fun b hb => up_old hb)
 generalize up G w.heap.size 0 = G0 at hc hd HG HG'
 have HCL := hH (fun W (hk : Keeps noBlk w W) => (show Calls Tryd.prog 93 #[c.val, d.val, Ev.val ⟨kd, ch, h, n, p⟩] W (RetCh G0 i W (fun c' => c' = relayCh c d ⟨kd, ch, h, n, p⟩)) from l21Relay_any G0 i j c d ⟨kd, ch, h, n, p⟩ W (hc.kept hk) (hd.kept hk) hkl oc od))
 have HC := hH hc
 clear hc hd hkl oc od
 unfold RetCh at HCL
 unfold ChM.val Ev.val at HCL
 dsimp only at HCL
 have e1 : (kd == 1) = false := by simpa using n1
 have e2 : (kd == 2) = false := by simpa using n2
 have e3 : (kd == 3) = false := by simpa using n3
 have e8 : (kd == 8) = false := by simpa using n8
 have e7 : (kd == 7) = false := by simpa using n7
 clear n1 n2 n3 n8 n7
 have HBC := hH (((((Box.new w (w.heap.size) (by simp) 94 (chC c)).alloc (.cells (chC d) 94)).alloc (.cells (evC kd ch h n p) 102)).alloc (.cells zC13 94)).alloc (.cells (pkC p) 29))
 have HBO := hH ((((Box.new (w.alloc (.cells (chC c) 94)) (w.heap.size + 1) (by simp) 94 (chC d)).alloc (.cells (evC kd ch h n p) 102)).alloc (.cells zC13 94)).alloc (.cells (pkC p) 29))
 have HBE := hH (((Box.new ((w.alloc (.cells (chC c) 94)).alloc (.cells (chC d) 94)) (w.heap.size + 1 + 1) (by simp) 102 (evC kd ch h n p)).alloc (.cells zC13 94)).alloc (.cells (pkC p) 29))
 have HBZ := hH ((Box.new (((w.alloc (.cells (chC c) 94)).alloc (.cells (chC d) 94)).alloc (.cells (evC kd ch h n p) 102)) (w.heap.size + 1 + 1 + 1) (by simp) 94 zC13).alloc (.cells (pkC p) 29))
 have HBP := hH (Box.new ((((w.alloc (.cells (chC c) 94)).alloc (.cells (chC d) 94)).alloc (.cells (evC kd ch h n p) 102)).alloc (.cells zC13 94)) (w.heap.size + 1 + 1 + 1 + 1) (by simp) 29 (pkC p))
 have HK := hH ((((((Keeps.refl (noBlk) w).alloc (.cells (chC c) 94)).alloc (.cells (chC d) 94)).alloc (.cells (evC kd ch h n p) 102)).alloc (.cells zC13 94)).alloc (.cells (pkC p) 29))
 have hsz : w.heap.size + 5 ≤ (((((w.alloc (.cells (chC c) 94)).alloc (.cells (chC d) 94)).alloc (.cells (evC kd ch h n p) 102)).alloc (.cells zC13 94)).alloc (.cells (pkC p) 29)).heap.size := by simp
 have hs0 : w.heap.size + 5 = (((((w.alloc (.cells (chC c) 94)).alloc (.cells (chC d) 94)).alloc (.cells (evC kd ch h n p) 102)).alloc (.cells zC13 94)).alloc (.cells (pkC p) 29)).heap.size := by simp
 unfold ChM.val Ev.val
 dsimp only
 go_enter Tryd.func84, Tryd.ntmps84
 go_wp2_with fail
 refine (HCL.out _ HK.out).mono ?_
 rintro e w1 ⟨G1, r, rfl, hP, hG1, hC1, hkc⟩
 skip
 have hbz := HBZ.out.keeps hkc (fun h => by obtain ⟨q, _, h⟩ := h; rw [HG.out _ (by omega)] at h; unfold rl at h; omega)
 have z0 := hbz.cell 0
 have zf0 := hbz.frozen 0
 have z1 := hbz.cell 1
 have zf1 := hbz.frozen 1
 have z2 := hbz.cell 2
 have zf2 := hbz.frozen 2
 have z3 := hbz.cell 3
 have zf3 := hbz.frozen 3
 have z4 := hbz.cell 4
 have zf4 := hbz.frozen 4
 have z5 := hbz.cell 5
 have zf5 := hbz.frozen 5
 have z6 := hbz.cell 6
 have zf6 := hbz.frozen 6
 have z7 := hbz.cell 7
 have zf7 := hbz.frozen 7
 have z8 := hbz.cell 8
 have zf8 := hbz.frozen 8
 have z9 := hbz.cell 9
 have zf9 := hbz.frozen 9
 have z10 := hbz.cell 10
 have zf10 := hbz.frozen 10
 have z11 := hbz.cell 11
 have zf11 := hbz.frozen 11
 have z12 := hbz.cell 12
 have zf12 := hbz.frozen 12
 simp at z0 z1 z2 z3 z4 z5 z6 z7 z8 z9 z10 z11 z12
 have zz := hbz.lt
 have HKC := hH hkc
 have HC1 := hH hC1
 have HG1 := hH hG1
 have HP := hH hP
 clear hbz hkc hC1 hG1 hP HBC HBO HBE HBZ HBP HCL
 go_wp2
 refine bodyPost_ret (v := .agg (chC r)) (by simp [results, Tryd.results84, go_sem, *]) rfl ?_
 exact ch_turnP HP.out HG'.out HK.out HG1.out HC1.out HKC.out (fun b h h' => (HG1.out b h').trans (HG.out b h)) (((Keeps.refl (fun b => w.heap.size ≤ b ∧ b < (((((w.alloc (.cells (chC c) 94)).alloc (.cells (chC d) 94)).alloc (.cells (evC kd ch h n p) 102)).alloc (.cells zC13 94)).alloc (.cells (pkC p) 29)).heap.size) w1)).put13 (w.heap.size + 1 + 1 + 1) (.inr ⟨by first | omega | (dsimp only; omega), by first | omega | (dsimp only; omega)⟩))
theorem l21Chain_relay7 (G : Nat → Nat) (i j : Nat) (c d : ChM) (ch h n : Int) (p : Pk) (w : World) (hc : ChR G i w c) (hd : ChR G j w d) (hkl : c.knows.length ≤ 1000) (oc : ChOk c) (od : ChOk d) (n1 : n ≠ 1) (n5 : n ≠ 5) :
  Calls Tryd.prog 84 #[c.val, d.val, Ev.val ⟨7, ch, h, n, p⟩] w (RetCh G i w (fun c' => c' = relayCh c d ⟨7, ch, h, n, p⟩)) := by
 have hc := hc.ext (G' := up G w.heap.size 0) fun b hb => up_old hb
 have hd := hd.ext (G' := up G w.heap.size 0) fun b hb => up_old hb
 have HG := hH (show ∀ b, w.heap.size ≤ b → up G w.heap.size 0 b = 0 from fun b hb => up_new hb)
 have HG' := hH (show ∀ b, b < w.heap.size → up G w.heap.size 0 b = G b from fun b hb => up_old hb)
 generalize up G w.heap.size 0 = G0 at hc hd HG HG'
 have HCL := hH (fun W (hk : Keeps noBlk w W) => (show Calls Tryd.prog 93 #[c.val, d.val, Ev.val ⟨7, ch, h, n, p⟩] W (RetCh G0 i W (fun c' => c' = relayCh c d ⟨7, ch, h, n, p⟩)) from l21Relay_any G0 i j c d ⟨7, ch, h, n, p⟩ W (hc.kept hk) (hd.kept hk) hkl oc od))
 have HC := hH hc
 clear hc hd hkl oc od
 unfold RetCh at HCL
 unfold ChM.val Ev.val at HCL
 dsimp only at HCL
 have e1 : (n == 1) = false := by simpa using n1
 have e5 : (n == 5) = false := by simpa using n5
 clear n1 n5
 have HBC := hH (((((Box.new w (w.heap.size) (by simp) 94 (chC c)).alloc (.cells (chC d) 94)).alloc (.cells (evC 7 ch h n p) 102)).alloc (.cells zC13 94)).alloc (.cells (pkC p) 29))
 have HBO := hH ((((Box.new (w.alloc (.cells (chC c) 94)) (w.heap.size + 1) (by simp) 94 (chC d)).alloc (.cells (evC 7 ch h n p) 102)).alloc (.cells zC13 94)).alloc (.cells (pkC p) 29))
 have HBE := hH (((Box.new ((w.alloc (.cells (chC c) 94)).alloc (.cells (chC d) 94)) (w.heap.size + 1 + 1) (by simp) 102 (evC 7 ch h n p)).alloc (.cells zC13 94)).alloc (.cells (pkC p) 29))
 have HBZ := hH ((Box.new (((w.alloc (.cells (chC c) 94)).alloc (.cells (chC d) 94)).alloc (.cells (evC 7 ch h n p) 102)) (w.heap.size + 1 + 1 + 1) (by simp) 94 zC13).alloc (.cells (pkC p) 29))
 have HBP := hH (Box.new ((((w.alloc (.cells (chC c) 94)).alloc (.cells (chC d) 94)).alloc (.cells (evC 7 ch h n p) 102)).alloc (.cells zC13 94)) (w.heap.size + 1 + 1 + 1 + 1) (by simp) 29 (pkC p))
 have HK := hH ((((((Keeps.refl (noBlk) w).alloc (.cells (chC c) 94)).alloc (.cells (chC d) 94)).alloc (.cells (evC 7 ch h n p) 102)).alloc (.cells zC13 94)).alloc (.cells (pkC p) 29))
 have hsz : w.heap.size + 5 ≤ (((((w.alloc (.cells (chC c) 94)).alloc (.cells (chC d) 94)).alloc (.cells (evC 7 ch h n p) 102)).alloc (.cells zC13 94)).alloc (.cells (pkC p) 29)).heap.size := by simp
 have hs0 : w.heap.size + 5 = (((((w.alloc (.cells (chC c) 94)).alloc (.cells (chC d) 94)).alloc (.cells (evC 7 ch h n p) 102)).alloc (.cells zC13 94)).alloc (.cells (pkC p) 29)).heap.size := by simp
 unfold ChM.val Ev.val
 dsimp only
 go_enter Tryd.func84, Tryd.ntmps84
 go_wp2_with fail
 refine (HCL.out _ HK.out).mono ?_
 rintro e w1 ⟨G1, r, rfl, hP, hG1, hC1, hkc⟩
 skip
 have hbz := HBZ.out.keeps hkc (fun h => by obtain ⟨q, _, h⟩ := h; rw [HG.out _ (by omega)] at h; unfold rl at h; omega)
 have z0 := hbz.cell 0
 have zf0 := hbz.frozen 0
 have z1 := hbz.cell 1
 have zf1 := hbz.frozen 1
 have z2 := hbz.cell 2
 have zf2 := hbz.frozen 2
 have z3 := hbz.cell 3
 have zf3 := hbz.frozen 3
 have z4 := hbz.cell 4
 have zf4 := hbz.frozen 4
 have z5 := hbz.cell 5
 have zf5 := hbz.frozen 5
 have z6 := hbz.cell 6
 have zf6 := hbz.frozen 6
 have z7 := hbz.cell 7
 have zf7 := hbz.frozen 7
 have z8 := hbz.cell 8
 have zf8 := hbz.frozen 8
 have z9 := hbz.cell 9
 have zf9 := hbz.frozen 9
 have z10 := hbz.cell 10
 have zf10 := hbz.frozen 10
 have z11 := hbz.cell 11
 have zf11 := hbz.frozen 11
 have z12 := hbz.cell 12
 have zf12 := hbz.frozen 12
 simp at z0 z1 z2 z3 z4 z5 z6 z7 z8 z9 z10 z11 z12
 have zz := hbz.lt
 have HKC := hH hkc
 have HC1 := hH hC1
 have HG1 := hH hG1
 have HP := hH hP
 clear hbz hkc hC1 hG1 hP HBC HBO HBE HBZ HBP HCL
 go_wp2
 refine bodyPost_ret (v := .agg (chC r)) (by simp [results, Tryd.results84, go_sem, *]) rfl ?_
 exact ch_turnP HP.out HG'.out HK.out HG1.out HC1.out HKC.out (fun b h h' => (HG1.out b h').trans (HG.out b h)) (((Keeps.refl (fun b => w.heap.size ≤ b ∧ b < (((((w.alloc (.cells (chC c) 94)).alloc (.cells (chC d) 94)).alloc (.cells (evC 7 ch h n p) 102)).alloc (.cells zC13 94)).alloc (.cells (pkC p) 29)).heap.size) w1)).put13 (w.heap.size + 1 + 1 + 1) (.inr ⟨by first | omega | (dsimp only; omega), by first | omega | (dsimp only; omega)⟩))
end Go.Proofs.YtjcbeihoeanhaaaDoor
