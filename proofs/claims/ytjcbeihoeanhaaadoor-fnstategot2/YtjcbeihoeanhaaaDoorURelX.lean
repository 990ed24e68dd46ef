/- l21Relay of the model: get. l21Relay of the model: late. l21Relay of the model: step. l21Relay of the model: whatever is known. -/
import Derived.Test.YtjcbeihoeanhaaaDoorGRelA
set_option linter.unusedVariables false
set_option linter.unusedSimpArgs false
/-! GRelG -/
set_option maxHeartbeats 4000000
set_option maxRecDepth 100000
namespace Go.Proofs.YtjcbeihoeanhaaaDoor
open Go.RowKit

theorem l21Relay_get (G : Nat → Nat) (i j : Nat) (c d : ChM) (ch n : Int) (p : Pk) (w : World) (hc : ChR G i w c) (hd : ChR G j w d) (hkl : c.knows.length ≤ 1000) (hpl : d.past.length ≤ 1000) (y : StM) (k : Nat) (hm : decide (((k : Int) + 1) ∈ c.knows) = true) (hk : k < d.past.length) (hy : d.past[k]? = some y) (hx : StFit c.st.x) (hq : okB c.bk.b = true) (hyl : y.x.live.length = y.x.sent.length) (hy8 : y.x.sent.length ≤ 8) (hcl : c.past.length ≤ 1000) (hp : p.ok = true) :
  Calls Tryd.prog 93 #[c.val, d.val, Ev.val ⟨4, ch, ((k : Int) + 1), n, p⟩] w (RetCh G i w fun c' => c' = getTo c y.x p) := by
 have hc := hc.ext (G' := up G w.heap.size 0) fun b hb => up_old hb
 have hd := hd.ext (G' := up G w.heap.size 0) fun b hb => up_old hb
 have HG := hH (show ∀ b, w.heap.size ≤ b → up G w.heap.size 0 b = 0 from fun b hb => up_new hb)
 have HG' := hH (show ∀ b, b < w.heap.size → up G w.heap.size 0 b = G b from fun b hb => up_old hb)
 generalize up G w.heap.size 0 = G0 at hc hd HG HG'
 have hyr : StR G0 im w y := hd.2.2.2.1 y (List.mem_of_getElem? hy)
 have HYR := hH hyr
 have HYI := hH hyr.toI
 clear hyr
 have HCL := hH (fun W (hk : Keeps noBlk w W) => (show Calls Tryd.prog 95 #[c.val, y.val, p.val] W (RetLate G0 i W (getTo c y.x p) (getOk c y.x p)) from l13Get_any G0 i c y p W (hc.kept hk) (HYI.out.kept hk) hx hyl hy8 hq hcl hp))
 generalize (getTo c y.x p) = r at HCL ⊢
 generalize (getOk c y.x p) = o at HCL
 unfold RetLate at HCL
 unfold ChM.val StM.val at HCL
 unfold Pk.val at HCL
 have HPK := hH (fun W => (show Calls Tryd.prog 51 #[.agg #[.int .i64 p.s, .int .i64 p.k, .int .i64 p.f, .int .i64 p.t, .int .i64 p.m, .int .i64 p.u, .int .i64 p.v]] W (fun e w' => e = .returned (.bool true) ∧ Keeps noBlk W w') from by rw [← hp]; exact specPk_any _ _ _ _ _ _ _ W))
 clear hx hq hyl hy8 hcl hp
 have HC := hH hc
 have HD := hH hd
 clear hc hd
 have HBC := hH ((((Box.new w (w.heap.size) (by simp) 94 (chC c)).alloc (.cells (chC d) 94)).alloc (.cells (evC 4 ch ((k : Int) + 1) n p) 102)).alloc (.cells zC13 94))
 have HBO := hH (((Box.new (w.alloc (.cells (chC c) 94)) (w.heap.size + 1) (by simp) 94 (chC d)).alloc (.cells (evC 4 ch ((k : Int) + 1) n p) 102)).alloc (.cells zC13 94))
 have HBE := hH ((Box.new ((w.alloc (.cells (chC c) 94)).alloc (.cells (chC d) 94)) (w.heap.size + 1 + 1) (by simp) 102 (evC 4 ch ((k : Int) + 1) n p)).alloc (.cells zC13 94))
 have HBZ := hH (Box.new (((w.alloc (.cells (chC c) 94)).alloc (.cells (chC d) 94)).alloc (.cells (evC 4 ch ((k : Int) + 1) n p) 102)) (w.heap.size + 1 + 1 + 1) (by simp) 94 zC13)
 have HK := hH (((((Keeps.refl (noBlk) w).alloc (.cells (chC c) 94)).alloc (.cells (chC d) 94)).alloc (.cells (evC 4 ch ((k : Int) + 1) n p) 102)).alloc (.cells zC13 94))
 have hsz : w.heap.size + 4 ≤ ((((w.alloc (.cells (chC c) 94)).alloc (.cells (chC d) 94)).alloc (.cells (evC 4 ch ((k : Int) + 1) n p) 102)).alloc (.cells zC13 94)).heap.size := by simp
 have HAM := hH (fun W (hk : Keeps noBlk w W) => (show Calls Tryd.prog 100 #[.slice c.kA c.knows.length c.kc, .int .i64 ((k : Int) + 1)] W (fun e w' => e = .returned (.bool true) ∧ Keeps noBlk W w') from by rw [← hm]; exact l21Among_any c.kA c.kc c.knows ((k : Int) + 1) W (owns_ints (HC.out.kept hk).2.2.2.2.1) (by unfold maxLen; omega)))
 clear hm
 unfold ChM.val Ev.val
 dsimp only
 go_enter Tryd.func93, Tryd.ntmps93
 go_wp2_with fail
 refine (HAM.out _ HK.out).mono ?_
 rintro e w1 ⟨rfl, hk1⟩
 replace HBC := hH (HBC.out.keeps hk1 (fun h => h))
 replace HBO := hH (HBO.out.keeps hk1 (fun h => h))
 replace HBE := hH (HBE.out.keeps hk1 (fun h => h))
 replace HBZ := hH (HBZ.out.keeps hk1 (fun h => h))
 replace HK := hH (HK.out.trans hk1)
 have hw1 := HBZ.out.lt
 have hb := HBC.out
 obtain ⟨C0, C1, C2, C3, C4, C5, C6, C7, C8, C9, C10, C11, C12⟩ := hb.cells13
 have Cz := hb.lt
 clear hb
 have hb := HBO.out
 have O11 := hb.cell 11
 simp at O11
 have Oz := hb.lt
 clear hb
 have hb := HBE.out
 obtain ⟨E0, E1, E2, E3, E4, E5, E6, E7, E8, E9, E10⟩ := hb.cells11
 have Ez := hb.lt
 clear hb
 have e1 : decide ((d.past.length : Int) < (k : Int) + 1) = false := by simp; omega
 obtain ⟨gp, eP, lp, s0, s1, s2, s3, s4, s5, s6⟩ := past_at (HD.out.kept HK.out).2.2.1 hy
 have HES := hH eP
 have HBS := hH ((Box.new w1 _ rfl 27 (smC y)).alloc (.cells (chC c) 94))
 have HBX := hH (Box.new (w1.alloc (.cells (smC y) 27)) (w1.heap.size + 1) (by simp) 94 (chC c))
 replace HBC := hH ((HBC.out.alloc (.cells (smC y) 27)).alloc (.cells (chC c) 94))
 replace HBE := hH ((HBE.out.alloc (.cells (smC y) 27)).alloc (.cells (chC c) 94))
 replace HBZ := hH ((HBZ.out.alloc (.cells (smC y) 27)).alloc (.cells (chC c) 94))
 have hh := (HK.out.alloc (.cells (smC y) 27)).alloc (.cells (chC c) 94)
 clear HK HBO
 have HK := hH hh
 clear hh
 have hsx : w1.heap.size + 2 = ((w1.alloc (.cells (smC y) 27)).alloc (.cells (chC c) 94)).heap.size := by simp
 go_wp2_with fail
 refine (HPK.out _).mono ?_
 rintro e w2 ⟨rfl, hk2⟩
 clear C0 C1 C2 C3 C4 C5 C6 C7 C8 C9 C10 C11 C12 Cz O11 Oz E0 E1 E2 E3 E4 E5 E6 E7 E8 E9 E10 Ez
 replace HBC := hH (HBC.out.keeps hk2 (fun h => h))
 replace HBE := hH (HBE.out.keeps hk2 (fun h => h))
 replace HBZ := hH (HBZ.out.keeps hk2 (fun h => h))
 replace HBS := hH (HBS.out.keeps hk2 (fun h => h))
 replace HBX := hH (HBX.out.keeps hk2 (fun h => h))
 have hh := HK.out.trans hk2
 clear HK
 have HK := hH hh
 have hs2 := hk2.size
 (try simp at hs2)
 clear hh hk2
 have hb := HBC.out
 obtain ⟨C0, C1, C2, C3, C4, C5, C6, C7, C8, C9, C10, C11, C12⟩ := hb.cells13
 have Cz := hb.lt
 clear hb
 have hb := HBE.out
 obtain ⟨E0, E1, E2, E3, E4, E5, E6, E7, E8, E9, E10⟩ := hb.cells11
 have Ez := hb.lt
 clear hb
 have hb := HBS.out
 obtain ⟨S0, S1, S2, S3, S4, S5, S6⟩ := hb.cells7
 have Sz := hb.lt
 clear hb
 go_wp2_with fail
 refine (HCL.out _ HK.out).mono ?_
 rintro e w3 ⟨G1, rfl, hG1, hC1, hkc⟩
 clear C0 C1 C2 C3 C4 C5 C6 C7 C8 C9 C10 C11 C12 Cz E0 E1 E2 E3 E4 E5 E6 E7 E8 E9 E10 Ez S0 S1 S2 S3 S4 S5 S6 Sz
 have hbx := HBX.out.keeps hkc (fun h => by obtain ⟨q, _, h⟩ := h; rw [HG.out _ (by omega)] at h; unfold rl at h; omega)
 have hbz := HBZ.out.keeps hkc (fun h => by obtain ⟨q, _, h⟩ := h; rw [HG.out _ (by omega)] at h; unfold rl at h; omega)
 have x0 := hbx.cell 0
 have xf0 := hbx.frozen 0
 have z0 := hbz.cell 0
 have zf0 := hbz.frozen 0
 have x1 := hbx.cell 1
 have xf1 := hbx.frozen 1
 have z1 := hbz.cell 1
 have zf1 := hbz.frozen 1
 have x2 := hbx.cell 2
 have xf2 := hbx.frozen 2
 have z2 := hbz.cell 2
 have zf2 := hbz.frozen 2
 have x3 := hbx.cell 3
 have xf3 := hbx.frozen 3
 have z3 := hbz.cell 3
 have zf3 := hbz.frozen 3
 have x4 := hbx.cell 4
 have xf4 := hbx.frozen 4
 have z4 := hbz.cell 4
 have zf4 := hbz.frozen 4
 have x5 := hbx.cell 5
 have xf5 := hbx.frozen 5
 have z5 := hbz.cell 5
 have zf5 := hbz.frozen 5
 have x6 := hbx.cell 6
 have xf6 := hbx.frozen 6
 have z6 := hbz.cell 6
 have zf6 := hbz.frozen 6
 have x7 := hbx.cell 7
 have xf7 := hbx.frozen 7
 have z7 := hbz.cell 7
 have zf7 := hbz.frozen 7
 have x8 := hbx.cell 8
 have xf8 := hbx.frozen 8
 have z8 := hbz.cell 8
 have zf8 := hbz.frozen 8
 have x9 := hbx.cell 9
 have xf9 := hbx.frozen 9
 have z9 := hbz.cell 9
 have zf9 := hbz.frozen 9
 have x10 := hbx.cell 10
 have xf10 := hbx.frozen 10
 have z10 := hbz.cell 10
 have zf10 := hbz.frozen 10
 have x11 := hbx.cell 11
 have xf11 := hbx.frozen 11
 have z11 := hbz.cell 11
 have zf11 := hbz.frozen 11
 have x12 := hbx.cell 12
 have xf12 := hbx.frozen 12
 have z12 := hbz.cell 12
 have zf12 := hbz.frozen 12
 simp at x0 z0 x1 z1 x2 z2 x3 z3 x4 z4 x5 z5 x6 z6 x7 z7 x8 z8 x9 z9 x10 z10 x11 z11 x12 z12
 have zx := hbx.lt
 have zz := hbz.lt
 skip
 have HKC := hH hkc
 have HC1 := hH hC1
 have HG1 := hH hG1
 clear hbx hbz hkc hC1 hG1 HBX HBZ HBC HBE HBS HCL
 have n1 : ¬ w1.heap.size + 1 = w.heap.size + 1 + 1 + 1 := by omega
 have n2 : ¬ w.heap.size + 1 + 1 + 1 = w1.heap.size + 1 := by omega
 go_wp2
 refine bodyPost_ret (v := .agg (chC r)) (by simp [results, Tryd.results93, go_sem, *]) rfl ?_
 exact ch_turn HG'.out HK.out HG1.out HC1.out HKC.out (fun b h h' => (HG1.out b h').trans (HG.out b h)) ((((Keeps.refl (fun b => w.heap.size ≤ b ∧ b < w2.heap.size) w3)).put13 (w1.heap.size + 1) (.inr ⟨by first | omega | (dsimp only; omega), by first | omega | (dsimp only; omega)⟩)).put13 (w.heap.size + 1 + 1 + 1) (.inr ⟨by first | omega | (dsimp only; omega), by first | omega | (dsimp only; omega)⟩))
set_option maxHeartbeats 4000000
set_option maxRecDepth 100000

theorem l21Relay_late (G : Nat → Nat) (i j : Nat) (c d : ChM) (ch n : Int) (p : Pk) (w : World) (hc : ChR G i w c) (hd : ChR G j w d) (hkl : c.knows.length ≤ 1000) (hpl : d.past.length ≤ 1000) (y : StM) (k : Nat) (hm : decide (((k : Int) + 1) ∈ c.knows) = true) (hk : k < d.past.length) (hy : d.past[k]? = some y) (hx : StFit c.st.x) (hq : okB c.bk.b = true) (hyf : y.x.got.length = 8) :
  Calls Tryd.prog 93 #[c.val, d.val, Ev.val ⟨6, ch, ((k : Int) + 1), n, p⟩] w (RetCh G i w fun c' => c' = lateCh c y.x ((k : Int) + 1) n) := by
 have hc := hc.ext (G' := up G w.heap.size 0) fun b hb => up_old hb
 have hd := hd.ext (G' := up G w.heap.size 0) fun b hb => up_old hb
 have HG := hH (show ∀ b, w.heap.size ≤ b → up G w.heap.size 0 b = 0 from fun b hb => up_new hb)
 have HG' := hH (show ∀ b, b < w.heap.size → up G w.heap.size 0 b = G b from fun b hb => up_old hb)
 generalize up G w.heap.size 0 = G0 at hc hd HG HG'
 have hyr : StR G0 im w y := hd.2.2.2.1 y (List.mem_of_getElem? hy)
 have HYR := hH hyr
 have HYI := hH hyr.toI
 clear hyr
 have HCL := hH (fun W (hk : Keeps noBlk w W) => (show Calls Tryd.prog 98 #[c.val, y.val, .int .i64 ((k : Int) + 1), .int .i64 n] W (RetLate G0 i W (lateCh c y.x ((k : Int) + 1) n) (lateB c.st.x y.x ((k : Int) + 1) n)) from l13Late_any G0 i c y ((k : Int) + 1) n W (hc.kept hk) (HYI.out.kept hk) hx hyf hq))
 generalize (lateCh c y.x ((k : Int) + 1) n) = r at HCL ⊢
 generalize (lateB c.st.x y.x ((k : Int) + 1) n) = o at HCL
 unfold RetLate at HCL
 unfold ChM.val StM.val at HCL
 clear hx hq hyf
 have HC := hH hc
 have HD := hH hd
 clear hc hd
 have HBC := hH ((((Box.new w (w.heap.size) (by simp) 94 (chC c)).alloc (.cells (chC d) 94)).alloc (.cells (evC 6 ch ((k : Int) + 1) n p) 102)).alloc (.cells zC13 94))
 have HBO := hH (((Box.new (w.alloc (.cells (chC c) 94)) (w.heap.size + 1) (by simp) 94 (chC d)).alloc (.cells (evC 6 ch ((k : Int) + 1) n p) 102)).alloc (.cells zC13 94))
 have HBE := hH ((Box.new ((w.alloc (.cells (chC c) 94)).alloc (.cells (chC d) 94)) (w.heap.size + 1 + 1) (by simp) 102 (evC 6 ch ((k : Int) + 1) n p)).alloc (.cells zC13 94))
 have HBZ := hH (Box.new (((w.alloc (.cells (chC c) 94)).alloc (.cells (chC d) 94)).alloc (.cells (evC 6 ch ((k : Int) + 1) n p) 102)) (w.heap.size + 1 + 1 + 1) (by simp) 94 zC13)
 have HK := hH (((((Keeps.refl (noBlk) w).alloc (.cells (chC c) 94)).alloc (.cells (chC d) 94)).alloc (.cells (evC 6 ch ((k : Int) + 1) n p) 102)).alloc (.cells zC13 94))
 have hsz : w.heap.size + 4 ≤ ((((w.alloc (.cells (chC c) 94)).alloc (.cells (chC d) 94)).alloc (.cells (evC 6 ch ((k : Int) + 1) n p) 102)).alloc (.cells zC13 94)).heap.size := by simp
 have HAM := hH (fun W (hk : Keeps noBlk w W) => (show Calls Tryd.prog 100 #[.slice c.kA c.knows.length c.kc, .int .i64 ((k : Int) + 1)] W (fun e w' => e = .returned (.bool true) ∧ Keeps noBlk W w') from by rw [← hm]; exact l21Among_any c.kA c.kc c.knows ((k : Int) + 1) W (owns_ints (HC.out.kept hk).2.2.2.2.1) (by unfold maxLen; omega)))
 clear hm
 unfold ChM.val Ev.val
 dsimp only
 go_enter Tryd.func93, Tryd.ntmps93
 go_wp2_with fail
 refine (HAM.out _ HK.out).mono ?_
 rintro e w1 ⟨rfl, hk1⟩
 replace HBC := hH (HBC.out.keeps hk1 (fun h => h))
 replace HBO := hH (HBO.out.keeps hk1 (fun h => h))
 replace HBE := hH (HBE.out.keeps hk1 (fun h => h))
 replace HBZ := hH (HBZ.out.keeps hk1 (fun h => h))
 replace HK := hH (HK.out.trans hk1)
 have hw1 := HBZ.out.lt
 have hb := HBC.out
 obtain ⟨C0, C1, C2, C3, C4, C5, C6, C7, C8, C9, C10, C11, C12⟩ := hb.cells13
 have Cz := hb.lt
 clear hb
 have hb := HBO.out
 have O11 := hb.cell 11
 simp at O11
 have Oz := hb.lt
 clear hb
 have hb := HBE.out
 obtain ⟨E0, E1, E2, E3, E4, E5, E6, E7, E8, E9, E10⟩ := hb.cells11
 have Ez := hb.lt
 clear hb
 have e1 : decide ((d.past.length : Int) < (k : Int) + 1) = false := by simp; omega
 obtain ⟨gp, eP, lp, s0, s1, s2, s3, s4, s5, s6⟩ := past_at (HD.out.kept HK.out).2.2.1 hy
 have HES := hH eP
 have HBS := hH ((Box.new w1 _ rfl 27 (smC y)).alloc (.cells (chC c) 94))
 have HBX := hH (Box.new (w1.alloc (.cells (smC y) 27)) (w1.heap.size + 1) (by simp) 94 (chC c))
 replace HBC := hH ((HBC.out.alloc (.cells (smC y) 27)).alloc (.cells (chC c) 94))
 replace HBE := hH ((HBE.out.alloc (.cells (smC y) 27)).alloc (.cells (chC c) 94))
 replace HBZ := hH ((HBZ.out.alloc (.cells (smC y) 27)).alloc (.cells (chC c) 94))
 have hh := (HK.out.alloc (.cells (smC y) 27)).alloc (.cells (chC c) 94)
 clear HK HBO
 have HK := hH hh
 clear hh
 have hsx : w1.heap.size + 2 = ((w1.alloc (.cells (smC y) 27)).alloc (.cells (chC c) 94)).heap.size := by simp
 go_wp2_with fail
 refine (HCL.out _ HK.out).mono ?_
 rintro e w2 ⟨G1, rfl, hG1, hC1, hkc⟩
 clear C0 C1 C2 C3 C4 C5 C6 C7 C8 C9 C10 C11 C12 Cz O11 Oz E0 E1 E2 E3 E4 E5 E6 E7 E8 E9 E10 Ez
 have hbx := HBX.out.keeps hkc (fun h => by obtain ⟨q, _, h⟩ := h; rw [HG.out _ (by omega)] at h; unfold rl at h; omega)
 have hbz := HBZ.out.keeps hkc (fun h => by obtain ⟨q, _, h⟩ := h; rw [HG.out _ (by omega)] at h; unfold rl at h; omega)
 have x0 := hbx.cell 0
 have xf0 := hbx.frozen 0
 have z0 := hbz.cell 0
 have zf0 := hbz.frozen 0
 have x1 := hbx.cell 1
 have xf1 := hbx.frozen 1
 have z1 := hbz.cell 1
 have zf1 := hbz.frozen 1
 have x2 := hbx.cell 2
 have xf2 := hbx.frozen 2
 have z2 := hbz.cell 2
 have zf2 := hbz.frozen 2
 have x3 := hbx.cell 3
 have xf3 := hbx.frozen 3
 have z3 := hbz.cell 3
 have zf3 := hbz.frozen 3
 have x4 := hbx.cell 4
 have xf4 := hbx.frozen 4
 have z4 := hbz.cell 4
 have zf4 := hbz.frozen 4
 have x5 := hbx.cell 5
 have xf5 := hbx.frozen 5
 have z5 := hbz.cell 5
 have zf5 := hbz.frozen 5
 have x6 := hbx.cell 6
 have xf6 := hbx.frozen 6
 have z6 := hbz.cell 6
 have zf6 := hbz.frozen 6
 have x7 := hbx.cell 7
 have xf7 := hbx.frozen 7
 have z7 := hbz.cell 7
 have zf7 := hbz.frozen 7
 have x8 := hbx.cell 8
 have xf8 := hbx.frozen 8
 have z8 := hbz.cell 8
 have zf8 := hbz.frozen 8
 have x9 := hbx.cell 9
 have xf9 := hbx.frozen 9
 have z9 := hbz.cell 9
 have zf9 := hbz.frozen 9
 have x10 := hbx.cell 10
 have xf10 := hbx.frozen 10
 have z10 := hbz.cell 10
 have zf10 := hbz.frozen 10
 have x11 := hbx.cell 11
 have xf11 := hbx.frozen 11
 have z11 := hbz.cell 11
 have zf11 := hbz.frozen 11
 have x12 := hbx.cell 12
 have xf12 := hbx.frozen 12
 have z12 := hbz.cell 12
 have zf12 := hbz.frozen 12
 simp at x0 z0 x1 z1 x2 z2 x3 z3 x4 z4 x5 z5 x6 z6 x7 z7 x8 z8 x9 z9 x10 z10 x11 z11 x12 z12
 have zx := hbx.lt
 have zz := hbz.lt
 skip
 have HKC := hH hkc
 have HC1 := hH hC1
 have HG1 := hH hG1
 clear hbx hbz hkc hC1 hG1 HBX HBZ HBC HBE HBS HCL
 have n1 : ¬ w1.heap.size + 1 = w.heap.size + 1 + 1 + 1 := by omega
 have n2 : ¬ w.heap.size + 1 + 1 + 1 = w1.heap.size + 1 := by omega
 go_wp2
 refine bodyPost_ret (v := .agg (chC r)) (by simp [results, Tryd.results93, go_sem, *]) rfl ?_
 exact ch_turn HG'.out HK.out HG1.out HC1.out HKC.out (fun b h h' => (HG1.out b h').trans (HG.out b h)) ((((Keeps.refl (fun b => w.heap.size ≤ b ∧ b < ((w1.alloc (.cells (smC y) 27)).alloc (.cells (chC c) 94)).heap.size) w2)).put13 (w1.heap.size + 1) (.inr ⟨by first | omega | (dsimp only; omega), by first | omega | (dsimp only; omega)⟩)).put13 (w.heap.size + 1 + 1 + 1) (.inr ⟨by first | omega | (dsimp only; omega), by first | omega | (dsimp only; omega)⟩))
set_option maxHeartbeats 4000000
set_option maxRecDepth 100000

theorem l21Relay_step (G : Nat → Nat) (i j : Nat) (c d : ChM) (ch n : Int) (p : Pk) (w : World) (hc : ChR G i w c) (hd : ChR G j w d) (hkl : c.knows.length ≤ 1000) (hpl : d.past.length ≤ 1000) (y : StM) (k : Nat) (hm : decide (((k : Int) + 1) ∈ c.knows) = true) (hk : k < d.past.length) (hy : d.past[k]? = some y) (hv : -100 ≤ c.st.x.ver ∧ c.st.x.ver ≤ 100) :
  Calls Tryd.prog 93 #[c.val, d.val, Ev.val ⟨7, ch, ((k : Int) + 1), n, p⟩] w (RetCh G i w fun c' => c' = stepCh c y.x n) := by
 have hc := hc.ext (G' := up G w.heap.size 0) fun b hb => up_old hb
 have hd := hd.ext (G' := up G w.heap.size 0) fun b hb => up_old hb
 have HG := hH (show ∀ b, w.heap.size ≤ b → up G w.heap.size 0 b = 0 from fun b hb => up_new hb)
 have HG' := hH (show ∀ b, b < w.heap.size → up G w.heap.size 0 b = G b from fun b hb => up_old hb)
 generalize up G w.heap.size 0 = G0 at hc hd HG HG'
 have hyr : StR G0 im w y := hd.2.2.2.1 y (List.mem_of_getElem? hy)
 have HYR := hH hyr
 have HYI := hH hyr.toI
 clear hyr
 have HCL := hH (fun W (hk : Keeps noBlk w W) => (show Calls Tryd.prog 92 #[c.val, y.val, .int .i64 n] W (RetLate G0 i W (stepCh c y.x n) (mayB c.st.x y.x n)) from l13Step_late G0 i c y n W (hc.kept hk) (HYR.out.kept hk) hv))
 generalize (stepCh c y.x n) = r at HCL ⊢
 generalize (mayB c.st.x y.x n) = o at HCL
 unfold RetLate at HCL
 unfold ChM.val StM.val at HCL
 clear hv
 have HC := hH hc
 have HD := hH hd
 clear hc hd
 have HBC := hH ((((Box.new w (w.heap.size) (by simp) 94 (chC c)).alloc (.cells (chC d) 94)).alloc (.cells (evC 7 ch ((k : Int) + 1) n p) 102)).alloc (.cells zC13 94))
 have HBO := hH (((Box.new (w.alloc (.cells (chC c) 94)) (w.heap.size + 1) (by simp) 94 (chC d)).alloc (.cells (evC 7 ch ((k : Int) + 1) n p) 102)).alloc (.cells zC13 94))
 have HBE := hH ((Box.new ((w.alloc (.cells (chC c) 94)).alloc (.cells (chC d) 94)) (w.heap.size + 1 + 1) (by simp) 102 (evC 7 ch ((k : Int) + 1) n p)).alloc (.cells zC13 94))
 have HBZ := hH (Box.new (((w.alloc (.cells (chC c) 94)).alloc (.cells (chC d) 94)).alloc (.cells (evC 7 ch ((k : Int) + 1) n p) 102)) (w.heap.size + 1 + 1 + 1) (by simp) 94 zC13)
 have HK := hH (((((Keeps.refl (noBlk) w).alloc (.cells (chC c) 94)).alloc (.cells (chC d) 94)).alloc (.cells (evC 7 ch ((k : Int) + 1) n p) 102)).alloc (.cells zC13 94))
 have hsz : w.heap.size + 4 ≤ ((((w.alloc (.cells (chC c) 94)).alloc (.cells (chC d) 94)).alloc (.cells (evC 7 ch ((k : Int) + 1) n p) 102)).alloc (.cells zC13 94)).heap.size := by simp
 have HAM := hH (fun W (hk : Keeps noBlk w W) => (show Calls Tryd.prog 100 #[.slice c.kA c.knows.length c.kc, .int .i64 ((k : Int) + 1)] W (fun e w' => e = .returned (.bool true) ∧ Keeps noBlk W w') from by rw [← hm]; exact l21Among_any c.kA c.kc c.knows ((k : Int) + 1) W (owns_ints (HC.out.kept hk).2.2.2.2.1) (by unfold maxLen; omega)))
 clear hm
 unfold ChM.val Ev.val
 dsimp only
 go_enter Tryd.func93, Tryd.ntmps93
 go_wp2_with fail
 refine (HAM.out _ HK.out).mono ?_
 rintro e w1 ⟨rfl, hk1⟩
 replace HBC := hH (HBC.out.keeps hk1 (fun h => h))
 replace HBO := hH (HBO.out.keeps hk1 (fun h => h))
 replace HBE := hH (HBE.out.keeps hk1 (fun h => h))
 replace HBZ := hH (HBZ.out.keeps hk1 (fun h => h))
 replace HK := hH (HK.out.trans hk1)
 have hw1 := HBZ.out.lt
 have hb := HBC.out
 obtain ⟨C0, C1, C2, C3, C4, C5, C6, C7, C8, C9, C10, C11, C12⟩ := hb.cells13
 have Cz := hb.lt
 clear hb
 have hb := HBO.out
 have O11 := hb.cell 11
 simp at O11
 have Oz := hb.lt
 clear hb
 have hb := HBE.out
 obtain ⟨E0, E1, E2, E3, E4, E5, E6, E7, E8, E9, E10⟩ := hb.cells11
 have Ez := hb.lt
 clear hb
 have e1 : decide ((d.past.length : Int) < (k : Int) + 1) = false := by simp; omega
 obtain ⟨gp, eP, lp, s0, s1, s2, s3, s4, s5, s6⟩ := past_at (HD.out.kept HK.out).2.2.1 hy
 have HES := hH eP
 have HBS := hH ((Box.new w1 _ rfl 27 (smC y)).alloc (.cells (chC c) 94))
 have HBX := hH (Box.new (w1.alloc (.cells (smC y) 27)) (w1.heap.size + 1) (by simp) 94 (chC c))
 replace HBC := hH ((HBC.out.alloc (.cells (smC y) 27)).alloc (.cells (chC c) 94))
 replace HBE := hH ((HBE.out.alloc (.cells (smC y) 27)).alloc (.cells (chC c) 94))
 replace HBZ := hH ((HBZ.out.alloc (.cells (smC y) 27)).alloc (.cells (chC c) 94))
 have hh := (HK.out.alloc (.cells (smC y) 27)).alloc (.cells (chC c) 94)
 clear HK HBO
 have HK := hH hh
 clear hh
 have hsx : w1.heap.size + 2 = ((w1.alloc (.cells (smC y) 27)).alloc (.cells (chC c) 94)).heap.size := by simp
 go_wp2_with fail
 refine (HCL.out _ HK.out).mono ?_
 rintro e w2 ⟨G1, rfl, hG1, hC1, hkc⟩
 clear C0 C1 C2 C3 C4 C5 C6 C7 C8 C9 C10 C11 C12 Cz O11 Oz E0 E1 E2 E3 E4 E5 E6 E7 E8 E9 E10 Ez
 have hbx := HBX.out.keeps hkc (fun h => by obtain ⟨q, _, h⟩ := h; rw [HG.out _ (by omega)] at h; unfold rl at h; omega)
 have hbz := HBZ.out.keeps hkc (fun h => by obtain ⟨q, _, h⟩ := h; rw [HG.out _ (by omega)] at h; unfold rl at h; omega)
 have x0 := hbx.cell 0
 have xf0 := hbx.frozen 0
 have z0 := hbz.cell 0
 have zf0 := hbz.frozen 0
 have x1 := hbx.cell 1
 have xf1 := hbx.frozen 1
 have z1 := hbz.cell 1
 have zf1 := hbz.frozen 1
 have x2 := hbx.cell 2
 have xf2 := hbx.frozen 2
 have z2 := hbz.cell 2
 have zf2 := hbz.frozen 2
 have x3 := hbx.cell 3
 have xf3 := hbx.frozen 3
 have z3 := hbz.cell 3
 have zf3 := hbz.frozen 3
 have x4 := hbx.cell 4
 have xf4 := hbx.frozen 4
 have z4 := hbz.cell 4
 have zf4 := hbz.frozen 4
 have x5 := hbx.cell 5
 have xf5 := hbx.frozen 5
 have z5 := hbz.cell 5
 have zf5 := hbz.frozen 5
 have x6 := hbx.cell 6
 have xf6 := hbx.frozen 6
 have z6 := hbz.cell 6
 have zf6 := hbz.frozen 6
 have x7 := hbx.cell 7
 have xf7 := hbx.frozen 7
 have z7 := hbz.cell 7
 have zf7 := hbz.frozen 7
 have x8 := hbx.cell 8
 have xf8 := hbx.frozen 8
 have z8 := hbz.cell 8
 have zf8 := hbz.frozen 8
 have x9 := hbx.cell 9
 have xf9 := hbx.frozen 9
 have z9 := hbz.cell 9
 have zf9 := hbz.frozen 9
 have x10 := hbx.cell 10
 have xf10 := hbx.frozen 10
 have z10 := hbz.cell 10
 have zf10 := hbz.frozen 10
 have x11 := hbx.cell 11
 have xf11 := hbx.frozen 11
 have z11 := hbz.cell 11
 have zf11 := hbz.frozen 11
 have x12 := hbx.cell 12
 have xf12 := hbx.frozen 12
 have z12 := hbz.cell 12
 have zf12 := hbz.frozen 12
 simp at x0 z0 x1 z1 x2 z2 x3 z3 x4 z4 x5 z5 x6 z6 x7 z7 x8 z8 x9 z9 x10 z10 x11 z11 x12 z12
 have zx := hbx.lt
 have zz := hbz.lt
 skip
 have HKC := hH hkc
 have HC1 := hH hC1
 have HG1 := hH hG1
 clear hbx hbz hkc hC1 hG1 HBX HBZ HBC HBE HBS HCL
 have n1 : ¬ w1.heap.size + 1 = w.heap.size + 1 + 1 + 1 := by omega
 have n2 : ¬ w.heap.size + 1 + 1 + 1 = w1.heap.size + 1 := by omega
 go_wp2
 refine bodyPost_ret (v := .agg (chC r)) (by simp [results, Tryd.results93, go_sem, *]) rfl ?_
 exact ch_turn HG'.out HK.out HG1.out HC1.out HKC.out (fun b h h' => (HG1.out b h').trans (HG.out b h)) ((((Keeps.refl (fun b => w.heap.size ≤ b ∧ b < ((w1.alloc (.cells (smC y) 27)).alloc (.cells (chC c) 94)).heap.size) w2)).put13 (w1.heap.size + 1) (.inr ⟨by first | omega | (dsimp only; omega), by first | omega | (dsimp only; omega)⟩)).put13 (w.heap.size + 1 + 1 + 1) (.inr ⟨by first | omega | (dsimp only; omega), by first | omega | (dsimp only; omega)⟩))
set_option maxHeartbeats 4000000
set_option maxRecDepth 100000

theorem l21Relay_bad (G : Nat → Nat) (i j : Nat) (c d : ChM) (ch n : Int) (p : Pk) (w : World) (hc : ChR G i w c) (hd : ChR G j w d) (hkl : c.knows.length ≤ 1000) (hpl : d.past.length ≤ 1000) (y : StM) (k : Nat) (hm : decide (((k : Int) + 1) ∈ c.knows) = true) (hk : k < d.past.length) (hy : d.past[k]? = some y) (hp : p.ok = false) :
  Calls Tryd.prog 93 #[c.val, d.val, Ev.val ⟨4, ch, ((k : Int) + 1), n, p⟩] w (RetCh G i w fun c' => c' = c) := by
 have HPK := hH (fun W => (show Calls Tryd.prog 51 #[.agg #[.int .i64 p.s, .int .i64 p.k, .int .i64 p.f, .int .i64 p.t, .int .i64 p.m, .int .i64 p.u, .int .i64 p.v]] W (fun e w' => e = .returned (.bool false) ∧ Keeps noBlk W w') from by rw [← hp]; exact specPk_any _ _ _ _ _ _ _ W))
 clear hp
 have HC := hH hc
 have HD := hH hd
 clear hc hd
 have HBC := hH ((((Box.new w (w.heap.size) (by simp) 94 (chC c)).alloc (.cells (chC d) 94)).alloc (.cells (evC 4 ch ((k : Int) + 1) n p) 102)).alloc (.cells zC13 94))
 have HBO := hH (((Box.new (w.alloc (.cells (chC c) 94)) (w.heap.size + 1) (by simp) 94 (chC d)).alloc (.cells (evC 4 ch ((k : Int) + 1) n p) 102)).alloc (.cells zC13 94))
 have HBE := hH ((Box.new ((w.alloc (.cells (chC c) 94)).alloc (.cells (chC d) 94)) (w.heap.size + 1 + 1) (by simp) 102 (evC 4 ch ((k : Int) + 1) n p)).alloc (.cells zC13 94))
 have HBZ := hH (Box.new (((w.alloc (.cells (chC c) 94)).alloc (.cells (chC d) 94)).alloc (.cells (evC 4 ch ((k : Int) + 1) n p) 102)) (w.heap.size + 1 + 1 + 1) (by simp) 94 zC13)
 have HK := hH (((((Keeps.refl (noBlk) w).alloc (.cells (chC c) 94)).alloc (.cells (chC d) 94)).alloc (.cells (evC 4 ch ((k : Int) + 1) n p) 102)).alloc (.cells zC13 94))
 have hsz : w.heap.size + 4 ≤ ((((w.alloc (.cells (chC c) 94)).alloc (.cells (chC d) 94)).alloc (.cells (evC 4 ch ((k : Int) + 1) n p) 102)).alloc (.cells zC13 94)).heap.size := by simp
 have HAM := hH (fun W (hk : Keeps noBlk w W) => (show Calls Tryd.prog 100 #[.slice c.kA c.knows.length c.kc, .int .i64 ((k : Int) + 1)] W (fun e w' => e = .returned (.bool true) ∧ Keeps noBlk W w') from by rw [← hm]; exact l21Among_any c.kA c.kc c.knows ((k : Int) + 1) W (owns_ints (HC.out.kept hk).2.2.2.2.1) (by unfold maxLen; omega)))
 clear hm
 unfold ChM.val Ev.val
 dsimp only
 go_enter Tryd.func93, Tryd.ntmps93
 go_wp2_with fail
 refine (HAM.out _ HK.out).mono ?_
 rintro e w1 ⟨rfl, hk1⟩
 replace HBC := hH (HBC.out.keeps hk1 (fun h => h))
 replace HBO := hH (HBO.out.keeps hk1 (fun h => h))
 replace HBE := hH (HBE.out.keeps hk1 (fun h => h))
 replace HBZ := hH (HBZ.out.keeps hk1 (fun h => h))
 replace HK := hH (HK.out.trans hk1)
 have hw1 := HBZ.out.lt
 have hb := HBC.out
 obtain ⟨C0, C1, C2, C3, C4, C5, C6, C7, C8, C9, C10, C11, C12⟩ := hb.cells13
 have Cz := hb.lt
 clear hb
 have hb := HBO.out
 have O11 := hb.cell 11
 simp at O11
 have Oz := hb.lt
 clear hb
 have hb := HBE.out
 obtain ⟨E0, E1, E2, E3, E4, E5, E6, E7, E8, E9, E10⟩ := hb.cells11
 have Ez := hb.lt
 clear hb
 have e1 : decide ((d.past.length : Int) < (k : Int) + 1) = false := by simp; omega
 obtain ⟨gp, eP, lp, s0, s1, s2, s3, s4, s5, s6⟩ := past_at (HD.out.kept HK.out).2.2.1 hy
 have HES := hH eP
 have HBX := hH (Box.new (w1.alloc (.cells (smC y) 27)) (w1.heap.size + 1) (by simp) 94 (chC c))
 replace HBZ := hH ((HBZ.out.alloc (.cells (smC y) 27)).alloc (.cells (chC c) 94))
 have hh := (HK.out.alloc (.cells (smC y) 27)).alloc (.cells (chC c) 94)
 clear HK HBO
 have HK := hH hh
 clear hh
 go_wp2_with fail
 refine (HPK.out _).mono ?_
 rintro e w2 ⟨rfl, hk2⟩
 clear C0 C1 C2 C3 C4 C5 C6 C7 C8 C9 C10 C11 C12 Cz O11 Oz E0 E1 E2 E3 E4 E5 E6 E7 E8 E9 E10 Ez
 have hbx := HBX.out.keeps hk2 (fun h => h)
 have hbz := HBZ.out.keeps hk2 (fun h => h)
 have x0 := hbx.cell 0
 have z0 := hbz.cell 0
 have zf0 := hbz.frozen 0
 have x1 := hbx.cell 1
 have z1 := hbz.cell 1
 have zf1 := hbz.frozen 1
 have x2 := hbx.cell 2
 have z2 := hbz.cell 2
 have zf2 := hbz.frozen 2
 have x3 := hbx.cell 3
 have z3 := hbz.cell 3
 have zf3 := hbz.frozen 3
 have x4 := hbx.cell 4
 have z4 := hbz.cell 4
 have zf4 := hbz.frozen 4
 have x5 := hbx.cell 5
 have z5 := hbz.cell 5
 have zf5 := hbz.frozen 5
 have x6 := hbx.cell 6
 have z6 := hbz.cell 6
 have zf6 := hbz.frozen 6
 have x7 := hbx.cell 7
 have z7 := hbz.cell 7
 have zf7 := hbz.frozen 7
 have x8 := hbx.cell 8
 have z8 := hbz.cell 8
 have zf8 := hbz.frozen 8
 have x9 := hbx.cell 9
 have z9 := hbz.cell 9
 have zf9 := hbz.frozen 9
 have x10 := hbx.cell 10
 have z10 := hbz.cell 10
 have zf10 := hbz.frozen 10
 have x11 := hbx.cell 11
 have z11 := hbz.cell 11
 have zf11 := hbz.frozen 11
 have x12 := hbx.cell 12
 have z12 := hbz.cell 12
 have zf12 := hbz.frozen 12
 simp at x0 z0 x1 z1 x2 z2 x3 z3 x4 z4 x5 z5 x6 z6 x7 z7 x8 z8 x9 z9 x10 z10 x11 z11 x12 z12
 have zx := hbx.lt
 have zz := hbz.lt
 have hh := HK.out.trans hk2
 clear HK
 have HK := hH hh
 clear hh hk2 hbx hbz
 have hz3 : w.heap.size ≤ w.heap.size + 1 + 1 + 1 := by omega
 go_wp2
 refine bodyPost_ret (v := .agg (chC c)) (by simp [results, Tryd.results93, go_sem, *]) rfl ?_
 exact ch_no HC.out ((HK.out).new13 hz3)
theorem l21Relay_other (G : Nat → Nat) (i j : Nat) (c d : ChM) (ch n : Int) (p : Pk) (w : World) (hc : ChR G i w c) (hd : ChR G j w d) (hkl : c.knows.length ≤ 1000) (hpl : d.past.length ≤ 1000) (kd : Int) (y : StM) (k : Nat) (hm : decide (((k : Int) + 1) ∈ c.knows) = true) (hk : k < d.past.length) (hy : d.past[k]? = some y) (n4 : kd ≠ 4) (n5 : kd ≠ 5) (n6 : kd ≠ 6) (n7 : kd ≠ 7) :
  Calls Tryd.prog 93 #[c.val, d.val, Ev.val ⟨kd, ch, ((k : Int) + 1), n, p⟩] w (RetCh G i w fun c' => c' = c) := by
 have e4 : (kd == 4) = false := by simpa using n4
 have e5 : (kd == 5) = false := by simpa using n5
 have e6 : (kd == 6) = false := by simpa using n6
 have e7 : (kd == 7) = false := by simpa using n7
 clear n4 n5 n6 n7
 have HC := hH hc
 have HD := hH hd
 clear hc hd
 have HBC := hH ((((Box.new w (w.heap.size) (by simp) 94 (chC c)).alloc (.cells (chC d) 94)).alloc (.cells (evC kd ch ((k : Int) + 1) n p) 102)).alloc (.cells zC13 94))
 have HBO := hH (((Box.new (w.alloc (.cells (chC c) 94)) (w.heap.size + 1) (by simp) 94 (chC d)).alloc (.cells (evC kd ch ((k : Int) + 1) n p) 102)).alloc (.cells zC13 94))
 have HBE := hH ((Box.new ((w.alloc (.cells (chC c) 94)).alloc (.cells (chC d) 94)) (w.heap.size + 1 + 1) (by simp) 102 (evC kd ch ((k : Int) + 1) n p)).alloc (.cells zC13 94))
 have HBZ := hH (Box.new (((w.alloc (.cells (chC c) 94)).alloc (.cells (chC d) 94)).alloc (.cells (evC kd ch ((k : Int) + 1) n p) 102)) (w.heap.size + 1 + 1 + 1) (by simp) 94 zC13)
 have HK := hH (((((Keeps.refl (noBlk) w).alloc (.cells (chC c) 94)).alloc (.cells (chC d) 94)).alloc (.cells (evC kd ch ((k : Int) + 1) n p) 102)).alloc (.cells zC13 94))
 have hsz : w.heap.size + 4 ≤ ((((w.alloc (.cells (chC c) 94)).alloc (.cells (chC d) 94)).alloc (.cells (evC kd ch ((k : Int) + 1) n p) 102)).alloc (.cells zC13 94)).heap.size := by simp
 have HAM := hH (fun W (hk : Keeps noBlk w W) => (show Calls Tryd.prog 100 #[.slice c.kA c.knows.length c.kc, .int .i64 ((k : Int) + 1)] W (fun e w' => e = .returned (.bool true) ∧ Keeps noBlk W w') from by rw [← hm]; exact l21Among_any c.kA c.kc c.knows ((k : Int) + 1) W (owns_ints (HC.out.kept hk).2.2.2.2.1) (by unfold maxLen; omega)))
 clear hm
 unfold ChM.val Ev.val
 dsimp only
 go_enter Tryd.func93, Tryd.ntmps93
 go_wp2_with fail
 refine (HAM.out _ HK.out).mono ?_
 rintro e w1 ⟨rfl, hk1⟩
 replace HBC := hH (HBC.out.keeps hk1 (fun h => h))
 replace HBO := hH (HBO.out.keeps hk1 (fun h => h))
 replace HBE := hH (HBE.out.keeps hk1 (fun h => h))
 replace HBZ := hH (HBZ.out.keeps hk1 (fun h => h))
 replace HK := hH (HK.out.trans hk1)
 have hw1 := HBZ.out.lt
 have hb := HBC.out
 obtain ⟨C0, C1, C2, C3, C4, C5, C6, C7, C8, C9, C10, C11, C12⟩ := hb.cells13
 have Cz := hb.lt
 clear hb
 have hb := HBO.out
 have O11 := hb.cell 11
 simp at O11
 have Oz := hb.lt
 clear hb
 have hb := HBE.out
 obtain ⟨E0, E1, E2, E3, E4, E5, E6, E7, E8, E9, E10⟩ := hb.cells11
 have Ez := hb.lt
 clear hb
 have hb := HBZ.out
 obtain ⟨Z0, Z1, Z2, Z3, Z4, Z5, Z6, Z7, Z8, Z9, Z10, Z11, Z12⟩ := hb.cells13
 obtain ⟨Zf0, Zf1, Zf2, Zf3, Zf4, Zf5, Zf6, Zf7, Zf8, Zf9, Zf10, Zf11, Zf12⟩ := hb.fz13
 have Zz := hb.lt
 clear hb
 have e1 : decide ((d.past.length : Int) < (k : Int) + 1) = false := by simp; omega
 obtain ⟨gp, eP, lp, s0, s1, s2, s3, s4, s5, s6⟩ := past_at (HD.out.kept HK.out).2.2.1 hy
 have HES := hH eP
 have hz3 : w.heap.size ≤ w.heap.size + 1 + 1 + 1 := by omega
 go_wp2
 refine bodyPost_ret (v := .agg (chC c)) (by simp [results, Tryd.results93, go_sem, *]) rfl ?_
 exact ch_no HC.out ((((HK.out).new13 hz3).alloc _).alloc _)
end Go.Proofs.YtjcbeihoeanhaaaDoor
