/- FnExactRelayGet: the function answers as its model, for every argument; the chain reads as it did; the two tables read as the program's text lays them. -/
import Derived.Test.YtcnbephpadmboaaGreatDoorURyF
import Derived.Test.YtcnbephpadmboaaGreatDoorRyZg
import Derived.Test.YtcnbephpadmboaaGreatDoorRyIg
import Derived.Deep.RegionHeld3
import Derived.Deep.CutRange
set_option linter.unusedVariables false
set_option linter.unusedSimpArgs false
namespace Go.Proofs.YtcnbephpadmboaaGreatDoor
open Go.RowKit Go.ChangeShapes Go.WideShapes Go.ChangeAt

set_option maxRecDepth 100000 in
set_option maxHeartbeats 16000000 in
theorem walk_xrget (c : ChM) (y : StM) (p : Pk) (w : World) (h : ChAt w c) (hl : I64 c.bk.b.locked) (hy : y.At w) (ht : Tabs w) :
    Calls Tryz.prog 3 #[c.val, y.val, p.val] w fun e w' => e = .returned (.bool true) ∧ Below w.heap.size w w' := by
  have HT := Lib.hid ht
  have FS := Lib.hid (fun W (hk : Keeps noBlk w W) => szChain_any c W (h.kept hk))
  unfold szR at FS
  have HBa := Lib.hid (((Box.new w (w.heap.size) (by simp) 31 #[.int .i64 c.id, .slice c.bk.A1 c.bk.b.own.length c.bk.c1, .slice c.bk.A2 c.bk.b.notes.length c.bk.c2, .int .i64 c.bk.b.locked, .int .i64 c.st.x.way, .int .i64 c.st.x.ver, .int .i64 c.st.x.want, .slice c.st.A1 c.st.x.sent.length c.st.c1, .slice c.st.A2 c.st.x.live.length c.st.c2, .slice c.st.A3 c.st.x.back.length c.st.c3, .slice c.st.A4 c.st.x.got.length c.st.c4, .slice c.pA c.past.length c.pc, .slice c.kA c.knows.length c.kc]).alloc (.cells #[.int .i64 y.x.way, .int .i64 y.x.ver, .int .i64 y.x.want, .slice y.A1 y.x.sent.length y.c1, .slice y.A2 y.x.live.length y.c2, .slice y.A3 y.x.back.length y.c3, .slice y.A4 y.x.got.length y.c4] 28)).alloc (.cells #[.int .i64 p.s, .int .i64 p.k, .int .i64 p.f, .int .i64 p.t, .int .i64 p.m, .int .i64 p.u, .int .i64 p.v] 33))
  have HBb := Lib.hid ((Box.new (w.alloc (.cells #[.int .i64 c.id, .slice c.bk.A1 c.bk.b.own.length c.bk.c1, .slice c.bk.A2 c.bk.b.notes.length c.bk.c2, .int .i64 c.bk.b.locked, .int .i64 c.st.x.way, .int .i64 c.st.x.ver, .int .i64 c.st.x.want, .slice c.st.A1 c.st.x.sent.length c.st.c1, .slice c.st.A2 c.st.x.live.length c.st.c2, .slice c.st.A3 c.st.x.back.length c.st.c3, .slice c.st.A4 c.st.x.got.length c.st.c4, .slice c.pA c.past.length c.pc, .slice c.kA c.knows.length c.kc] 31)) (w.heap.size + 1) (by simp) 28 #[.int .i64 y.x.way, .int .i64 y.x.ver, .int .i64 y.x.want, .slice y.A1 y.x.sent.length y.c1, .slice y.A2 y.x.live.length y.c2, .slice y.A3 y.x.back.length y.c3, .slice y.A4 y.x.got.length y.c4]).alloc (.cells #[.int .i64 p.s, .int .i64 p.k, .int .i64 p.f, .int .i64 p.t, .int .i64 p.m, .int .i64 p.u, .int .i64 p.v] 33))
  have HBk := Lib.hid (Box.new ((w.alloc (.cells #[.int .i64 c.id, .slice c.bk.A1 c.bk.b.own.length c.bk.c1, .slice c.bk.A2 c.bk.b.notes.length c.bk.c2, .int .i64 c.bk.b.locked, .int .i64 c.st.x.way, .int .i64 c.st.x.ver, .int .i64 c.st.x.want, .slice c.st.A1 c.st.x.sent.length c.st.c1, .slice c.st.A2 c.st.x.live.length c.st.c2, .slice c.st.A3 c.st.x.back.length c.st.c3, .slice c.st.A4 c.st.x.got.length c.st.c4, .slice c.pA c.past.length c.pc, .slice c.kA c.knows.length c.kc] 31)).alloc (.cells #[.int .i64 y.x.way, .int .i64 y.x.ver, .int .i64 y.x.want, .slice y.A1 y.x.sent.length y.c1, .slice y.A2 y.x.live.length y.c2, .slice y.A3 y.x.back.length y.c3, .slice y.A4 y.x.got.length y.c4] 28)) (w.heap.size + 1 + 1) (by simp) 33 #[.int .i64 p.s, .int .i64 p.k, .int .i64 p.f, .int .i64 p.t, .int .i64 p.m, .int .i64 p.u, .int .i64 p.v])
  have HK := Lib.hid ((((Keeps.refl noBlk w).alloc (.cells #[.int .i64 c.id, .slice c.bk.A1 c.bk.b.own.length c.bk.c1, .slice c.bk.A2 c.bk.b.notes.length c.bk.c2, .int .i64 c.bk.b.locked, .int .i64 c.st.x.way, .int .i64 c.st.x.ver, .int .i64 c.st.x.want, .slice c.st.A1 c.st.x.sent.length c.st.c1, .slice c.st.A2 c.st.x.live.length c.st.c2, .slice c.st.A3 c.st.x.back.length c.st.c3, .slice c.st.A4 c.st.x.got.length c.st.c4, .slice c.pA c.past.length c.pc, .slice c.kA c.knows.length c.kc] 31)).alloc (.cells #[.int .i64 y.x.way, .int .i64 y.x.ver, .int .i64 y.x.want, .slice y.A1 y.x.sent.length y.c1, .slice y.A2 y.x.live.length y.c2, .slice y.A3 y.x.back.length y.c3, .slice y.A4 y.x.got.length y.c4] 28)).alloc (.cells #[.int .i64 p.s, .int .i64 p.k, .int .i64 p.f, .int .i64 p.t, .int .i64 p.m, .int .i64 p.u, .int .i64 p.v] 33))
  have hlk := hl.2
  have htt := chTot_nn c
  clear ht hl
  by_cases hs : chTot c ≤ 1048576
  case neg =>
    rw [if_neg hs] at FS
    clear h hy hs hlk htt
    unfold ChM.val StM.val Pk.val
    unfold ChM.val at FS
    go_enter Tryz.func3, Tryz.ntmps3
    go_wp2_with fail
    refine (FS.out _ HK.out).mono ?_
    rintro e w1 ⟨rfl, hk1⟩
    have HK1 := Lib.hid (HK.out.trans hk1)
    clear hk1
    go_wp2
    go_ret
    exact ⟨rfl, HK1.out.below⟩
  rw [if_pos hs] at FS
  have hneg : ¬ (1048576 : Int) - chTot c < 0 := by omega
  by_cases hs2 : stTot y.x ≤ 1048576 - chTot c
  case neg =>
    have FZ := Lib.hid (fun W (hk : Keeps noBlk w W) => szSt_no y (1048576 - chTot c) W (by omega) (by omega) (by omega) (hy.kept hk))
    unfold StM.val at FZ
    clear h hy hs hlk hs2
    generalize chTot c = tot at FS hneg FZ
    unfold ChM.val StM.val Pk.val
    unfold ChM.val at FS
    go_enter Tryz.func3, Tryz.ntmps3
    go_wp2_with fail
    refine (FS.out _ HK.out).mono ?_
    rintro e w1 ⟨rfl, hk1⟩
    have ha := HBa.out.keeps hk1 (fun h => h)
    clear HBa
    have HBa := Lib.hid ha
    clear ha
    have hb := HBb.out.keeps hk1 (fun h => h)
    clear HBb
    have HBb := Lib.hid hb
    clear hb
    have hk := HBk.out.keeps hk1 (fun h => h)
    clear HBk
    have HBk := Lib.hid hk
    clear hk
    have hr := HK.out.trans hk1
    clear HK
    have HK := Lib.hid hr
    clear hr
    have sz1 := hk1.size
    (try simp at sz1)
    clear hk1
    have hb := HBb.out
    have b0 := hb.cell 0
    have b1 := hb.cell 1
    have b2 := hb.cell 2
    have b3 := hb.cell 3
    have b4 := hb.cell 4
    have b5 := hb.cell 5
    have b6 := hb.cell 6
    simp at b0 b1 b2 b3 b4 b5 b6
    have zb := hb.lt
    clear hb
    go_wp2_with fail
    refine (FZ.out _ HK.out).mono ?_
    rintro e w2 ⟨rfl, hk2⟩
    clear b0 b1 b2 b3 b4 b5 b6 zb
    have ha := HBa.out.keeps hk2 (fun h => h)
    clear HBa
    have HBa := Lib.hid ha
    clear ha
    have hb := HBb.out.keeps hk2 (fun h => h)
    clear HBb
    have HBb := Lib.hid hb
    clear hb
    have hk := HBk.out.keeps hk2 (fun h => h)
    clear HBk
    have HBk := Lib.hid hk
    clear hk
    have hr := HK.out.trans hk2
    clear HK
    have HK := Lib.hid hr
    clear hr
    have sz2 := hk2.size
    (try simp at sz2)
    clear hk2
    go_wp2
    go_ret
    exact ⟨rfl, HK.out.below⟩
  have FZ := Lib.hid (fun W => szSt_yes y (1048576 - chTot c) W (by omega) (by omega))
  unfold StM.val at FZ
  have hneg2 : ¬ (1048576 - chTot c) - stTot y.x < 0 := by omega
  have SH := short_of hs
  have hstn := stN_le y.x
  have HTO := Lib.hid (fun W (hk : Keeps noBlk w W) => toChain_any c W (h.kept hk) SH)
  have HTS := Lib.hid (fun W (hk : Keeps noBlk w W) => toSt_any y W (hy.kept hk) (by omega))
  have HEQ := Lib.hid (fun d d' W (s : SameC c d) (s' : SameC c d') (k : ChAt W d) (k' : ChAt W d') => eqChain_same d d' W k k' (s.symm.trans s'))
  have HES := Lib.hid (fun (s t : StM) W (e : s.x = y.x) (e' : t.x = y.x) (k : s.At W) (k' : t.At W) => (show Calls Tryz.prog 15 #[s.val, t.val] W (fun e w' => e = .returned (.bool true) ∧ Keeps noBlk W w') from eqSt_same2 s t W (e.trans e'.symm) k k'))
  have spec_c : ∀ (d : ChM) (t : StM) W, SameC c d → ChAt W d → t.x = y.x → t.At W → Calls Tryz.prog 9 #[d.val, t.val, p.val] W (RetRG (fun v => .tuple #[v, .bool (rgO c y.x p)]) W (rgC c y.x p)) := fun d t W s k e k' => by
    have q := specRGet_any d t p W k (by rw [← s.bk]; exact hlk) k'
    rw [e, (rg_same y.x p s).2] at q
    exact q.mono fun _ _ ⟨r, e, q, x⟩ => ⟨r, e, (rg_same y.x p s).1.trans q, x⟩
  have impl_c : ∀ (d : ChM) (t : StM) W, SameC c d → ChAt W d → t.x = y.x → t.At W → Tabs W → Calls Tryz.prog 13 #[d.val, t.val, p.val] W (RetC (fun v => .tuple #[v, .bool (rgO c y.x p)]) W (rgC c y.x p)) := fun d t W s k e k' ht => by
    have q := implRGet_any d t p W k k' ht
    rw [e, (rg_same y.x p s).2] at q
    exact q.mono fun _ _ ⟨r, G, e, q, x⟩ => ⟨r, G, e, (rg_same y.x p s).1.trans q, x⟩
  have hbound := rg_chN c y.x p
  obtain ⟨R, hR⟩ : ∃ R, rgC c y.x p = R := ⟨_, rfl⟩
  obtain ⟨oo, ho9⟩ : ∃ n, rgO c y.x p = n := ⟨_, rfl⟩
  rw [hR] at hbound
  simp only [hR, ho9] at spec_c impl_c
  clear hR ho9
  have hoq : (oo != oo) = false := by cases oo <;> rfl
  have HTP := Lib.hid (fun W => toPk_any p.s p.k p.f p.t p.m p.u p.v W)
  have HSP := Lib.hid (fun d t W s k e k' => spec_c d t W s k e k')
  have HIM := Lib.hid (fun d t W s k e k' q => impl_c d t W s k e k' q)
  clear spec_c impl_c
  have hcn := chN_le c
  have HEQ2 := Lib.hid (fun d d' W (s : SameC R d) (s' : SameC R d') (k : ChAt W d) (k' : ChAt W d') => eqChain_same d d' W k k' (s.symm.trans s'))
  have HMK := Lib.hid (fun d G lo W (s : SameC c d) (k : ChOwn G W lo d) => (show Calls Tryz.prog 16 #[d.val, .int .i64 1] W (fun e w' => e = .returned (.int .i64 (1 + chN c)) ∧ Keeps (chBlk d) W w') from by rw [← chN_same s]; exact (markChain_any d G lo 1 W k (by decide) (by rw [chN_same s]; omega)).mono fun _ _ h => ⟨h.1, h.2.2⟩))
  have HMG := Lib.hid (fun d G lo W (s : SameC R d) (k : ChOwn G W lo d) => (show Calls Tryz.prog 16 #[d.val, .int .i64 1] W (fun e w' => e = .returned (.int .i64 (1 + chN R)) ∧ ChOwn G w' lo (chMark d 1) ∧ Keeps (chBlk d) W w') from by rw [← chN_same s]; exact markChain_any d G lo 1 W k (by decide) (by rw [chN_same s]; omega)))
  have HHD := Lib.hid (fun d G lo W (s : SameC R d) (k : ChOwn G W lo (chMark d 1)) => (show Calls Tryz.prog 18 #[d.val, .int .i64 1] W (fun e w' => e = .returned (.int .i64 (1 + chN R)) ∧ Keeps noBlk W w') from by rw [← chN_same s]; exact heldChain_any d 1 W k.at_ (by decide) (by rw [chN_same s]; omega)))
  have hp := chN_nn c
  have hpr := chN_nn R
  have HMS := Lib.hid (fun (t : StM) lo W (e : t.x = y.x) (k : t.Own W lo) => (show Calls Tryz.prog 17 #[t.val, .int .i64 (1 + chN c)] W (fun e w' => e = .returned (.int .i64 (1 + chN c + (stN y.x : Int))) ∧ Keeps t.bl W w') from by rw [← e]; exact markSt_any t lo (1 + chN c) W k (by omega) (by rw [e]; omega)))
  have hLen : Hid (∀ t : StM, t.x = y.x → t.Len) := Lib.hid (fun t e => by unfold StM.Len; rw [e]; exact tot_len (by omega))
  generalize chN c = M at HMK hp HMS
  generalize chN R = MR at HMG HHD hpr hbound
  have hsn : 0 ≤ (stN y.x : Int) := by omega
  generalize (stN y.x : Int) = MS at HMS hsn
  clear hlk hcn hbound hstn
  have hm0 : ¬ 1 + M + MS < 0 := by omega
  have hq0 : ¬ 1 + MR < 0 := by omega
  have hqq : (1 + MR != 1 + MR) = false := by simp
  clear h hy hs SH hs2
  generalize stTot y.x = tot2 at FZ hneg2
  generalize chTot c = tot at FS hneg FZ hneg2
  unfold ChM.val StM.val Pk.val
  unfold ChM.val at FS
  go_enter Tryz.func3, Tryz.ntmps3
  go_wp2_with fail
  refine (FS.out _ HK.out).mono ?_
  rintro e w1 ⟨rfl, hk1⟩
  have ha := HBa.out.keeps hk1 (fun h => h)
  clear HBa
  have HBa := Lib.hid ha
  clear ha
  have hb := HBb.out.keeps hk1 (fun h => h)
  clear HBb
  have HBb := Lib.hid hb
  clear hb
  have hk := HBk.out.keeps hk1 (fun h => h)
  clear HBk
  have HBk := Lib.hid hk
  clear hk
  have hr := HK.out.trans hk1
  clear HK
  have HK := Lib.hid hr
  clear hr
  have sz1 := hk1.size
  (try simp at sz1)
  clear hk1
  have hb := HBb.out
  have b0 := hb.cell 0
  have b1 := hb.cell 1
  have b2 := hb.cell 2
  have b3 := hb.cell 3
  have b4 := hb.cell 4
  have b5 := hb.cell 5
  have b6 := hb.cell 6
  simp at b0 b1 b2 b3 b4 b5 b6
  have zb := hb.lt
  clear hb
  go_wp2_with fail
  refine (FZ.out _).mono ?_
  rintro e w2 ⟨rfl, hk2⟩
  clear b0 b1 b2 b3 b4 b5 b6 zb
  have ha := HBa.out.keeps hk2 (fun h => h)
  clear HBa
  have HBa := Lib.hid ha
  clear ha
  have hb := HBb.out.keeps hk2 (fun h => h)
  clear HBb
  have HBb := Lib.hid hb
  clear hb
  have hk := HBk.out.keeps hk2 (fun h => h)
  clear HBk
  have HBk := Lib.hid hk
  clear hk
  have hr := HK.out.trans hk2
  clear HK
  have HK := Lib.hid hr
  clear hr
  have sz2 := hk2.size
  (try simp at sz2)
  clear hk2
  have hb := HBa.out
  have a0 := hb.cell 0
  have a1 := hb.cell 1
  have a2 := hb.cell 2
  have a3 := hb.cell 3
  have a4 := hb.cell 4
  have a5 := hb.cell 5
  have a6 := hb.cell 6
  have a7 := hb.cell 7
  have a8 := hb.cell 8
  have a9 := hb.cell 9
  have a10 := hb.cell 10
  have a11 := hb.cell 11
  have a12 := hb.cell 12
  simp at a0 a1 a2 a3 a4 a5 a6 a7 a8 a9 a10 a11 a12
  have za := hb.lt
  clear hb
  have hb := HBb.out
  have b0 := hb.cell 0
  have b1 := hb.cell 1
  have b2 := hb.cell 2
  have b3 := hb.cell 3
  have b4 := hb.cell 4
  have b5 := hb.cell 5
  have b6 := hb.cell 6
  simp at b0 b1 b2 b3 b4 b5 b6
  have zb := hb.lt
  clear hb
  have hb := HBk.out
  have k0 := hb.cell 0
  have k1 := hb.cell 1
  have k2 := hb.cell 2
  have k3 := hb.cell 3
  have k4 := hb.cell 4
  have k5 := hb.cell 5
  have k6 := hb.cell 6
  simp at k0 k1 k2 k3 k4 k5 k6
  have zk := hb.lt
  clear hb
  go_wp2_with fail
  go_cut [8, 9] from 29 to 38 (fun sp so wx => ∃ (gn : Nat) (v : ChM), sp = .pointer (some ⟨gn, 0, none⟩) ∧ so = .bool oo ∧ Box wx gn 42 #[.int .i64 v.id, .slice v.bk.A1 v.bk.b.own.length v.bk.c1, .slice v.bk.A2 v.bk.b.notes.length v.bk.c2, .int .i64 v.bk.b.locked, .int .i64 v.st.x.way, .int .i64 v.st.x.ver, .int .i64 v.st.x.want, .slice v.st.A1 v.st.x.sent.length v.st.c1, .slice v.st.A2 v.st.x.live.length v.st.c2, .slice v.st.A3 v.st.x.back.length v.st.c3, .slice v.st.A4 v.st.x.got.length v.st.c4, .slice v.pA v.past.length v.pc, .slice v.kA v.knows.length v.kc] ∧ SameC R v ∧ ChAt wx v ∧ w2.heap.size ≤ gn ∧ Keeps noBlk w2 wx ∧ Keeps noBlk w wx ∧ Box wx (w.heap.size) 31 #[.int .i64 c.id, .slice c.bk.A1 c.bk.b.own.length c.bk.c1, .slice c.bk.A2 c.bk.b.notes.length c.bk.c2, .int .i64 c.bk.b.locked, .int .i64 c.st.x.way, .int .i64 c.st.x.ver, .int .i64 c.st.x.want, .slice c.st.A1 c.st.x.sent.length c.st.c1, .slice c.st.A2 c.st.x.live.length c.st.c2, .slice c.st.A3 c.st.x.back.length c.st.c3, .slice c.st.A4 c.st.x.got.length c.st.c4, .slice c.pA c.past.length c.pc, .slice c.kA c.knows.length c.kc] ∧ Box wx (w.heap.size + 1) 28 #[.int .i64 y.x.way, .int .i64 y.x.ver, .int .i64 y.x.want, .slice y.A1 y.x.sent.length y.c1, .slice y.A2 y.x.live.length y.c2, .slice y.A3 y.x.back.length y.c3, .slice y.A4 y.x.got.length y.c4] ∧ Box wx (w.heap.size + 1 + 1) 33 #[.int .i64 p.s, .int .i64 p.k, .int .i64 p.f, .int .i64 p.t, .int .i64 p.m, .int .i64 p.u, .int .i64 p.v])
  case first =>
    have TKv : True := trivial
    go_region_held3 (fun w' => w'.cell? ⟨w.heap.size, 0, none⟩ = some (.int .i64 c.id) ∧ w'.cell? ⟨w.heap.size, 1, none⟩ = some (.slice c.bk.A1 c.bk.b.own.length c.bk.c1) ∧ w'.cell? ⟨w.heap.size, 2, none⟩ = some (.slice c.bk.A2 c.bk.b.notes.length c.bk.c2) ∧ w'.cell? ⟨w.heap.size, 3, none⟩ = some (.int .i64 c.bk.b.locked) ∧ w'.cell? ⟨w.heap.size, 4, none⟩ = some (.int .i64 c.st.x.way) ∧ w'.cell? ⟨w.heap.size, 5, none⟩ = some (.int .i64 c.st.x.ver) ∧ w'.cell? ⟨w.heap.size, 6, none⟩ = some (.int .i64 c.st.x.want) ∧ w'.cell? ⟨w.heap.size, 7, none⟩ = some (.slice c.st.A1 c.st.x.sent.length c.st.c1) ∧ w'.cell? ⟨w.heap.size, 8, none⟩ = some (.slice c.st.A2 c.st.x.live.length c.st.c2) ∧ w'.cell? ⟨w.heap.size, 9, none⟩ = some (.slice c.st.A3 c.st.x.back.length c.st.c3) ∧ w'.cell? ⟨w.heap.size, 10, none⟩ = some (.slice c.st.A4 c.st.x.got.length c.st.c4) ∧ w'.cell? ⟨w.heap.size, 11, none⟩ = some (.slice c.pA c.past.length c.pc) ∧ w'.cell? ⟨w.heap.size, 12, none⟩ = some (.slice c.kA c.knows.length c.kc) ∧ w'.cell? ⟨w.heap.size + 1, 0, none⟩ = some (.int .i64 y.x.way) ∧ w'.cell? ⟨w.heap.size + 1, 1, none⟩ = some (.int .i64 y.x.ver) ∧ w'.cell? ⟨w.heap.size + 1, 2, none⟩ = some (.int .i64 y.x.want) ∧ w'.cell? ⟨w.heap.size + 1, 3, none⟩ = some (.slice y.A1 y.x.sent.length y.c1) ∧ w'.cell? ⟨w.heap.size + 1, 4, none⟩ = some (.slice y.A2 y.x.live.length y.c2) ∧ w'.cell? ⟨w.heap.size + 1, 5, none⟩ = some (.slice y.A3 y.x.back.length y.c3) ∧ w'.cell? ⟨w.heap.size + 1, 6, none⟩ = some (.slice y.A4 y.x.got.length y.c4) ∧ w'.cell? ⟨w.heap.size + 1 + 1, 0, none⟩ = some (.int .i64 p.s) ∧ w'.cell? ⟨w.heap.size + 1 + 1, 1, none⟩ = some (.int .i64 p.k) ∧ w'.cell? ⟨w.heap.size + 1 + 1, 2, none⟩ = some (.int .i64 p.f) ∧ w'.cell? ⟨w.heap.size + 1 + 1, 3, none⟩ = some (.int .i64 p.t) ∧ w'.cell? ⟨w.heap.size + 1 + 1, 4, none⟩ = some (.int .i64 p.m) ∧ w'.cell? ⟨w.heap.size + 1 + 1, 5, none⟩ = some (.int .i64 p.u) ∧ w'.cell? ⟨w.heap.size + 1 + 1, 6, none⟩ = some (.int .i64 p.v))
      (((try dsimp only); (repeat' apply And.intro) <;> (first | with_reducible assumption | (go_keep; done))))
      (first | (have _t := HBv9; clear _t; go_at_call 9; refine (HSP.out p1 t _ SP.out (OP.out.kept (Keeps.refl noBlk w5)) ET.out (OT.out.kept (Keeps.refl noBlk w5))).mono ?_; rintro e w6 ⟨v, rfl, s9, k9, hge9, hk6⟩; dsimp only [ChM.val, StM.val]; have HSV := Lib.hid s9; have HV9 := Lib.hid k9; clear s9 k9; have hq := hk6; have HVG := Lib.hid (fun b (h : chBlk v b) => (show w5.heap.size ≤ b by have := hge9 b h; (first | omega | (simp at this; omega)))); clear hge9; clear hk6; have hv := HBv9.out.keeps hq (fun h => h); clear HBv9; have HBv9 := Lib.hid hv; clear hv; have hr9 := (OP.out).kept hq; clear OP; have OP := Lib.hid hr9; clear hr9; have hr9 := (OT.out).kept hq; clear OT; have OT := Lib.hid hr9; clear hr9; have ha := HBa.out.keeps hq (fun h => h); clear HBa; have HBa := Lib.hid ha; have a0 := ha.cell 0; have a1 := ha.cell 1; have a2 := ha.cell 2; have a3 := ha.cell 3; have a4 := ha.cell 4; have a5 := ha.cell 5; have a6 := ha.cell 6; have a7 := ha.cell 7; have a8 := ha.cell 8; have a9 := ha.cell 9; have a10 := ha.cell 10; have a11 := ha.cell 11; have a12 := ha.cell 12; simp at a0 a1 a2 a3 a4 a5 a6 a7 a8 a9 a10 a11 a12; have za := ha.lt; clear ha; have hb := HBb.out.keeps hq (fun h => h); clear HBb; have HBb := Lib.hid hb; have b0 := hb.cell 0; have b1 := hb.cell 1; have b2 := hb.cell 2; have b3 := hb.cell 3; have b4 := hb.cell 4; have b5 := hb.cell 5; have b6 := hb.cell 6; simp at b0 b1 b2 b3 b4 b5 b6; have zb := hb.lt; clear hb; have hk := HBk.out.keeps hq (fun h => h); clear HBk; have HBk := Lib.hid hk; have k0 := hk.cell 0; have k1 := hk.cell 1; have k2 := hk.cell 2; have k3 := hk.cell 3; have k4 := hk.cell 4; have k5 := hk.cell 5; have k6 := hk.cell 6; simp at k0 k1 k2 k3 k4 k5 k6; have zk := hk.lt; clear hk; have hb := HBv9.out; have v90 := hb.cell 0; have v91 := hb.cell 1; have v92 := hb.cell 2; have v93 := hb.cell 3; have v94 := hb.cell 4; have v95 := hb.cell 5; have v96 := hb.cell 6; have v97 := hb.cell 7; have v98 := hb.cell 8; have v99 := hb.cell 9; have v910 := hb.cell 10; have v911 := hb.cell 11; have v912 := hb.cell 12; have f90 := hb.frozen 0; have f91 := hb.frozen 1; have f92 := hb.frozen 2; have f93 := hb.frozen 3; have f94 := hb.frozen 4; have f95 := hb.frozen 5; have f96 := hb.frozen 6; have f97 := hb.frozen 7; have f98 := hb.frozen 8; have f99 := hb.frozen 9; have f910 := hb.frozen 10; have f911 := hb.frozen 11; have f912 := hb.frozen 12; simp at v90 v91 v92 v93 v94 v95 v96 v97 v98 v99 v910 v911 v912; have z9 := hb.lt; clear hb; have hq9 := HQ9.out.trans hq; clear HQ9; have HQ9 := Lib.hid hq9; clear hq9; have hh9 := HK.out.trans hq; clear HK; have HK := Lib.hid hh9; clear hh9; have sz6 := hq.size; (try simp at sz6); clear hq) | (have _t := TKv; clear _t; go_at_call 9; refine (HSP.out p1 t _ SP.out (OP.out.kept (Keeps.refl noBlk w5)) ET.out (OT.out.kept (Keeps.refl noBlk w5))).mono ?_; rintro e w6 ⟨v, rfl, s9, k9, hge9, hk6⟩; dsimp only [ChM.val, StM.val]; have HSV := Lib.hid s9; have HV9 := Lib.hid k9; clear s9 k9; have hq := hk6; have HVG := Lib.hid (fun b (h : chBlk v b) => (show w5.heap.size ≤ b by have := hge9 b h; (first | omega | (simp at this; omega)))); clear hge9; clear hk6; have hr9 := (OP.out).kept hq; clear OP; have OP := Lib.hid hr9; clear hr9; have hr9 := (OT.out).kept hq; clear OT; have OT := Lib.hid hr9; clear hr9; have ha := HBa.out.keeps hq (fun h => h); clear HBa; have HBa := Lib.hid ha; have a0 := ha.cell 0; have a1 := ha.cell 1; have a2 := ha.cell 2; have a3 := ha.cell 3; have a4 := ha.cell 4; have a5 := ha.cell 5; have a6 := ha.cell 6; have a7 := ha.cell 7; have a8 := ha.cell 8; have a9 := ha.cell 9; have a10 := ha.cell 10; have a11 := ha.cell 11; have a12 := ha.cell 12; simp at a0 a1 a2 a3 a4 a5 a6 a7 a8 a9 a10 a11 a12; have za := ha.lt; clear ha; have hb := HBb.out.keeps hq (fun h => h); clear HBb; have HBb := Lib.hid hb; have b0 := hb.cell 0; have b1 := hb.cell 1; have b2 := hb.cell 2; have b3 := hb.cell 3; have b4 := hb.cell 4; have b5 := hb.cell 5; have b6 := hb.cell 6; simp at b0 b1 b2 b3 b4 b5 b6; have zb := hb.lt; clear hb; have hk := HBk.out.keeps hq (fun h => h); clear HBk; have HBk := Lib.hid hk; have k0 := hk.cell 0; have k1 := hk.cell 1; have k2 := hk.cell 2; have k3 := hk.cell 3; have k4 := hk.cell 4; have k5 := hk.cell 5; have k6 := hk.cell 6; simp at k0 k1 k2 k3 k4 k5 k6; have zk := hk.lt; clear hk; have hq9 := HQ9.out.trans hq; clear HQ9; have HQ9 := Lib.hid hq9; clear hq9; have hh9 := HK.out.trans hq; clear HK; have HK := Lib.hid hh9; clear hh9; have sz6 := hq.size; (try simp at sz6); clear hq) | (clear TKv; have TKh3 : True := trivial; go_at_call 9; refine (HSP.out p1 t _ SP.out (OP.out.kept ((Keeps.refl noBlk w5).alloc (.cells #[.int .i64 0, .slice none 0 0, .slice none 0 0, .int .i64 0, .int .i64 0, .int .i64 0, .int .i64 0, .slice none 0 0, .slice none 0 0, .slice none 0 0, .slice none 0 0, .slice none 0 0, .slice none 0 0] 42))) ET.out (OT.out.kept ((Keeps.refl noBlk w5).alloc (.cells #[.int .i64 0, .slice none 0 0, .slice none 0 0, .int .i64 0, .int .i64 0, .int .i64 0, .int .i64 0, .slice none 0 0, .slice none 0 0, .slice none 0 0, .slice none 0 0, .slice none 0 0, .slice none 0 0] 42)))).mono ?_; rintro e w6 ⟨v, rfl, s9, k9, hge9, hk6⟩; dsimp only [ChM.val, StM.val]; have HSV := Lib.hid s9; have HV9 := Lib.hid k9; clear s9 k9; have hraw := hk6; have HBv9 := Lib.hid ((Box.new w5 _ rfl 42 #[.int .i64 0, .slice none 0 0, .slice none 0 0, .int .i64 0, .int .i64 0, .int .i64 0, .int .i64 0, .slice none 0 0, .slice none 0 0, .slice none 0 0, .slice none 0 0, .slice none 0 0, .slice none 0 0]).keeps hraw (fun h => h)); have hq := ((Keeps.refl noBlk w5).alloc (.cells #[.int .i64 0, .slice none 0 0, .slice none 0 0, .int .i64 0, .int .i64 0, .int .i64 0, .int .i64 0, .slice none 0 0, .slice none 0 0, .slice none 0 0, .slice none 0 0, .slice none 0 0, .slice none 0 0] 42)).trans hraw; clear hraw; have HVG := Lib.hid (fun b (h : chBlk v b) => (show w5.heap.size + 1 ≤ b by have := hge9 b h; (first | omega | (simp at this; omega)))); clear hge9; clear hk6; have hr9 := (OP.out).kept hq; clear OP; have OP := Lib.hid hr9; clear hr9; have hr9 := (OT.out).kept hq; clear OT; have OT := Lib.hid hr9; clear hr9; have ha := HBa.out.keeps hq (fun h => h); clear HBa; have HBa := Lib.hid ha; have a0 := ha.cell 0; have a1 := ha.cell 1; have a2 := ha.cell 2; have a3 := ha.cell 3; have a4 := ha.cell 4; have a5 := ha.cell 5; have a6 := ha.cell 6; have a7 := ha.cell 7; have a8 := ha.cell 8; have a9 := ha.cell 9; have a10 := ha.cell 10; have a11 := ha.cell 11; have a12 := ha.cell 12; simp at a0 a1 a2 a3 a4 a5 a6 a7 a8 a9 a10 a11 a12; have za := ha.lt; clear ha; have hb := HBb.out.keeps hq (fun h => h); clear HBb; have HBb := Lib.hid hb; have b0 := hb.cell 0; have b1 := hb.cell 1; have b2 := hb.cell 2; have b3 := hb.cell 3; have b4 := hb.cell 4; have b5 := hb.cell 5; have b6 := hb.cell 6; simp at b0 b1 b2 b3 b4 b5 b6; have zb := hb.lt; clear hb; have hk := HBk.out.keeps hq (fun h => h); clear HBk; have HBk := Lib.hid hk; have k0 := hk.cell 0; have k1 := hk.cell 1; have k2 := hk.cell 2; have k3 := hk.cell 3; have k4 := hk.cell 4; have k5 := hk.cell 5; have k6 := hk.cell 6; simp at k0 k1 k2 k3 k4 k5 k6; have zk := hk.lt; clear hk; have hb := HBv9.out; have v90 := hb.cell 0; have v91 := hb.cell 1; have v92 := hb.cell 2; have v93 := hb.cell 3; have v94 := hb.cell 4; have v95 := hb.cell 5; have v96 := hb.cell 6; have v97 := hb.cell 7; have v98 := hb.cell 8; have v99 := hb.cell 9; have v910 := hb.cell 10; have v911 := hb.cell 11; have v912 := hb.cell 12; have f90 := hb.frozen 0; have f91 := hb.frozen 1; have f92 := hb.frozen 2; have f93 := hb.frozen 3; have f94 := hb.frozen 4; have f95 := hb.frozen 5; have f96 := hb.frozen 6; have f97 := hb.frozen 7; have f98 := hb.frozen 8; have f99 := hb.frozen 9; have f910 := hb.frozen 10; have f911 := hb.frozen 11; have f912 := hb.frozen 12; simp at v90 v91 v92 v93 v94 v95 v96 v97 v98 v99 v910 v911 v912; have z9 := hb.lt; clear hb; have hq9 := HQ9.out.trans hq; clear HQ9; have HQ9 := Lib.hid hq9; clear hq9; have hh9 := HK.out.trans hq; clear HK; have HK := Lib.hid hh9; clear hh9; have sz6 := hq.size; (try simp at sz6); clear hq; have : ¬ w.heap.size = w5.heap.size := (by omega); have : ¬ w5.heap.size = w.heap.size := (by omega); have : ¬ w.heap.size + 1 = w5.heap.size := (by omega); have : ¬ w5.heap.size = w.heap.size + 1 := (by omega); have : ¬ w.heap.size + 1 + 1 = w5.heap.size := (by omega); have : ¬ w5.heap.size = w.heap.size + 1 + 1 := (by omega)) | (have _t := HBv9; clear _t; go_at_call 12; refine (HTP.out _).mono ?_; rintro e w5 ⟨rfl, hk5⟩; have hq := hk5; clear hk5; have hv := HBv9.out.keeps hq (fun h => h); clear HBv9; have HBv9 := Lib.hid hv; clear hv; have hr9 := (OP.out).kept hq; clear OP; have OP := Lib.hid hr9; clear hr9; have hr9 := (OT.out).kept hq; clear OT; have OT := Lib.hid hr9; clear hr9; have ha := HBa.out.keeps hq (fun h => h); clear HBa; have HBa := Lib.hid ha; have a0 := ha.cell 0; have a1 := ha.cell 1; have a2 := ha.cell 2; have a3 := ha.cell 3; have a4 := ha.cell 4; have a5 := ha.cell 5; have a6 := ha.cell 6; have a7 := ha.cell 7; have a8 := ha.cell 8; have a9 := ha.cell 9; have a10 := ha.cell 10; have a11 := ha.cell 11; have a12 := ha.cell 12; simp at a0 a1 a2 a3 a4 a5 a6 a7 a8 a9 a10 a11 a12; have za := ha.lt; clear ha; have hb := HBb.out.keeps hq (fun h => h); clear HBb; have HBb := Lib.hid hb; have b0 := hb.cell 0; have b1 := hb.cell 1; have b2 := hb.cell 2; have b3 := hb.cell 3; have b4 := hb.cell 4; have b5 := hb.cell 5; have b6 := hb.cell 6; simp at b0 b1 b2 b3 b4 b5 b6; have zb := hb.lt; clear hb; have hk := HBk.out.keeps hq (fun h => h); clear HBk; have HBk := Lib.hid hk; have k0 := hk.cell 0; have k1 := hk.cell 1; have k2 := hk.cell 2; have k3 := hk.cell 3; have k4 := hk.cell 4; have k5 := hk.cell 5; have k6 := hk.cell 6; simp at k0 k1 k2 k3 k4 k5 k6; have zk := hk.lt; clear hk; have hb := HBv9.out; have v90 := hb.cell 0; have v91 := hb.cell 1; have v92 := hb.cell 2; have v93 := hb.cell 3; have v94 := hb.cell 4; have v95 := hb.cell 5; have v96 := hb.cell 6; have v97 := hb.cell 7; have v98 := hb.cell 8; have v99 := hb.cell 9; have v910 := hb.cell 10; have v911 := hb.cell 11; have v912 := hb.cell 12; have f90 := hb.frozen 0; have f91 := hb.frozen 1; have f92 := hb.frozen 2; have f93 := hb.frozen 3; have f94 := hb.frozen 4; have f95 := hb.frozen 5; have f96 := hb.frozen 6; have f97 := hb.frozen 7; have f98 := hb.frozen 8; have f99 := hb.frozen 9; have f910 := hb.frozen 10; have f911 := hb.frozen 11; have f912 := hb.frozen 12; simp at v90 v91 v92 v93 v94 v95 v96 v97 v98 v99 v910 v911 v912; have z9 := hb.lt; clear hb; have hq9 := HQ9.out.trans hq; clear HQ9; have HQ9 := Lib.hid hq9; clear hq9; have hh9 := HK.out.trans hq; clear HK; have HK := Lib.hid hh9; clear hh9; have sz5 := hq.size; (try simp at sz5); clear hq) | (have _t := TKv; clear _t; go_at_call 12; refine (HTP.out _).mono ?_; rintro e w5 ⟨rfl, hk5⟩; have hq := hk5; clear hk5; have hr9 := (OP.out).kept hq; clear OP; have OP := Lib.hid hr9; clear hr9; have hr9 := (OT.out).kept hq; clear OT; have OT := Lib.hid hr9; clear hr9; have ha := HBa.out.keeps hq (fun h => h); clear HBa; have HBa := Lib.hid ha; have a0 := ha.cell 0; have a1 := ha.cell 1; have a2 := ha.cell 2; have a3 := ha.cell 3; have a4 := ha.cell 4; have a5 := ha.cell 5; have a6 := ha.cell 6; have a7 := ha.cell 7; have a8 := ha.cell 8; have a9 := ha.cell 9; have a10 := ha.cell 10; have a11 := ha.cell 11; have a12 := ha.cell 12; simp at a0 a1 a2 a3 a4 a5 a6 a7 a8 a9 a10 a11 a12; have za := ha.lt; clear ha; have hb := HBb.out.keeps hq (fun h => h); clear HBb; have HBb := Lib.hid hb; have b0 := hb.cell 0; have b1 := hb.cell 1; have b2 := hb.cell 2; have b3 := hb.cell 3; have b4 := hb.cell 4; have b5 := hb.cell 5; have b6 := hb.cell 6; simp at b0 b1 b2 b3 b4 b5 b6; have zb := hb.lt; clear hb; have hk := HBk.out.keeps hq (fun h => h); clear HBk; have HBk := Lib.hid hk; have k0 := hk.cell 0; have k1 := hk.cell 1; have k2 := hk.cell 2; have k3 := hk.cell 3; have k4 := hk.cell 4; have k5 := hk.cell 5; have k6 := hk.cell 6; simp at k0 k1 k2 k3 k4 k5 k6; have zk := hk.lt; clear hk; have hq9 := HQ9.out.trans hq; clear HQ9; have HQ9 := Lib.hid hq9; clear hq9; have hh9 := HK.out.trans hq; clear HK; have HK := Lib.hid hh9; clear hh9; have sz5 := hq.size; (try simp at sz5); clear hq) | (clear TKv; have TKh2 : True := trivial; go_at_call 12; refine (HTP.out _).mono ?_; rintro e w5 ⟨rfl, hk5⟩; have hraw := hk5; have HBv9 := Lib.hid ((Box.new w4 _ rfl 42 #[.int .i64 0, .slice none 0 0, .slice none 0 0, .int .i64 0, .int .i64 0, .int .i64 0, .int .i64 0, .slice none 0 0, .slice none 0 0, .slice none 0 0, .slice none 0 0, .slice none 0 0, .slice none 0 0]).keeps hraw (fun h => h)); have hq := ((Keeps.refl noBlk w4).alloc (.cells #[.int .i64 0, .slice none 0 0, .slice none 0 0, .int .i64 0, .int .i64 0, .int .i64 0, .int .i64 0, .slice none 0 0, .slice none 0 0, .slice none 0 0, .slice none 0 0, .slice none 0 0, .slice none 0 0] 42)).trans hraw; clear hraw; clear hk5; have hr9 := (OP.out).kept hq; clear OP; have OP := Lib.hid hr9; clear hr9; have hr9 := (OT.out).kept hq; clear OT; have OT := Lib.hid hr9; clear hr9; have ha := HBa.out.keeps hq (fun h => h); clear HBa; have HBa := Lib.hid ha; have a0 := ha.cell 0; have a1 := ha.cell 1; have a2 := ha.cell 2; have a3 := ha.cell 3; have a4 := ha.cell 4; have a5 := ha.cell 5; have a6 := ha.cell 6; have a7 := ha.cell 7; have a8 := ha.cell 8; have a9 := ha.cell 9; have a10 := ha.cell 10; have a11 := ha.cell 11; have a12 := ha.cell 12; simp at a0 a1 a2 a3 a4 a5 a6 a7 a8 a9 a10 a11 a12; have za := ha.lt; clear ha; have hb := HBb.out.keeps hq (fun h => h); clear HBb; have HBb := Lib.hid hb; have b0 := hb.cell 0; have b1 := hb.cell 1; have b2 := hb.cell 2; have b3 := hb.cell 3; have b4 := hb.cell 4; have b5 := hb.cell 5; have b6 := hb.cell 6; simp at b0 b1 b2 b3 b4 b5 b6; have zb := hb.lt; clear hb; have hk := HBk.out.keeps hq (fun h => h); clear HBk; have HBk := Lib.hid hk; have k0 := hk.cell 0; have k1 := hk.cell 1; have k2 := hk.cell 2; have k3 := hk.cell 3; have k4 := hk.cell 4; have k5 := hk.cell 5; have k6 := hk.cell 6; simp at k0 k1 k2 k3 k4 k5 k6; have zk := hk.lt; clear hk; have hb := HBv9.out; have v90 := hb.cell 0; have v91 := hb.cell 1; have v92 := hb.cell 2; have v93 := hb.cell 3; have v94 := hb.cell 4; have v95 := hb.cell 5; have v96 := hb.cell 6; have v97 := hb.cell 7; have v98 := hb.cell 8; have v99 := hb.cell 9; have v910 := hb.cell 10; have v911 := hb.cell 11; have v912 := hb.cell 12; have f90 := hb.frozen 0; have f91 := hb.frozen 1; have f92 := hb.frozen 2; have f93 := hb.frozen 3; have f94 := hb.frozen 4; have f95 := hb.frozen 5; have f96 := hb.frozen 6; have f97 := hb.frozen 7; have f98 := hb.frozen 8; have f99 := hb.frozen 9; have f910 := hb.frozen 10; have f911 := hb.frozen 11; have f912 := hb.frozen 12; simp at v90 v91 v92 v93 v94 v95 v96 v97 v98 v99 v910 v911 v912; have z9 := hb.lt; clear hb; have hq9 := HQ9.out.trans hq; clear HQ9; have HQ9 := Lib.hid hq9; clear hq9; have hh9 := HK.out.trans hq; clear HK; have HK := Lib.hid hh9; clear hh9; have sz5 := hq.size; (try simp at sz5); clear hq; have : ¬ w.heap.size = w4.heap.size := (by omega); have : ¬ w4.heap.size = w.heap.size := (by omega); have : ¬ w.heap.size + 1 = w4.heap.size := (by omega); have : ¬ w4.heap.size = w.heap.size + 1 := (by omega); have : ¬ w.heap.size + 1 + 1 = w4.heap.size := (by omega); have : ¬ w4.heap.size = w.heap.size + 1 + 1 := (by omega)) | (have _t := HBv9; clear _t; go_at_call 11; refine (HTS.out _ HK.out).mono ?_; rintro e w4 ⟨t, rfl, s9, o9, hk4⟩; dsimp only [ChM.val, StM.val]; have ET := Lib.hid s9; have OT := Lib.hid (o9.at_ (hLen.out t s9)); clear s9 o9; have hq := hk4; clear hk4; have hv := HBv9.out.keeps hq (fun h => h); clear HBv9; have HBv9 := Lib.hid hv; clear hv; have hr9 := (OP.out).kept hq; clear OP; have OP := Lib.hid hr9; clear hr9; have ha := HBa.out.keeps hq (fun h => h); clear HBa; have HBa := Lib.hid ha; have a0 := ha.cell 0; have a1 := ha.cell 1; have a2 := ha.cell 2; have a3 := ha.cell 3; have a4 := ha.cell 4; have a5 := ha.cell 5; have a6 := ha.cell 6; have a7 := ha.cell 7; have a8 := ha.cell 8; have a9 := ha.cell 9; have a10 := ha.cell 10; have a11 := ha.cell 11; have a12 := ha.cell 12; simp at a0 a1 a2 a3 a4 a5 a6 a7 a8 a9 a10 a11 a12; have za := ha.lt; clear ha; have hb := HBb.out.keeps hq (fun h => h); clear HBb; have HBb := Lib.hid hb; have b0 := hb.cell 0; have b1 := hb.cell 1; have b2 := hb.cell 2; have b3 := hb.cell 3; have b4 := hb.cell 4; have b5 := hb.cell 5; have b6 := hb.cell 6; simp at b0 b1 b2 b3 b4 b5 b6; have zb := hb.lt; clear hb; have hk := HBk.out.keeps hq (fun h => h); clear HBk; have HBk := Lib.hid hk; have k0 := hk.cell 0; have k1 := hk.cell 1; have k2 := hk.cell 2; have k3 := hk.cell 3; have k4 := hk.cell 4; have k5 := hk.cell 5; have k6 := hk.cell 6; simp at k0 k1 k2 k3 k4 k5 k6; have zk := hk.lt; clear hk; have hb := HBv9.out; have v90 := hb.cell 0; have v91 := hb.cell 1; have v92 := hb.cell 2; have v93 := hb.cell 3; have v94 := hb.cell 4; have v95 := hb.cell 5; have v96 := hb.cell 6; have v97 := hb.cell 7; have v98 := hb.cell 8; have v99 := hb.cell 9; have v910 := hb.cell 10; have v911 := hb.cell 11; have v912 := hb.cell 12; have f90 := hb.frozen 0; have f91 := hb.frozen 1; have f92 := hb.frozen 2; have f93 := hb.frozen 3; have f94 := hb.frozen 4; have f95 := hb.frozen 5; have f96 := hb.frozen 6; have f97 := hb.frozen 7; have f98 := hb.frozen 8; have f99 := hb.frozen 9; have f910 := hb.frozen 10; have f911 := hb.frozen 11; have f912 := hb.frozen 12; simp at v90 v91 v92 v93 v94 v95 v96 v97 v98 v99 v910 v911 v912; have z9 := hb.lt; clear hb; have hq9 := HQ9.out.trans hq; clear HQ9; have HQ9 := Lib.hid hq9; clear hq9; have hh9 := HK.out.trans hq; clear HK; have HK := Lib.hid hh9; clear hh9; have sz4 := hq.size; (try simp at sz4); clear hq) | (have _t := TKv; clear _t; go_at_call 11; refine (HTS.out _ HK.out).mono ?_; rintro e w4 ⟨t, rfl, s9, o9, hk4⟩; dsimp only [ChM.val, StM.val]; have ET := Lib.hid s9; have OT := Lib.hid (o9.at_ (hLen.out t s9)); clear s9 o9; have hq := hk4; clear hk4; have hr9 := (OP.out).kept hq; clear OP; have OP := Lib.hid hr9; clear hr9; have ha := HBa.out.keeps hq (fun h => h); clear HBa; have HBa := Lib.hid ha; have a0 := ha.cell 0; have a1 := ha.cell 1; have a2 := ha.cell 2; have a3 := ha.cell 3; have a4 := ha.cell 4; have a5 := ha.cell 5; have a6 := ha.cell 6; have a7 := ha.cell 7; have a8 := ha.cell 8; have a9 := ha.cell 9; have a10 := ha.cell 10; have a11 := ha.cell 11; have a12 := ha.cell 12; simp at a0 a1 a2 a3 a4 a5 a6 a7 a8 a9 a10 a11 a12; have za := ha.lt; clear ha; have hb := HBb.out.keeps hq (fun h => h); clear HBb; have HBb := Lib.hid hb; have b0 := hb.cell 0; have b1 := hb.cell 1; have b2 := hb.cell 2; have b3 := hb.cell 3; have b4 := hb.cell 4; have b5 := hb.cell 5; have b6 := hb.cell 6; simp at b0 b1 b2 b3 b4 b5 b6; have zb := hb.lt; clear hb; have hk := HBk.out.keeps hq (fun h => h); clear HBk; have HBk := Lib.hid hk; have k0 := hk.cell 0; have k1 := hk.cell 1; have k2 := hk.cell 2; have k3 := hk.cell 3; have k4 := hk.cell 4; have k5 := hk.cell 5; have k6 := hk.cell 6; simp at k0 k1 k2 k3 k4 k5 k6; have zk := hk.lt; clear hk; have hq9 := HQ9.out.trans hq; clear HQ9; have HQ9 := Lib.hid hq9; clear hq9; have hh9 := HK.out.trans hq; clear HK; have HK := Lib.hid hh9; clear hh9; have sz4 := hq.size; (try simp at sz4); clear hq) | (clear TKv; have TKh1 : True := trivial; go_at_call 11; refine (HTS.out _ (HK.out.alloc (.cells #[.int .i64 0, .slice none 0 0, .slice none 0 0, .int .i64 0, .int .i64 0, .int .i64 0, .int .i64 0, .slice none 0 0, .slice none 0 0, .slice none 0 0, .slice none 0 0, .slice none 0 0, .slice none 0 0] 42))).mono ?_; rintro e w4 ⟨t, rfl, s9, o9, hk4⟩; dsimp only [ChM.val, StM.val]; have ET := Lib.hid s9; have OT := Lib.hid (o9.at_ (hLen.out t s9)); clear s9 o9; have hraw := hk4; have HBv9 := Lib.hid ((Box.new w3 _ rfl 42 #[.int .i64 0, .slice none 0 0, .slice none 0 0, .int .i64 0, .int .i64 0, .int .i64 0, .int .i64 0, .slice none 0 0, .slice none 0 0, .slice none 0 0, .slice none 0 0, .slice none 0 0, .slice none 0 0]).keeps hraw (fun h => h)); have hq := ((Keeps.refl noBlk w3).alloc (.cells #[.int .i64 0, .slice none 0 0, .slice none 0 0, .int .i64 0, .int .i64 0, .int .i64 0, .int .i64 0, .slice none 0 0, .slice none 0 0, .slice none 0 0, .slice none 0 0, .slice none 0 0, .slice none 0 0] 42)).trans hraw; clear hraw; clear hk4; have hr9 := (OP.out).kept hq; clear OP; have OP := Lib.hid hr9; clear hr9; have ha := HBa.out.keeps hq (fun h => h); clear HBa; have HBa := Lib.hid ha; have a0 := ha.cell 0; have a1 := ha.cell 1; have a2 := ha.cell 2; have a3 := ha.cell 3; have a4 := ha.cell 4; have a5 := ha.cell 5; have a6 := ha.cell 6; have a7 := ha.cell 7; have a8 := ha.cell 8; have a9 := ha.cell 9; have a10 := ha.cell 10; have a11 := ha.cell 11; have a12 := ha.cell 12; simp at a0 a1 a2 a3 a4 a5 a6 a7 a8 a9 a10 a11 a12; have za := ha.lt; clear ha; have hb := HBb.out.keeps hq (fun h => h); clear HBb; have HBb := Lib.hid hb; have b0 := hb.cell 0; have b1 := hb.cell 1; have b2 := hb.cell 2; have b3 := hb.cell 3; have b4 := hb.cell 4; have b5 := hb.cell 5; have b6 := hb.cell 6; simp at b0 b1 b2 b3 b4 b5 b6; have zb := hb.lt; clear hb; have hk := HBk.out.keeps hq (fun h => h); clear HBk; have HBk := Lib.hid hk; have k0 := hk.cell 0; have k1 := hk.cell 1; have k2 := hk.cell 2; have k3 := hk.cell 3; have k4 := hk.cell 4; have k5 := hk.cell 5; have k6 := hk.cell 6; simp at k0 k1 k2 k3 k4 k5 k6; have zk := hk.lt; clear hk; have hb := HBv9.out; have v90 := hb.cell 0; have v91 := hb.cell 1; have v92 := hb.cell 2; have v93 := hb.cell 3; have v94 := hb.cell 4; have v95 := hb.cell 5; have v96 := hb.cell 6; have v97 := hb.cell 7; have v98 := hb.cell 8; have v99 := hb.cell 9; have v910 := hb.cell 10; have v911 := hb.cell 11; have v912 := hb.cell 12; have f90 := hb.frozen 0; have f91 := hb.frozen 1; have f92 := hb.frozen 2; have f93 := hb.frozen 3; have f94 := hb.frozen 4; have f95 := hb.frozen 5; have f96 := hb.frozen 6; have f97 := hb.frozen 7; have f98 := hb.frozen 8; have f99 := hb.frozen 9; have f910 := hb.frozen 10; have f911 := hb.frozen 11; have f912 := hb.frozen 12; simp at v90 v91 v92 v93 v94 v95 v96 v97 v98 v99 v910 v911 v912; have z9 := hb.lt; clear hb; have hq9 := HQ9.out.trans hq; clear HQ9; have HQ9 := Lib.hid hq9; clear hq9; have hh9 := HK.out.trans hq; clear HK; have HK := Lib.hid hh9; clear hh9; have sz4 := hq.size; (try simp at sz4); clear hq; have : ¬ w.heap.size = w3.heap.size := (by omega); have : ¬ w3.heap.size = w.heap.size := (by omega); have : ¬ w.heap.size + 1 = w3.heap.size := (by omega); have : ¬ w3.heap.size = w.heap.size + 1 := (by omega); have : ¬ w.heap.size + 1 + 1 = w3.heap.size := (by omega); have : ¬ w3.heap.size = w.heap.size + 1 + 1 := (by omega)) | (go_at_call 10; refine (HTO.out _ (HK.out.drewN 1)).mono ?_; rintro e w3 ⟨p1, Gp, rfl, s9, o9, hk3⟩; dsimp only [ChM.val, StM.val]; have SP := Lib.hid s9; have OP := Lib.hid o9.at_; clear s9 o9; have hq := ((Keeps.refl noBlk w2).drewN 1).trans hk3; clear hk3; have ha := HBa.out.keeps hq (fun h => h); clear HBa; have HBa := Lib.hid ha; have a0 := ha.cell 0; have a1 := ha.cell 1; have a2 := ha.cell 2; have a3 := ha.cell 3; have a4 := ha.cell 4; have a5 := ha.cell 5; have a6 := ha.cell 6; have a7 := ha.cell 7; have a8 := ha.cell 8; have a9 := ha.cell 9; have a10 := ha.cell 10; have a11 := ha.cell 11; have a12 := ha.cell 12; simp at a0 a1 a2 a3 a4 a5 a6 a7 a8 a9 a10 a11 a12; have za := ha.lt; clear ha; have hb := HBb.out.keeps hq (fun h => h); clear HBb; have HBb := Lib.hid hb; have b0 := hb.cell 0; have b1 := hb.cell 1; have b2 := hb.cell 2; have b3 := hb.cell 3; have b4 := hb.cell 4; have b5 := hb.cell 5; have b6 := hb.cell 6; simp at b0 b1 b2 b3 b4 b5 b6; have zb := hb.lt; clear hb; have hk := HBk.out.keeps hq (fun h => h); clear HBk; have HBk := Lib.hid hk; have k0 := hk.cell 0; have k1 := hk.cell 1; have k2 := hk.cell 2; have k3 := hk.cell 3; have k4 := hk.cell 4; have k5 := hk.cell 5; have k6 := hk.cell 6; simp at k0 k1 k2 k3 k4 k5 k6; have zk := hk.lt; clear hk; have HQ9 := Lib.hid hq; have hh9 := HK.out.trans hq; clear HK; have HK := Lib.hid hh9; clear hh9; have sz3 := hq.size; (try simp at sz3); clear hq) | (clear TKv; have TKh0 : True := trivial; go_at_call 10; refine (HTO.out _ ((HK.out.alloc (.cells #[.int .i64 0, .slice none 0 0, .slice none 0 0, .int .i64 0, .int .i64 0, .int .i64 0, .int .i64 0, .slice none 0 0, .slice none 0 0, .slice none 0 0, .slice none 0 0, .slice none 0 0, .slice none 0 0] 42)).drewN 1)).mono ?_; rintro e w3 ⟨p1, Gp, rfl, s9, o9, hk3⟩; dsimp only [ChM.val, StM.val]; have SP := Lib.hid s9; have OP := Lib.hid o9.at_; clear s9 o9; have hraw := ((Keeps.refl noBlk (w2.alloc (.cells #[.int .i64 0, .slice none 0 0, .slice none 0 0, .int .i64 0, .int .i64 0, .int .i64 0, .int .i64 0, .slice none 0 0, .slice none 0 0, .slice none 0 0, .slice none 0 0, .slice none 0 0, .slice none 0 0] 42))).drewN 1).trans hk3; have HBv9 := Lib.hid ((Box.new w2 _ rfl 42 #[.int .i64 0, .slice none 0 0, .slice none 0 0, .int .i64 0, .int .i64 0, .int .i64 0, .int .i64 0, .slice none 0 0, .slice none 0 0, .slice none 0 0, .slice none 0 0, .slice none 0 0, .slice none 0 0]).keeps hraw (fun h => h)); have hq := ((Keeps.refl noBlk w2).alloc (.cells #[.int .i64 0, .slice none 0 0, .slice none 0 0, .int .i64 0, .int .i64 0, .int .i64 0, .int .i64 0, .slice none 0 0, .slice none 0 0, .slice none 0 0, .slice none 0 0, .slice none 0 0, .slice none 0 0] 42)).trans hraw; clear hraw; clear hk3; have ha := HBa.out.keeps hq (fun h => h); clear HBa; have HBa := Lib.hid ha; have a0 := ha.cell 0; have a1 := ha.cell 1; have a2 := ha.cell 2; have a3 := ha.cell 3; have a4 := ha.cell 4; have a5 := ha.cell 5; have a6 := ha.cell 6; have a7 := ha.cell 7; have a8 := ha.cell 8; have a9 := ha.cell 9; have a10 := ha.cell 10; have a11 := ha.cell 11; have a12 := ha.cell 12; simp at a0 a1 a2 a3 a4 a5 a6 a7 a8 a9 a10 a11 a12; have za := ha.lt; clear ha; have hb := HBb.out.keeps hq (fun h => h); clear HBb; have HBb := Lib.hid hb; have b0 := hb.cell 0; have b1 := hb.cell 1; have b2 := hb.cell 2; have b3 := hb.cell 3; have b4 := hb.cell 4; have b5 := hb.cell 5; have b6 := hb.cell 6; simp at b0 b1 b2 b3 b4 b5 b6; have zb := hb.lt; clear hb; have hk := HBk.out.keeps hq (fun h => h); clear HBk; have HBk := Lib.hid hk; have k0 := hk.cell 0; have k1 := hk.cell 1; have k2 := hk.cell 2; have k3 := hk.cell 3; have k4 := hk.cell 4; have k5 := hk.cell 5; have k6 := hk.cell 6; simp at k0 k1 k2 k3 k4 k5 k6; have zk := hk.lt; clear hk; have hb := HBv9.out; have v90 := hb.cell 0; have v91 := hb.cell 1; have v92 := hb.cell 2; have v93 := hb.cell 3; have v94 := hb.cell 4; have v95 := hb.cell 5; have v96 := hb.cell 6; have v97 := hb.cell 7; have v98 := hb.cell 8; have v99 := hb.cell 9; have v910 := hb.cell 10; have v911 := hb.cell 11; have v912 := hb.cell 12; have f90 := hb.frozen 0; have f91 := hb.frozen 1; have f92 := hb.frozen 2; have f93 := hb.frozen 3; have f94 := hb.frozen 4; have f95 := hb.frozen 5; have f96 := hb.frozen 6; have f97 := hb.frozen 7; have f98 := hb.frozen 8; have f99 := hb.frozen 9; have f910 := hb.frozen 10; have f911 := hb.frozen 11; have f912 := hb.frozen 12; simp at v90 v91 v92 v93 v94 v95 v96 v97 v98 v99 v910 v911 v912; have z9 := hb.lt; clear hb; have HQ9 := Lib.hid hq; have hh9 := HK.out.trans hq; clear HK; have HK := Lib.hid hh9; clear hh9; have sz3 := hq.size; (try simp at sz3); clear hq; have : ¬ w.heap.size = w2.heap.size := (by omega); have : ¬ w2.heap.size = w.heap.size := (by omega); have : ¬ w.heap.size + 1 = w2.heap.size := (by omega); have : ¬ w2.heap.size = w.heap.size + 1 := (by omega); have : ¬ w.heap.size + 1 + 1 = w2.heap.size := (by omega); have : ¬ w2.heap.size = w.heap.size + 1 + 1 := (by omega)))
    all_goals go_wp2_with fail
    all_goals go_meet
    all_goals first | (have _t := TKv; have KA := (Keeps.refl noBlk w6).alloc (.cells #[.int .i64 v.id, .slice v.bk.A1 v.bk.b.own.length v.bk.c1, .slice v.bk.A2 v.bk.b.notes.length v.bk.c2, .int .i64 v.bk.b.locked, .int .i64 v.st.x.way, .int .i64 v.st.x.ver, .int .i64 v.st.x.want, .slice v.st.A1 v.st.x.sent.length v.st.c1, .slice v.st.A2 v.st.x.live.length v.st.c2, .slice v.st.A3 v.st.x.back.length v.st.c3, .slice v.st.A4 v.st.x.got.length v.st.c4, .slice v.pA v.past.length v.pc, .slice v.kA v.knows.length v.kc] 42); exact ⟨w6.heap.size, v, rfl, rfl, Box.new w6 _ rfl 42 #[.int .i64 v.id, .slice v.bk.A1 v.bk.b.own.length v.bk.c1, .slice v.bk.A2 v.bk.b.notes.length v.bk.c2, .int .i64 v.bk.b.locked, .int .i64 v.st.x.way, .int .i64 v.st.x.ver, .int .i64 v.st.x.want, .slice v.st.A1 v.st.x.sent.length v.st.c1, .slice v.st.A2 v.st.x.live.length v.st.c2, .slice v.st.A3 v.st.x.back.length v.st.c3, .slice v.st.A4 v.st.x.got.length v.st.c4, .slice v.pA v.past.length v.pc, .slice v.kA v.knows.length v.kc], HSV.out, HV9.out.kept KA, by omega, HQ9.out.trans KA, HK.out.trans KA, HBa.out.keeps KA (fun h => h), HBb.out.keeps KA (fun h => h), HBk.out.keeps KA (fun h => h)⟩) | (have _t := TKh0; have hb9 := (((((((((((((HBv9.out.set_ 0 (.int .i64 v.id)).set_ 1 (.slice v.bk.A1 v.bk.b.own.length v.bk.c1)).set_ 2 (.slice v.bk.A2 v.bk.b.notes.length v.bk.c2)).set_ 3 (.int .i64 v.bk.b.locked)).set_ 4 (.int .i64 v.st.x.way)).set_ 5 (.int .i64 v.st.x.ver)).set_ 6 (.int .i64 v.st.x.want)).set_ 7 (.slice v.st.A1 v.st.x.sent.length v.st.c1)).set_ 8 (.slice v.st.A2 v.st.x.live.length v.st.c2)).set_ 9 (.slice v.st.A3 v.st.x.back.length v.st.c3)).set_ 10 (.slice v.st.A4 v.st.x.got.length v.st.c4)).set_ 11 (.slice v.pA v.past.length v.pc)).set_ 12 (.slice v.kA v.knows.length v.kc)); simp at hb9; have KA := ((((((((((((((Keeps.refl (one w2.heap.size) w6).set1 0 (.int .i64 v.id)).set1 1 (.slice v.bk.A1 v.bk.b.own.length v.bk.c1)).set1 2 (.slice v.bk.A2 v.bk.b.notes.length v.bk.c2)).set1 3 (.int .i64 v.bk.b.locked)).set1 4 (.int .i64 v.st.x.way)).set1 5 (.int .i64 v.st.x.ver)).set1 6 (.int .i64 v.st.x.want)).set1 7 (.slice v.st.A1 v.st.x.sent.length v.st.c1)).set1 8 (.slice v.st.A2 v.st.x.live.length v.st.c2)).set1 9 (.slice v.st.A3 v.st.x.back.length v.st.c3)).set1 10 (.slice v.st.A4 v.st.x.got.length v.st.c4)).set1 11 (.slice v.pA v.past.length v.pc)).set1 12 (.slice v.kA v.knows.length v.kc)); exact ⟨w2.heap.size, v, rfl, rfl, hb9, HSV.out, HV9.out.keeps KA (fun b hb e => by have e' : b = w2.heap.size := e; have := HVG.out b hb; omega), by omega, (((((((((((((HQ9.out.new (g := w2.heap.size) (by omega) _ _).new (g := w2.heap.size) (by omega) _ _).new (g := w2.heap.size) (by omega) _ _).new (g := w2.heap.size) (by omega) _ _).new (g := w2.heap.size) (by omega) _ _).new (g := w2.heap.size) (by omega) _ _).new (g := w2.heap.size) (by omega) _ _).new (g := w2.heap.size) (by omega) _ _).new (g := w2.heap.size) (by omega) _ _).new (g := w2.heap.size) (by omega) _ _).new (g := w2.heap.size) (by omega) _ _).new (g := w2.heap.size) (by omega) _ _).new (g := w2.heap.size) (by omega) _ _), (((((((((((((HK.out.new (g := w2.heap.size) (by omega) _ _).new (g := w2.heap.size) (by omega) _ _).new (g := w2.heap.size) (by omega) _ _).new (g := w2.heap.size) (by omega) _ _).new (g := w2.heap.size) (by omega) _ _).new (g := w2.heap.size) (by omega) _ _).new (g := w2.heap.size) (by omega) _ _).new (g := w2.heap.size) (by omega) _ _).new (g := w2.heap.size) (by omega) _ _).new (g := w2.heap.size) (by omega) _ _).new (g := w2.heap.size) (by omega) _ _).new (g := w2.heap.size) (by omega) _ _).new (g := w2.heap.size) (by omega) _ _), HBa.out.keeps KA (fun e => by have e' : w.heap.size = w2.heap.size := e; omega), HBb.out.keeps KA (fun e => by have e' : w.heap.size + 1 = w2.heap.size := e; omega), HBk.out.keeps KA (fun e => by have e' : w.heap.size + 1 + 1 = w2.heap.size := e; omega)⟩) | (have _t := TKh1; have hb9 := (((((((((((((HBv9.out.set_ 0 (.int .i64 v.id)).set_ 1 (.slice v.bk.A1 v.bk.b.own.length v.bk.c1)).set_ 2 (.slice v.bk.A2 v.bk.b.notes.length v.bk.c2)).set_ 3 (.int .i64 v.bk.b.locked)).set_ 4 (.int .i64 v.st.x.way)).set_ 5 (.int .i64 v.st.x.ver)).set_ 6 (.int .i64 v.st.x.want)).set_ 7 (.slice v.st.A1 v.st.x.sent.length v.st.c1)).set_ 8 (.slice v.st.A2 v.st.x.live.length v.st.c2)).set_ 9 (.slice v.st.A3 v.st.x.back.length v.st.c3)).set_ 10 (.slice v.st.A4 v.st.x.got.length v.st.c4)).set_ 11 (.slice v.pA v.past.length v.pc)).set_ 12 (.slice v.kA v.knows.length v.kc)); simp at hb9; have KA := ((((((((((((((Keeps.refl (one w3.heap.size) w6).set1 0 (.int .i64 v.id)).set1 1 (.slice v.bk.A1 v.bk.b.own.length v.bk.c1)).set1 2 (.slice v.bk.A2 v.bk.b.notes.length v.bk.c2)).set1 3 (.int .i64 v.bk.b.locked)).set1 4 (.int .i64 v.st.x.way)).set1 5 (.int .i64 v.st.x.ver)).set1 6 (.int .i64 v.st.x.want)).set1 7 (.slice v.st.A1 v.st.x.sent.length v.st.c1)).set1 8 (.slice v.st.A2 v.st.x.live.length v.st.c2)).set1 9 (.slice v.st.A3 v.st.x.back.length v.st.c3)).set1 10 (.slice v.st.A4 v.st.x.got.length v.st.c4)).set1 11 (.slice v.pA v.past.length v.pc)).set1 12 (.slice v.kA v.knows.length v.kc)); exact ⟨w3.heap.size, v, rfl, rfl, hb9, HSV.out, HV9.out.keeps KA (fun b hb e => by have e' : b = w3.heap.size := e; have := HVG.out b hb; omega), by omega, (((((((((((((HQ9.out.new (g := w3.heap.size) (by omega) _ _).new (g := w3.heap.size) (by omega) _ _).new (g := w3.heap.size) (by omega) _ _).new (g := w3.heap.size) (by omega) _ _).new (g := w3.heap.size) (by omega) _ _).new (g := w3.heap.size) (by omega) _ _).new (g := w3.heap.size) (by omega) _ _).new (g := w3.heap.size) (by omega) _ _).new (g := w3.heap.size) (by omega) _ _).new (g := w3.heap.size) (by omega) _ _).new (g := w3.heap.size) (by omega) _ _).new (g := w3.heap.size) (by omega) _ _).new (g := w3.heap.size) (by omega) _ _), (((((((((((((HK.out.new (g := w3.heap.size) (by omega) _ _).new (g := w3.heap.size) (by omega) _ _).new (g := w3.heap.size) (by omega) _ _).new (g := w3.heap.size) (by omega) _ _).new (g := w3.heap.size) (by omega) _ _).new (g := w3.heap.size) (by omega) _ _).new (g := w3.heap.size) (by omega) _ _).new (g := w3.heap.size) (by omega) _ _).new (g := w3.heap.size) (by omega) _ _).new (g := w3.heap.size) (by omega) _ _).new (g := w3.heap.size) (by omega) _ _).new (g := w3.heap.size) (by omega) _ _).new (g := w3.heap.size) (by omega) _ _), HBa.out.keeps KA (fun e => by have e' : w.heap.size = w3.heap.size := e; omega), HBb.out.keeps KA (fun e => by have e' : w.heap.size + 1 = w3.heap.size := e; omega), HBk.out.keeps KA (fun e => by have e' : w.heap.size + 1 + 1 = w3.heap.size := e; omega)⟩) | (have _t := TKh2; have hb9 := (((((((((((((HBv9.out.set_ 0 (.int .i64 v.id)).set_ 1 (.slice v.bk.A1 v.bk.b.own.length v.bk.c1)).set_ 2 (.slice v.bk.A2 v.bk.b.notes.length v.bk.c2)).set_ 3 (.int .i64 v.bk.b.locked)).set_ 4 (.int .i64 v.st.x.way)).set_ 5 (.int .i64 v.st.x.ver)).set_ 6 (.int .i64 v.st.x.want)).set_ 7 (.slice v.st.A1 v.st.x.sent.length v.st.c1)).set_ 8 (.slice v.st.A2 v.st.x.live.length v.st.c2)).set_ 9 (.slice v.st.A3 v.st.x.back.length v.st.c3)).set_ 10 (.slice v.st.A4 v.st.x.got.length v.st.c4)).set_ 11 (.slice v.pA v.past.length v.pc)).set_ 12 (.slice v.kA v.knows.length v.kc)); simp at hb9; have KA := ((((((((((((((Keeps.refl (one w4.heap.size) w6).set1 0 (.int .i64 v.id)).set1 1 (.slice v.bk.A1 v.bk.b.own.length v.bk.c1)).set1 2 (.slice v.bk.A2 v.bk.b.notes.length v.bk.c2)).set1 3 (.int .i64 v.bk.b.locked)).set1 4 (.int .i64 v.st.x.way)).set1 5 (.int .i64 v.st.x.ver)).set1 6 (.int .i64 v.st.x.want)).set1 7 (.slice v.st.A1 v.st.x.sent.length v.st.c1)).set1 8 (.slice v.st.A2 v.st.x.live.length v.st.c2)).set1 9 (.slice v.st.A3 v.st.x.back.length v.st.c3)).set1 10 (.slice v.st.A4 v.st.x.got.length v.st.c4)).set1 11 (.slice v.pA v.past.length v.pc)).set1 12 (.slice v.kA v.knows.length v.kc)); exact ⟨w4.heap.size, v, rfl, rfl, hb9, HSV.out, HV9.out.keeps KA (fun b hb e => by have e' : b = w4.heap.size := e; have := HVG.out b hb; omega), by omega, (((((((((((((HQ9.out.new (g := w4.heap.size) (by omega) _ _).new (g := w4.heap.size) (by omega) _ _).new (g := w4.heap.size) (by omega) _ _).new (g := w4.heap.size) (by omega) _ _).new (g := w4.heap.size) (by omega) _ _).new (g := w4.heap.size) (by omega) _ _).new (g := w4.heap.size) (by omega) _ _).new (g := w4.heap.size) (by omega) _ _).new (g := w4.heap.size) (by omega) _ _).new (g := w4.heap.size) (by omega) _ _).new (g := w4.heap.size) (by omega) _ _).new (g := w4.heap.size) (by omega) _ _).new (g := w4.heap.size) (by omega) _ _), (((((((((((((HK.out.new (g := w4.heap.size) (by omega) _ _).new (g := w4.heap.size) (by omega) _ _).new (g := w4.heap.size) (by omega) _ _).new (g := w4.heap.size) (by omega) _ _).new (g := w4.heap.size) (by omega) _ _).new (g := w4.heap.size) (by omega) _ _).new (g := w4.heap.size) (by omega) _ _).new (g := w4.heap.size) (by omega) _ _).new (g := w4.heap.size) (by omega) _ _).new (g := w4.heap.size) (by omega) _ _).new (g := w4.heap.size) (by omega) _ _).new (g := w4.heap.size) (by omega) _ _).new (g := w4.heap.size) (by omega) _ _), HBa.out.keeps KA (fun e => by have e' : w.heap.size = w4.heap.size := e; omega), HBb.out.keeps KA (fun e => by have e' : w.heap.size + 1 = w4.heap.size := e; omega), HBk.out.keeps KA (fun e => by have e' : w.heap.size + 1 + 1 = w4.heap.size := e; omega)⟩) | (have _t := TKh3; have hb9 := (((((((((((((HBv9.out.set_ 0 (.int .i64 v.id)).set_ 1 (.slice v.bk.A1 v.bk.b.own.length v.bk.c1)).set_ 2 (.slice v.bk.A2 v.bk.b.notes.length v.bk.c2)).set_ 3 (.int .i64 v.bk.b.locked)).set_ 4 (.int .i64 v.st.x.way)).set_ 5 (.int .i64 v.st.x.ver)).set_ 6 (.int .i64 v.st.x.want)).set_ 7 (.slice v.st.A1 v.st.x.sent.length v.st.c1)).set_ 8 (.slice v.st.A2 v.st.x.live.length v.st.c2)).set_ 9 (.slice v.st.A3 v.st.x.back.length v.st.c3)).set_ 10 (.slice v.st.A4 v.st.x.got.length v.st.c4)).set_ 11 (.slice v.pA v.past.length v.pc)).set_ 12 (.slice v.kA v.knows.length v.kc)); simp at hb9; have KA := ((((((((((((((Keeps.refl (one w5.heap.size) w6).set1 0 (.int .i64 v.id)).set1 1 (.slice v.bk.A1 v.bk.b.own.length v.bk.c1)).set1 2 (.slice v.bk.A2 v.bk.b.notes.length v.bk.c2)).set1 3 (.int .i64 v.bk.b.locked)).set1 4 (.int .i64 v.st.x.way)).set1 5 (.int .i64 v.st.x.ver)).set1 6 (.int .i64 v.st.x.want)).set1 7 (.slice v.st.A1 v.st.x.sent.length v.st.c1)).set1 8 (.slice v.st.A2 v.st.x.live.length v.st.c2)).set1 9 (.slice v.st.A3 v.st.x.back.length v.st.c3)).set1 10 (.slice v.st.A4 v.st.x.got.length v.st.c4)).set1 11 (.slice v.pA v.past.length v.pc)).set1 12 (.slice v.kA v.knows.length v.kc)); exact ⟨w5.heap.size, v, rfl, rfl, hb9, HSV.out, HV9.out.keeps KA (fun b hb e => by have e' : b = w5.heap.size := e; have := HVG.out b hb; omega), by omega, (((((((((((((HQ9.out.new (g := w5.heap.size) (by omega) _ _).new (g := w5.heap.size) (by omega) _ _).new (g := w5.heap.size) (by omega) _ _).new (g := w5.heap.size) (by omega) _ _).new (g := w5.heap.size) (by omega) _ _).new (g := w5.heap.size) (by omega) _ _).new (g := w5.heap.size) (by omega) _ _).new (g := w5.heap.size) (by omega) _ _).new (g := w5.heap.size) (by omega) _ _).new (g := w5.heap.size) (by omega) _ _).new (g := w5.heap.size) (by omega) _ _).new (g := w5.heap.size) (by omega) _ _).new (g := w5.heap.size) (by omega) _ _), (((((((((((((HK.out.new (g := w5.heap.size) (by omega) _ _).new (g := w5.heap.size) (by omega) _ _).new (g := w5.heap.size) (by omega) _ _).new (g := w5.heap.size) (by omega) _ _).new (g := w5.heap.size) (by omega) _ _).new (g := w5.heap.size) (by omega) _ _).new (g := w5.heap.size) (by omega) _ _).new (g := w5.heap.size) (by omega) _ _).new (g := w5.heap.size) (by omega) _ _).new (g := w5.heap.size) (by omega) _ _).new (g := w5.heap.size) (by omega) _ _).new (g := w5.heap.size) (by omega) _ _).new (g := w5.heap.size) (by omega) _ _), HBa.out.keeps KA (fun e => by have e' : w.heap.size = w5.heap.size := e; omega), HBb.out.keeps KA (fun e => by have e' : w.heap.size + 1 = w5.heap.size := e; omega), HBk.out.keeps KA (fun e => by have e' : w.heap.size + 1 + 1 = w5.heap.size := e; omega)⟩)
  case rest =>
  obtain ⟨gv, v, rfl, rfl, hbv, hs9, hv0, hgv, hq0, hk0, _, _, _⟩ := hcut
  have ha := HBa.out.keeps hq0 (fun h => h)
  clear HBa
  have HBa := Lib.hid ha
  clear ha
  have hb := HBb.out.keeps hq0 (fun h => h)
  clear HBb
  have HBb := Lib.hid hb
  clear hb
  have hk := HBk.out.keeps hq0 (fun h => h)
  clear HBk
  have HBk := Lib.hid hk
  clear hk
  have hr := HK.out.trans hq0
  clear HK
  have HK := Lib.hid hr
  clear hr
  have HBv := Lib.hid hbv
  clear hbv hk0
  have sq3 := hq0.size
  clear hq0
  have Sv := Lib.hid hs9
  clear hs9
  have hgl := HBv.out.lt
  have Ov := Lib.hid hv0
  have Lv := Lib.hid (fun b (hb : chBlk v b) => hv0.lt hb)
  clear hv0
  have hb := HBa.out
  have a0 := hb.cell 0
  have a1 := hb.cell 1
  have a2 := hb.cell 2
  have a3 := hb.cell 3
  have a4 := hb.cell 4
  have a5 := hb.cell 5
  have a6 := hb.cell 6
  have a7 := hb.cell 7
  have a8 := hb.cell 8
  have a9 := hb.cell 9
  have a10 := hb.cell 10
  have a11 := hb.cell 11
  have a12 := hb.cell 12
  simp at a0 a1 a2 a3 a4 a5 a6 a7 a8 a9 a10 a11 a12
  have za := hb.lt
  clear hb
  go_wp2_with fail
  refine (HTO.out _ HK.out).mono ?_
  rintro e w4 ⟨x, Gx, rfl, s9, o9, hk4⟩
  dsimp only [ChM.val]
  have Sx := Lib.hid s9
  have Nx := Lib.hid o9
  have Ox := Lib.hid o9.at_
  have Lx := Lib.hid (fun b (hb : chBlk x b) => And.intro (o9.ge hb) (o9.lt hb))
  clear s9 o9
  clear a0 a1 a2 a3 a4 a5 a6 a7 a8 a9 a10 a11 a12 za
  have ha := HBa.out.keeps hk4 (fun h => h)
  clear HBa
  have HBa := Lib.hid ha
  clear ha
  have hb := HBb.out.keeps hk4 (fun h => h)
  clear HBb
  have HBb := Lib.hid hb
  clear hb
  have hk := HBk.out.keeps hk4 (fun h => h)
  clear HBk
  have HBk := Lib.hid hk
  clear hk
  have hv := HBv.out.keeps hk4 (fun h => h)
  clear HBv
  have HBv := Lib.hid hv
  clear hv
  have hr := (Ov.out).kept hk4
  clear Ov
  have Ov := Lib.hid hr
  clear hr
  have hr := HK.out.trans hk4
  clear HK
  have HK := Lib.hid hr
  clear hr
  have sz4 := hk4.size
  (try simp at sz4)
  clear hk4
  have hb := HBb.out
  have b0 := hb.cell 0
  have b1 := hb.cell 1
  have b2 := hb.cell 2
  have b3 := hb.cell 3
  have b4 := hb.cell 4
  have b5 := hb.cell 5
  have b6 := hb.cell 6
  simp at b0 b1 b2 b3 b4 b5 b6
  have zb := hb.lt
  clear hb
  have ha := HBa.out.alloc (.cells #[.int .i64 x.id, .slice x.bk.A1 x.bk.b.own.length x.bk.c1, .slice x.bk.A2 x.bk.b.notes.length x.bk.c2, .int .i64 x.bk.b.locked, .int .i64 x.st.x.way, .int .i64 x.st.x.ver, .int .i64 x.st.x.want, .slice x.st.A1 x.st.x.sent.length x.st.c1, .slice x.st.A2 x.st.x.live.length x.st.c2, .slice x.st.A3 x.st.x.back.length x.st.c3, .slice x.st.A4 x.st.x.got.length x.st.c4, .slice x.pA x.past.length x.pc, .slice x.kA x.knows.length x.kc] 42)
  clear HBa
  have HBa := Lib.hid ha
  clear ha
  have hb := HBb.out.alloc (.cells #[.int .i64 x.id, .slice x.bk.A1 x.bk.b.own.length x.bk.c1, .slice x.bk.A2 x.bk.b.notes.length x.bk.c2, .int .i64 x.bk.b.locked, .int .i64 x.st.x.way, .int .i64 x.st.x.ver, .int .i64 x.st.x.want, .slice x.st.A1 x.st.x.sent.length x.st.c1, .slice x.st.A2 x.st.x.live.length x.st.c2, .slice x.st.A3 x.st.x.back.length x.st.c3, .slice x.st.A4 x.st.x.got.length x.st.c4, .slice x.pA x.past.length x.pc, .slice x.kA x.knows.length x.kc] 42)
  clear HBb
  have HBb := Lib.hid hb
  clear hb
  have hk := HBk.out.alloc (.cells #[.int .i64 x.id, .slice x.bk.A1 x.bk.b.own.length x.bk.c1, .slice x.bk.A2 x.bk.b.notes.length x.bk.c2, .int .i64 x.bk.b.locked, .int .i64 x.st.x.way, .int .i64 x.st.x.ver, .int .i64 x.st.x.want, .slice x.st.A1 x.st.x.sent.length x.st.c1, .slice x.st.A2 x.st.x.live.length x.st.c2, .slice x.st.A3 x.st.x.back.length x.st.c3, .slice x.st.A4 x.st.x.got.length x.st.c4, .slice x.pA x.past.length x.pc, .slice x.kA x.knows.length x.kc] 42)
  clear HBk
  have HBk := Lib.hid hk
  clear hk
  have hv := HBv.out.alloc (.cells #[.int .i64 x.id, .slice x.bk.A1 x.bk.b.own.length x.bk.c1, .slice x.bk.A2 x.bk.b.notes.length x.bk.c2, .int .i64 x.bk.b.locked, .int .i64 x.st.x.way, .int .i64 x.st.x.ver, .int .i64 x.st.x.want, .slice x.st.A1 x.st.x.sent.length x.st.c1, .slice x.st.A2 x.st.x.live.length x.st.c2, .slice x.st.A3 x.st.x.back.length x.st.c3, .slice x.st.A4 x.st.x.got.length x.st.c4, .slice x.pA x.past.length x.pc, .slice x.kA x.knows.length x.kc] 42)
  clear HBv
  have HBv := Lib.hid hv
  clear hv
  have hr := (Ov.out).kept ((Keeps.refl noBlk w4).alloc (.cells #[.int .i64 x.id, .slice x.bk.A1 x.bk.b.own.length x.bk.c1, .slice x.bk.A2 x.bk.b.notes.length x.bk.c2, .int .i64 x.bk.b.locked, .int .i64 x.st.x.way, .int .i64 x.st.x.ver, .int .i64 x.st.x.want, .slice x.st.A1 x.st.x.sent.length x.st.c1, .slice x.st.A2 x.st.x.live.length x.st.c2, .slice x.st.A3 x.st.x.back.length x.st.c3, .slice x.st.A4 x.st.x.got.length x.st.c4, .slice x.pA x.past.length x.pc, .slice x.kA x.knows.length x.kc] 42))
  clear Ov
  have Ov := Lib.hid hr
  clear hr
  have hr := (Ox.out).kept ((Keeps.refl noBlk w4).alloc (.cells #[.int .i64 x.id, .slice x.bk.A1 x.bk.b.own.length x.bk.c1, .slice x.bk.A2 x.bk.b.notes.length x.bk.c2, .int .i64 x.bk.b.locked, .int .i64 x.st.x.way, .int .i64 x.st.x.ver, .int .i64 x.st.x.want, .slice x.st.A1 x.st.x.sent.length x.st.c1, .slice x.st.A2 x.st.x.live.length x.st.c2, .slice x.st.A3 x.st.x.back.length x.st.c3, .slice x.st.A4 x.st.x.got.length x.st.c4, .slice x.pA x.past.length x.pc, .slice x.kA x.knows.length x.kc] 42))
  clear Ox
  have Ox := Lib.hid hr
  clear hr
  have hr := (Nx.out).kept ((Keeps.refl noBlk w4).alloc (.cells #[.int .i64 x.id, .slice x.bk.A1 x.bk.b.own.length x.bk.c1, .slice x.bk.A2 x.bk.b.notes.length x.bk.c2, .int .i64 x.bk.b.locked, .int .i64 x.st.x.way, .int .i64 x.st.x.ver, .int .i64 x.st.x.want, .slice x.st.A1 x.st.x.sent.length x.st.c1, .slice x.st.A2 x.st.x.live.length x.st.c2, .slice x.st.A3 x.st.x.back.length x.st.c3, .slice x.st.A4 x.st.x.got.length x.st.c4, .slice x.pA x.past.length x.pc, .slice x.kA x.knows.length x.kc] 42))
  clear Nx
  have Nx := Lib.hid hr
  clear hr
  have hr := HK.out.alloc (.cells #[.int .i64 x.id, .slice x.bk.A1 x.bk.b.own.length x.bk.c1, .slice x.bk.A2 x.bk.b.notes.length x.bk.c2, .int .i64 x.bk.b.locked, .int .i64 x.st.x.way, .int .i64 x.st.x.ver, .int .i64 x.st.x.want, .slice x.st.A1 x.st.x.sent.length x.st.c1, .slice x.st.A2 x.st.x.live.length x.st.c2, .slice x.st.A3 x.st.x.back.length x.st.c3, .slice x.st.A4 x.st.x.got.length x.st.c4, .slice x.pA x.past.length x.pc, .slice x.kA x.knows.length x.kc] 42)
  clear HK
  have HK := Lib.hid hr
  clear hr
  have HBx := Lib.hid (Box.new w4 _ rfl 42 #[.int .i64 x.id, .slice x.bk.A1 x.bk.b.own.length x.bk.c1, .slice x.bk.A2 x.bk.b.notes.length x.bk.c2, .int .i64 x.bk.b.locked, .int .i64 x.st.x.way, .int .i64 x.st.x.ver, .int .i64 x.st.x.want, .slice x.st.A1 x.st.x.sent.length x.st.c1, .slice x.st.A2 x.st.x.live.length x.st.c2, .slice x.st.A3 x.st.x.back.length x.st.c3, .slice x.st.A4 x.st.x.got.length x.st.c4, .slice x.pA x.past.length x.pc, .slice x.kA x.knows.length x.kc])
  go_wp2_with fail
  refine (HTS.out _ HK.out).mono ?_
  rintro e w5 ⟨t, rfl, s9, o9, hk5⟩
  dsimp only [StM.val]
  have Et := Lib.hid s9
  have Nt := Lib.hid o9
  have Ot := Lib.hid (o9.at_ (hLen.out t s9))
  have Lt := Lib.hid (fun b (hb : t.bl b) => And.intro (o9.ge hb) (o9.lt hb))
  clear s9 o9
  clear b0 b1 b2 b3 b4 b5 b6 zb
  have ha := HBa.out.keeps hk5 (fun h => h)
  clear HBa
  have HBa := Lib.hid ha
  clear ha
  have hb := HBb.out.keeps hk5 (fun h => h)
  clear HBb
  have HBb := Lib.hid hb
  clear hb
  have hk := HBk.out.keeps hk5 (fun h => h)
  clear HBk
  have HBk := Lib.hid hk
  clear hk
  have hv := HBv.out.keeps hk5 (fun h => h)
  clear HBv
  have HBv := Lib.hid hv
  clear hv
  have hx := HBx.out.keeps hk5 (fun h => h)
  clear HBx
  have HBx := Lib.hid hx
  clear hx
  have hr := (Ov.out).kept hk5
  clear Ov
  have Ov := Lib.hid hr
  clear hr
  have hr := (Ox.out).kept hk5
  clear Ox
  have Ox := Lib.hid hr
  clear hr
  have hr := (Nx.out).kept hk5
  clear Nx
  have Nx := Lib.hid hr
  clear hr
  have hr := HK.out.trans hk5
  clear HK
  have HK := Lib.hid hr
  clear hr
  have sz5 := hk5.size
  (try simp at sz5)
  clear hk5
  have hb := HBx.out
  have x0 := hb.cell 0
  have x1 := hb.cell 1
  have x2 := hb.cell 2
  have x3 := hb.cell 3
  have x4 := hb.cell 4
  have x5 := hb.cell 5
  have x6 := hb.cell 6
  have x7 := hb.cell 7
  have x8 := hb.cell 8
  have x9 := hb.cell 9
  have x10 := hb.cell 10
  have x11 := hb.cell 11
  have x12 := hb.cell 12
  simp at x0 x1 x2 x3 x4 x5 x6 x7 x8 x9 x10 x11 x12
  have zx := hb.lt
  clear hb
  have hb := HBk.out
  have k0 := hb.cell 0
  have k1 := hb.cell 1
  have k2 := hb.cell 2
  have k3 := hb.cell 3
  have k4 := hb.cell 4
  have k5 := hb.cell 5
  have k6 := hb.cell 6
  simp at k0 k1 k2 k3 k4 k5 k6
  have zk := hb.lt
  clear hb
  have hgl2 := HBx.out.lt
  have ha := HBa.out.alloc (.cells #[.int .i64 t.x.way, .int .i64 t.x.ver, .int .i64 t.x.want, .slice t.A1 t.x.sent.length t.c1, .slice t.A2 t.x.live.length t.c2, .slice t.A3 t.x.back.length t.c3, .slice t.A4 t.x.got.length t.c4] 39)
  clear HBa
  have HBa := Lib.hid ha
  clear ha
  have hb := HBb.out.alloc (.cells #[.int .i64 t.x.way, .int .i64 t.x.ver, .int .i64 t.x.want, .slice t.A1 t.x.sent.length t.c1, .slice t.A2 t.x.live.length t.c2, .slice t.A3 t.x.back.length t.c3, .slice t.A4 t.x.got.length t.c4] 39)
  clear HBb
  have HBb := Lib.hid hb
  clear hb
  have hk := HBk.out.alloc (.cells #[.int .i64 t.x.way, .int .i64 t.x.ver, .int .i64 t.x.want, .slice t.A1 t.x.sent.length t.c1, .slice t.A2 t.x.live.length t.c2, .slice t.A3 t.x.back.length t.c3, .slice t.A4 t.x.got.length t.c4] 39)
  clear HBk
  have HBk := Lib.hid hk
  clear hk
  have hv := HBv.out.alloc (.cells #[.int .i64 t.x.way, .int .i64 t.x.ver, .int .i64 t.x.want, .slice t.A1 t.x.sent.length t.c1, .slice t.A2 t.x.live.length t.c2, .slice t.A3 t.x.back.length t.c3, .slice t.A4 t.x.got.length t.c4] 39)
  clear HBv
  have HBv := Lib.hid hv
  clear hv
  have hx := HBx.out.alloc (.cells #[.int .i64 t.x.way, .int .i64 t.x.ver, .int .i64 t.x.want, .slice t.A1 t.x.sent.length t.c1, .slice t.A2 t.x.live.length t.c2, .slice t.A3 t.x.back.length t.c3, .slice t.A4 t.x.got.length t.c4] 39)
  clear HBx
  have HBx := Lib.hid hx
  clear hx
  have hr := (Ov.out).kept ((Keeps.refl noBlk w5).alloc (.cells #[.int .i64 t.x.way, .int .i64 t.x.ver, .int .i64 t.x.want, .slice t.A1 t.x.sent.length t.c1, .slice t.A2 t.x.live.length t.c2, .slice t.A3 t.x.back.length t.c3, .slice t.A4 t.x.got.length t.c4] 39))
  clear Ov
  have Ov := Lib.hid hr
  clear hr
  have hr := (Ox.out).kept ((Keeps.refl noBlk w5).alloc (.cells #[.int .i64 t.x.way, .int .i64 t.x.ver, .int .i64 t.x.want, .slice t.A1 t.x.sent.length t.c1, .slice t.A2 t.x.live.length t.c2, .slice t.A3 t.x.back.length t.c3, .slice t.A4 t.x.got.length t.c4] 39))
  clear Ox
  have Ox := Lib.hid hr
  clear hr
  have hr := (Nx.out).kept ((Keeps.refl noBlk w5).alloc (.cells #[.int .i64 t.x.way, .int .i64 t.x.ver, .int .i64 t.x.want, .slice t.A1 t.x.sent.length t.c1, .slice t.A2 t.x.live.length t.c2, .slice t.A3 t.x.back.length t.c3, .slice t.A4 t.x.got.length t.c4] 39))
  clear Nx
  have Nx := Lib.hid hr
  clear hr
  have hr := (Ot.out).kept ((Keeps.refl noBlk w5).alloc (.cells #[.int .i64 t.x.way, .int .i64 t.x.ver, .int .i64 t.x.want, .slice t.A1 t.x.sent.length t.c1, .slice t.A2 t.x.live.length t.c2, .slice t.A3 t.x.back.length t.c3, .slice t.A4 t.x.got.length t.c4] 39))
  clear Ot
  have Ot := Lib.hid hr
  clear hr
  have hr := (Nt.out).kept ((Keeps.refl noBlk w5).alloc (.cells #[.int .i64 t.x.way, .int .i64 t.x.ver, .int .i64 t.x.want, .slice t.A1 t.x.sent.length t.c1, .slice t.A2 t.x.live.length t.c2, .slice t.A3 t.x.back.length t.c3, .slice t.A4 t.x.got.length t.c4] 39))
  clear Nt
  have Nt := Lib.hid hr
  clear hr
  have hr := HK.out.alloc (.cells #[.int .i64 t.x.way, .int .i64 t.x.ver, .int .i64 t.x.want, .slice t.A1 t.x.sent.length t.c1, .slice t.A2 t.x.live.length t.c2, .slice t.A3 t.x.back.length t.c3, .slice t.A4 t.x.got.length t.c4] 39)
  clear HK
  have HK := Lib.hid hr
  clear hr
  have HBt := Lib.hid (Box.new w5 _ rfl 39 #[.int .i64 t.x.way, .int .i64 t.x.ver, .int .i64 t.x.want, .slice t.A1 t.x.sent.length t.c1, .slice t.A2 t.x.live.length t.c2, .slice t.A3 t.x.back.length t.c3, .slice t.A4 t.x.got.length t.c4])
  go_wp2_with fail
  clear x0 x1 x2 x3 x4 x5 x6 x7 x8 x9 x10 x11 x12 k0 k1 k2 k3 k4 k5 k6 zx zk
  have szt : w5.heap.size < (w5.alloc (.cells #[.int .i64 t.x.way, .int .i64 t.x.ver, .int .i64 t.x.want, .slice t.A1 t.x.sent.length t.c1, .slice t.A2 t.x.live.length t.c2, .slice t.A3 t.x.back.length t.c3, .slice t.A4 t.x.got.length t.c4] 39)).heap.size := by simp
  generalize (w5.alloc (.cells #[.int .i64 t.x.way, .int .i64 t.x.ver, .int .i64 t.x.want, .slice t.A1 t.x.sent.length t.c1, .slice t.A2 t.x.live.length t.c2, .slice t.A3 t.x.back.length t.c3, .slice t.A4 t.x.got.length t.c4] 39)) = wt at *
  have hb := HBx.out
  have x0 := hb.cell 0
  have x1 := hb.cell 1
  have x2 := hb.cell 2
  have x3 := hb.cell 3
  have x4 := hb.cell 4
  have x5 := hb.cell 5
  have x6 := hb.cell 6
  have x7 := hb.cell 7
  have x8 := hb.cell 8
  have x9 := hb.cell 9
  have x10 := hb.cell 10
  have x11 := hb.cell 11
  have x12 := hb.cell 12
  simp at x0 x1 x2 x3 x4 x5 x6 x7 x8 x9 x10 x11 x12
  have zx := hb.lt
  clear hb
  have hb := HBt.out
  have t0 := hb.cell 0
  have t1 := hb.cell 1
  have t2 := hb.cell 2
  have t3 := hb.cell 3
  have t4 := hb.cell 4
  have t5 := hb.cell 5
  have t6 := hb.cell 6
  simp at t0 t1 t2 t3 t4 t5 t6
  have zt := hb.lt
  clear hb
  have hb := HBk.out
  have k0 := hb.cell 0
  have k1 := hb.cell 1
  have k2 := hb.cell 2
  have k3 := hb.cell 3
  have k4 := hb.cell 4
  have k5 := hb.cell 5
  have k6 := hb.cell 6
  simp at k0 k1 k2 k3 k4 k5 k6
  have zk := hb.lt
  clear hb
  go_wp2_with fail
  go_cut [12, 13] from 43 to 50 (fun sp so wx => ∃ (gn : Nat) (g : ChM) (Gg : Nat → Nat), sp = .pointer (some ⟨gn, 0, none⟩) ∧ so = .bool oo ∧ Box wx gn 42 #[.int .i64 g.id, .slice g.bk.A1 g.bk.b.own.length g.bk.c1, .slice g.bk.A2 g.bk.b.notes.length g.bk.c2, .int .i64 g.bk.b.locked, .int .i64 g.st.x.way, .int .i64 g.st.x.ver, .int .i64 g.st.x.want, .slice g.st.A1 g.st.x.sent.length g.st.c1, .slice g.st.A2 g.st.x.live.length g.st.c2, .slice g.st.A3 g.st.x.back.length g.st.c3, .slice g.st.A4 g.st.x.got.length g.st.c4, .slice g.pA g.past.length g.pc, .slice g.kA g.knows.length g.kc] ∧ SameC R g ∧ ChOwn Gg wx wt.heap.size g ∧ ¬ chBlk g gn ∧ wt.heap.size ≤ gn ∧ Keeps noBlk wt wx ∧ Keeps noBlk w wx ∧ Box wx (w4.heap.size) 42 #[.int .i64 x.id, .slice x.bk.A1 x.bk.b.own.length x.bk.c1, .slice x.bk.A2 x.bk.b.notes.length x.bk.c2, .int .i64 x.bk.b.locked, .int .i64 x.st.x.way, .int .i64 x.st.x.ver, .int .i64 x.st.x.want, .slice x.st.A1 x.st.x.sent.length x.st.c1, .slice x.st.A2 x.st.x.live.length x.st.c2, .slice x.st.A3 x.st.x.back.length x.st.c3, .slice x.st.A4 x.st.x.got.length x.st.c4, .slice x.pA x.past.length x.pc, .slice x.kA x.knows.length x.kc] ∧ Box wx (w5.heap.size) 39 #[.int .i64 t.x.way, .int .i64 t.x.ver, .int .i64 t.x.want, .slice t.A1 t.x.sent.length t.c1, .slice t.A2 t.x.live.length t.c2, .slice t.A3 t.x.back.length t.c3, .slice t.A4 t.x.got.length t.c4] ∧ Box wx (w.heap.size + 1 + 1) 33 #[.int .i64 p.s, .int .i64 p.k, .int .i64 p.f, .int .i64 p.t, .int .i64 p.m, .int .i64 p.u, .int .i64 p.v])
  case first =>
    have TKv : True := trivial
    go_region_held3 (fun w' => w'.cell? ⟨w4.heap.size, 0, none⟩ = some (.int .i64 x.id) ∧ w'.cell? ⟨w4.heap.size, 1, none⟩ = some (.slice x.bk.A1 x.bk.b.own.length x.bk.c1) ∧ w'.cell? ⟨w4.heap.size, 2, none⟩ = some (.slice x.bk.A2 x.bk.b.notes.length x.bk.c2) ∧ w'.cell? ⟨w4.heap.size, 3, none⟩ = some (.int .i64 x.bk.b.locked) ∧ w'.cell? ⟨w4.heap.size, 4, none⟩ = some (.int .i64 x.st.x.way) ∧ w'.cell? ⟨w4.heap.size, 5, none⟩ = some (.int .i64 x.st.x.ver) ∧ w'.cell? ⟨w4.heap.size, 6, none⟩ = some (.int .i64 x.st.x.want) ∧ w'.cell? ⟨w4.heap.size, 7, none⟩ = some (.slice x.st.A1 x.st.x.sent.length x.st.c1) ∧ w'.cell? ⟨w4.heap.size, 8, none⟩ = some (.slice x.st.A2 x.st.x.live.length x.st.c2) ∧ w'.cell? ⟨w4.heap.size, 9, none⟩ = some (.slice x.st.A3 x.st.x.back.length x.st.c3) ∧ w'.cell? ⟨w4.heap.size, 10, none⟩ = some (.slice x.st.A4 x.st.x.got.length x.st.c4) ∧ w'.cell? ⟨w4.heap.size, 11, none⟩ = some (.slice x.pA x.past.length x.pc) ∧ w'.cell? ⟨w4.heap.size, 12, none⟩ = some (.slice x.kA x.knows.length x.kc) ∧ w'.cell? ⟨w5.heap.size, 0, none⟩ = some (.int .i64 t.x.way) ∧ w'.cell? ⟨w5.heap.size, 1, none⟩ = some (.int .i64 t.x.ver) ∧ w'.cell? ⟨w5.heap.size, 2, none⟩ = some (.int .i64 t.x.want) ∧ w'.cell? ⟨w5.heap.size, 3, none⟩ = some (.slice t.A1 t.x.sent.length t.c1) ∧ w'.cell? ⟨w5.heap.size, 4, none⟩ = some (.slice t.A2 t.x.live.length t.c2) ∧ w'.cell? ⟨w5.heap.size, 5, none⟩ = some (.slice t.A3 t.x.back.length t.c3) ∧ w'.cell? ⟨w5.heap.size, 6, none⟩ = some (.slice t.A4 t.x.got.length t.c4) ∧ w'.cell? ⟨w.heap.size + 1 + 1, 0, none⟩ = some (.int .i64 p.s) ∧ w'.cell? ⟨w.heap.size + 1 + 1, 1, none⟩ = some (.int .i64 p.k) ∧ w'.cell? ⟨w.heap.size + 1 + 1, 2, none⟩ = some (.int .i64 p.f) ∧ w'.cell? ⟨w.heap.size + 1 + 1, 3, none⟩ = some (.int .i64 p.t) ∧ w'.cell? ⟨w.heap.size + 1 + 1, 4, none⟩ = some (.int .i64 p.m) ∧ w'.cell? ⟨w.heap.size + 1 + 1, 5, none⟩ = some (.int .i64 p.u) ∧ w'.cell? ⟨w.heap.size + 1 + 1, 6, none⟩ = some (.int .i64 p.v))
      (((try dsimp only); (repeat' apply And.intro) <;> (first | with_reducible assumption | (go_keep; done))))
      (first | (have _t := HBv9; clear _t; go_at_call 13; refine (HIM.out x t _ Sx.out (Ox.out.kept (Keeps.refl noBlk w7)) Et.out (Ot.out.kept (Keeps.refl noBlk w7)) (HT.out.keeps HK.out)).mono ?_; rintro e w8 ⟨g, Gg, rfl, s9, k9, hk8⟩; dsimp only [ChM.val]; have HSV := Lib.hid s9; have HV9 := Lib.hid k9; have hge9 := fun b (h : chBlk g b) => k9.ge h; clear s9 k9; have hq := hk8; have HVG := Lib.hid (fun b (h : chBlk g b) => (show w7.heap.size ≤ b by have := hge9 b h; (first | omega | (simp at this; omega)))); clear hge9; clear hk8; have hv := HBv9.out.keeps hq (fun h => h); clear HBv9; have HBv9 := Lib.hid hv; clear hv; have hr9 := (Ox.out).kept hq; clear Ox; have Ox := Lib.hid hr9; clear hr9; have hr9 := (Ot.out).kept hq; clear Ot; have Ot := Lib.hid hr9; clear hr9; have hx := HBx.out.keeps hq (fun h => h); clear HBx; have HBx := Lib.hid hx; have x0 := hx.cell 0; have x1 := hx.cell 1; have x2 := hx.cell 2; have x3 := hx.cell 3; have x4 := hx.cell 4; have x5 := hx.cell 5; have x6 := hx.cell 6; have x7 := hx.cell 7; have x8 := hx.cell 8; have x9 := hx.cell 9; have x10 := hx.cell 10; have x11 := hx.cell 11; have x12 := hx.cell 12; simp at x0 x1 x2 x3 x4 x5 x6 x7 x8 x9 x10 x11 x12; have zx := hx.lt; clear hx; have ht := HBt.out.keeps hq (fun h => h); clear HBt; have HBt := Lib.hid ht; have t0 := ht.cell 0; have t1 := ht.cell 1; have t2 := ht.cell 2; have t3 := ht.cell 3; have t4 := ht.cell 4; have t5 := ht.cell 5; have t6 := ht.cell 6; simp at t0 t1 t2 t3 t4 t5 t6; have zt := ht.lt; clear ht; have hk := HBk.out.keeps hq (fun h => h); clear HBk; have HBk := Lib.hid hk; have k0 := hk.cell 0; have k1 := hk.cell 1; have k2 := hk.cell 2; have k3 := hk.cell 3; have k4 := hk.cell 4; have k5 := hk.cell 5; have k6 := hk.cell 6; simp at k0 k1 k2 k3 k4 k5 k6; have zk := hk.lt; clear hk; have hb := HBv9.out; have v90 := hb.cell 0; have v91 := hb.cell 1; have v92 := hb.cell 2; have v93 := hb.cell 3; have v94 := hb.cell 4; have v95 := hb.cell 5; have v96 := hb.cell 6; have v97 := hb.cell 7; have v98 := hb.cell 8; have v99 := hb.cell 9; have v910 := hb.cell 10; have v911 := hb.cell 11; have v912 := hb.cell 12; have f90 := hb.frozen 0; have f91 := hb.frozen 1; have f92 := hb.frozen 2; have f93 := hb.frozen 3; have f94 := hb.frozen 4; have f95 := hb.frozen 5; have f96 := hb.frozen 6; have f97 := hb.frozen 7; have f98 := hb.frozen 8; have f99 := hb.frozen 9; have f910 := hb.frozen 10; have f911 := hb.frozen 11; have f912 := hb.frozen 12; simp at v90 v91 v92 v93 v94 v95 v96 v97 v98 v99 v910 v911 v912; have z9 := hb.lt; clear hb; have hq9 := HQ9.out.trans hq; clear HQ9; have HQ9 := Lib.hid hq9; clear hq9; have hh9 := HK.out.trans hq; clear HK; have HK := Lib.hid hh9; clear hh9; have sz8 := hq.size; (try simp at sz8); clear hq) | (have _t := TKv; clear _t; go_at_call 13; refine (HIM.out x t _ Sx.out (Ox.out.kept (Keeps.refl noBlk w7)) Et.out (Ot.out.kept (Keeps.refl noBlk w7)) (HT.out.keeps HK.out)).mono ?_; rintro e w8 ⟨g, Gg, rfl, s9, k9, hk8⟩; dsimp only [ChM.val]; have HSV := Lib.hid s9; have HV9 := Lib.hid k9; have hge9 := fun b (h : chBlk g b) => k9.ge h; clear s9 k9; have hq := hk8; have HVG := Lib.hid (fun b (h : chBlk g b) => (show w7.heap.size ≤ b by have := hge9 b h; (first | omega | (simp at this; omega)))); clear hge9; clear hk8; have hr9 := (Ox.out).kept hq; clear Ox; have Ox := Lib.hid hr9; clear hr9; have hr9 := (Ot.out).kept hq; clear Ot; have Ot := Lib.hid hr9; clear hr9; have hx := HBx.out.keeps hq (fun h => h); clear HBx; have HBx := Lib.hid hx; have x0 := hx.cell 0; have x1 := hx.cell 1; have x2 := hx.cell 2; have x3 := hx.cell 3; have x4 := hx.cell 4; have x5 := hx.cell 5; have x6 := hx.cell 6; have x7 := hx.cell 7; have x8 := hx.cell 8; have x9 := hx.cell 9; have x10 := hx.cell 10; have x11 := hx.cell 11; have x12 := hx.cell 12; simp at x0 x1 x2 x3 x4 x5 x6 x7 x8 x9 x10 x11 x12; have zx := hx.lt; clear hx; have ht := HBt.out.keeps hq (fun h => h); clear HBt; have HBt := Lib.hid ht; have t0 := ht.cell 0; have t1 := ht.cell 1; have t2 := ht.cell 2; have t3 := ht.cell 3; have t4 := ht.cell 4; have t5 := ht.cell 5; have t6 := ht.cell 6; simp at t0 t1 t2 t3 t4 t5 t6; have zt := ht.lt; clear ht; have hk := HBk.out.keeps hq (fun h => h); clear HBk; have HBk := Lib.hid hk; have k0 := hk.cell 0; have k1 := hk.cell 1; have k2 := hk.cell 2; have k3 := hk.cell 3; have k4 := hk.cell 4; have k5 := hk.cell 5; have k6 := hk.cell 6; simp at k0 k1 k2 k3 k4 k5 k6; have zk := hk.lt; clear hk; have hq9 := HQ9.out.trans hq; clear HQ9; have HQ9 := Lib.hid hq9; clear hq9; have hh9 := HK.out.trans hq; clear HK; have HK := Lib.hid hh9; clear hh9; have sz8 := hq.size; (try simp at sz8); clear hq) | (clear TKv; have TKh1 : True := trivial; go_at_call 13; refine (HIM.out x t _ Sx.out (Ox.out.kept ((Keeps.refl noBlk w7).alloc (.cells #[.int .i64 0, .slice none 0 0, .slice none 0 0, .int .i64 0, .int .i64 0, .int .i64 0, .int .i64 0, .slice none 0 0, .slice none 0 0, .slice none 0 0, .slice none 0 0, .slice none 0 0, .slice none 0 0] 42))) Et.out (Ot.out.kept ((Keeps.refl noBlk w7).alloc (.cells #[.int .i64 0, .slice none 0 0, .slice none 0 0, .int .i64 0, .int .i64 0, .int .i64 0, .int .i64 0, .slice none 0 0, .slice none 0 0, .slice none 0 0, .slice none 0 0, .slice none 0 0, .slice none 0 0] 42))) (HT.out.keeps (HK.out.alloc (.cells #[.int .i64 0, .slice none 0 0, .slice none 0 0, .int .i64 0, .int .i64 0, .int .i64 0, .int .i64 0, .slice none 0 0, .slice none 0 0, .slice none 0 0, .slice none 0 0, .slice none 0 0, .slice none 0 0] 42)))).mono ?_; rintro e w8 ⟨g, Gg, rfl, s9, k9, hk8⟩; dsimp only [ChM.val]; have HSV := Lib.hid s9; have HV9 := Lib.hid k9; have hge9 := fun b (h : chBlk g b) => k9.ge h; clear s9 k9; have hraw := hk8; have HBv9 := Lib.hid ((Box.new w7 _ rfl 42 #[.int .i64 0, .slice none 0 0, .slice none 0 0, .int .i64 0, .int .i64 0, .int .i64 0, .int .i64 0, .slice none 0 0, .slice none 0 0, .slice none 0 0, .slice none 0 0, .slice none 0 0, .slice none 0 0]).keeps hraw (fun h => h)); have hq := ((Keeps.refl noBlk w7).alloc (.cells #[.int .i64 0, .slice none 0 0, .slice none 0 0, .int .i64 0, .int .i64 0, .int .i64 0, .int .i64 0, .slice none 0 0, .slice none 0 0, .slice none 0 0, .slice none 0 0, .slice none 0 0, .slice none 0 0] 42)).trans hraw; clear hraw; have HVG := Lib.hid (fun b (h : chBlk g b) => (show w7.heap.size + 1 ≤ b by have := hge9 b h; (first | omega | (simp at this; omega)))); clear hge9; clear hk8; have hr9 := (Ox.out).kept hq; clear Ox; have Ox := Lib.hid hr9; clear hr9; have hr9 := (Ot.out).kept hq; clear Ot; have Ot := Lib.hid hr9; clear hr9; have hx := HBx.out.keeps hq (fun h => h); clear HBx; have HBx := Lib.hid hx; have x0 := hx.cell 0; have x1 := hx.cell 1; have x2 := hx.cell 2; have x3 := hx.cell 3; have x4 := hx.cell 4; have x5 := hx.cell 5; have x6 := hx.cell 6; have x7 := hx.cell 7; have x8 := hx.cell 8; have x9 := hx.cell 9; have x10 := hx.cell 10; have x11 := hx.cell 11; have x12 := hx.cell 12; simp at x0 x1 x2 x3 x4 x5 x6 x7 x8 x9 x10 x11 x12; have zx := hx.lt; clear hx; have ht := HBt.out.keeps hq (fun h => h); clear HBt; have HBt := Lib.hid ht; have t0 := ht.cell 0; have t1 := ht.cell 1; have t2 := ht.cell 2; have t3 := ht.cell 3; have t4 := ht.cell 4; have t5 := ht.cell 5; have t6 := ht.cell 6; simp at t0 t1 t2 t3 t4 t5 t6; have zt := ht.lt; clear ht; have hk := HBk.out.keeps hq (fun h => h); clear HBk; have HBk := Lib.hid hk; have k0 := hk.cell 0; have k1 := hk.cell 1; have k2 := hk.cell 2; have k3 := hk.cell 3; have k4 := hk.cell 4; have k5 := hk.cell 5; have k6 := hk.cell 6; simp at k0 k1 k2 k3 k4 k5 k6; have zk := hk.lt; clear hk; have hb := HBv9.out; have v90 := hb.cell 0; have v91 := hb.cell 1; have v92 := hb.cell 2; have v93 := hb.cell 3; have v94 := hb.cell 4; have v95 := hb.cell 5; have v96 := hb.cell 6; have v97 := hb.cell 7; have v98 := hb.cell 8; have v99 := hb.cell 9; have v910 := hb.cell 10; have v911 := hb.cell 11; have v912 := hb.cell 12; have f90 := hb.frozen 0; have f91 := hb.frozen 1; have f92 := hb.frozen 2; have f93 := hb.frozen 3; have f94 := hb.frozen 4; have f95 := hb.frozen 5; have f96 := hb.frozen 6; have f97 := hb.frozen 7; have f98 := hb.frozen 8; have f99 := hb.frozen 9; have f910 := hb.frozen 10; have f911 := hb.frozen 11; have f912 := hb.frozen 12; simp at v90 v91 v92 v93 v94 v95 v96 v97 v98 v99 v910 v911 v912; have z9 := hb.lt; clear hb; have hq9 := HQ9.out.trans hq; clear HQ9; have HQ9 := Lib.hid hq9; clear hq9; have hh9 := HK.out.trans hq; clear HK; have HK := Lib.hid hh9; clear hh9; have sz8 := hq.size; (try simp at sz8); clear hq; have : ¬ w4.heap.size = w7.heap.size := (by omega); have : ¬ w7.heap.size = w4.heap.size := (by omega); have : ¬ w5.heap.size = w7.heap.size := (by omega); have : ¬ w7.heap.size = w5.heap.size := (by omega); have : ¬ w.heap.size + 1 + 1 = w7.heap.size := (by omega); have : ¬ w7.heap.size = w.heap.size + 1 + 1 := (by omega)) | (go_at_call 12; refine (HTP.out _).mono ?_; rintro e w7 ⟨rfl, hk7⟩; have hq := ((Keeps.refl noBlk wt).drewN 1).trans hk7; clear hk7; have hr9 := (Ox.out).kept hq; clear Ox; have Ox := Lib.hid hr9; clear hr9; have hr9 := (Ot.out).kept hq; clear Ot; have Ot := Lib.hid hr9; clear hr9; have hx := HBx.out.keeps hq (fun h => h); clear HBx; have HBx := Lib.hid hx; have x0 := hx.cell 0; have x1 := hx.cell 1; have x2 := hx.cell 2; have x3 := hx.cell 3; have x4 := hx.cell 4; have x5 := hx.cell 5; have x6 := hx.cell 6; have x7 := hx.cell 7; have x8 := hx.cell 8; have x9 := hx.cell 9; have x10 := hx.cell 10; have x11 := hx.cell 11; have x12 := hx.cell 12; simp at x0 x1 x2 x3 x4 x5 x6 x7 x8 x9 x10 x11 x12; have zx := hx.lt; clear hx; have ht := HBt.out.keeps hq (fun h => h); clear HBt; have HBt := Lib.hid ht; have t0 := ht.cell 0; have t1 := ht.cell 1; have t2 := ht.cell 2; have t3 := ht.cell 3; have t4 := ht.cell 4; have t5 := ht.cell 5; have t6 := ht.cell 6; simp at t0 t1 t2 t3 t4 t5 t6; have zt := ht.lt; clear ht; have hk := HBk.out.keeps hq (fun h => h); clear HBk; have HBk := Lib.hid hk; have k0 := hk.cell 0; have k1 := hk.cell 1; have k2 := hk.cell 2; have k3 := hk.cell 3; have k4 := hk.cell 4; have k5 := hk.cell 5; have k6 := hk.cell 6; simp at k0 k1 k2 k3 k4 k5 k6; have zk := hk.lt; clear hk; have HQ9 := Lib.hid hq; have hh9 := HK.out.trans hq; clear HK; have HK := Lib.hid hh9; clear hh9; have sz7 := hq.size; (try simp at sz7); clear hq) | (clear TKv; have TKh0 : True := trivial; go_at_call 12; refine (HTP.out _).mono ?_; rintro e w7 ⟨rfl, hk7⟩; have hraw := ((Keeps.refl noBlk (wt.alloc (.cells #[.int .i64 0, .slice none 0 0, .slice none 0 0, .int .i64 0, .int .i64 0, .int .i64 0, .int .i64 0, .slice none 0 0, .slice none 0 0, .slice none 0 0, .slice none 0 0, .slice none 0 0, .slice none 0 0] 42))).drewN 1).trans hk7; have HBv9 := Lib.hid ((Box.new wt _ rfl 42 #[.int .i64 0, .slice none 0 0, .slice none 0 0, .int .i64 0, .int .i64 0, .int .i64 0, .int .i64 0, .slice none 0 0, .slice none 0 0, .slice none 0 0, .slice none 0 0, .slice none 0 0, .slice none 0 0]).keeps hraw (fun h => h)); have hq := ((Keeps.refl noBlk wt).alloc (.cells #[.int .i64 0, .slice none 0 0, .slice none 0 0, .int .i64 0, .int .i64 0, .int .i64 0, .int .i64 0, .slice none 0 0, .slice none 0 0, .slice none 0 0, .slice none 0 0, .slice none 0 0, .slice none 0 0] 42)).trans hraw; clear hraw; clear hk7; have hr9 := (Ox.out).kept hq; clear Ox; have Ox := Lib.hid hr9; clear hr9; have hr9 := (Ot.out).kept hq; clear Ot; have Ot := Lib.hid hr9; clear hr9; have hx := HBx.out.keeps hq (fun h => h); clear HBx; have HBx := Lib.hid hx; have x0 := hx.cell 0; have x1 := hx.cell 1; have x2 := hx.cell 2; have x3 := hx.cell 3; have x4 := hx.cell 4; have x5 := hx.cell 5; have x6 := hx.cell 6; have x7 := hx.cell 7; have x8 := hx.cell 8; have x9 := hx.cell 9; have x10 := hx.cell 10; have x11 := hx.cell 11; have x12 := hx.cell 12; simp at x0 x1 x2 x3 x4 x5 x6 x7 x8 x9 x10 x11 x12; have zx := hx.lt; clear hx; have ht := HBt.out.keeps hq (fun h => h); clear HBt; have HBt := Lib.hid ht; have t0 := ht.cell 0; have t1 := ht.cell 1; have t2 := ht.cell 2; have t3 := ht.cell 3; have t4 := ht.cell 4; have t5 := ht.cell 5; have t6 := ht.cell 6; simp at t0 t1 t2 t3 t4 t5 t6; have zt := ht.lt; clear ht; have hk := HBk.out.keeps hq (fun h => h); clear HBk; have HBk := Lib.hid hk; have k0 := hk.cell 0; have k1 := hk.cell 1; have k2 := hk.cell 2; have k3 := hk.cell 3; have k4 := hk.cell 4; have k5 := hk.cell 5; have k6 := hk.cell 6; simp at k0 k1 k2 k3 k4 k5 k6; have zk := hk.lt; clear hk; have hb := HBv9.out; have v90 := hb.cell 0; have v91 := hb.cell 1; have v92 := hb.cell 2; have v93 := hb.cell 3; have v94 := hb.cell 4; have v95 := hb.cell 5; have v96 := hb.cell 6; have v97 := hb.cell 7; have v98 := hb.cell 8; have v99 := hb.cell 9; have v910 := hb.cell 10; have v911 := hb.cell 11; have v912 := hb.cell 12; have f90 := hb.frozen 0; have f91 := hb.frozen 1; have f92 := hb.frozen 2; have f93 := hb.frozen 3; have f94 := hb.frozen 4; have f95 := hb.frozen 5; have f96 := hb.frozen 6; have f97 := hb.frozen 7; have f98 := hb.frozen 8; have f99 := hb.frozen 9; have f910 := hb.frozen 10; have f911 := hb.frozen 11; have f912 := hb.frozen 12; simp at v90 v91 v92 v93 v94 v95 v96 v97 v98 v99 v910 v911 v912; have z9 := hb.lt; clear hb; have HQ9 := Lib.hid hq; have hh9 := HK.out.trans hq; clear HK; have HK := Lib.hid hh9; clear hh9; have sz7 := hq.size; (try simp at sz7); clear hq; have : ¬ w4.heap.size = wt.heap.size := (by omega); have : ¬ wt.heap.size = w4.heap.size := (by omega); have : ¬ w5.heap.size = wt.heap.size := (by omega); have : ¬ wt.heap.size = w5.heap.size := (by omega); have : ¬ w.heap.size + 1 + 1 = wt.heap.size := (by omega); have : ¬ wt.heap.size = w.heap.size + 1 + 1 := (by omega)))
    all_goals go_wp2_with fail
    all_goals go_meet
    all_goals first | (have _t := TKv; have KA := (Keeps.refl noBlk w8).alloc (.cells #[.int .i64 g.id, .slice g.bk.A1 g.bk.b.own.length g.bk.c1, .slice g.bk.A2 g.bk.b.notes.length g.bk.c2, .int .i64 g.bk.b.locked, .int .i64 g.st.x.way, .int .i64 g.st.x.ver, .int .i64 g.st.x.want, .slice g.st.A1 g.st.x.sent.length g.st.c1, .slice g.st.A2 g.st.x.live.length g.st.c2, .slice g.st.A3 g.st.x.back.length g.st.c3, .slice g.st.A4 g.st.x.got.length g.st.c4, .slice g.pA g.past.length g.pc, .slice g.kA g.knows.length g.kc] 42); exact ⟨w8.heap.size, g, Gg, rfl, rfl, Box.new w8 _ rfl 42 #[.int .i64 g.id, .slice g.bk.A1 g.bk.b.own.length g.bk.c1, .slice g.bk.A2 g.bk.b.notes.length g.bk.c2, .int .i64 g.bk.b.locked, .int .i64 g.st.x.way, .int .i64 g.st.x.ver, .int .i64 g.st.x.want, .slice g.st.A1 g.st.x.sent.length g.st.c1, .slice g.st.A2 g.st.x.live.length g.st.c2, .slice g.st.A3 g.st.x.back.length g.st.c3, .slice g.st.A4 g.st.x.got.length g.st.c4, .slice g.pA g.past.length g.pc, .slice g.kA g.knows.length g.kc], HSV.out, (HV9.out.less (by first | omega | (simp; omega))).kept KA, (fun h => by have := HV9.out.lt h; omega), by omega, HQ9.out.trans KA, HK.out.trans KA, HBx.out.keeps KA (fun h => h), HBt.out.keeps KA (fun h => h), HBk.out.keeps KA (fun h => h)⟩) | (have _t := TKh0; have hb9 := (((((((((((((HBv9.out.set_ 0 (.int .i64 g.id)).set_ 1 (.slice g.bk.A1 g.bk.b.own.length g.bk.c1)).set_ 2 (.slice g.bk.A2 g.bk.b.notes.length g.bk.c2)).set_ 3 (.int .i64 g.bk.b.locked)).set_ 4 (.int .i64 g.st.x.way)).set_ 5 (.int .i64 g.st.x.ver)).set_ 6 (.int .i64 g.st.x.want)).set_ 7 (.slice g.st.A1 g.st.x.sent.length g.st.c1)).set_ 8 (.slice g.st.A2 g.st.x.live.length g.st.c2)).set_ 9 (.slice g.st.A3 g.st.x.back.length g.st.c3)).set_ 10 (.slice g.st.A4 g.st.x.got.length g.st.c4)).set_ 11 (.slice g.pA g.past.length g.pc)).set_ 12 (.slice g.kA g.knows.length g.kc)); simp at hb9; have KA := ((((((((((((((Keeps.refl (one wt.heap.size) w8).set1 0 (.int .i64 g.id)).set1 1 (.slice g.bk.A1 g.bk.b.own.length g.bk.c1)).set1 2 (.slice g.bk.A2 g.bk.b.notes.length g.bk.c2)).set1 3 (.int .i64 g.bk.b.locked)).set1 4 (.int .i64 g.st.x.way)).set1 5 (.int .i64 g.st.x.ver)).set1 6 (.int .i64 g.st.x.want)).set1 7 (.slice g.st.A1 g.st.x.sent.length g.st.c1)).set1 8 (.slice g.st.A2 g.st.x.live.length g.st.c2)).set1 9 (.slice g.st.A3 g.st.x.back.length g.st.c3)).set1 10 (.slice g.st.A4 g.st.x.got.length g.st.c4)).set1 11 (.slice g.pA g.past.length g.pc)).set1 12 (.slice g.kA g.knows.length g.kc)); exact ⟨wt.heap.size, g, Gg, rfl, rfl, hb9, HSV.out, (HV9.out.less (by first | omega | (simp; omega))).keeps KA (fun b hb e => by have e' : b = wt.heap.size := e; have := HVG.out b hb; omega), (fun h => by have := HVG.out _ h; omega), by omega, (((((((((((((HQ9.out.new (g := wt.heap.size) (by omega) _ _).new (g := wt.heap.size) (by omega) _ _).new (g := wt.heap.size) (by omega) _ _).new (g := wt.heap.size) (by omega) _ _).new (g := wt.heap.size) (by omega) _ _).new (g := wt.heap.size) (by omega) _ _).new (g := wt.heap.size) (by omega) _ _).new (g := wt.heap.size) (by omega) _ _).new (g := wt.heap.size) (by omega) _ _).new (g := wt.heap.size) (by omega) _ _).new (g := wt.heap.size) (by omega) _ _).new (g := wt.heap.size) (by omega) _ _).new (g := wt.heap.size) (by omega) _ _), (((((((((((((HK.out.new (g := wt.heap.size) (by omega) _ _).new (g := wt.heap.size) (by omega) _ _).new (g := wt.heap.size) (by omega) _ _).new (g := wt.heap.size) (by omega) _ _).new (g := wt.heap.size) (by omega) _ _).new (g := wt.heap.size) (by omega) _ _).new (g := wt.heap.size) (by omega) _ _).new (g := wt.heap.size) (by omega) _ _).new (g := wt.heap.size) (by omega) _ _).new (g := wt.heap.size) (by omega) _ _).new (g := wt.heap.size) (by omega) _ _).new (g := wt.heap.size) (by omega) _ _).new (g := wt.heap.size) (by omega) _ _), HBx.out.keeps KA (fun e => by have e' : w4.heap.size = wt.heap.size := e; omega), HBt.out.keeps KA (fun e => by have e' : w5.heap.size = wt.heap.size := e; omega), HBk.out.keeps KA (fun e => by have e' : w.heap.size + 1 + 1 = wt.heap.size := e; omega)⟩) | (have _t := TKh1; have hb9 := (((((((((((((HBv9.out.set_ 0 (.int .i64 g.id)).set_ 1 (.slice g.bk.A1 g.bk.b.own.length g.bk.c1)).set_ 2 (.slice g.bk.A2 g.bk.b.notes.length g.bk.c2)).set_ 3 (.int .i64 g.bk.b.locked)).set_ 4 (.int .i64 g.st.x.way)).set_ 5 (.int .i64 g.st.x.ver)).set_ 6 (.int .i64 g.st.x.want)).set_ 7 (.slice g.st.A1 g.st.x.sent.length g.st.c1)).set_ 8 (.slice g.st.A2 g.st.x.live.length g.st.c2)).set_ 9 (.slice g.st.A3 g.st.x.back.length g.st.c3)).set_ 10 (.slice g.st.A4 g.st.x.got.length g.st.c4)).set_ 11 (.slice g.pA g.past.length g.pc)).set_ 12 (.slice g.kA g.knows.length g.kc)); simp at hb9; have KA := ((((((((((((((Keeps.refl (one w7.heap.size) w8).set1 0 (.int .i64 g.id)).set1 1 (.slice g.bk.A1 g.bk.b.own.length g.bk.c1)).set1 2 (.slice g.bk.A2 g.bk.b.notes.length g.bk.c2)).set1 3 (.int .i64 g.bk.b.locked)).set1 4 (.int .i64 g.st.x.way)).set1 5 (.int .i64 g.st.x.ver)).set1 6 (.int .i64 g.st.x.want)).set1 7 (.slice g.st.A1 g.st.x.sent.length g.st.c1)).set1 8 (.slice g.st.A2 g.st.x.live.length g.st.c2)).set1 9 (.slice g.st.A3 g.st.x.back.length g.st.c3)).set1 10 (.slice g.st.A4 g.st.x.got.length g.st.c4)).set1 11 (.slice g.pA g.past.length g.pc)).set1 12 (.slice g.kA g.knows.length g.kc)); exact ⟨w7.heap.size, g, Gg, rfl, rfl, hb9, HSV.out, (HV9.out.less (by first | omega | (simp; omega))).keeps KA (fun b hb e => by have e' : b = w7.heap.size := e; have := HVG.out b hb; omega), (fun h => by have := HVG.out _ h; omega), by omega, (((((((((((((HQ9.out.new (g := w7.heap.size) (by omega) _ _).new (g := w7.heap.size) (by omega) _ _).new (g := w7.heap.size) (by omega) _ _).new (g := w7.heap.size) (by omega) _ _).new (g := w7.heap.size) (by omega) _ _).new (g := w7.heap.size) (by omega) _ _).new (g := w7.heap.size) (by omega) _ _).new (g := w7.heap.size) (by omega) _ _).new (g := w7.heap.size) (by omega) _ _).new (g := w7.heap.size) (by omega) _ _).new (g := w7.heap.size) (by omega) _ _).new (g := w7.heap.size) (by omega) _ _).new (g := w7.heap.size) (by omega) _ _), (((((((((((((HK.out.new (g := w7.heap.size) (by omega) _ _).new (g := w7.heap.size) (by omega) _ _).new (g := w7.heap.size) (by omega) _ _).new (g := w7.heap.size) (by omega) _ _).new (g := w7.heap.size) (by omega) _ _).new (g := w7.heap.size) (by omega) _ _).new (g := w7.heap.size) (by omega) _ _).new (g := w7.heap.size) (by omega) _ _).new (g := w7.heap.size) (by omega) _ _).new (g := w7.heap.size) (by omega) _ _).new (g := w7.heap.size) (by omega) _ _).new (g := w7.heap.size) (by omega) _ _).new (g := w7.heap.size) (by omega) _ _), HBx.out.keeps KA (fun e => by have e' : w4.heap.size = w7.heap.size := e; omega), HBt.out.keeps KA (fun e => by have e' : w5.heap.size = w7.heap.size := e; omega), HBk.out.keeps KA (fun e => by have e' : w.heap.size + 1 + 1 = w7.heap.size := e; omega)⟩)
  case rest =>
  obtain ⟨gg, g, Gg, rfl, rfl, hbv, hs9, hv0, hng, hgv, hq0, hk0, _, _, _⟩ := hcut
  have HGN := Lib.hid hng
  clear hng
  have ha := HBa.out.keeps hq0 (fun h => h)
  clear HBa
  have HBa := Lib.hid ha
  clear ha
  have hb := HBb.out.keeps hq0 (fun h => h)
  clear HBb
  have HBb := Lib.hid hb
  clear hb
  have hk := HBk.out.keeps hq0 (fun h => h)
  clear HBk
  have HBk := Lib.hid hk
  clear hk
  have hv := HBv.out.keeps hq0 (fun h => h)
  clear HBv
  have HBv := Lib.hid hv
  clear hv
  have hx := HBx.out.keeps hq0 (fun h => h)
  clear HBx
  have HBx := Lib.hid hx
  clear hx
  have ht := HBt.out.keeps hq0 (fun h => h)
  clear HBt
  have HBt := Lib.hid ht
  clear ht
  have hr := (Ov.out).kept hq0
  clear Ov
  have Ov := Lib.hid hr
  clear hr
  have hr := (Ox.out).kept hq0
  clear Ox
  have Ox := Lib.hid hr
  clear hr
  have hr := (Nx.out).kept hq0
  clear Nx
  have Nx := Lib.hid hr
  clear hr
  have hr := (Ot.out).kept hq0
  clear Ot
  have Ot := Lib.hid hr
  clear hr
  have hr := (Nt.out).kept hq0
  clear Nt
  have Nt := Lib.hid hr
  clear hr
  have hr := HK.out.trans hq0
  clear HK
  have HK := Lib.hid hr
  clear hr
  have HBg := Lib.hid hbv
  clear hbv hk0
  have sq7 := hq0.size
  clear hq0
  have Sg := Lib.hid hs9
  clear hs9
  have hggl := HBg.out.lt
  have Ng := Lib.hid hv0
  have Lg := Lib.hid (fun b (hb : chBlk g b) => And.intro (hv0.ge hb) (hv0.lt hb))
  clear hv0
  have hb := HBv.out
  have v0 := hb.cell 0
  have v1 := hb.cell 1
  have v2 := hb.cell 2
  have v3 := hb.cell 3
  have v4 := hb.cell 4
  have v5 := hb.cell 5
  have v6 := hb.cell 6
  have v7 := hb.cell 7
  have v8 := hb.cell 8
  have v9 := hb.cell 9
  have v10 := hb.cell 10
  have v11 := hb.cell 11
  have v12 := hb.cell 12
  simp at v0 v1 v2 v3 v4 v5 v6 v7 v8 v9 v10 v11 v12
  have zv := hb.lt
  clear hb
  have hb := HBg.out
  have g0 := hb.cell 0
  have g1 := hb.cell 1
  have g2 := hb.cell 2
  have g3 := hb.cell 3
  have g4 := hb.cell 4
  have g5 := hb.cell 5
  have g6 := hb.cell 6
  have g7 := hb.cell 7
  have g8 := hb.cell 8
  have g9 := hb.cell 9
  have g10 := hb.cell 10
  have g11 := hb.cell 11
  have g12 := hb.cell 12
  simp at g0 g1 g2 g3 g4 g5 g6 g7 g8 g9 g10 g11 g12
  have zg := hb.lt
  clear hb
  go_wp2_with fail
  refine (HEQ2.out g v _ Sg.out Sv.out Ng.out.at_ Ov.out).mono ?_
  rintro e w8 ⟨rfl, hk8⟩
  clear v0 v1 v2 v3 v4 v5 v6 v7 v8 v9 v10 v11 v12 g0 g1 g2 g3 g4 g5 g6 g7 g8 g9 g10 g11 g12 zv zg
  have ha := HBa.out.keeps hk8 (fun h => h)
  clear HBa
  have HBa := Lib.hid ha
  clear ha
  have hb := HBb.out.keeps hk8 (fun h => h)
  clear HBb
  have HBb := Lib.hid hb
  clear hb
  have hk := HBk.out.keeps hk8 (fun h => h)
  clear HBk
  have HBk := Lib.hid hk
  clear hk
  have hv := HBv.out.keeps hk8 (fun h => h)
  clear HBv
  have HBv := Lib.hid hv
  clear hv
  have hx := HBx.out.keeps hk8 (fun h => h)
  clear HBx
  have HBx := Lib.hid hx
  clear hx
  have ht := HBt.out.keeps hk8 (fun h => h)
  clear HBt
  have HBt := Lib.hid ht
  clear ht
  have hg := HBg.out.keeps hk8 (fun h => h)
  clear HBg
  have HBg := Lib.hid hg
  clear hg
  have hr := (Ov.out).kept hk8
  clear Ov
  have Ov := Lib.hid hr
  clear hr
  have hr := (Ox.out).kept hk8
  clear Ox
  have Ox := Lib.hid hr
  clear hr
  have hr := (Nx.out).kept hk8
  clear Nx
  have Nx := Lib.hid hr
  clear hr
  have hr := (Ot.out).kept hk8
  clear Ot
  have Ot := Lib.hid hr
  clear hr
  have hr := (Nt.out).kept hk8
  clear Nt
  have Nt := Lib.hid hr
  clear hr
  have hr := (Ng.out).kept hk8
  clear Ng
  have Ng := Lib.hid hr
  clear hr
  have hr := HK.out.trans hk8
  clear HK
  have HK := Lib.hid hr
  clear hr
  have sz8 := hk8.size
  (try simp at sz8)
  clear hk8
  have hb := HBx.out
  have x0 := hb.cell 0
  have x1 := hb.cell 1
  have x2 := hb.cell 2
  have x3 := hb.cell 3
  have x4 := hb.cell 4
  have x5 := hb.cell 5
  have x6 := hb.cell 6
  have x7 := hb.cell 7
  have x8 := hb.cell 8
  have x9 := hb.cell 9
  have x10 := hb.cell 10
  have x11 := hb.cell 11
  have x12 := hb.cell 12
  simp at x0 x1 x2 x3 x4 x5 x6 x7 x8 x9 x10 x11 x12
  have zx := hb.lt
  clear hb
  have hb := HBa.out
  have a0 := hb.cell 0
  have a1 := hb.cell 1
  have a2 := hb.cell 2
  have a3 := hb.cell 3
  have a4 := hb.cell 4
  have a5 := hb.cell 5
  have a6 := hb.cell 6
  have a7 := hb.cell 7
  have a8 := hb.cell 8
  have a9 := hb.cell 9
  have a10 := hb.cell 10
  have a11 := hb.cell 11
  have a12 := hb.cell 12
  simp at a0 a1 a2 a3 a4 a5 a6 a7 a8 a9 a10 a11 a12
  have za := hb.lt
  clear hb
  go_wp2_with fail
  go_region_held3 (fun w' => w'.cell? ⟨w4.heap.size, 0, none⟩ = some (.int .i64 x.id) ∧ w'.cell? ⟨w4.heap.size, 1, none⟩ = some (.slice x.bk.A1 x.bk.b.own.length x.bk.c1) ∧ w'.cell? ⟨w4.heap.size, 2, none⟩ = some (.slice x.bk.A2 x.bk.b.notes.length x.bk.c2) ∧ w'.cell? ⟨w4.heap.size, 3, none⟩ = some (.int .i64 x.bk.b.locked) ∧ w'.cell? ⟨w4.heap.size, 4, none⟩ = some (.int .i64 x.st.x.way) ∧ w'.cell? ⟨w4.heap.size, 5, none⟩ = some (.int .i64 x.st.x.ver) ∧ w'.cell? ⟨w4.heap.size, 6, none⟩ = some (.int .i64 x.st.x.want) ∧ w'.cell? ⟨w4.heap.size, 7, none⟩ = some (.slice x.st.A1 x.st.x.sent.length x.st.c1) ∧ w'.cell? ⟨w4.heap.size, 8, none⟩ = some (.slice x.st.A2 x.st.x.live.length x.st.c2) ∧ w'.cell? ⟨w4.heap.size, 9, none⟩ = some (.slice x.st.A3 x.st.x.back.length x.st.c3) ∧ w'.cell? ⟨w4.heap.size, 10, none⟩ = some (.slice x.st.A4 x.st.x.got.length x.st.c4) ∧ w'.cell? ⟨w4.heap.size, 11, none⟩ = some (.slice x.pA x.past.length x.pc) ∧ w'.cell? ⟨w4.heap.size, 12, none⟩ = some (.slice x.kA x.knows.length x.kc) ∧ w'.cell? ⟨w.heap.size, 0, none⟩ = some (.int .i64 c.id) ∧ w'.cell? ⟨w.heap.size, 1, none⟩ = some (.slice c.bk.A1 c.bk.b.own.length c.bk.c1) ∧ w'.cell? ⟨w.heap.size, 2, none⟩ = some (.slice c.bk.A2 c.bk.b.notes.length c.bk.c2) ∧ w'.cell? ⟨w.heap.size, 3, none⟩ = some (.int .i64 c.bk.b.locked) ∧ w'.cell? ⟨w.heap.size, 4, none⟩ = some (.int .i64 c.st.x.way) ∧ w'.cell? ⟨w.heap.size, 5, none⟩ = some (.int .i64 c.st.x.ver) ∧ w'.cell? ⟨w.heap.size, 6, none⟩ = some (.int .i64 c.st.x.want) ∧ w'.cell? ⟨w.heap.size, 7, none⟩ = some (.slice c.st.A1 c.st.x.sent.length c.st.c1) ∧ w'.cell? ⟨w.heap.size, 8, none⟩ = some (.slice c.st.A2 c.st.x.live.length c.st.c2) ∧ w'.cell? ⟨w.heap.size, 9, none⟩ = some (.slice c.st.A3 c.st.x.back.length c.st.c3) ∧ w'.cell? ⟨w.heap.size, 10, none⟩ = some (.slice c.st.A4 c.st.x.got.length c.st.c4) ∧ w'.cell? ⟨w.heap.size, 11, none⟩ = some (.slice c.pA c.past.length c.pc) ∧ w'.cell? ⟨w.heap.size, 12, none⟩ = some (.slice c.kA c.knows.length c.kc))
    (((try dsimp only); (repeat' apply And.intro) <;> (first | with_reducible assumption | (go_keep; done))))
    (first | (go_at_call 10; refine (HTO.out _ (HK.out.drewN 1)).mono ?_; rintro e w9 ⟨y1, Gy1, rfl, s9, o9, hk9⟩; have hq := ((Keeps.refl noBlk w8).drewN 1).trans hk9; clear hk9; have hk9 := hq; clear hq; dsimp only [ChM.val]; have Sy1 := Lib.hid s9; have Oy1 := Lib.hid o9.at_; clear s9 o9; clear x0 x1 x2 x3 x4 x5 x6 x7 x8 x9 x10 x11 x12 a0 a1 a2 a3 a4 a5 a6 a7 a8 a9 a10 a11 a12 zx za; have ha := HBa.out.keeps hk9 (fun h => h); clear HBa; have HBa := Lib.hid ha; clear ha; have hb := HBb.out.keeps hk9 (fun h => h); clear HBb; have HBb := Lib.hid hb; clear hb; have hk := HBk.out.keeps hk9 (fun h => h); clear HBk; have HBk := Lib.hid hk; clear hk; have hv := HBv.out.keeps hk9 (fun h => h); clear HBv; have HBv := Lib.hid hv; clear hv; have hx := HBx.out.keeps hk9 (fun h => h); clear HBx; have HBx := Lib.hid hx; clear hx; have ht := HBt.out.keeps hk9 (fun h => h); clear HBt; have HBt := Lib.hid ht; clear ht; have hg := HBg.out.keeps hk9 (fun h => h); clear HBg; have HBg := Lib.hid hg; clear hg; have hr := (Ov.out).kept hk9; clear Ov; have Ov := Lib.hid hr; clear hr; have hr := (Ox.out).kept hk9; clear Ox; have Ox := Lib.hid hr; clear hr; have hr := (Nx.out).kept hk9; clear Nx; have Nx := Lib.hid hr; clear hr; have hr := (Ot.out).kept hk9; clear Ot; have Ot := Lib.hid hr; clear hr; have hr := (Nt.out).kept hk9; clear Nt; have Nt := Lib.hid hr; clear hr; have hr := (Ng.out).kept hk9; clear Ng; have Ng := Lib.hid hr; clear hr; have hr := HK.out.trans hk9; clear HK; have HK := Lib.hid hr; clear hr; have sz9 := hk9.size; (try simp at sz9); clear hk9; have hb := HBx.out; have x0 := hb.cell 0; have x1 := hb.cell 1; have x2 := hb.cell 2; have x3 := hb.cell 3; have x4 := hb.cell 4; have x5 := hb.cell 5; have x6 := hb.cell 6; have x7 := hb.cell 7; have x8 := hb.cell 8; have x9 := hb.cell 9; have x10 := hb.cell 10; have x11 := hb.cell 11; have x12 := hb.cell 12; simp at x0 x1 x2 x3 x4 x5 x6 x7 x8 x9 x10 x11 x12; have zx := hb.lt; clear hb; have hb := HBa.out; have a0 := hb.cell 0; have a1 := hb.cell 1; have a2 := hb.cell 2; have a3 := hb.cell 3; have a4 := hb.cell 4; have a5 := hb.cell 5; have a6 := hb.cell 6; have a7 := hb.cell 7; have a8 := hb.cell 8; have a9 := hb.cell 9; have a10 := hb.cell 10; have a11 := hb.cell 11; have a12 := hb.cell 12; simp at a0 a1 a2 a3 a4 a5 a6 a7 a8 a9 a10 a11 a12; have za := hb.lt; clear hb) | (go_at_call 14; refine (HEQ.out x y1 _ Sx.out Sy1.out Ox.out Oy1.out).mono ?_; rintro e w10 ⟨rfl, hk10⟩; clear x0 x1 x2 x3 x4 x5 x6 x7 x8 x9 x10 x11 x12 a0 a1 a2 a3 a4 a5 a6 a7 a8 a9 a10 a11 a12 zx za; have ha := HBa.out.keeps hk10 (fun h => h); clear HBa; have HBa := Lib.hid ha; clear ha; have hb := HBb.out.keeps hk10 (fun h => h); clear HBb; have HBb := Lib.hid hb; clear hb; have hk := HBk.out.keeps hk10 (fun h => h); clear HBk; have HBk := Lib.hid hk; clear hk; have hv := HBv.out.keeps hk10 (fun h => h); clear HBv; have HBv := Lib.hid hv; clear hv; have hx := HBx.out.keeps hk10 (fun h => h); clear HBx; have HBx := Lib.hid hx; clear hx; have ht := HBt.out.keeps hk10 (fun h => h); clear HBt; have HBt := Lib.hid ht; clear ht; have hg := HBg.out.keeps hk10 (fun h => h); clear HBg; have HBg := Lib.hid hg; clear hg; have hr := (Ov.out).kept hk10; clear Ov; have Ov := Lib.hid hr; clear hr; have hr := (Ox.out).kept hk10; clear Ox; have Ox := Lib.hid hr; clear hr; have hr := (Nx.out).kept hk10; clear Nx; have Nx := Lib.hid hr; clear hr; have hr := (Ot.out).kept hk10; clear Ot; have Ot := Lib.hid hr; clear hr; have hr := (Nt.out).kept hk10; clear Nt; have Nt := Lib.hid hr; clear hr; have hr := (Ng.out).kept hk10; clear Ng; have Ng := Lib.hid hr; clear hr; have hr := (Oy1.out).kept hk10; clear Oy1; have Oy1 := Lib.hid hr; clear hr; have hr := HK.out.trans hk10; clear HK; have HK := Lib.hid hr; clear hr; have sz10 := hk10.size; (try simp at sz10); clear hk10; have hb := HBx.out; have x0 := hb.cell 0; have x1 := hb.cell 1; have x2 := hb.cell 2; have x3 := hb.cell 3; have x4 := hb.cell 4; have x5 := hb.cell 5; have x6 := hb.cell 6; have x7 := hb.cell 7; have x8 := hb.cell 8; have x9 := hb.cell 9; have x10 := hb.cell 10; have x11 := hb.cell 11; have x12 := hb.cell 12; simp at x0 x1 x2 x3 x4 x5 x6 x7 x8 x9 x10 x11 x12; have zx := hb.lt; clear hb; have hb := HBa.out; have a0 := hb.cell 0; have a1 := hb.cell 1; have a2 := hb.cell 2; have a3 := hb.cell 3; have a4 := hb.cell 4; have a5 := hb.cell 5; have a6 := hb.cell 6; have a7 := hb.cell 7; have a8 := hb.cell 8; have a9 := hb.cell 9; have a10 := hb.cell 10; have a11 := hb.cell 11; have a12 := hb.cell 12; simp at a0 a1 a2 a3 a4 a5 a6 a7 a8 a9 a10 a11 a12; have za := hb.lt; clear hb))
  clear Oy1 Sy1
  clear x0 x1 x2 x3 x4 x5 x6 x7 x8 x9 x10 x11 x12 a0 a1 a2 a3 a4 a5 a6 a7 a8 a9 a10 a11 a12 zx za
  have hb := HBt.out
  have t0 := hb.cell 0
  have t1 := hb.cell 1
  have t2 := hb.cell 2
  have t3 := hb.cell 3
  have t4 := hb.cell 4
  have t5 := hb.cell 5
  have t6 := hb.cell 6
  simp at t0 t1 t2 t3 t4 t5 t6
  have zt := hb.lt
  clear hb
  have hb := HBb.out
  have b0 := hb.cell 0
  have b1 := hb.cell 1
  have b2 := hb.cell 2
  have b3 := hb.cell 3
  have b4 := hb.cell 4
  have b5 := hb.cell 5
  have b6 := hb.cell 6
  simp at b0 b1 b2 b3 b4 b5 b6
  have zb := hb.lt
  clear hb
  go_wp2_with fail
  go_region_held3 (fun w' => w'.cell? ⟨w5.heap.size, 0, none⟩ = some (.int .i64 t.x.way) ∧ w'.cell? ⟨w5.heap.size, 1, none⟩ = some (.int .i64 t.x.ver) ∧ w'.cell? ⟨w5.heap.size, 2, none⟩ = some (.int .i64 t.x.want) ∧ w'.cell? ⟨w5.heap.size, 3, none⟩ = some (.slice t.A1 t.x.sent.length t.c1) ∧ w'.cell? ⟨w5.heap.size, 4, none⟩ = some (.slice t.A2 t.x.live.length t.c2) ∧ w'.cell? ⟨w5.heap.size, 5, none⟩ = some (.slice t.A3 t.x.back.length t.c3) ∧ w'.cell? ⟨w5.heap.size, 6, none⟩ = some (.slice t.A4 t.x.got.length t.c4) ∧ w'.cell? ⟨w.heap.size + 1, 0, none⟩ = some (.int .i64 y.x.way) ∧ w'.cell? ⟨w.heap.size + 1, 1, none⟩ = some (.int .i64 y.x.ver) ∧ w'.cell? ⟨w.heap.size + 1, 2, none⟩ = some (.int .i64 y.x.want) ∧ w'.cell? ⟨w.heap.size + 1, 3, none⟩ = some (.slice y.A1 y.x.sent.length y.c1) ∧ w'.cell? ⟨w.heap.size + 1, 4, none⟩ = some (.slice y.A2 y.x.live.length y.c2) ∧ w'.cell? ⟨w.heap.size + 1, 5, none⟩ = some (.slice y.A3 y.x.back.length y.c3) ∧ w'.cell? ⟨w.heap.size + 1, 6, none⟩ = some (.slice y.A4 y.x.got.length y.c4))
    (((try dsimp only); (repeat' apply And.intro) <;> (first | with_reducible assumption | (go_keep; done))))
    (first | (go_at_call 11; refine (HTS.out _ (HK.out.drewN 1)).mono ?_; rintro e w11 ⟨y2, rfl, s9, o9, hk11⟩; have hq := ((Keeps.refl noBlk w10).drewN 1).trans hk11; clear hk11; have hk11 := hq; clear hq; dsimp only [StM.val]; have Ey2 := Lib.hid s9; have Oy2 := Lib.hid (o9.at_ (hLen.out y2 s9)); clear s9 o9; clear t0 t1 t2 t3 t4 t5 t6 b0 b1 b2 b3 b4 b5 b6 zt zb; have ha := HBa.out.keeps hk11 (fun h => h); clear HBa; have HBa := Lib.hid ha; clear ha; have hb := HBb.out.keeps hk11 (fun h => h); clear HBb; have HBb := Lib.hid hb; clear hb; have hk := HBk.out.keeps hk11 (fun h => h); clear HBk; have HBk := Lib.hid hk; clear hk; have hv := HBv.out.keeps hk11 (fun h => h); clear HBv; have HBv := Lib.hid hv; clear hv; have hx := HBx.out.keeps hk11 (fun h => h); clear HBx; have HBx := Lib.hid hx; clear hx; have ht := HBt.out.keeps hk11 (fun h => h); clear HBt; have HBt := Lib.hid ht; clear ht; have hg := HBg.out.keeps hk11 (fun h => h); clear HBg; have HBg := Lib.hid hg; clear hg; have hr := (Ov.out).kept hk11; clear Ov; have Ov := Lib.hid hr; clear hr; have hr := (Ox.out).kept hk11; clear Ox; have Ox := Lib.hid hr; clear hr; have hr := (Nx.out).kept hk11; clear Nx; have Nx := Lib.hid hr; clear hr; have hr := (Ot.out).kept hk11; clear Ot; have Ot := Lib.hid hr; clear hr; have hr := (Nt.out).kept hk11; clear Nt; have Nt := Lib.hid hr; clear hr; have hr := (Ng.out).kept hk11; clear Ng; have Ng := Lib.hid hr; clear hr; have hr := HK.out.trans hk11; clear HK; have HK := Lib.hid hr; clear hr; have sz11 := hk11.size; (try simp at sz11); clear hk11; have hb := HBt.out; have t0 := hb.cell 0; have t1 := hb.cell 1; have t2 := hb.cell 2; have t3 := hb.cell 3; have t4 := hb.cell 4; have t5 := hb.cell 5; have t6 := hb.cell 6; simp at t0 t1 t2 t3 t4 t5 t6; have zt := hb.lt; clear hb; have hb := HBb.out; have b0 := hb.cell 0; have b1 := hb.cell 1; have b2 := hb.cell 2; have b3 := hb.cell 3; have b4 := hb.cell 4; have b5 := hb.cell 5; have b6 := hb.cell 6; simp at b0 b1 b2 b3 b4 b5 b6; have zb := hb.lt; clear hb) | (go_at_call 15; refine (HES.out t y2 _ Et.out Ey2.out Ot.out Oy2.out).mono ?_; rintro e w12 ⟨rfl, hk12⟩; clear t0 t1 t2 t3 t4 t5 t6 b0 b1 b2 b3 b4 b5 b6 zt zb; have ha := HBa.out.keeps hk12 (fun h => h); clear HBa; have HBa := Lib.hid ha; clear ha; have hb := HBb.out.keeps hk12 (fun h => h); clear HBb; have HBb := Lib.hid hb; clear hb; have hk := HBk.out.keeps hk12 (fun h => h); clear HBk; have HBk := Lib.hid hk; clear hk; have hv := HBv.out.keeps hk12 (fun h => h); clear HBv; have HBv := Lib.hid hv; clear hv; have hx := HBx.out.keeps hk12 (fun h => h); clear HBx; have HBx := Lib.hid hx; clear hx; have ht := HBt.out.keeps hk12 (fun h => h); clear HBt; have HBt := Lib.hid ht; clear ht; have hg := HBg.out.keeps hk12 (fun h => h); clear HBg; have HBg := Lib.hid hg; clear hg; have hr := (Ov.out).kept hk12; clear Ov; have Ov := Lib.hid hr; clear hr; have hr := (Ox.out).kept hk12; clear Ox; have Ox := Lib.hid hr; clear hr; have hr := (Nx.out).kept hk12; clear Nx; have Nx := Lib.hid hr; clear hr; have hr := (Ot.out).kept hk12; clear Ot; have Ot := Lib.hid hr; clear hr; have hr := (Nt.out).kept hk12; clear Nt; have Nt := Lib.hid hr; clear hr; have hr := (Ng.out).kept hk12; clear Ng; have Ng := Lib.hid hr; clear hr; have hr := (Oy2.out).kept hk12; clear Oy2; have Oy2 := Lib.hid hr; clear hr; have hr := HK.out.trans hk12; clear HK; have HK := Lib.hid hr; clear hr; have sz12 := hk12.size; (try simp at sz12); clear hk12; have hb := HBt.out; have t0 := hb.cell 0; have t1 := hb.cell 1; have t2 := hb.cell 2; have t3 := hb.cell 3; have t4 := hb.cell 4; have t5 := hb.cell 5; have t6 := hb.cell 6; simp at t0 t1 t2 t3 t4 t5 t6; have zt := hb.lt; clear hb; have hb := HBb.out; have b0 := hb.cell 0; have b1 := hb.cell 1; have b2 := hb.cell 2; have b3 := hb.cell 3; have b4 := hb.cell 4; have b5 := hb.cell 5; have b6 := hb.cell 6; simp at b0 b1 b2 b3 b4 b5 b6; have zb := hb.lt; clear hb))
  clear Oy2 Ey2
  clear t0 t1 t2 t3 t4 t5 t6 b0 b1 b2 b3 b4 b5 b6 zt zb
  have hb := HBx.out
  have x0 := hb.cell 0
  have x1 := hb.cell 1
  have x2 := hb.cell 2
  have x3 := hb.cell 3
  have x4 := hb.cell 4
  have x5 := hb.cell 5
  have x6 := hb.cell 6
  have x7 := hb.cell 7
  have x8 := hb.cell 8
  have x9 := hb.cell 9
  have x10 := hb.cell 10
  have x11 := hb.cell 11
  have x12 := hb.cell 12
  simp at x0 x1 x2 x3 x4 x5 x6 x7 x8 x9 x10 x11 x12
  have zx := hb.lt
  clear hb
  go_wp2_with fail
  refine (HMK.out x Gx _ _ Sx.out Nx.out).mono ?_
  rintro e w13 ⟨rfl, hk13⟩
  clear Ox Nx Ot
  clear x0 x1 x2 x3 x4 x5 x6 x7 x8 x9 x10 x11 x12 zx
  have ha := HBa.out.keeps hk13 (fun h => by have q := Lx.out _ h; (try simp at q) <;> omega)
  clear HBa
  have HBa := Lib.hid ha
  clear ha
  have hb := HBb.out.keeps hk13 (fun h => by have q := Lx.out _ h; (try simp at q) <;> omega)
  clear HBb
  have HBb := Lib.hid hb
  clear hb
  have hk := HBk.out.keeps hk13 (fun h => by have q := Lx.out _ h; (try simp at q) <;> omega)
  clear HBk
  have HBk := Lib.hid hk
  clear hk
  have hv := HBv.out.keeps hk13 (fun h => by have q := Lx.out _ h; (try simp at q) <;> omega)
  clear HBv
  have HBv := Lib.hid hv
  clear hv
  have hx := HBx.out.keeps hk13 (fun h => by have q := Lx.out _ h; (try simp at q) <;> omega)
  clear HBx
  have HBx := Lib.hid hx
  clear hx
  have ht := HBt.out.keeps hk13 (fun h => by have q := Lx.out _ h; (try simp at q) <;> omega)
  clear HBt
  have HBt := Lib.hid ht
  clear ht
  have hg := HBg.out.keeps hk13 (fun h => by have q := Lx.out _ h; (try simp at q) <;> omega)
  clear HBg
  have HBg := Lib.hid hg
  clear hg
  have hr := (Ov.out).keeps hk13 (fun b hb h => by have q := Lx.out b h; have q2 := Lv.out b hb; (try simp at q q2) <;> omega)
  clear Ov
  have Ov := Lib.hid hr
  clear hr
  have hr := (Nt.out).keeps hk13 (fun b hb h => by have q := Lx.out b h; have q2 := Lt.out b hb; (try simp at q q2) <;> omega)
  clear Nt
  have Nt := Lib.hid hr
  clear hr
  have hr := (Ng.out).keeps hk13 (fun b hb h => by have q := Lx.out b h; have q2 := Lg.out b hb; (try simp at q q2) <;> omega)
  clear Ng
  have Ng := Lib.hid hr
  clear hr
  have hr := HK.out.then hk13 (fun i hi h => by have q := (Lx.out i h).1; (try simp at q) <;> omega)
  clear HK
  have HK := Lib.hid hr
  clear hr
  have sz13 := hk13.size
  (try simp at sz13)
  clear hk13
  have hb := HBt.out
  have t0 := hb.cell 0
  have t1 := hb.cell 1
  have t2 := hb.cell 2
  have t3 := hb.cell 3
  have t4 := hb.cell 4
  have t5 := hb.cell 5
  have t6 := hb.cell 6
  simp at t0 t1 t2 t3 t4 t5 t6
  have zt := hb.lt
  clear hb
  go_wp2_with fail
  refine (HMS.out t _ _ Et.out Nt.out).mono ?_
  rintro e w14 ⟨rfl, hk14⟩
  clear Nt
  clear t0 t1 t2 t3 t4 t5 t6 zt
  have ha := HBa.out.keeps hk14 (fun h => by have q := Lt.out _ h; (try simp at q) <;> omega)
  clear HBa
  have HBa := Lib.hid ha
  clear ha
  have hb := HBb.out.keeps hk14 (fun h => by have q := Lt.out _ h; (try simp at q) <;> omega)
  clear HBb
  have HBb := Lib.hid hb
  clear hb
  have hk := HBk.out.keeps hk14 (fun h => by have q := Lt.out _ h; (try simp at q) <;> omega)
  clear HBk
  have HBk := Lib.hid hk
  clear hk
  have hv := HBv.out.keeps hk14 (fun h => by have q := Lt.out _ h; (try simp at q) <;> omega)
  clear HBv
  have HBv := Lib.hid hv
  clear hv
  have hx := HBx.out.keeps hk14 (fun h => by have q := Lt.out _ h; (try simp at q) <;> omega)
  clear HBx
  have HBx := Lib.hid hx
  clear hx
  have ht := HBt.out.keeps hk14 (fun h => by have q := Lt.out _ h; (try simp at q) <;> omega)
  clear HBt
  have HBt := Lib.hid ht
  clear ht
  have hg := HBg.out.keeps hk14 (fun h => by have q := Lt.out _ h; (try simp at q) <;> omega)
  clear HBg
  have HBg := Lib.hid hg
  clear hg
  have hr := (Ov.out).keeps hk14 (fun b hb h => by have q := Lt.out b h; have q2 := Lv.out b hb; (try simp at q q2) <;> omega)
  clear Ov
  have Ov := Lib.hid hr
  clear hr
  have hr := (Ng.out).keeps hk14 (fun b hb h => by have q := Lt.out b h; have q2 := Lg.out b hb; (try simp at q q2) <;> omega)
  clear Ng
  have Ng := Lib.hid hr
  clear hr
  have hr := HK.out.then hk14 (fun i hi h => by have q := (Lt.out i h).1; (try simp at q) <;> omega)
  clear HK
  have HK := Lib.hid hr
  clear hr
  have sz14 := hk14.size
  (try simp at sz14)
  clear hk14
  have hb := HBv.out
  have v0 := hb.cell 0
  have v1 := hb.cell 1
  have v2 := hb.cell 2
  have v3 := hb.cell 3
  have v4 := hb.cell 4
  have v5 := hb.cell 5
  have v6 := hb.cell 6
  have v7 := hb.cell 7
  have v8 := hb.cell 8
  have v9 := hb.cell 9
  have v10 := hb.cell 10
  have v11 := hb.cell 11
  have v12 := hb.cell 12
  simp at v0 v1 v2 v3 v4 v5 v6 v7 v8 v9 v10 v11 v12
  have zv := hb.lt
  clear hb
  have hb := HBg.out
  have g0 := hb.cell 0
  have g1 := hb.cell 1
  have g2 := hb.cell 2
  have g3 := hb.cell 3
  have g4 := hb.cell 4
  have g5 := hb.cell 5
  have g6 := hb.cell 6
  have g7 := hb.cell 7
  have g8 := hb.cell 8
  have g9 := hb.cell 9
  have g10 := hb.cell 10
  have g11 := hb.cell 11
  have g12 := hb.cell 12
  simp at g0 g1 g2 g3 g4 g5 g6 g7 g8 g9 g10 g11 g12
  have zg := hb.lt
  clear hb
  go_wp2_with fail
  refine (HEQ2.out g v _ Sg.out Sv.out Ng.out.at_ Ov.out).mono ?_
  rintro e w15 ⟨rfl, hk15⟩
  clear v0 v1 v2 v3 v4 v5 v6 v7 v8 v9 v10 v11 v12 g0 g1 g2 g3 g4 g5 g6 g7 g8 g9 g10 g11 g12 zv zg
  have ha := HBa.out.keeps hk15 (fun h => h)
  clear HBa
  have HBa := Lib.hid ha
  clear ha
  have hb := HBb.out.keeps hk15 (fun h => h)
  clear HBb
  have HBb := Lib.hid hb
  clear hb
  have hk := HBk.out.keeps hk15 (fun h => h)
  clear HBk
  have HBk := Lib.hid hk
  clear hk
  have hv := HBv.out.keeps hk15 (fun h => h)
  clear HBv
  have HBv := Lib.hid hv
  clear hv
  have hx := HBx.out.keeps hk15 (fun h => h)
  clear HBx
  have HBx := Lib.hid hx
  clear hx
  have ht := HBt.out.keeps hk15 (fun h => h)
  clear HBt
  have HBt := Lib.hid ht
  clear ht
  have hg := HBg.out.keeps hk15 (fun h => h)
  clear HBg
  have HBg := Lib.hid hg
  clear hg
  have hr := (Ov.out).kept hk15
  clear Ov
  have Ov := Lib.hid hr
  clear hr
  have hr := (Ng.out).kept hk15
  clear Ng
  have Ng := Lib.hid hr
  clear hr
  have hr := HK.out.trans hk15
  clear HK
  have HK := Lib.hid hr
  clear hr
  have sz15 := hk15.size
  (try simp at sz15)
  clear hk15
  have hb := HBg.out
  have g0 := hb.cell 0
  have g1 := hb.cell 1
  have g2 := hb.cell 2
  have g3 := hb.cell 3
  have g4 := hb.cell 4
  have g5 := hb.cell 5
  have g6 := hb.cell 6
  have g7 := hb.cell 7
  have g8 := hb.cell 8
  have g9 := hb.cell 9
  have g10 := hb.cell 10
  have g11 := hb.cell 11
  have g12 := hb.cell 12
  simp at g0 g1 g2 g3 g4 g5 g6 g7 g8 g9 g10 g11 g12
  have zg := hb.lt
  clear hb
  go_wp2_with fail
  refine (HMG.out g Gg _ _ Sg.out Ng.out).mono ?_
  rintro e w16 ⟨rfl, k9, hk16⟩
  clear Ng
  have Ng := Lib.hid k9
  clear k9
  clear g0 g1 g2 g3 g4 g5 g6 g7 g8 g9 g10 g11 g12 zg
  have ha := HBa.out.keeps hk16 (fun h => by have q := Lg.out _ h; (try simp at q) <;> omega)
  clear HBa
  have HBa := Lib.hid ha
  clear ha
  have hb := HBb.out.keeps hk16 (fun h => by have q := Lg.out _ h; (try simp at q) <;> omega)
  clear HBb
  have HBb := Lib.hid hb
  clear hb
  have hk := HBk.out.keeps hk16 (fun h => by have q := Lg.out _ h; (try simp at q) <;> omega)
  clear HBk
  have HBk := Lib.hid hk
  clear hk
  have hv := HBv.out.keeps hk16 (fun h => by have q := Lg.out _ h; (try simp at q) <;> omega)
  clear HBv
  have HBv := Lib.hid hv
  clear hv
  have hx := HBx.out.keeps hk16 (fun h => by have q := Lg.out _ h; (try simp at q) <;> omega)
  clear HBx
  have HBx := Lib.hid hx
  clear hx
  have ht := HBt.out.keeps hk16 (fun h => by have q := Lg.out _ h; (try simp at q) <;> omega)
  clear HBt
  have HBt := Lib.hid ht
  clear ht
  have hg := HBg.out.keeps hk16 (HGN.out)
  clear HBg
  have HBg := Lib.hid hg
  clear hg
  have hr := (Ov.out).keeps hk16 (fun b hb h => by have q := Lg.out b h; have q2 := Lv.out b hb; (try simp at q q2) <;> omega)
  clear Ov
  have Ov := Lib.hid hr
  clear hr
  have hr := HK.out.then hk16 (fun i hi h => by have q := (Lg.out i h).1; (try simp at q) <;> omega)
  clear HK
  have HK := Lib.hid hr
  clear hr
  have sz16 := hk16.size
  (try simp at sz16)
  clear hk16
  have hb := HBg.out
  have g0 := hb.cell 0
  have g1 := hb.cell 1
  have g2 := hb.cell 2
  have g3 := hb.cell 3
  have g4 := hb.cell 4
  have g5 := hb.cell 5
  have g6 := hb.cell 6
  have g7 := hb.cell 7
  have g8 := hb.cell 8
  have g9 := hb.cell 9
  have g10 := hb.cell 10
  have g11 := hb.cell 11
  have g12 := hb.cell 12
  simp at g0 g1 g2 g3 g4 g5 g6 g7 g8 g9 g10 g11 g12
  have zg := hb.lt
  clear hb
  go_wp2_with fail
  refine (HHD.out g Gg _ _ Sg.out Ng.out).mono ?_
  rintro e w17 ⟨rfl, hk17⟩
  clear g0 g1 g2 g3 g4 g5 g6 g7 g8 g9 g10 g11 g12 zg
  have ha := HBa.out.keeps hk17 (fun h => h)
  clear HBa
  have HBa := Lib.hid ha
  clear ha
  have hb := HBb.out.keeps hk17 (fun h => h)
  clear HBb
  have HBb := Lib.hid hb
  clear hb
  have hk := HBk.out.keeps hk17 (fun h => h)
  clear HBk
  have HBk := Lib.hid hk
  clear hk
  have hv := HBv.out.keeps hk17 (fun h => h)
  clear HBv
  have HBv := Lib.hid hv
  clear hv
  have hx := HBx.out.keeps hk17 (fun h => h)
  clear HBx
  have HBx := Lib.hid hx
  clear hx
  have ht := HBt.out.keeps hk17 (fun h => h)
  clear HBt
  have HBt := Lib.hid ht
  clear ht
  have hg := HBg.out.keeps hk17 (fun h => h)
  clear HBg
  have HBg := Lib.hid hg
  clear hg
  have hr := (Ov.out).kept hk17
  clear Ov
  have Ov := Lib.hid hr
  clear hr
  have hr := (Ng.out).kept hk17
  clear Ng
  have Ng := Lib.hid hr
  clear hr
  have hr := HK.out.trans hk17
  clear HK
  have HK := Lib.hid hr
  clear hr
  have sz17 := hk17.size
  (try simp at sz17)
  clear hk17
  have hb := HBa.out
  have a0 := hb.cell 0
  have a1 := hb.cell 1
  have a2 := hb.cell 2
  have a3 := hb.cell 3
  have a4 := hb.cell 4
  have a5 := hb.cell 5
  have a6 := hb.cell 6
  have a7 := hb.cell 7
  have a8 := hb.cell 8
  have a9 := hb.cell 9
  have a10 := hb.cell 10
  have a11 := hb.cell 11
  have a12 := hb.cell 12
  simp at a0 a1 a2 a3 a4 a5 a6 a7 a8 a9 a10 a11 a12
  have za := hb.lt
  clear hb
  have hb := HBb.out
  have b0 := hb.cell 0
  have b1 := hb.cell 1
  have b2 := hb.cell 2
  have b3 := hb.cell 3
  have b4 := hb.cell 4
  have b5 := hb.cell 5
  have b6 := hb.cell 6
  simp at b0 b1 b2 b3 b4 b5 b6
  have zb := hb.lt
  clear hb
  have hb := HBk.out
  have k0 := hb.cell 0
  have k1 := hb.cell 1
  have k2 := hb.cell 2
  have k3 := hb.cell 3
  have k4 := hb.cell 4
  have k5 := hb.cell 5
  have k6 := hb.cell 6
  simp at k0 k1 k2 k3 k4 k5 k6
  have zk := hb.lt
  clear hb
  clear HBx HBt
  go_wp2_with fail
  go_cut [17, 18] from 100 to 109 (fun sp so wx => ∃ (gn : Nat) (u : ChM), sp = .pointer (some ⟨gn, 0, none⟩) ∧ so = .bool oo ∧ Box wx gn 42 #[.int .i64 u.id, .slice u.bk.A1 u.bk.b.own.length u.bk.c1, .slice u.bk.A2 u.bk.b.notes.length u.bk.c2, .int .i64 u.bk.b.locked, .int .i64 u.st.x.way, .int .i64 u.st.x.ver, .int .i64 u.st.x.want, .slice u.st.A1 u.st.x.sent.length u.st.c1, .slice u.st.A2 u.st.x.live.length u.st.c2, .slice u.st.A3 u.st.x.back.length u.st.c3, .slice u.st.A4 u.st.x.got.length u.st.c4, .slice u.pA u.past.length u.pc, .slice u.kA u.knows.length u.kc] ∧ SameC R u ∧ ChAt wx u ∧ w17.heap.size ≤ gn ∧ Keeps noBlk w17 wx ∧ Keeps noBlk w wx ∧ Box wx (w.heap.size) 31 #[.int .i64 c.id, .slice c.bk.A1 c.bk.b.own.length c.bk.c1, .slice c.bk.A2 c.bk.b.notes.length c.bk.c2, .int .i64 c.bk.b.locked, .int .i64 c.st.x.way, .int .i64 c.st.x.ver, .int .i64 c.st.x.want, .slice c.st.A1 c.st.x.sent.length c.st.c1, .slice c.st.A2 c.st.x.live.length c.st.c2, .slice c.st.A3 c.st.x.back.length c.st.c3, .slice c.st.A4 c.st.x.got.length c.st.c4, .slice c.pA c.past.length c.pc, .slice c.kA c.knows.length c.kc] ∧ Box wx (w.heap.size + 1) 28 #[.int .i64 y.x.way, .int .i64 y.x.ver, .int .i64 y.x.want, .slice y.A1 y.x.sent.length y.c1, .slice y.A2 y.x.live.length y.c2, .slice y.A3 y.x.back.length y.c3, .slice y.A4 y.x.got.length y.c4] ∧ Box wx (w.heap.size + 1 + 1) 33 #[.int .i64 p.s, .int .i64 p.k, .int .i64 p.f, .int .i64 p.t, .int .i64 p.m, .int .i64 p.u, .int .i64 p.v])
  case first =>
    have TKv : True := trivial
    go_region_held3 (fun w' => w'.cell? ⟨w.heap.size, 0, none⟩ = some (.int .i64 c.id) ∧ w'.cell? ⟨w.heap.size, 1, none⟩ = some (.slice c.bk.A1 c.bk.b.own.length c.bk.c1) ∧ w'.cell? ⟨w.heap.size, 2, none⟩ = some (.slice c.bk.A2 c.bk.b.notes.length c.bk.c2) ∧ w'.cell? ⟨w.heap.size, 3, none⟩ = some (.int .i64 c.bk.b.locked) ∧ w'.cell? ⟨w.heap.size, 4, none⟩ = some (.int .i64 c.st.x.way) ∧ w'.cell? ⟨w.heap.size, 5, none⟩ = some (.int .i64 c.st.x.ver) ∧ w'.cell? ⟨w.heap.size, 6, none⟩ = some (.int .i64 c.st.x.want) ∧ w'.cell? ⟨w.heap.size, 7, none⟩ = some (.slice c.st.A1 c.st.x.sent.length c.st.c1) ∧ w'.cell? ⟨w.heap.size, 8, none⟩ = some (.slice c.st.A2 c.st.x.live.length c.st.c2) ∧ w'.cell? ⟨w.heap.size, 9, none⟩ = some (.slice c.st.A3 c.st.x.back.length c.st.c3) ∧ w'.cell? ⟨w.heap.size, 10, none⟩ = some (.slice c.st.A4 c.st.x.got.length c.st.c4) ∧ w'.cell? ⟨w.heap.size, 11, none⟩ = some (.slice c.pA c.past.length c.pc) ∧ w'.cell? ⟨w.heap.size, 12, none⟩ = some (.slice c.kA c.knows.length c.kc) ∧ w'.cell? ⟨w.heap.size + 1, 0, none⟩ = some (.int .i64 y.x.way) ∧ w'.cell? ⟨w.heap.size + 1, 1, none⟩ = some (.int .i64 y.x.ver) ∧ w'.cell? ⟨w.heap.size + 1, 2, none⟩ = some (.int .i64 y.x.want) ∧ w'.cell? ⟨w.heap.size + 1, 3, none⟩ = some (.slice y.A1 y.x.sent.length y.c1) ∧ w'.cell? ⟨w.heap.size + 1, 4, none⟩ = some (.slice y.A2 y.x.live.length y.c2) ∧ w'.cell? ⟨w.heap.size + 1, 5, none⟩ = some (.slice y.A3 y.x.back.length y.c3) ∧ w'.cell? ⟨w.heap.size + 1, 6, none⟩ = some (.slice y.A4 y.x.got.length y.c4) ∧ w'.cell? ⟨w.heap.size + 1 + 1, 0, none⟩ = some (.int .i64 p.s) ∧ w'.cell? ⟨w.heap.size + 1 + 1, 1, none⟩ = some (.int .i64 p.k) ∧ w'.cell? ⟨w.heap.size + 1 + 1, 2, none⟩ = some (.int .i64 p.f) ∧ w'.cell? ⟨w.heap.size + 1 + 1, 3, none⟩ = some (.int .i64 p.t) ∧ w'.cell? ⟨w.heap.size + 1 + 1, 4, none⟩ = some (.int .i64 p.m) ∧ w'.cell? ⟨w.heap.size + 1 + 1, 5, none⟩ = some (.int .i64 p.u) ∧ w'.cell? ⟨w.heap.size + 1 + 1, 6, none⟩ = some (.int .i64 p.v))
      (((try dsimp only); (repeat' apply And.intro) <;> (first | with_reducible assumption | (go_keep; done))))
      (first | (have _t := HBv9; clear _t; go_at_call 13; refine (HIM.out p1 t1 _ SP.out (OP.out.kept (Keeps.refl noBlk w20)) ET.out (OT.out.kept (Keeps.refl noBlk w20)) (HT.out.keeps HK.out)).mono ?_; rintro e w21 ⟨u, Gu, rfl, s9, k9, hk21⟩; dsimp only [ChM.val, StM.val]; have HSV := Lib.hid s9; have HV9 := Lib.hid k9.at_; have hge9 := fun b (h : chBlk u b) => k9.ge h; clear s9 k9; have hq := hk21; have HVG := Lib.hid (fun b (h : chBlk u b) => (show w20.heap.size ≤ b by have := hge9 b h; (first | omega | (simp at this; omega)))); clear hge9; clear hk21; have hv := HBv9.out.keeps hq (fun h => h); clear HBv9; have HBv9 := Lib.hid hv; clear hv; have hr9 := (OP.out).kept hq; clear OP; have OP := Lib.hid hr9; clear hr9; have hr9 := (OT.out).kept hq; clear OT; have OT := Lib.hid hr9; clear hr9; have ha := HBa.out.keeps hq (fun h => h); clear HBa; have HBa := Lib.hid ha; have a0 := ha.cell 0; have a1 := ha.cell 1; have a2 := ha.cell 2; have a3 := ha.cell 3; have a4 := ha.cell 4; have a5 := ha.cell 5; have a6 := ha.cell 6; have a7 := ha.cell 7; have a8 := ha.cell 8; have a9 := ha.cell 9; have a10 := ha.cell 10; have a11 := ha.cell 11; have a12 := ha.cell 12; simp at a0 a1 a2 a3 a4 a5 a6 a7 a8 a9 a10 a11 a12; have za := ha.lt; clear ha; have hb := HBb.out.keeps hq (fun h => h); clear HBb; have HBb := Lib.hid hb; have b0 := hb.cell 0; have b1 := hb.cell 1; have b2 := hb.cell 2; have b3 := hb.cell 3; have b4 := hb.cell 4; have b5 := hb.cell 5; have b6 := hb.cell 6; simp at b0 b1 b2 b3 b4 b5 b6; have zb := hb.lt; clear hb; have hk := HBk.out.keeps hq (fun h => h); clear HBk; have HBk := Lib.hid hk; have k0 := hk.cell 0; have k1 := hk.cell 1; have k2 := hk.cell 2; have k3 := hk.cell 3; have k4 := hk.cell 4; have k5 := hk.cell 5; have k6 := hk.cell 6; simp at k0 k1 k2 k3 k4 k5 k6; have zk := hk.lt; clear hk; have hb := HBv9.out; have v90 := hb.cell 0; have v91 := hb.cell 1; have v92 := hb.cell 2; have v93 := hb.cell 3; have v94 := hb.cell 4; have v95 := hb.cell 5; have v96 := hb.cell 6; have v97 := hb.cell 7; have v98 := hb.cell 8; have v99 := hb.cell 9; have v910 := hb.cell 10; have v911 := hb.cell 11; have v912 := hb.cell 12; have f90 := hb.frozen 0; have f91 := hb.frozen 1; have f92 := hb.frozen 2; have f93 := hb.frozen 3; have f94 := hb.frozen 4; have f95 := hb.frozen 5; have f96 := hb.frozen 6; have f97 := hb.frozen 7; have f98 := hb.frozen 8; have f99 := hb.frozen 9; have f910 := hb.frozen 10; have f911 := hb.frozen 11; have f912 := hb.frozen 12; simp at v90 v91 v92 v93 v94 v95 v96 v97 v98 v99 v910 v911 v912; have z9 := hb.lt; clear hb; have hq9 := HQ9.out.trans hq; clear HQ9; have HQ9 := Lib.hid hq9; clear hq9; have hh9 := HK.out.trans hq; clear HK; have HK := Lib.hid hh9; clear hh9; have sz21 := hq.size; (try simp at sz21); clear hq) | (have _t := TKv; clear _t; go_at_call 13; refine (HIM.out p1 t1 _ SP.out (OP.out.kept (Keeps.refl noBlk w20)) ET.out (OT.out.kept (Keeps.refl noBlk w20)) (HT.out.keeps HK.out)).mono ?_; rintro e w21 ⟨u, Gu, rfl, s9, k9, hk21⟩; dsimp only [ChM.val, StM.val]; have HSV := Lib.hid s9; have HV9 := Lib.hid k9.at_; have hge9 := fun b (h : chBlk u b) => k9.ge h; clear s9 k9; have hq := hk21; have HVG := Lib.hid (fun b (h : chBlk u b) => (show w20.heap.size ≤ b by have := hge9 b h; (first | omega | (simp at this; omega)))); clear hge9; clear hk21; have hr9 := (OP.out).kept hq; clear OP; have OP := Lib.hid hr9; clear hr9; have hr9 := (OT.out).kept hq; clear OT; have OT := Lib.hid hr9; clear hr9; have ha := HBa.out.keeps hq (fun h => h); clear HBa; have HBa := Lib.hid ha; have a0 := ha.cell 0; have a1 := ha.cell 1; have a2 := ha.cell 2; have a3 := ha.cell 3; have a4 := ha.cell 4; have a5 := ha.cell 5; have a6 := ha.cell 6; have a7 := ha.cell 7; have a8 := ha.cell 8; have a9 := ha.cell 9; have a10 := ha.cell 10; have a11 := ha.cell 11; have a12 := ha.cell 12; simp at a0 a1 a2 a3 a4 a5 a6 a7 a8 a9 a10 a11 a12; have za := ha.lt; clear ha; have hb := HBb.out.keeps hq (fun h => h); clear HBb; have HBb := Lib.hid hb; have b0 := hb.cell 0; have b1 := hb.cell 1; have b2 := hb.cell 2; have b3 := hb.cell 3; have b4 := hb.cell 4; have b5 := hb.cell 5; have b6 := hb.cell 6; simp at b0 b1 b2 b3 b4 b5 b6; have zb := hb.lt; clear hb; have hk := HBk.out.keeps hq (fun h => h); clear HBk; have HBk := Lib.hid hk; have k0 := hk.cell 0; have k1 := hk.cell 1; have k2 := hk.cell 2; have k3 := hk.cell 3; have k4 := hk.cell 4; have k5 := hk.cell 5; have k6 := hk.cell 6; simp at k0 k1 k2 k3 k4 k5 k6; have zk := hk.lt; clear hk; have hq9 := HQ9.out.trans hq; clear HQ9; have HQ9 := Lib.hid hq9; clear hq9; have hh9 := HK.out.trans hq; clear HK; have HK := Lib.hid hh9; clear hh9; have sz21 := hq.size; (try simp at sz21); clear hq) | (clear TKv; have TKh3 : True := trivial; go_at_call 13; refine (HIM.out p1 t1 _ SP.out (OP.out.kept ((Keeps.refl noBlk w20).alloc (.cells #[.int .i64 0, .slice none 0 0, .slice none 0 0, .int .i64 0, .int .i64 0, .int .i64 0, .int .i64 0, .slice none 0 0, .slice none 0 0, .slice none 0 0, .slice none 0 0, .slice none 0 0, .slice none 0 0] 42))) ET.out (OT.out.kept ((Keeps.refl noBlk w20).alloc (.cells #[.int .i64 0, .slice none 0 0, .slice none 0 0, .int .i64 0, .int .i64 0, .int .i64 0, .int .i64 0, .slice none 0 0, .slice none 0 0, .slice none 0 0, .slice none 0 0, .slice none 0 0, .slice none 0 0] 42))) (HT.out.keeps (HK.out.alloc (.cells #[.int .i64 0, .slice none 0 0, .slice none 0 0, .int .i64 0, .int .i64 0, .int .i64 0, .int .i64 0, .slice none 0 0, .slice none 0 0, .slice none 0 0, .slice none 0 0, .slice none 0 0, .slice none 0 0] 42)))).mono ?_; rintro e w21 ⟨u, Gu, rfl, s9, k9, hk21⟩; dsimp only [ChM.val, StM.val]; have HSV := Lib.hid s9; have HV9 := Lib.hid k9.at_; have hge9 := fun b (h : chBlk u b) => k9.ge h; clear s9 k9; have hraw := hk21; have HBv9 := Lib.hid ((Box.new w20 _ rfl 42 #[.int .i64 0, .slice none 0 0, .slice none 0 0, .int .i64 0, .int .i64 0, .int .i64 0, .int .i64 0, .slice none 0 0, .slice none 0 0, .slice none 0 0, .slice none 0 0, .slice none 0 0, .slice none 0 0]).keeps hraw (fun h => h)); have hq := ((Keeps.refl noBlk w20).alloc (.cells #[.int .i64 0, .slice none 0 0, .slice none 0 0, .int .i64 0, .int .i64 0, .int .i64 0, .int .i64 0, .slice none 0 0, .slice none 0 0, .slice none 0 0, .slice none 0 0, .slice none 0 0, .slice none 0 0] 42)).trans hraw; clear hraw; have HVG := Lib.hid (fun b (h : chBlk u b) => (show w20.heap.size + 1 ≤ b by have := hge9 b h; (first | omega | (simp at this; omega)))); clear hge9; clear hk21; have hr9 := (OP.out).kept hq; clear OP; have OP := Lib.hid hr9; clear hr9; have hr9 := (OT.out).kept hq; clear OT; have OT := Lib.hid hr9; clear hr9; have ha := HBa.out.keeps hq (fun h => h); clear HBa; have HBa := Lib.hid ha; have a0 := ha.cell 0; have a1 := ha.cell 1; have a2 := ha.cell 2; have a3 := ha.cell 3; have a4 := ha.cell 4; have a5 := ha.cell 5; have a6 := ha.cell 6; have a7 := ha.cell 7; have a8 := ha.cell 8; have a9 := ha.cell 9; have a10 := ha.cell 10; have a11 := ha.cell 11; have a12 := ha.cell 12; simp at a0 a1 a2 a3 a4 a5 a6 a7 a8 a9 a10 a11 a12; have za := ha.lt; clear ha; have hb := HBb.out.keeps hq (fun h => h); clear HBb; have HBb := Lib.hid hb; have b0 := hb.cell 0; have b1 := hb.cell 1; have b2 := hb.cell 2; have b3 := hb.cell 3; have b4 := hb.cell 4; have b5 := hb.cell 5; have b6 := hb.cell 6; simp at b0 b1 b2 b3 b4 b5 b6; have zb := hb.lt; clear hb; have hk := HBk.out.keeps hq (fun h => h); clear HBk; have HBk := Lib.hid hk; have k0 := hk.cell 0; have k1 := hk.cell 1; have k2 := hk.cell 2; have k3 := hk.cell 3; have k4 := hk.cell 4; have k5 := hk.cell 5; have k6 := hk.cell 6; simp at k0 k1 k2 k3 k4 k5 k6; have zk := hk.lt; clear hk; have hb := HBv9.out; have v90 := hb.cell 0; have v91 := hb.cell 1; have v92 := hb.cell 2; have v93 := hb.cell 3; have v94 := hb.cell 4; have v95 := hb.cell 5; have v96 := hb.cell 6; have v97 := hb.cell 7; have v98 := hb.cell 8; have v99 := hb.cell 9; have v910 := hb.cell 10; have v911 := hb.cell 11; have v912 := hb.cell 12; have f90 := hb.frozen 0; have f91 := hb.frozen 1; have f92 := hb.frozen 2; have f93 := hb.frozen 3; have f94 := hb.frozen 4; have f95 := hb.frozen 5; have f96 := hb.frozen 6; have f97 := hb.frozen 7; have f98 := hb.frozen 8; have f99 := hb.frozen 9; have f910 := hb.frozen 10; have f911 := hb.frozen 11; have f912 := hb.frozen 12; simp at v90 v91 v92 v93 v94 v95 v96 v97 v98 v99 v910 v911 v912; have z9 := hb.lt; clear hb; have hq9 := HQ9.out.trans hq; clear HQ9; have HQ9 := Lib.hid hq9; clear hq9; have hh9 := HK.out.trans hq; clear HK; have HK := Lib.hid hh9; clear hh9; have sz21 := hq.size; (try simp at sz21); clear hq; have : ¬ w.heap.size = w20.heap.size := (by omega); have : ¬ w20.heap.size = w.heap.size := (by omega); have : ¬ w.heap.size + 1 = w20.heap.size := (by omega); have : ¬ w20.heap.size = w.heap.size + 1 := (by omega); have : ¬ w.heap.size + 1 + 1 = w20.heap.size := (by omega); have : ¬ w20.heap.size = w.heap.size + 1 + 1 := (by omega)) | (have _t := HBv9; clear _t; go_at_call 12; refine (HTP.out _).mono ?_; rintro e w20 ⟨rfl, hk20⟩; have hq := hk20; clear hk20; have hv := HBv9.out.keeps hq (fun h => h); clear HBv9; have HBv9 := Lib.hid hv; clear hv; have hr9 := (OP.out).kept hq; clear OP; have OP := Lib.hid hr9; clear hr9; have hr9 := (OT.out).kept hq; clear OT; have OT := Lib.hid hr9; clear hr9; have ha := HBa.out.keeps hq (fun h => h); clear HBa; have HBa := Lib.hid ha; have a0 := ha.cell 0; have a1 := ha.cell 1; have a2 := ha.cell 2; have a3 := ha.cell 3; have a4 := ha.cell 4; have a5 := ha.cell 5; have a6 := ha.cell 6; have a7 := ha.cell 7; have a8 := ha.cell 8; have a9 := ha.cell 9; have a10 := ha.cell 10; have a11 := ha.cell 11; have a12 := ha.cell 12; simp at a0 a1 a2 a3 a4 a5 a6 a7 a8 a9 a10 a11 a12; have za := ha.lt; clear ha; have hb := HBb.out.keeps hq (fun h => h); clear HBb; have HBb := Lib.hid hb; have b0 := hb.cell 0; have b1 := hb.cell 1; have b2 := hb.cell 2; have b3 := hb.cell 3; have b4 := hb.cell 4; have b5 := hb.cell 5; have b6 := hb.cell 6; simp at b0 b1 b2 b3 b4 b5 b6; have zb := hb.lt; clear hb; have hk := HBk.out.keeps hq (fun h => h); clear HBk; have HBk := Lib.hid hk; have k0 := hk.cell 0; have k1 := hk.cell 1; have k2 := hk.cell 2; have k3 := hk.cell 3; have k4 := hk.cell 4; have k5 := hk.cell 5; have k6 := hk.cell 6; simp at k0 k1 k2 k3 k4 k5 k6; have zk := hk.lt; clear hk; have hb := HBv9.out; have v90 := hb.cell 0; have v91 := hb.cell 1; have v92 := hb.cell 2; have v93 := hb.cell 3; have v94 := hb.cell 4; have v95 := hb.cell 5; have v96 := hb.cell 6; have v97 := hb.cell 7; have v98 := hb.cell 8; have v99 := hb.cell 9; have v910 := hb.cell 10; have v911 := hb.cell 11; have v912 := hb.cell 12; have f90 := hb.frozen 0; have f91 := hb.frozen 1; have f92 := hb.frozen 2; have f93 := hb.frozen 3; have f94 := hb.frozen 4; have f95 := hb.frozen 5; have f96 := hb.frozen 6; have f97 := hb.frozen 7; have f98 := hb.frozen 8; have f99 := hb.frozen 9; have f910 := hb.frozen 10; have f911 := hb.frozen 11; have f912 := hb.frozen 12; simp at v90 v91 v92 v93 v94 v95 v96 v97 v98 v99 v910 v911 v912; have z9 := hb.lt; clear hb; have hq9 := HQ9.out.trans hq; clear HQ9; have HQ9 := Lib.hid hq9; clear hq9; have hh9 := HK.out.trans hq; clear HK; have HK := Lib.hid hh9; clear hh9; have sz20 := hq.size; (try simp at sz20); clear hq) | (have _t := TKv; clear _t; go_at_call 12; refine (HTP.out _).mono ?_; rintro e w20 ⟨rfl, hk20⟩; have hq := hk20; clear hk20; have hr9 := (OP.out).kept hq; clear OP; have OP := Lib.hid hr9; clear hr9; have hr9 := (OT.out).kept hq; clear OT; have OT := Lib.hid hr9; clear hr9; have ha := HBa.out.keeps hq (fun h => h); clear HBa; have HBa := Lib.hid ha; have a0 := ha.cell 0; have a1 := ha.cell 1; have a2 := ha.cell 2; have a3 := ha.cell 3; have a4 := ha.cell 4; have a5 := ha.cell 5; have a6 := ha.cell 6; have a7 := ha.cell 7; have a8 := ha.cell 8; have a9 := ha.cell 9; have a10 := ha.cell 10; have a11 := ha.cell 11; have a12 := ha.cell 12; simp at a0 a1 a2 a3 a4 a5 a6 a7 a8 a9 a10 a11 a12; have za := ha.lt; clear ha; have hb := HBb.out.keeps hq (fun h => h); clear HBb; have HBb := Lib.hid hb; have b0 := hb.cell 0; have b1 := hb.cell 1; have b2 := hb.cell 2; have b3 := hb.cell 3; have b4 := hb.cell 4; have b5 := hb.cell 5; have b6 := hb.cell 6; simp at b0 b1 b2 b3 b4 b5 b6; have zb := hb.lt; clear hb; have hk := HBk.out.keeps hq (fun h => h); clear HBk; have HBk := Lib.hid hk; have k0 := hk.cell 0; have k1 := hk.cell 1; have k2 := hk.cell 2; have k3 := hk.cell 3; have k4 := hk.cell 4; have k5 := hk.cell 5; have k6 := hk.cell 6; simp at k0 k1 k2 k3 k4 k5 k6; have zk := hk.lt; clear hk; have hq9 := HQ9.out.trans hq; clear HQ9; have HQ9 := Lib.hid hq9; clear hq9; have hh9 := HK.out.trans hq; clear HK; have HK := Lib.hid hh9; clear hh9; have sz20 := hq.size; (try simp at sz20); clear hq) | (clear TKv; have TKh2 : True := trivial; go_at_call 12; refine (HTP.out _).mono ?_; rintro e w20 ⟨rfl, hk20⟩; have hraw := hk20; have HBv9 := Lib.hid ((Box.new w19 _ rfl 42 #[.int .i64 0, .slice none 0 0, .slice none 0 0, .int .i64 0, .int .i64 0, .int .i64 0, .int .i64 0, .slice none 0 0, .slice none 0 0, .slice none 0 0, .slice none 0 0, .slice none 0 0, .slice none 0 0]).keeps hraw (fun h => h)); have hq := ((Keeps.refl noBlk w19).alloc (.cells #[.int .i64 0, .slice none 0 0, .slice none 0 0, .int .i64 0, .int .i64 0, .int .i64 0, .int .i64 0, .slice none 0 0, .slice none 0 0, .slice none 0 0, .slice none 0 0, .slice none 0 0, .slice none 0 0] 42)).trans hraw; clear hraw; clear hk20; have hr9 := (OP.out).kept hq; clear OP; have OP := Lib.hid hr9; clear hr9; have hr9 := (OT.out).kept hq; clear OT; have OT := Lib.hid hr9; clear hr9; have ha := HBa.out.keeps hq (fun h => h); clear HBa; have HBa := Lib.hid ha; have a0 := ha.cell 0; have a1 := ha.cell 1; have a2 := ha.cell 2; have a3 := ha.cell 3; have a4 := ha.cell 4; have a5 := ha.cell 5; have a6 := ha.cell 6; have a7 := ha.cell 7; have a8 := ha.cell 8; have a9 := ha.cell 9; have a10 := ha.cell 10; have a11 := ha.cell 11; have a12 := ha.cell 12; simp at a0 a1 a2 a3 a4 a5 a6 a7 a8 a9 a10 a11 a12; have za := ha.lt; clear ha; have hb := HBb.out.keeps hq (fun h => h); clear HBb; have HBb := Lib.hid hb; have b0 := hb.cell 0; have b1 := hb.cell 1; have b2 := hb.cell 2; have b3 := hb.cell 3; have b4 := hb.cell 4; have b5 := hb.cell 5; have b6 := hb.cell 6; simp at b0 b1 b2 b3 b4 b5 b6; have zb := hb.lt; clear hb; have hk := HBk.out.keeps hq (fun h => h); clear HBk; have HBk := Lib.hid hk; have k0 := hk.cell 0; have k1 := hk.cell 1; have k2 := hk.cell 2; have k3 := hk.cell 3; have k4 := hk.cell 4; have k5 := hk.cell 5; have k6 := hk.cell 6; simp at k0 k1 k2 k3 k4 k5 k6; have zk := hk.lt; clear hk; have hb := HBv9.out; have v90 := hb.cell 0; have v91 := hb.cell 1; have v92 := hb.cell 2; have v93 := hb.cell 3; have v94 := hb.cell 4; have v95 := hb.cell 5; have v96 := hb.cell 6; have v97 := hb.cell 7; have v98 := hb.cell 8; have v99 := hb.cell 9; have v910 := hb.cell 10; have v911 := hb.cell 11; have v912 := hb.cell 12; have f90 := hb.frozen 0; have f91 := hb.frozen 1; have f92 := hb.frozen 2; have f93 := hb.frozen 3; have f94 := hb.frozen 4; have f95 := hb.frozen 5; have f96 := hb.frozen 6; have f97 := hb.frozen 7; have f98 := hb.frozen 8; have f99 := hb.frozen 9; have f910 := hb.frozen 10; have f911 := hb.frozen 11; have f912 := hb.frozen 12; simp at v90 v91 v92 v93 v94 v95 v96 v97 v98 v99 v910 v911 v912; have z9 := hb.lt; clear hb; have hq9 := HQ9.out.trans hq; clear HQ9; have HQ9 := Lib.hid hq9; clear hq9; have hh9 := HK.out.trans hq; clear HK; have HK := Lib.hid hh9; clear hh9; have sz20 := hq.size; (try simp at sz20); clear hq; have : ¬ w.heap.size = w19.heap.size := (by omega); have : ¬ w19.heap.size = w.heap.size := (by omega); have : ¬ w.heap.size + 1 = w19.heap.size := (by omega); have : ¬ w19.heap.size = w.heap.size + 1 := (by omega); have : ¬ w.heap.size + 1 + 1 = w19.heap.size := (by omega); have : ¬ w19.heap.size = w.heap.size + 1 + 1 := (by omega)) | (have _t := HBv9; clear _t; go_at_call 11; refine (HTS.out _ HK.out).mono ?_; rintro e w19 ⟨t1, rfl, s9, o9, hk19⟩; dsimp only [ChM.val, StM.val]; have ET := Lib.hid s9; have OT := Lib.hid (o9.at_ (hLen.out t1 s9)); clear s9 o9; have hq := hk19; clear hk19; have hv := HBv9.out.keeps hq (fun h => h); clear HBv9; have HBv9 := Lib.hid hv; clear hv; have hr9 := (OP.out).kept hq; clear OP; have OP := Lib.hid hr9; clear hr9; have ha := HBa.out.keeps hq (fun h => h); clear HBa; have HBa := Lib.hid ha; have a0 := ha.cell 0; have a1 := ha.cell 1; have a2 := ha.cell 2; have a3 := ha.cell 3; have a4 := ha.cell 4; have a5 := ha.cell 5; have a6 := ha.cell 6; have a7 := ha.cell 7; have a8 := ha.cell 8; have a9 := ha.cell 9; have a10 := ha.cell 10; have a11 := ha.cell 11; have a12 := ha.cell 12; simp at a0 a1 a2 a3 a4 a5 a6 a7 a8 a9 a10 a11 a12; have za := ha.lt; clear ha; have hb := HBb.out.keeps hq (fun h => h); clear HBb; have HBb := Lib.hid hb; have b0 := hb.cell 0; have b1 := hb.cell 1; have b2 := hb.cell 2; have b3 := hb.cell 3; have b4 := hb.cell 4; have b5 := hb.cell 5; have b6 := hb.cell 6; simp at b0 b1 b2 b3 b4 b5 b6; have zb := hb.lt; clear hb; have hk := HBk.out.keeps hq (fun h => h); clear HBk; have HBk := Lib.hid hk; have k0 := hk.cell 0; have k1 := hk.cell 1; have k2 := hk.cell 2; have k3 := hk.cell 3; have k4 := hk.cell 4; have k5 := hk.cell 5; have k6 := hk.cell 6; simp at k0 k1 k2 k3 k4 k5 k6; have zk := hk.lt; clear hk; have hb := HBv9.out; have v90 := hb.cell 0; have v91 := hb.cell 1; have v92 := hb.cell 2; have v93 := hb.cell 3; have v94 := hb.cell 4; have v95 := hb.cell 5; have v96 := hb.cell 6; have v97 := hb.cell 7; have v98 := hb.cell 8; have v99 := hb.cell 9; have v910 := hb.cell 10; have v911 := hb.cell 11; have v912 := hb.cell 12; have f90 := hb.frozen 0; have f91 := hb.frozen 1; have f92 := hb.frozen 2; have f93 := hb.frozen 3; have f94 := hb.frozen 4; have f95 := hb.frozen 5; have f96 := hb.frozen 6; have f97 := hb.frozen 7; have f98 := hb.frozen 8; have f99 := hb.frozen 9; have f910 := hb.frozen 10; have f911 := hb.frozen 11; have f912 := hb.frozen 12; simp at v90 v91 v92 v93 v94 v95 v96 v97 v98 v99 v910 v911 v912; have z9 := hb.lt; clear hb; have hq9 := HQ9.out.trans hq; clear HQ9; have HQ9 := Lib.hid hq9; clear hq9; have hh9 := HK.out.trans hq; clear HK; have HK := Lib.hid hh9; clear hh9; have sz19 := hq.size; (try simp at sz19); clear hq) | (have _t := TKv; clear _t; go_at_call 11; refine (HTS.out _ HK.out).mono ?_; rintro e w19 ⟨t1, rfl, s9, o9, hk19⟩; dsimp only [ChM.val, StM.val]; have ET := Lib.hid s9; have OT := Lib.hid (o9.at_ (hLen.out t1 s9)); clear s9 o9; have hq := hk19; clear hk19; have hr9 := (OP.out).kept hq; clear OP; have OP := Lib.hid hr9; clear hr9; have ha := HBa.out.keeps hq (fun h => h); clear HBa; have HBa := Lib.hid ha; have a0 := ha.cell 0; have a1 := ha.cell 1; have a2 := ha.cell 2; have a3 := ha.cell 3; have a4 := ha.cell 4; have a5 := ha.cell 5; have a6 := ha.cell 6; have a7 := ha.cell 7; have a8 := ha.cell 8; have a9 := ha.cell 9; have a10 := ha.cell 10; have a11 := ha.cell 11; have a12 := ha.cell 12; simp at a0 a1 a2 a3 a4 a5 a6 a7 a8 a9 a10 a11 a12; have za := ha.lt; clear ha; have hb := HBb.out.keeps hq (fun h => h); clear HBb; have HBb := Lib.hid hb; have b0 := hb.cell 0; have b1 := hb.cell 1; have b2 := hb.cell 2; have b3 := hb.cell 3; have b4 := hb.cell 4; have b5 := hb.cell 5; have b6 := hb.cell 6; simp at b0 b1 b2 b3 b4 b5 b6; have zb := hb.lt; clear hb; have hk := HBk.out.keeps hq (fun h => h); clear HBk; have HBk := Lib.hid hk; have k0 := hk.cell 0; have k1 := hk.cell 1; have k2 := hk.cell 2; have k3 := hk.cell 3; have k4 := hk.cell 4; have k5 := hk.cell 5; have k6 := hk.cell 6; simp at k0 k1 k2 k3 k4 k5 k6; have zk := hk.lt; clear hk; have hq9 := HQ9.out.trans hq; clear HQ9; have HQ9 := Lib.hid hq9; clear hq9; have hh9 := HK.out.trans hq; clear HK; have HK := Lib.hid hh9; clear hh9; have sz19 := hq.size; (try simp at sz19); clear hq) | (clear TKv; have TKh1 : True := trivial; go_at_call 11; refine (HTS.out _ (HK.out.alloc (.cells #[.int .i64 0, .slice none 0 0, .slice none 0 0, .int .i64 0, .int .i64 0, .int .i64 0, .int .i64 0, .slice none 0 0, .slice none 0 0, .slice none 0 0, .slice none 0 0, .slice none 0 0, .slice none 0 0] 42))).mono ?_; rintro e w19 ⟨t1, rfl, s9, o9, hk19⟩; dsimp only [ChM.val, StM.val]; have ET := Lib.hid s9; have OT := Lib.hid (o9.at_ (hLen.out t1 s9)); clear s9 o9; have hraw := hk19; have HBv9 := Lib.hid ((Box.new w18 _ rfl 42 #[.int .i64 0, .slice none 0 0, .slice none 0 0, .int .i64 0, .int .i64 0, .int .i64 0, .int .i64 0, .slice none 0 0, .slice none 0 0, .slice none 0 0, .slice none 0 0, .slice none 0 0, .slice none 0 0]).keeps hraw (fun h => h)); have hq := ((Keeps.refl noBlk w18).alloc (.cells #[.int .i64 0, .slice none 0 0, .slice none 0 0, .int .i64 0, .int .i64 0, .int .i64 0, .int .i64 0, .slice none 0 0, .slice none 0 0, .slice none 0 0, .slice none 0 0, .slice none 0 0, .slice none 0 0] 42)).trans hraw; clear hraw; clear hk19; have hr9 := (OP.out).kept hq; clear OP; have OP := Lib.hid hr9; clear hr9; have ha := HBa.out.keeps hq (fun h => h); clear HBa; have HBa := Lib.hid ha; have a0 := ha.cell 0; have a1 := ha.cell 1; have a2 := ha.cell 2; have a3 := ha.cell 3; have a4 := ha.cell 4; have a5 := ha.cell 5; have a6 := ha.cell 6; have a7 := ha.cell 7; have a8 := ha.cell 8; have a9 := ha.cell 9; have a10 := ha.cell 10; have a11 := ha.cell 11; have a12 := ha.cell 12; simp at a0 a1 a2 a3 a4 a5 a6 a7 a8 a9 a10 a11 a12; have za := ha.lt; clear ha; have hb := HBb.out.keeps hq (fun h => h); clear HBb; have HBb := Lib.hid hb; have b0 := hb.cell 0; have b1 := hb.cell 1; have b2 := hb.cell 2; have b3 := hb.cell 3; have b4 := hb.cell 4; have b5 := hb.cell 5; have b6 := hb.cell 6; simp at b0 b1 b2 b3 b4 b5 b6; have zb := hb.lt; clear hb; have hk := HBk.out.keeps hq (fun h => h); clear HBk; have HBk := Lib.hid hk; have k0 := hk.cell 0; have k1 := hk.cell 1; have k2 := hk.cell 2; have k3 := hk.cell 3; have k4 := hk.cell 4; have k5 := hk.cell 5; have k6 := hk.cell 6; simp at k0 k1 k2 k3 k4 k5 k6; have zk := hk.lt; clear hk; have hb := HBv9.out; have v90 := hb.cell 0; have v91 := hb.cell 1; have v92 := hb.cell 2; have v93 := hb.cell 3; have v94 := hb.cell 4; have v95 := hb.cell 5; have v96 := hb.cell 6; have v97 := hb.cell 7; have v98 := hb.cell 8; have v99 := hb.cell 9; have v910 := hb.cell 10; have v911 := hb.cell 11; have v912 := hb.cell 12; have f90 := hb.frozen 0; have f91 := hb.frozen 1; have f92 := hb.frozen 2; have f93 := hb.frozen 3; have f94 := hb.frozen 4; have f95 := hb.frozen 5; have f96 := hb.frozen 6; have f97 := hb.frozen 7; have f98 := hb.frozen 8; have f99 := hb.frozen 9; have f910 := hb.frozen 10; have f911 := hb.frozen 11; have f912 := hb.frozen 12; simp at v90 v91 v92 v93 v94 v95 v96 v97 v98 v99 v910 v911 v912; have z9 := hb.lt; clear hb; have hq9 := HQ9.out.trans hq; clear HQ9; have HQ9 := Lib.hid hq9; clear hq9; have hh9 := HK.out.trans hq; clear HK; have HK := Lib.hid hh9; clear hh9; have sz19 := hq.size; (try simp at sz19); clear hq; have : ¬ w.heap.size = w18.heap.size := (by omega); have : ¬ w18.heap.size = w.heap.size := (by omega); have : ¬ w.heap.size + 1 = w18.heap.size := (by omega); have : ¬ w18.heap.size = w.heap.size + 1 := (by omega); have : ¬ w.heap.size + 1 + 1 = w18.heap.size := (by omega); have : ¬ w18.heap.size = w.heap.size + 1 + 1 := (by omega)) | (go_at_call 10; refine (HTO.out _ (HK.out.drewN 1)).mono ?_; rintro e w18 ⟨p1, Gp, rfl, s9, o9, hk18⟩; dsimp only [ChM.val, StM.val]; have SP := Lib.hid s9; have OP := Lib.hid o9.at_; clear s9 o9; have hq := ((Keeps.refl noBlk w17).drewN 1).trans hk18; clear hk18; have ha := HBa.out.keeps hq (fun h => h); clear HBa; have HBa := Lib.hid ha; have a0 := ha.cell 0; have a1 := ha.cell 1; have a2 := ha.cell 2; have a3 := ha.cell 3; have a4 := ha.cell 4; have a5 := ha.cell 5; have a6 := ha.cell 6; have a7 := ha.cell 7; have a8 := ha.cell 8; have a9 := ha.cell 9; have a10 := ha.cell 10; have a11 := ha.cell 11; have a12 := ha.cell 12; simp at a0 a1 a2 a3 a4 a5 a6 a7 a8 a9 a10 a11 a12; have za := ha.lt; clear ha; have hb := HBb.out.keeps hq (fun h => h); clear HBb; have HBb := Lib.hid hb; have b0 := hb.cell 0; have b1 := hb.cell 1; have b2 := hb.cell 2; have b3 := hb.cell 3; have b4 := hb.cell 4; have b5 := hb.cell 5; have b6 := hb.cell 6; simp at b0 b1 b2 b3 b4 b5 b6; have zb := hb.lt; clear hb; have hk := HBk.out.keeps hq (fun h => h); clear HBk; have HBk := Lib.hid hk; have k0 := hk.cell 0; have k1 := hk.cell 1; have k2 := hk.cell 2; have k3 := hk.cell 3; have k4 := hk.cell 4; have k5 := hk.cell 5; have k6 := hk.cell 6; simp at k0 k1 k2 k3 k4 k5 k6; have zk := hk.lt; clear hk; have HQ9 := Lib.hid hq; have hh9 := HK.out.trans hq; clear HK; have HK := Lib.hid hh9; clear hh9; have sz18 := hq.size; (try simp at sz18); clear hq) | (clear TKv; have TKh0 : True := trivial; go_at_call 10; refine (HTO.out _ ((HK.out.alloc (.cells #[.int .i64 0, .slice none 0 0, .slice none 0 0, .int .i64 0, .int .i64 0, .int .i64 0, .int .i64 0, .slice none 0 0, .slice none 0 0, .slice none 0 0, .slice none 0 0, .slice none 0 0, .slice none 0 0] 42)).drewN 1)).mono ?_; rintro e w18 ⟨p1, Gp, rfl, s9, o9, hk18⟩; dsimp only [ChM.val, StM.val]; have SP := Lib.hid s9; have OP := Lib.hid o9.at_; clear s9 o9; have hraw := ((Keeps.refl noBlk (w17.alloc (.cells #[.int .i64 0, .slice none 0 0, .slice none 0 0, .int .i64 0, .int .i64 0, .int .i64 0, .int .i64 0, .slice none 0 0, .slice none 0 0, .slice none 0 0, .slice none 0 0, .slice none 0 0, .slice none 0 0] 42))).drewN 1).trans hk18; have HBv9 := Lib.hid ((Box.new w17 _ rfl 42 #[.int .i64 0, .slice none 0 0, .slice none 0 0, .int .i64 0, .int .i64 0, .int .i64 0, .int .i64 0, .slice none 0 0, .slice none 0 0, .slice none 0 0, .slice none 0 0, .slice none 0 0, .slice none 0 0]).keeps hraw (fun h => h)); have hq := ((Keeps.refl noBlk w17).alloc (.cells #[.int .i64 0, .slice none 0 0, .slice none 0 0, .int .i64 0, .int .i64 0, .int .i64 0, .int .i64 0, .slice none 0 0, .slice none 0 0, .slice none 0 0, .slice none 0 0, .slice none 0 0, .slice none 0 0] 42)).trans hraw; clear hraw; clear hk18; have ha := HBa.out.keeps hq (fun h => h); clear HBa; have HBa := Lib.hid ha; have a0 := ha.cell 0; have a1 := ha.cell 1; have a2 := ha.cell 2; have a3 := ha.cell 3; have a4 := ha.cell 4; have a5 := ha.cell 5; have a6 := ha.cell 6; have a7 := ha.cell 7; have a8 := ha.cell 8; have a9 := ha.cell 9; have a10 := ha.cell 10; have a11 := ha.cell 11; have a12 := ha.cell 12; simp at a0 a1 a2 a3 a4 a5 a6 a7 a8 a9 a10 a11 a12; have za := ha.lt; clear ha; have hb := HBb.out.keeps hq (fun h => h); clear HBb; have HBb := Lib.hid hb; have b0 := hb.cell 0; have b1 := hb.cell 1; have b2 := hb.cell 2; have b3 := hb.cell 3; have b4 := hb.cell 4; have b5 := hb.cell 5; have b6 := hb.cell 6; simp at b0 b1 b2 b3 b4 b5 b6; have zb := hb.lt; clear hb; have hk := HBk.out.keeps hq (fun h => h); clear HBk; have HBk := Lib.hid hk; have k0 := hk.cell 0; have k1 := hk.cell 1; have k2 := hk.cell 2; have k3 := hk.cell 3; have k4 := hk.cell 4; have k5 := hk.cell 5; have k6 := hk.cell 6; simp at k0 k1 k2 k3 k4 k5 k6; have zk := hk.lt; clear hk; have hb := HBv9.out; have v90 := hb.cell 0; have v91 := hb.cell 1; have v92 := hb.cell 2; have v93 := hb.cell 3; have v94 := hb.cell 4; have v95 := hb.cell 5; have v96 := hb.cell 6; have v97 := hb.cell 7; have v98 := hb.cell 8; have v99 := hb.cell 9; have v910 := hb.cell 10; have v911 := hb.cell 11; have v912 := hb.cell 12; have f90 := hb.frozen 0; have f91 := hb.frozen 1; have f92 := hb.frozen 2; have f93 := hb.frozen 3; have f94 := hb.frozen 4; have f95 := hb.frozen 5; have f96 := hb.frozen 6; have f97 := hb.frozen 7; have f98 := hb.frozen 8; have f99 := hb.frozen 9; have f910 := hb.frozen 10; have f911 := hb.frozen 11; have f912 := hb.frozen 12; simp at v90 v91 v92 v93 v94 v95 v96 v97 v98 v99 v910 v911 v912; have z9 := hb.lt; clear hb; have HQ9 := Lib.hid hq; have hh9 := HK.out.trans hq; clear HK; have HK := Lib.hid hh9; clear hh9; have sz18 := hq.size; (try simp at sz18); clear hq; have : ¬ w.heap.size = w17.heap.size := (by omega); have : ¬ w17.heap.size = w.heap.size := (by omega); have : ¬ w.heap.size + 1 = w17.heap.size := (by omega); have : ¬ w17.heap.size = w.heap.size + 1 := (by omega); have : ¬ w.heap.size + 1 + 1 = w17.heap.size := (by omega); have : ¬ w17.heap.size = w.heap.size + 1 + 1 := (by omega)))
    all_goals go_wp2_with fail
    all_goals go_meet
    all_goals first | (have _t := TKv; have KA := (Keeps.refl noBlk w21).alloc (.cells #[.int .i64 u.id, .slice u.bk.A1 u.bk.b.own.length u.bk.c1, .slice u.bk.A2 u.bk.b.notes.length u.bk.c2, .int .i64 u.bk.b.locked, .int .i64 u.st.x.way, .int .i64 u.st.x.ver, .int .i64 u.st.x.want, .slice u.st.A1 u.st.x.sent.length u.st.c1, .slice u.st.A2 u.st.x.live.length u.st.c2, .slice u.st.A3 u.st.x.back.length u.st.c3, .slice u.st.A4 u.st.x.got.length u.st.c4, .slice u.pA u.past.length u.pc, .slice u.kA u.knows.length u.kc] 42); exact ⟨w21.heap.size, u, rfl, rfl, Box.new w21 _ rfl 42 #[.int .i64 u.id, .slice u.bk.A1 u.bk.b.own.length u.bk.c1, .slice u.bk.A2 u.bk.b.notes.length u.bk.c2, .int .i64 u.bk.b.locked, .int .i64 u.st.x.way, .int .i64 u.st.x.ver, .int .i64 u.st.x.want, .slice u.st.A1 u.st.x.sent.length u.st.c1, .slice u.st.A2 u.st.x.live.length u.st.c2, .slice u.st.A3 u.st.x.back.length u.st.c3, .slice u.st.A4 u.st.x.got.length u.st.c4, .slice u.pA u.past.length u.pc, .slice u.kA u.knows.length u.kc], HSV.out, HV9.out.kept KA, by omega, HQ9.out.trans KA, HK.out.trans KA, HBa.out.keeps KA (fun h => h), HBb.out.keeps KA (fun h => h), HBk.out.keeps KA (fun h => h)⟩) | (have _t := TKh0; have hb9 := (((((((((((((HBv9.out.set_ 0 (.int .i64 u.id)).set_ 1 (.slice u.bk.A1 u.bk.b.own.length u.bk.c1)).set_ 2 (.slice u.bk.A2 u.bk.b.notes.length u.bk.c2)).set_ 3 (.int .i64 u.bk.b.locked)).set_ 4 (.int .i64 u.st.x.way)).set_ 5 (.int .i64 u.st.x.ver)).set_ 6 (.int .i64 u.st.x.want)).set_ 7 (.slice u.st.A1 u.st.x.sent.length u.st.c1)).set_ 8 (.slice u.st.A2 u.st.x.live.length u.st.c2)).set_ 9 (.slice u.st.A3 u.st.x.back.length u.st.c3)).set_ 10 (.slice u.st.A4 u.st.x.got.length u.st.c4)).set_ 11 (.slice u.pA u.past.length u.pc)).set_ 12 (.slice u.kA u.knows.length u.kc)); simp at hb9; have KA := ((((((((((((((Keeps.refl (one w17.heap.size) w21).set1 0 (.int .i64 u.id)).set1 1 (.slice u.bk.A1 u.bk.b.own.length u.bk.c1)).set1 2 (.slice u.bk.A2 u.bk.b.notes.length u.bk.c2)).set1 3 (.int .i64 u.bk.b.locked)).set1 4 (.int .i64 u.st.x.way)).set1 5 (.int .i64 u.st.x.ver)).set1 6 (.int .i64 u.st.x.want)).set1 7 (.slice u.st.A1 u.st.x.sent.length u.st.c1)).set1 8 (.slice u.st.A2 u.st.x.live.length u.st.c2)).set1 9 (.slice u.st.A3 u.st.x.back.length u.st.c3)).set1 10 (.slice u.st.A4 u.st.x.got.length u.st.c4)).set1 11 (.slice u.pA u.past.length u.pc)).set1 12 (.slice u.kA u.knows.length u.kc)); exact ⟨w17.heap.size, u, rfl, rfl, hb9, HSV.out, HV9.out.keeps KA (fun b hb e => by have e' : b = w17.heap.size := e; have := HVG.out b hb; omega), by omega, (((((((((((((HQ9.out.new (g := w17.heap.size) (by omega) _ _).new (g := w17.heap.size) (by omega) _ _).new (g := w17.heap.size) (by omega) _ _).new (g := w17.heap.size) (by omega) _ _).new (g := w17.heap.size) (by omega) _ _).new (g := w17.heap.size) (by omega) _ _).new (g := w17.heap.size) (by omega) _ _).new (g := w17.heap.size) (by omega) _ _).new (g := w17.heap.size) (by omega) _ _).new (g := w17.heap.size) (by omega) _ _).new (g := w17.heap.size) (by omega) _ _).new (g := w17.heap.size) (by omega) _ _).new (g := w17.heap.size) (by omega) _ _), (((((((((((((HK.out.new (g := w17.heap.size) (by omega) _ _).new (g := w17.heap.size) (by omega) _ _).new (g := w17.heap.size) (by omega) _ _).new (g := w17.heap.size) (by omega) _ _).new (g := w17.heap.size) (by omega) _ _).new (g := w17.heap.size) (by omega) _ _).new (g := w17.heap.size) (by omega) _ _).new (g := w17.heap.size) (by omega) _ _).new (g := w17.heap.size) (by omega) _ _).new (g := w17.heap.size) (by omega) _ _).new (g := w17.heap.size) (by omega) _ _).new (g := w17.heap.size) (by omega) _ _).new (g := w17.heap.size) (by omega) _ _), HBa.out.keeps KA (fun e => by have e' : w.heap.size = w17.heap.size := e; omega), HBb.out.keeps KA (fun e => by have e' : w.heap.size + 1 = w17.heap.size := e; omega), HBk.out.keeps KA (fun e => by have e' : w.heap.size + 1 + 1 = w17.heap.size := e; omega)⟩) | (have _t := TKh1; have hb9 := (((((((((((((HBv9.out.set_ 0 (.int .i64 u.id)).set_ 1 (.slice u.bk.A1 u.bk.b.own.length u.bk.c1)).set_ 2 (.slice u.bk.A2 u.bk.b.notes.length u.bk.c2)).set_ 3 (.int .i64 u.bk.b.locked)).set_ 4 (.int .i64 u.st.x.way)).set_ 5 (.int .i64 u.st.x.ver)).set_ 6 (.int .i64 u.st.x.want)).set_ 7 (.slice u.st.A1 u.st.x.sent.length u.st.c1)).set_ 8 (.slice u.st.A2 u.st.x.live.length u.st.c2)).set_ 9 (.slice u.st.A3 u.st.x.back.length u.st.c3)).set_ 10 (.slice u.st.A4 u.st.x.got.length u.st.c4)).set_ 11 (.slice u.pA u.past.length u.pc)).set_ 12 (.slice u.kA u.knows.length u.kc)); simp at hb9; have KA := ((((((((((((((Keeps.refl (one w18.heap.size) w21).set1 0 (.int .i64 u.id)).set1 1 (.slice u.bk.A1 u.bk.b.own.length u.bk.c1)).set1 2 (.slice u.bk.A2 u.bk.b.notes.length u.bk.c2)).set1 3 (.int .i64 u.bk.b.locked)).set1 4 (.int .i64 u.st.x.way)).set1 5 (.int .i64 u.st.x.ver)).set1 6 (.int .i64 u.st.x.want)).set1 7 (.slice u.st.A1 u.st.x.sent.length u.st.c1)).set1 8 (.slice u.st.A2 u.st.x.live.length u.st.c2)).set1 9 (.slice u.st.A3 u.st.x.back.length u.st.c3)).set1 10 (.slice u.st.A4 u.st.x.got.length u.st.c4)).set1 11 (.slice u.pA u.past.length u.pc)).set1 12 (.slice u.kA u.knows.length u.kc)); exact ⟨w18.heap.size, u, rfl, rfl, hb9, HSV.out, HV9.out.keeps KA (fun b hb e => by have e' : b = w18.heap.size := e; have := HVG.out b hb; omega), by omega, (((((((((((((HQ9.out.new (g := w18.heap.size) (by omega) _ _).new (g := w18.heap.size) (by omega) _ _).new (g := w18.heap.size) (by omega) _ _).new (g := w18.heap.size) (by omega) _ _).new (g := w18.heap.size) (by omega) _ _).new (g := w18.heap.size) (by omega) _ _).new (g := w18.heap.size) (by omega) _ _).new (g := w18.heap.size) (by omega) _ _).new (g := w18.heap.size) (by omega) _ _).new (g := w18.heap.size) (by omega) _ _).new (g := w18.heap.size) (by omega) _ _).new (g := w18.heap.size) (by omega) _ _).new (g := w18.heap.size) (by omega) _ _), (((((((((((((HK.out.new (g := w18.heap.size) (by omega) _ _).new (g := w18.heap.size) (by omega) _ _).new (g := w18.heap.size) (by omega) _ _).new (g := w18.heap.size) (by omega) _ _).new (g := w18.heap.size) (by omega) _ _).new (g := w18.heap.size) (by omega) _ _).new (g := w18.heap.size) (by omega) _ _).new (g := w18.heap.size) (by omega) _ _).new (g := w18.heap.size) (by omega) _ _).new (g := w18.heap.size) (by omega) _ _).new (g := w18.heap.size) (by omega) _ _).new (g := w18.heap.size) (by omega) _ _).new (g := w18.heap.size) (by omega) _ _), HBa.out.keeps KA (fun e => by have e' : w.heap.size = w18.heap.size := e; omega), HBb.out.keeps KA (fun e => by have e' : w.heap.size + 1 = w18.heap.size := e; omega), HBk.out.keeps KA (fun e => by have e' : w.heap.size + 1 + 1 = w18.heap.size := e; omega)⟩) | (have _t := TKh2; have hb9 := (((((((((((((HBv9.out.set_ 0 (.int .i64 u.id)).set_ 1 (.slice u.bk.A1 u.bk.b.own.length u.bk.c1)).set_ 2 (.slice u.bk.A2 u.bk.b.notes.length u.bk.c2)).set_ 3 (.int .i64 u.bk.b.locked)).set_ 4 (.int .i64 u.st.x.way)).set_ 5 (.int .i64 u.st.x.ver)).set_ 6 (.int .i64 u.st.x.want)).set_ 7 (.slice u.st.A1 u.st.x.sent.length u.st.c1)).set_ 8 (.slice u.st.A2 u.st.x.live.length u.st.c2)).set_ 9 (.slice u.st.A3 u.st.x.back.length u.st.c3)).set_ 10 (.slice u.st.A4 u.st.x.got.length u.st.c4)).set_ 11 (.slice u.pA u.past.length u.pc)).set_ 12 (.slice u.kA u.knows.length u.kc)); simp at hb9; have KA := ((((((((((((((Keeps.refl (one w19.heap.size) w21).set1 0 (.int .i64 u.id)).set1 1 (.slice u.bk.A1 u.bk.b.own.length u.bk.c1)).set1 2 (.slice u.bk.A2 u.bk.b.notes.length u.bk.c2)).set1 3 (.int .i64 u.bk.b.locked)).set1 4 (.int .i64 u.st.x.way)).set1 5 (.int .i64 u.st.x.ver)).set1 6 (.int .i64 u.st.x.want)).set1 7 (.slice u.st.A1 u.st.x.sent.length u.st.c1)).set1 8 (.slice u.st.A2 u.st.x.live.length u.st.c2)).set1 9 (.slice u.st.A3 u.st.x.back.length u.st.c3)).set1 10 (.slice u.st.A4 u.st.x.got.length u.st.c4)).set1 11 (.slice u.pA u.past.length u.pc)).set1 12 (.slice u.kA u.knows.length u.kc)); exact ⟨w19.heap.size, u, rfl, rfl, hb9, HSV.out, HV9.out.keeps KA (fun b hb e => by have e' : b = w19.heap.size := e; have := HVG.out b hb; omega), by omega, (((((((((((((HQ9.out.new (g := w19.heap.size) (by omega) _ _).new (g := w19.heap.size) (by omega) _ _).new (g := w19.heap.size) (by omega) _ _).new (g := w19.heap.size) (by omega) _ _).new (g := w19.heap.size) (by omega) _ _).new (g := w19.heap.size) (by omega) _ _).new (g := w19.heap.size) (by omega) _ _).new (g := w19.heap.size) (by omega) _ _).new (g := w19.heap.size) (by omega) _ _).new (g := w19.heap.size) (by omega) _ _).new (g := w19.heap.size) (by omega) _ _).new (g := w19.heap.size) (by omega) _ _).new (g := w19.heap.size) (by omega) _ _), (((((((((((((HK.out.new (g := w19.heap.size) (by omega) _ _).new (g := w19.heap.size) (by omega) _ _).new (g := w19.heap.size) (by omega) _ _).new (g := w19.heap.size) (by omega) _ _).new (g := w19.heap.size) (by omega) _ _).new (g := w19.heap.size) (by omega) _ _).new (g := w19.heap.size) (by omega) _ _).new (g := w19.heap.size) (by omega) _ _).new (g := w19.heap.size) (by omega) _ _).new (g := w19.heap.size) (by omega) _ _).new (g := w19.heap.size) (by omega) _ _).new (g := w19.heap.size) (by omega) _ _).new (g := w19.heap.size) (by omega) _ _), HBa.out.keeps KA (fun e => by have e' : w.heap.size = w19.heap.size := e; omega), HBb.out.keeps KA (fun e => by have e' : w.heap.size + 1 = w19.heap.size := e; omega), HBk.out.keeps KA (fun e => by have e' : w.heap.size + 1 + 1 = w19.heap.size := e; omega)⟩) | (have _t := TKh3; have hb9 := (((((((((((((HBv9.out.set_ 0 (.int .i64 u.id)).set_ 1 (.slice u.bk.A1 u.bk.b.own.length u.bk.c1)).set_ 2 (.slice u.bk.A2 u.bk.b.notes.length u.bk.c2)).set_ 3 (.int .i64 u.bk.b.locked)).set_ 4 (.int .i64 u.st.x.way)).set_ 5 (.int .i64 u.st.x.ver)).set_ 6 (.int .i64 u.st.x.want)).set_ 7 (.slice u.st.A1 u.st.x.sent.length u.st.c1)).set_ 8 (.slice u.st.A2 u.st.x.live.length u.st.c2)).set_ 9 (.slice u.st.A3 u.st.x.back.length u.st.c3)).set_ 10 (.slice u.st.A4 u.st.x.got.length u.st.c4)).set_ 11 (.slice u.pA u.past.length u.pc)).set_ 12 (.slice u.kA u.knows.length u.kc)); simp at hb9; have KA := ((((((((((((((Keeps.refl (one w20.heap.size) w21).set1 0 (.int .i64 u.id)).set1 1 (.slice u.bk.A1 u.bk.b.own.length u.bk.c1)).set1 2 (.slice u.bk.A2 u.bk.b.notes.length u.bk.c2)).set1 3 (.int .i64 u.bk.b.locked)).set1 4 (.int .i64 u.st.x.way)).set1 5 (.int .i64 u.st.x.ver)).set1 6 (.int .i64 u.st.x.want)).set1 7 (.slice u.st.A1 u.st.x.sent.length u.st.c1)).set1 8 (.slice u.st.A2 u.st.x.live.length u.st.c2)).set1 9 (.slice u.st.A3 u.st.x.back.length u.st.c3)).set1 10 (.slice u.st.A4 u.st.x.got.length u.st.c4)).set1 11 (.slice u.pA u.past.length u.pc)).set1 12 (.slice u.kA u.knows.length u.kc)); exact ⟨w20.heap.size, u, rfl, rfl, hb9, HSV.out, HV9.out.keeps KA (fun b hb e => by have e' : b = w20.heap.size := e; have := HVG.out b hb; omega), by omega, (((((((((((((HQ9.out.new (g := w20.heap.size) (by omega) _ _).new (g := w20.heap.size) (by omega) _ _).new (g := w20.heap.size) (by omega) _ _).new (g := w20.heap.size) (by omega) _ _).new (g := w20.heap.size) (by omega) _ _).new (g := w20.heap.size) (by omega) _ _).new (g := w20.heap.size) (by omega) _ _).new (g := w20.heap.size) (by omega) _ _).new (g := w20.heap.size) (by omega) _ _).new (g := w20.heap.size) (by omega) _ _).new (g := w20.heap.size) (by omega) _ _).new (g := w20.heap.size) (by omega) _ _).new (g := w20.heap.size) (by omega) _ _), (((((((((((((HK.out.new (g := w20.heap.size) (by omega) _ _).new (g := w20.heap.size) (by omega) _ _).new (g := w20.heap.size) (by omega) _ _).new (g := w20.heap.size) (by omega) _ _).new (g := w20.heap.size) (by omega) _ _).new (g := w20.heap.size) (by omega) _ _).new (g := w20.heap.size) (by omega) _ _).new (g := w20.heap.size) (by omega) _ _).new (g := w20.heap.size) (by omega) _ _).new (g := w20.heap.size) (by omega) _ _).new (g := w20.heap.size) (by omega) _ _).new (g := w20.heap.size) (by omega) _ _).new (g := w20.heap.size) (by omega) _ _), HBa.out.keeps KA (fun e => by have e' : w.heap.size = w20.heap.size := e; omega), HBb.out.keeps KA (fun e => by have e' : w.heap.size + 1 = w20.heap.size := e; omega), HBk.out.keeps KA (fun e => by have e' : w.heap.size + 1 + 1 = w20.heap.size := e; omega)⟩)
  case rest =>
  obtain ⟨gh, u, rfl, rfl, hbv, hs9, hv0, hgv, hq0, hk0, _, _, _⟩ := hcut
  have ha := HBa.out.keeps hq0 (fun h => h)
  clear HBa
  have HBa := Lib.hid ha
  clear ha
  have hb := HBb.out.keeps hq0 (fun h => h)
  clear HBb
  have HBb := Lib.hid hb
  clear hb
  have hk := HBk.out.keeps hq0 (fun h => h)
  clear HBk
  have HBk := Lib.hid hk
  clear hk
  have hv := HBv.out.keeps hq0 (fun h => h)
  clear HBv
  have HBv := Lib.hid hv
  clear hv
  have hg := HBg.out.keeps hq0 (fun h => h)
  clear HBg
  have HBg := Lib.hid hg
  clear hg
  have hr := (Ov.out).kept hq0
  clear Ov
  have Ov := Lib.hid hr
  clear hr
  have hr := (Ng.out).kept hq0
  clear Ng
  have Ng := Lib.hid hr
  clear hr
  have hr := HK.out.trans hq0
  clear HK
  have HK := Lib.hid hr
  clear hr
  have HBh := Lib.hid hbv
  clear hbv hk0
  have sq18 := hq0.size
  clear hq0
  have Su := Lib.hid hs9
  clear hs9
  have Ou := Lib.hid hv0
  clear hv0
  have hb := HBh.out
  have h0 := hb.cell 0
  have h1 := hb.cell 1
  have h2 := hb.cell 2
  have h3 := hb.cell 3
  have h4 := hb.cell 4
  have h5 := hb.cell 5
  have h6 := hb.cell 6
  have h7 := hb.cell 7
  have h8 := hb.cell 8
  have h9 := hb.cell 9
  have h10 := hb.cell 10
  have h11 := hb.cell 11
  have h12 := hb.cell 12
  simp at h0 h1 h2 h3 h4 h5 h6 h7 h8 h9 h10 h11 h12
  have zh := hb.lt
  clear hb
  have hb := HBv.out
  have v0 := hb.cell 0
  have v1 := hb.cell 1
  have v2 := hb.cell 2
  have v3 := hb.cell 3
  have v4 := hb.cell 4
  have v5 := hb.cell 5
  have v6 := hb.cell 6
  have v7 := hb.cell 7
  have v8 := hb.cell 8
  have v9 := hb.cell 9
  have v10 := hb.cell 10
  have v11 := hb.cell 11
  have v12 := hb.cell 12
  simp at v0 v1 v2 v3 v4 v5 v6 v7 v8 v9 v10 v11 v12
  have zv := hb.lt
  clear hb
  have hb := HBg.out
  have g0 := hb.cell 0
  have g1 := hb.cell 1
  have g2 := hb.cell 2
  have g3 := hb.cell 3
  have g4 := hb.cell 4
  have g5 := hb.cell 5
  have g6 := hb.cell 6
  have g7 := hb.cell 7
  have g8 := hb.cell 8
  have g9 := hb.cell 9
  have g10 := hb.cell 10
  have g11 := hb.cell 11
  have g12 := hb.cell 12
  simp at g0 g1 g2 g3 g4 g5 g6 g7 g8 g9 g10 g11 g12
  have zg := hb.lt
  clear hb
  go_wp2_with fail
  refine (HEQ2.out u v _ Su.out Sv.out Ou.out Ov.out).mono ?_
  rintro e w19 ⟨rfl, hk19⟩
  clear h0 h1 h2 h3 h4 h5 h6 h7 h8 h9 h10 h11 h12 v0 v1 v2 v3 v4 v5 v6 v7 v8 v9 v10 v11 v12 g0 g1 g2 g3 g4 g5 g6 g7 g8 g9 g10 g11 g12 zh zv zg
  have ha := HBa.out.keeps hk19 (fun h => h)
  clear HBa
  have HBa := Lib.hid ha
  clear ha
  have hb := HBb.out.keeps hk19 (fun h => h)
  clear HBb
  have HBb := Lib.hid hb
  clear hb
  have hk := HBk.out.keeps hk19 (fun h => h)
  clear HBk
  have HBk := Lib.hid hk
  clear hk
  have hv := HBv.out.keeps hk19 (fun h => h)
  clear HBv
  have HBv := Lib.hid hv
  clear hv
  have hg := HBg.out.keeps hk19 (fun h => h)
  clear HBg
  have HBg := Lib.hid hg
  clear hg
  have hh := HBh.out.keeps hk19 (fun h => h)
  clear HBh
  have HBh := Lib.hid hh
  clear hh
  have hr := (Ov.out).kept hk19
  clear Ov
  have Ov := Lib.hid hr
  clear hr
  have hr := (Ng.out).kept hk19
  clear Ng
  have Ng := Lib.hid hr
  clear hr
  have hr := (Ou.out).kept hk19
  clear Ou
  have Ou := Lib.hid hr
  clear hr
  have hr := HK.out.trans hk19
  clear HK
  have HK := Lib.hid hr
  clear hr
  have sz19 := hk19.size
  (try simp at sz19)
  clear hk19
  have hb := HBg.out
  have g0 := hb.cell 0
  have g1 := hb.cell 1
  have g2 := hb.cell 2
  have g3 := hb.cell 3
  have g4 := hb.cell 4
  have g5 := hb.cell 5
  have g6 := hb.cell 6
  have g7 := hb.cell 7
  have g8 := hb.cell 8
  have g9 := hb.cell 9
  have g10 := hb.cell 10
  have g11 := hb.cell 11
  have g12 := hb.cell 12
  simp at g0 g1 g2 g3 g4 g5 g6 g7 g8 g9 g10 g11 g12
  have zg := hb.lt
  clear hb
  go_wp2_with fail
  refine (HHD.out g Gg _ _ Sg.out Ng.out).mono ?_
  rintro e w20 ⟨rfl, hk20⟩
  clear g0 g1 g2 g3 g4 g5 g6 g7 g8 g9 g10 g11 g12 zg
  have ha := HBa.out.keeps hk20 (fun h => h)
  clear HBa
  have HBa := Lib.hid ha
  clear ha
  have hb := HBb.out.keeps hk20 (fun h => h)
  clear HBb
  have HBb := Lib.hid hb
  clear hb
  have hk := HBk.out.keeps hk20 (fun h => h)
  clear HBk
  have HBk := Lib.hid hk
  clear hk
  have hv := HBv.out.keeps hk20 (fun h => h)
  clear HBv
  have HBv := Lib.hid hv
  clear hv
  have hg := HBg.out.keeps hk20 (fun h => h)
  clear HBg
  have HBg := Lib.hid hg
  clear hg
  have hh := HBh.out.keeps hk20 (fun h => h)
  clear HBh
  have HBh := Lib.hid hh
  clear hh
  have hr := (Ov.out).kept hk20
  clear Ov
  have Ov := Lib.hid hr
  clear hr
  have hr := (Ng.out).kept hk20
  clear Ng
  have Ng := Lib.hid hr
  clear hr
  have hr := (Ou.out).kept hk20
  clear Ou
  have Ou := Lib.hid hr
  clear hr
  have hr := HK.out.trans hk20
  clear HK
  have HK := Lib.hid hr
  clear hr
  have sz20 := hk20.size
  (try simp at sz20)
  clear hk20
  go_wp2
  go_ret
  exact ⟨rfl, HK.out.below⟩
end Go.Proofs.YtcnbephpadmboaaGreatDoor
