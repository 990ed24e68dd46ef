/- FnExactChainSend: the function answers as its model, for every argument; the chain reads as it did; the two tables read as the program's text lays them. -/
import Derived.Test.YtbgpclicflafaaaDoorCxF
import Derived.Test.YtbgpclicflafaaaDoorCxS
import Derived.Test.YtbgpclicflafaaaDoorCxU
import Derived.Test.YtbgpclicflafaaaDoorCxE
import Derived.Test.YtbgpclicflafaaaDoorCxL
import Derived.Test.YtbgpclicflafaaaDoorCySs
import Derived.Test.YtbgpclicflafaaaDoorCxH
import Derived.Deep.RegionHeld3
import Derived.Deep.CutRange
set_option linter.unusedVariables false
set_option linter.unusedSimpArgs false
namespace Go.Proofs.YtbgpclicflafaaaDoor
open Go.RowKit Go.ChangeShapes Go.WideShapes Go.ChangeAt

set_option maxRecDepth 100000 in
set_option maxHeartbeats 8000000 in
theorem walk_xcsend (c : ChM) (n1 n2 n3 n4 n5 : Int) (i1 : I64 n1) (i2 : I64 n2) (i3 : I64 n3) (i4 : I64 n4) (i5 : I64 n5) (w : World) (h : ChAt w c) (hl : I64 c.bk.b.locked) (ht : Tabs w) :
    Calls Tryd.prog 5 #[c.val, .int .i64 n1, .int .i64 n2, .int .i64 n3, .int .i64 n4, .int .i64 n5] w fun e w' => e = .returned (.bool true) ∧ Below w.heap.size w w' := by
  have HT := Lib.hid ht
  have FS := Lib.hid (fun W (hk : Keeps noBlk w W) => szChain_any c W (h.kept hk))
  unfold szR at FS
  have HBa := Lib.hid (Box.new w _ rfl 31 #[.int .i64 c.id, .slice c.bk.A1 c.bk.b.own.length c.bk.c1, .slice c.bk.A2 c.bk.b.notes.length c.bk.c2, .int .i64 c.bk.b.locked, .int .i64 c.st.x.way, .int .i64 c.st.x.ver, .int .i64 c.st.x.want, .slice c.st.A1 c.st.x.sent.length c.st.c1, .slice c.st.A2 c.st.x.live.length c.st.c2, .slice c.st.A3 c.st.x.back.length c.st.c3, .slice c.st.A4 c.st.x.got.length c.st.c4, .slice c.pA c.past.length c.pc, .slice c.kA c.knows.length c.kc])
  have HK := Lib.hid ((Keeps.refl noBlk w).alloc (.cells #[.int .i64 c.id, .slice c.bk.A1 c.bk.b.own.length c.bk.c1, .slice c.bk.A2 c.bk.b.notes.length c.bk.c2, .int .i64 c.bk.b.locked, .int .i64 c.st.x.way, .int .i64 c.st.x.ver, .int .i64 c.st.x.want, .slice c.st.A1 c.st.x.sent.length c.st.c1, .slice c.st.A2 c.st.x.live.length c.st.c2, .slice c.st.A3 c.st.x.back.length c.st.c3, .slice c.st.A4 c.st.x.got.length c.st.c4, .slice c.pA c.past.length c.pc, .slice c.kA c.knows.length c.kc] 31))
  have hlk := hl.2
  clear ht hl
  by_cases hs : chTot c ≤ 1048576
  case neg =>
    rw [if_neg hs] at FS
    clear h hs hlk
    unfold ChM.val
    unfold ChM.val at FS
    go_enter Tryd.func5, Tryd.ntmps5
    go_wp2_with fail
    refine (FS.out _ HK.out).mono ?_
    rintro e w1 ⟨rfl, hk1⟩
    have HK1 := Lib.hid (HK.out.trans hk1)
    clear hk1
    go_wp2
    go_ret
    exact ⟨rfl, HK1.out.below⟩
  rw [if_pos hs] at FS
  have SH := short_of hs
  have hneg : ¬ (1048576 : Int) - chTot c < 0 := by omega
  have HTO := Lib.hid (fun W (hk : Keeps noBlk w W) => toChain_any c W (h.kept hk) SH)
  have HEQ := Lib.hid (fun d d' W (s : SameC c d) (s' : SameC c d') (k : ChAt W d) (k' : ChAt W d') => eqChain_same d d' W k k' (s.symm.trans s'))
  have pe : ∀ d : ChM, SameC c d → (⟨(d.st.x.sent.length : Int) + 1, n1, n2, n3, n4, n5, d.st.x.ver⟩ : Pk) = (⟨(c.st.x.sent.length : Int) + 1, n1, n2, n3, n4, n5, c.st.x.ver⟩ : Pk) := fun d s => by rw [s.st]
  have spec_c : ∀ (d : ChM) W, SameC c d → ChAt W d → Calls Tryd.prog 23 #[d.val, .int .i64 n1, .int .i64 n2, .int .i64 n3, .int .i64 n4, .int .i64 n5] W (RetR (fun v => .tuple #[v, .int .i64 (snN c (⟨(c.st.x.sent.length : Int) + 1, n1, n2, n3, n4, n5, c.st.x.ver⟩ : Pk)), .bool (snO c (⟨(c.st.x.sent.length : Int) + 1, n1, n2, n3, n4, n5, c.st.x.ver⟩ : Pk))]) W (snC c (⟨(c.st.x.sent.length : Int) + 1, n1, n2, n3, n4, n5, c.st.x.ver⟩ : Pk))) := fun d W s k => by
    have q := specSend_any d n1 n2 n3 n4 n5 W k (by rw [← s.bk]; exact hlk)
    rw [pe d s, (sn_same s).2.1, (sn_same s).2.2] at q
    exact q.mono fun _ _ ⟨r, e, q, x, y⟩ => ⟨r, e, (sn_same s).1.trans q, x, y⟩
  have impl_c : ∀ (d : ChM) W, SameC c d → ChAt W d → Tabs W → Calls Tryd.prog 24 #[d.val, .int .i64 n1, .int .i64 n2, .int .i64 n3, .int .i64 n4, .int .i64 n5] W (RetC (fun v => .tuple #[v, .int .i64 (snN c (⟨(c.st.x.sent.length : Int) + 1, n1, n2, n3, n4, n5, c.st.x.ver⟩ : Pk)), .bool (snO c (⟨(c.st.x.sent.length : Int) + 1, n1, n2, n3, n4, n5, c.st.x.ver⟩ : Pk))]) W (snC c (⟨(c.st.x.sent.length : Int) + 1, n1, n2, n3, n4, n5, c.st.x.ver⟩ : Pk))) := fun d W s k t => by
    have q := implSend_any d n1 n2 n3 n4 n5 W k t ⟨i2.1, i2.2⟩
    rw [pe d s, (sn_same s).2.1, (sn_same s).2.2] at q
    exact q.mono fun _ _ ⟨r, G, e, q, x, y⟩ => ⟨r, G, e, (sn_same s).1.trans q, x, y⟩
  have hbound := sn_chN c (⟨(c.st.x.sent.length : Int) + 1, n1, n2, n3, n4, n5, c.st.x.ver⟩ : Pk)
  obtain ⟨R, hR⟩ : ∃ R, snC c (⟨(c.st.x.sent.length : Int) + 1, n1, n2, n3, n4, n5, c.st.x.ver⟩ : Pk) = R := ⟨_, rfl⟩
  obtain ⟨nn, hnn⟩ : ∃ n, snN c (⟨(c.st.x.sent.length : Int) + 1, n1, n2, n3, n4, n5, c.st.x.ver⟩ : Pk) = n := ⟨_, rfl⟩
  obtain ⟨oo, hoo⟩ : ∃ n, snO c (⟨(c.st.x.sent.length : Int) + 1, n1, n2, n3, n4, n5, c.st.x.ver⟩ : Pk) = n := ⟨_, rfl⟩
  rw [hR] at hbound
  simp only [hR, hnn, hoo] at spec_c impl_c
  clear hR hnn hoo pe i1 i2 i3 i4 i5
  have hnq : (nn != nn) = false := by simp
  have hoq : (oo != oo) = false := by cases oo <;> rfl
  have HSP := Lib.hid (fun d W (s : SameC c d) (k : ChAt W d) => spec_c d W s k)
  have HIM := Lib.hid (fun d W (s : SameC c d) (k : ChAt W d) (t : Tabs W) => impl_c d W s k t)
  clear spec_c impl_c
  have hcn := chN_le c
  have HEQ2 := Lib.hid (fun d d' W (s : SameC R d) (s' : SameC R d') (k : ChAt W d) (k' : ChAt W d') => eqChain_same d d' W k k' (s.symm.trans s'))
  have HMK := Lib.hid (fun d G lo W (s : SameC c d) (k : ChOwn G W lo d) => (show Calls Tryd.prog 21 #[d.val, .int .i64 1] W (fun e w' => e = .returned (.int .i64 (1 + chN c)) ∧ Keeps (chBlk d) W w') from by rw [← chN_same s]; exact (markChain_any d G lo 1 W k (by decide) (by rw [chN_same s]; omega)).mono fun _ _ h => ⟨h.1, h.2.2⟩))
  have HMG := Lib.hid (fun d G lo W (s : SameC R d) (k : ChOwn G W lo d) => (show Calls Tryd.prog 21 #[d.val, .int .i64 1] W (fun e w' => e = .returned (.int .i64 (1 + chN R)) ∧ ChOwn G w' lo (chMark d 1) ∧ Keeps (chBlk d) W w') from by rw [← chN_same s]; exact markChain_any d G lo 1 W k (by decide) (by rw [chN_same s]; omega)))
  have HHD := Lib.hid (fun d G lo W (s : SameC R d) (k : ChOwn G W lo (chMark d 1)) => (show Calls Tryd.prog 22 #[d.val, .int .i64 1] W (fun e w' => e = .returned (.int .i64 (1 + chN R)) ∧ Keeps noBlk W w') from by rw [← chN_same s]; exact heldChain_any d 1 W k.at_ (by decide) (by rw [chN_same s]; omega)))
  have hp := chN_nn c
  have hpr := chN_nn R
  generalize chN c = M at HMK hp
  generalize chN R = MR at HMG HHD hpr hbound
  clear hlk hcn hbound
  have hm0 : ¬ 1 + M < 0 := by omega
  have hq0 : ¬ 1 + MR < 0 := by omega
  have hqq : (1 + MR != 1 + MR) = false := by simp
  clear h hs SH
  generalize chTot c = tot at FS hneg
  unfold ChM.val
  unfold ChM.val at FS
  go_enter Tryd.func5, Tryd.ntmps5
  go_wp2_with fail
  refine (FS.out _ HK.out).mono ?_
  rintro e w1 ⟨rfl, hk1⟩
  have ha := HBa.out.keeps hk1 (fun h => h)
  clear HBa
  have HBa := Lib.hid ha
  clear ha
  have hr := HK.out.trans hk1
  clear HK
  have HK := Lib.hid hr
  clear hr
  have sz1 := hk1.size
  (try simp at sz1)
  clear hk1
  have hb := HBa.out
  have a0 := hb.cell 0
  have a1 := hb.cell 1
  have a2 := hb.cell 2
  have a3 := hb.cell 3
  have a4 := hb.cell 4
  have a5 := hb.cell 5
  have a6 := hb.cell 6
  have a7 := hb.cell 7
  have a8 := hb.cell 8
  have a9 := hb.cell 9
  have a10 := hb.cell 10
  have a11 := hb.cell 11
  have a12 := hb.cell 12
  simp at a0 a1 a2 a3 a4 a5 a6 a7 a8 a9 a10 a11 a12
  have za := hb.lt
  clear hb
  go_wp2_with fail
  refine (HTO.out _ HK.out).mono ?_
  rintro e w2 ⟨p, Gp, rfl, s9, o9, hk2⟩
  dsimp only [ChM.val]
  have Sp := Lib.hid s9
  have Op := Lib.hid o9.at_
  clear s9 o9
  clear a0 a1 a2 a3 a4 a5 a6 a7 a8 a9 a10 a11 a12 za
  have ha := HBa.out.keeps hk2 (fun h => h)
  clear HBa
  have HBa := Lib.hid ha
  clear ha
  have hr := HK.out.trans hk2
  clear HK
  have HK := Lib.hid hr
  clear hr
  have sz2 := hk2.size
  (try simp at sz2)
  clear hk2
  have hb := HBa.out
  have a0 := hb.cell 0
  have a1 := hb.cell 1
  have a2 := hb.cell 2
  have a3 := hb.cell 3
  have a4 := hb.cell 4
  have a5 := hb.cell 5
  have a6 := hb.cell 6
  have a7 := hb.cell 7
  have a8 := hb.cell 8
  have a9 := hb.cell 9
  have a10 := hb.cell 10
  have a11 := hb.cell 11
  have a12 := hb.cell 12
  simp at a0 a1 a2 a3 a4 a5 a6 a7 a8 a9 a10 a11 a12
  have za := hb.lt
  clear hb
  go_wp2_with fail
  refine (HSP.out p _ Sp.out Op.out).mono ?_
  rintro e w3 ⟨v, rfl, s9, k9, hk3⟩
  dsimp only [ChM.val]
  have Sv := Lib.hid s9
  have Ov := Lib.hid k9
  have Lv := Lib.hid (fun b (hb : chBlk v b) => k9.lt hb)
  clear s9 k9
  clear a0 a1 a2 a3 a4 a5 a6 a7 a8 a9 a10 a11 a12 za
  have ha := HBa.out.keeps hk3 (fun h => h)
  clear HBa
  have HBa := Lib.hid ha
  clear ha
  have hr := (Op.out).kept hk3
  clear Op
  have Op := Lib.hid hr
  clear hr
  have hr := HK.out.trans hk3
  clear HK
  have HK := Lib.hid hr
  clear hr
  have sz3 := hk3.size
  (try simp at sz3)
  clear hk3
  clear Op Sp
  have hb := HBa.out
  have a0 := hb.cell 0
  have a1 := hb.cell 1
  have a2 := hb.cell 2
  have a3 := hb.cell 3
  have a4 := hb.cell 4
  have a5 := hb.cell 5
  have a6 := hb.cell 6
  have a7 := hb.cell 7
  have a8 := hb.cell 8
  have a9 := hb.cell 9
  have a10 := hb.cell 10
  have a11 := hb.cell 11
  have a12 := hb.cell 12
  simp at a0 a1 a2 a3 a4 a5 a6 a7 a8 a9 a10 a11 a12
  have za := hb.lt
  clear hb
  have ha := HBa.out.alloc (.cells #[.int .i64 v.id, .slice v.bk.A1 v.bk.b.own.length v.bk.c1, .slice v.bk.A2 v.bk.b.notes.length v.bk.c2, .int .i64 v.bk.b.locked, .int .i64 v.st.x.way, .int .i64 v.st.x.ver, .int .i64 v.st.x.want, .slice v.st.A1 v.st.x.sent.length v.st.c1, .slice v.st.A2 v.st.x.live.length v.st.c2, .slice v.st.A3 v.st.x.back.length v.st.c3, .slice v.st.A4 v.st.x.got.length v.st.c4, .slice v.pA v.past.length v.pc, .slice v.kA v.knows.length v.kc] 40)
  clear HBa
  have HBa := Lib.hid ha
  clear ha
  have hr := (Ov.out).kept ((Keeps.refl noBlk w3).alloc (.cells #[.int .i64 v.id, .slice v.bk.A1 v.bk.b.own.length v.bk.c1, .slice v.bk.A2 v.bk.b.notes.length v.bk.c2, .int .i64 v.bk.b.locked, .int .i64 v.st.x.way, .int .i64 v.st.x.ver, .int .i64 v.st.x.want, .slice v.st.A1 v.st.x.sent.length v.st.c1, .slice v.st.A2 v.st.x.live.length v.st.c2, .slice v.st.A3 v.st.x.back.length v.st.c3, .slice v.st.A4 v.st.x.got.length v.st.c4, .slice v.pA v.past.length v.pc, .slice v.kA v.knows.length v.kc] 40))
  clear Ov
  have Ov := Lib.hid hr
  clear hr
  have hr := HK.out.alloc (.cells #[.int .i64 v.id, .slice v.bk.A1 v.bk.b.own.length v.bk.c1, .slice v.bk.A2 v.bk.b.notes.length v.bk.c2, .int .i64 v.bk.b.locked, .int .i64 v.st.x.way, .int .i64 v.st.x.ver, .int .i64 v.st.x.want, .slice v.st.A1 v.st.x.sent.length v.st.c1, .slice v.st.A2 v.st.x.live.length v.st.c2, .slice v.st.A3 v.st.x.back.length v.st.c3, .slice v.st.A4 v.st.x.got.length v.st.c4, .slice v.pA v.past.length v.pc, .slice v.kA v.knows.length v.kc] 40)
  clear HK
  have HK := Lib.hid hr
  clear hr
  have HBv := Lib.hid (Box.new w3 _ rfl 40 #[.int .i64 v.id, .slice v.bk.A1 v.bk.b.own.length v.bk.c1, .slice v.bk.A2 v.bk.b.notes.length v.bk.c2, .int .i64 v.bk.b.locked, .int .i64 v.st.x.way, .int .i64 v.st.x.ver, .int .i64 v.st.x.want, .slice v.st.A1 v.st.x.sent.length v.st.c1, .slice v.st.A2 v.st.x.live.length v.st.c2, .slice v.st.A3 v.st.x.back.length v.st.c3, .slice v.st.A4 v.st.x.got.length v.st.c4, .slice v.pA v.past.length v.pc, .slice v.kA v.knows.length v.kc])
  go_wp2_with fail
  refine (HTO.out _ HK.out).mono ?_
  rintro e w4 ⟨x, Gx, rfl, s9, o9, hk4⟩
  dsimp only [ChM.val]
  have Sx := Lib.hid s9
  have Ox := Lib.hid o9.at_
  have Nx := Lib.hid o9
  have Lx := Lib.hid (fun b (hb : chBlk x b) => And.intro (o9.ge hb) (o9.lt hb))
  clear s9 o9
  clear a0 a1 a2 a3 a4 a5 a6 a7 a8 a9 a10 a11 a12 za
  have ha := HBa.out.keeps hk4 (fun h => h)
  clear HBa
  have HBa := Lib.hid ha
  clear ha
  have hv := HBv.out.keeps hk4 (fun h => h)
  clear HBv
  have HBv := Lib.hid hv
  clear hv
  have hr := (Ov.out).kept hk4
  clear Ov
  have Ov := Lib.hid hr
  clear hr
  have hr := HK.out.trans hk4
  clear HK
  have HK := Lib.hid hr
  clear hr
  have sz4 := hk4.size
  (try simp at sz4)
  clear hk4
  have ha := HBa.out.alloc (.cells #[.int .i64 x.id, .slice x.bk.A1 x.bk.b.own.length x.bk.c1, .slice x.bk.A2 x.bk.b.notes.length x.bk.c2, .int .i64 x.bk.b.locked, .int .i64 x.st.x.way, .int .i64 x.st.x.ver, .int .i64 x.st.x.want, .slice x.st.A1 x.st.x.sent.length x.st.c1, .slice x.st.A2 x.st.x.live.length x.st.c2, .slice x.st.A3 x.st.x.back.length x.st.c3, .slice x.st.A4 x.st.x.got.length x.st.c4, .slice x.pA x.past.length x.pc, .slice x.kA x.knows.length x.kc] 40)
  clear HBa
  have HBa := Lib.hid ha
  clear ha
  have hv := HBv.out.alloc (.cells #[.int .i64 x.id, .slice x.bk.A1 x.bk.b.own.length x.bk.c1, .slice x.bk.A2 x.bk.b.notes.length x.bk.c2, .int .i64 x.bk.b.locked, .int .i64 x.st.x.way, .int .i64 x.st.x.ver, .int .i64 x.st.x.want, .slice x.st.A1 x.st.x.sent.length x.st.c1, .slice x.st.A2 x.st.x.live.length x.st.c2, .slice x.st.A3 x.st.x.back.length x.st.c3, .slice x.st.A4 x.st.x.got.length x.st.c4, .slice x.pA x.past.length x.pc, .slice x.kA x.knows.length x.kc] 40)
  clear HBv
  have HBv := Lib.hid hv
  clear hv
  have hr := (Ov.out).kept ((Keeps.refl noBlk w4).alloc (.cells #[.int .i64 x.id, .slice x.bk.A1 x.bk.b.own.length x.bk.c1, .slice x.bk.A2 x.bk.b.notes.length x.bk.c2, .int .i64 x.bk.b.locked, .int .i64 x.st.x.way, .int .i64 x.st.x.ver, .int .i64 x.st.x.want, .slice x.st.A1 x.st.x.sent.length x.st.c1, .slice x.st.A2 x.st.x.live.length x.st.c2, .slice x.st.A3 x.st.x.back.length x.st.c3, .slice x.st.A4 x.st.x.got.length x.st.c4, .slice x.pA x.past.length x.pc, .slice x.kA x.knows.length x.kc] 40))
  clear Ov
  have Ov := Lib.hid hr
  clear hr
  have hr := (Ox.out).kept ((Keeps.refl noBlk w4).alloc (.cells #[.int .i64 x.id, .slice x.bk.A1 x.bk.b.own.length x.bk.c1, .slice x.bk.A2 x.bk.b.notes.length x.bk.c2, .int .i64 x.bk.b.locked, .int .i64 x.st.x.way, .int .i64 x.st.x.ver, .int .i64 x.st.x.want, .slice x.st.A1 x.st.x.sent.length x.st.c1, .slice x.st.A2 x.st.x.live.length x.st.c2, .slice x.st.A3 x.st.x.back.length x.st.c3, .slice x.st.A4 x.st.x.got.length x.st.c4, .slice x.pA x.past.length x.pc, .slice x.kA x.knows.length x.kc] 40))
  clear Ox
  have Ox := Lib.hid hr
  clear hr
  have hr := (Nx.out).kept ((Keeps.refl noBlk w4).alloc (.cells #[.int .i64 x.id, .slice x.bk.A1 x.bk.b.own.length x.bk.c1, .slice x.bk.A2 x.bk.b.notes.length x.bk.c2, .int .i64 x.bk.b.locked, .int .i64 x.st.x.way, .int .i64 x.st.x.ver, .int .i64 x.st.x.want, .slice x.st.A1 x.st.x.sent.length x.st.c1, .slice x.st.A2 x.st.x.live.length x.st.c2, .slice x.st.A3 x.st.x.back.length x.st.c3, .slice x.st.A4 x.st.x.got.length x.st.c4, .slice x.pA x.past.length x.pc, .slice x.kA x.knows.length x.kc] 40))
  clear Nx
  have Nx := Lib.hid hr
  clear hr
  have hr := HK.out.alloc (.cells #[.int .i64 x.id, .slice x.bk.A1 x.bk.b.own.length x.bk.c1, .slice x.bk.A2 x.bk.b.notes.length x.bk.c2, .int .i64 x.bk.b.locked, .int .i64 x.st.x.way, .int .i64 x.st.x.ver, .int .i64 x.st.x.want, .slice x.st.A1 x.st.x.sent.length x.st.c1, .slice x.st.A2 x.st.x.live.length x.st.c2, .slice x.st.A3 x.st.x.back.length x.st.c3, .slice x.st.A4 x.st.x.got.length x.st.c4, .slice x.pA x.past.length x.pc, .slice x.kA x.knows.length x.kc] 40)
  clear HK
  have HK := Lib.hid hr
  clear hr
  have HBx := Lib.hid (Box.new w4 _ rfl 40 #[.int .i64 x.id, .slice x.bk.A1 x.bk.b.own.length x.bk.c1, .slice x.bk.A2 x.bk.b.notes.length x.bk.c2, .int .i64 x.bk.b.locked, .int .i64 x.st.x.way, .int .i64 x.st.x.ver, .int .i64 x.st.x.want, .slice x.st.A1 x.st.x.sent.length x.st.c1, .slice x.st.A2 x.st.x.live.length x.st.c2, .slice x.st.A3 x.st.x.back.length x.st.c3, .slice x.st.A4 x.st.x.got.length x.st.c4, .slice x.pA x.past.length x.pc, .slice x.kA x.knows.length x.kc])
  go_wp2_with fail
  refine (HIM.out x _ Sx.out Ox.out (HT.out.keeps HK.out)).mono ?_
  rintro e w5 ⟨g, Gg, rfl, s9, k9, hk5⟩
  dsimp only [ChM.val]
  have Sg := Lib.hid s9
  have Ng := Lib.hid k9
  have Lg := Lib.hid (fun b (hb : chBlk g b) => And.intro (k9.ge hb) (k9.lt hb))
  clear s9 k9
  have ha := HBa.out.keeps hk5 (fun h => h)
  clear HBa
  have HBa := Lib.hid ha
  clear ha
  have hv := HBv.out.keeps hk5 (fun h => h)
  clear HBv
  have HBv := Lib.hid hv
  clear hv
  have hx := HBx.out.keeps hk5 (fun h => h)
  clear HBx
  have HBx := Lib.hid hx
  clear hx
  have hr := (Ov.out).kept hk5
  clear Ov
  have Ov := Lib.hid hr
  clear hr
  have hr := (Ox.out).kept hk5
  clear Ox
  have Ox := Lib.hid hr
  clear hr
  have hr := (Nx.out).kept hk5
  clear Nx
  have Nx := Lib.hid hr
  clear hr
  have hr := HK.out.trans hk5
  clear HK
  have HK := Lib.hid hr
  clear hr
  have sz5 := hk5.size
  (try simp at sz5)
  clear hk5
  have ha := HBa.out.alloc (.cells #[.int .i64 g.id, .slice g.bk.A1 g.bk.b.own.length g.bk.c1, .slice g.bk.A2 g.bk.b.notes.length g.bk.c2, .int .i64 g.bk.b.locked, .int .i64 g.st.x.way, .int .i64 g.st.x.ver, .int .i64 g.st.x.want, .slice g.st.A1 g.st.x.sent.length g.st.c1, .slice g.st.A2 g.st.x.live.length g.st.c2, .slice g.st.A3 g.st.x.back.length g.st.c3, .slice g.st.A4 g.st.x.got.length g.st.c4, .slice g.pA g.past.length g.pc, .slice g.kA g.knows.length g.kc] 40)
  clear HBa
  have HBa := Lib.hid ha
  clear ha
  have hv := HBv.out.alloc (.cells #[.int .i64 g.id, .slice g.bk.A1 g.bk.b.own.length g.bk.c1, .slice g.bk.A2 g.bk.b.notes.length g.bk.c2, .int .i64 g.bk.b.locked, .int .i64 g.st.x.way, .int .i64 g.st.x.ver, .int .i64 g.st.x.want, .slice g.st.A1 g.st.x.sent.length g.st.c1, .slice g.st.A2 g.st.x.live.length g.st.c2, .slice g.st.A3 g.st.x.back.length g.st.c3, .slice g.st.A4 g.st.x.got.length g.st.c4, .slice g.pA g.past.length g.pc, .slice g.kA g.knows.length g.kc] 40)
  clear HBv
  have HBv := Lib.hid hv
  clear hv
  have hx := HBx.out.alloc (.cells #[.int .i64 g.id, .slice g.bk.A1 g.bk.b.own.length g.bk.c1, .slice g.bk.A2 g.bk.b.notes.length g.bk.c2, .int .i64 g.bk.b.locked, .int .i64 g.st.x.way, .int .i64 g.st.x.ver, .int .i64 g.st.x.want, .slice g.st.A1 g.st.x.sent.length g.st.c1, .slice g.st.A2 g.st.x.live.length g.st.c2, .slice g.st.A3 g.st.x.back.length g.st.c3, .slice g.st.A4 g.st.x.got.length g.st.c4, .slice g.pA g.past.length g.pc, .slice g.kA g.knows.length g.kc] 40)
  clear HBx
  have HBx := Lib.hid hx
  clear hx
  have hr := (Ov.out).kept ((Keeps.refl noBlk w5).alloc (.cells #[.int .i64 g.id, .slice g.bk.A1 g.bk.b.own.length g.bk.c1, .slice g.bk.A2 g.bk.b.notes.length g.bk.c2, .int .i64 g.bk.b.locked, .int .i64 g.st.x.way, .int .i64 g.st.x.ver, .int .i64 g.st.x.want, .slice g.st.A1 g.st.x.sent.length g.st.c1, .slice g.st.A2 g.st.x.live.length g.st.c2, .slice g.st.A3 g.st.x.back.length g.st.c3, .slice g.st.A4 g.st.x.got.length g.st.c4, .slice g.pA g.past.length g.pc, .slice g.kA g.knows.length g.kc] 40))
  clear Ov
  have Ov := Lib.hid hr
  clear hr
  have hr := (Ox.out).kept ((Keeps.refl noBlk w5).alloc (.cells #[.int .i64 g.id, .slice g.bk.A1 g.bk.b.own.length g.bk.c1, .slice g.bk.A2 g.bk.b.notes.length g.bk.c2, .int .i64 g.bk.b.locked, .int .i64 g.st.x.way, .int .i64 g.st.x.ver, .int .i64 g.st.x.want, .slice g.st.A1 g.st.x.sent.length g.st.c1, .slice g.st.A2 g.st.x.live.length g.st.c2, .slice g.st.A3 g.st.x.back.length g.st.c3, .slice g.st.A4 g.st.x.got.length g.st.c4, .slice g.pA g.past.length g.pc, .slice g.kA g.knows.length g.kc] 40))
  clear Ox
  have Ox := Lib.hid hr
  clear hr
  have hr := (Nx.out).kept ((Keeps.refl noBlk w5).alloc (.cells #[.int .i64 g.id, .slice g.bk.A1 g.bk.b.own.length g.bk.c1, .slice g.bk.A2 g.bk.b.notes.length g.bk.c2, .int .i64 g.bk.b.locked, .int .i64 g.st.x.way, .int .i64 g.st.x.ver, .int .i64 g.st.x.want, .slice g.st.A1 g.st.x.sent.length g.st.c1, .slice g.st.A2 g.st.x.live.length g.st.c2, .slice g.st.A3 g.st.x.back.length g.st.c3, .slice g.st.A4 g.st.x.got.length g.st.c4, .slice g.pA g.past.length g.pc, .slice g.kA g.knows.length g.kc] 40))
  clear Nx
  have Nx := Lib.hid hr
  clear hr
  have hr := (Ng.out).kept ((Keeps.refl noBlk w5).alloc (.cells #[.int .i64 g.id, .slice g.bk.A1 g.bk.b.own.length g.bk.c1, .slice g.bk.A2 g.bk.b.notes.length g.bk.c2, .int .i64 g.bk.b.locked, .int .i64 g.st.x.way, .int .i64 g.st.x.ver, .int .i64 g.st.x.want, .slice g.st.A1 g.st.x.sent.length g.st.c1, .slice g.st.A2 g.st.x.live.length g.st.c2, .slice g.st.A3 g.st.x.back.length g.st.c3, .slice g.st.A4 g.st.x.got.length g.st.c4, .slice g.pA g.past.length g.pc, .slice g.kA g.knows.length g.kc] 40))
  clear Ng
  have Ng := Lib.hid hr
  clear hr
  have hr := HK.out.alloc (.cells #[.int .i64 g.id, .slice g.bk.A1 g.bk.b.own.length g.bk.c1, .slice g.bk.A2 g.bk.b.notes.length g.bk.c2, .int .i64 g.bk.b.locked, .int .i64 g.st.x.way, .int .i64 g.st.x.ver, .int .i64 g.st.x.want, .slice g.st.A1 g.st.x.sent.length g.st.c1, .slice g.st.A2 g.st.x.live.length g.st.c2, .slice g.st.A3 g.st.x.back.length g.st.c3, .slice g.st.A4 g.st.x.got.length g.st.c4, .slice g.pA g.past.length g.pc, .slice g.kA g.knows.length g.kc] 40)
  clear HK
  have HK := Lib.hid hr
  clear hr
  have HBg := Lib.hid (Box.new w5 _ rfl 40 #[.int .i64 g.id, .slice g.bk.A1 g.bk.b.own.length g.bk.c1, .slice g.bk.A2 g.bk.b.notes.length g.bk.c2, .int .i64 g.bk.b.locked, .int .i64 g.st.x.way, .int .i64 g.st.x.ver, .int .i64 g.st.x.want, .slice g.st.A1 g.st.x.sent.length g.st.c1, .slice g.st.A2 g.st.x.live.length g.st.c2, .slice g.st.A3 g.st.x.back.length g.st.c3, .slice g.st.A4 g.st.x.got.length g.st.c4, .slice g.pA g.past.length g.pc, .slice g.kA g.knows.length g.kc])
  have hb := HBv.out
  have v0 := hb.cell 0
  have v1 := hb.cell 1
  have v2 := hb.cell 2
  have v3 := hb.cell 3
  have v4 := hb.cell 4
  have v5 := hb.cell 5
  have v6 := hb.cell 6
  have v7 := hb.cell 7
  have v8 := hb.cell 8
  have v9 := hb.cell 9
  have v10 := hb.cell 10
  have v11 := hb.cell 11
  have v12 := hb.cell 12
  simp at v0 v1 v2 v3 v4 v5 v6 v7 v8 v9 v10 v11 v12
  have zv := hb.lt
  clear hb
  have hb := HBg.out
  have g0 := hb.cell 0
  have g1 := hb.cell 1
  have g2 := hb.cell 2
  have g3 := hb.cell 3
  have g4 := hb.cell 4
  have g5 := hb.cell 5
  have g6 := hb.cell 6
  have g7 := hb.cell 7
  have g8 := hb.cell 8
  have g9 := hb.cell 9
  have g10 := hb.cell 10
  have g11 := hb.cell 11
  have g12 := hb.cell 12
  simp at g0 g1 g2 g3 g4 g5 g6 g7 g8 g9 g10 g11 g12
  have zg := hb.lt
  clear hb
  go_wp2_with fail
  refine (HEQ2.out g v _ Sg.out Sv.out Ng.out.at_ Ov.out).mono ?_
  rintro e w6 ⟨rfl, hk6⟩
  clear v0 v1 v2 v3 v4 v5 v6 v7 v8 v9 v10 v11 v12 g0 g1 g2 g3 g4 g5 g6 g7 g8 g9 g10 g11 g12 zv zg
  have ha := HBa.out.keeps hk6 (fun h => h)
  clear HBa
  have HBa := Lib.hid ha
  clear ha
  have hv := HBv.out.keeps hk6 (fun h => h)
  clear HBv
  have HBv := Lib.hid hv
  clear hv
  have hx := HBx.out.keeps hk6 (fun h => h)
  clear HBx
  have HBx := Lib.hid hx
  clear hx
  have hg := HBg.out.keeps hk6 (fun h => h)
  clear HBg
  have HBg := Lib.hid hg
  clear hg
  have hr := (Ov.out).kept hk6
  clear Ov
  have Ov := Lib.hid hr
  clear hr
  have hr := (Ox.out).kept hk6
  clear Ox
  have Ox := Lib.hid hr
  clear hr
  have hr := (Nx.out).kept hk6
  clear Nx
  have Nx := Lib.hid hr
  clear hr
  have hr := (Ng.out).kept hk6
  clear Ng
  have Ng := Lib.hid hr
  clear hr
  have hr := HK.out.trans hk6
  clear HK
  have HK := Lib.hid hr
  clear hr
  have sz6 := hk6.size
  (try simp at sz6)
  clear hk6
  have hb := HBx.out
  have x0 := hb.cell 0
  have x1 := hb.cell 1
  have x2 := hb.cell 2
  have x3 := hb.cell 3
  have x4 := hb.cell 4
  have x5 := hb.cell 5
  have x6 := hb.cell 6
  have x7 := hb.cell 7
  have x8 := hb.cell 8
  have x9 := hb.cell 9
  have x10 := hb.cell 10
  have x11 := hb.cell 11
  have x12 := hb.cell 12
  simp at x0 x1 x2 x3 x4 x5 x6 x7 x8 x9 x10 x11 x12
  have zx := hb.lt
  clear hb
  have hb := HBa.out
  have a0 := hb.cell 0
  have a1 := hb.cell 1
  have a2 := hb.cell 2
  have a3 := hb.cell 3
  have a4 := hb.cell 4
  have a5 := hb.cell 5
  have a6 := hb.cell 6
  have a7 := hb.cell 7
  have a8 := hb.cell 8
  have a9 := hb.cell 9
  have a10 := hb.cell 10
  have a11 := hb.cell 11
  have a12 := hb.cell 12
  simp at a0 a1 a2 a3 a4 a5 a6 a7 a8 a9 a10 a11 a12
  have za := hb.lt
  clear hb
  go_wp2_with fail
  go_region_held3 (fun w' => w'.cell? ⟨w4.heap.size, 0, none⟩ = some (.int .i64 x.id) ∧ w'.cell? ⟨w4.heap.size, 1, none⟩ = some (.slice x.bk.A1 x.bk.b.own.length x.bk.c1) ∧ w'.cell? ⟨w4.heap.size, 2, none⟩ = some (.slice x.bk.A2 x.bk.b.notes.length x.bk.c2) ∧ w'.cell? ⟨w4.heap.size, 3, none⟩ = some (.int .i64 x.bk.b.locked) ∧ w'.cell? ⟨w4.heap.size, 4, none⟩ = some (.int .i64 x.st.x.way) ∧ w'.cell? ⟨w4.heap.size, 5, none⟩ = some (.int .i64 x.st.x.ver) ∧ w'.cell? ⟨w4.heap.size, 6, none⟩ = some (.int .i64 x.st.x.want) ∧ w'.cell? ⟨w4.heap.size, 7, none⟩ = some (.slice x.st.A1 x.st.x.sent.length x.st.c1) ∧ w'.cell? ⟨w4.heap.size, 8, none⟩ = some (.slice x.st.A2 x.st.x.live.length x.st.c2) ∧ w'.cell? ⟨w4.heap.size, 9, none⟩ = some (.slice x.st.A3 x.st.x.back.length x.st.c3) ∧ w'.cell? ⟨w4.heap.size, 10, none⟩ = some (.slice x.st.A4 x.st.x.got.length x.st.c4) ∧ w'.cell? ⟨w4.heap.size, 11, none⟩ = some (.slice x.pA x.past.length x.pc) ∧ w'.cell? ⟨w4.heap.size, 12, none⟩ = some (.slice x.kA x.knows.length x.kc) ∧ w'.cell? ⟨w.heap.size, 0, none⟩ = some (.int .i64 c.id) ∧ w'.cell? ⟨w.heap.size, 1, none⟩ = some (.slice c.bk.A1 c.bk.b.own.length c.bk.c1) ∧ w'.cell? ⟨w.heap.size, 2, none⟩ = some (.slice c.bk.A2 c.bk.b.notes.length c.bk.c2) ∧ w'.cell? ⟨w.heap.size, 3, none⟩ = some (.int .i64 c.bk.b.locked) ∧ w'.cell? ⟨w.heap.size, 4, none⟩ = some (.int .i64 c.st.x.way) ∧ w'.cell? ⟨w.heap.size, 5, none⟩ = some (.int .i64 c.st.x.ver) ∧ w'.cell? ⟨w.heap.size, 6, none⟩ = some (.int .i64 c.st.x.want) ∧ w'.cell? ⟨w.heap.size, 7, none⟩ = some (.slice c.st.A1 c.st.x.sent.length c.st.c1) ∧ w'.cell? ⟨w.heap.size, 8, none⟩ = some (.slice c.st.A2 c.st.x.live.length c.st.c2) ∧ w'.cell? ⟨w.heap.size, 9, none⟩ = some (.slice c.st.A3 c.st.x.back.length c.st.c3) ∧ w'.cell? ⟨w.heap.size, 10, none⟩ = some (.slice c.st.A4 c.st.x.got.length c.st.c4) ∧ w'.cell? ⟨w.heap.size, 11, none⟩ = some (.slice c.pA c.past.length c.pc) ∧ w'.cell? ⟨w.heap.size, 12, none⟩ = some (.slice c.kA c.knows.length c.kc))
    (((try dsimp only); (repeat' apply And.intro) <;> (first | with_reducible assumption | (go_keep; done))))
    (first | (go_at_call 16; refine (HTO.out _ (HK.out.drewN 1)).mono ?_; rintro e w7 ⟨y, Gy, rfl, s9, o9, hk7⟩; have hq := ((Keeps.refl noBlk w6).drewN 1).trans hk7; clear hk7; have hk7 := hq; clear hq; dsimp only [ChM.val]; have Sy := Lib.hid s9; have Oy := Lib.hid o9.at_; clear s9 o9; clear x0 x1 x2 x3 x4 x5 x6 x7 x8 x9 x10 x11 x12 a0 a1 a2 a3 a4 a5 a6 a7 a8 a9 a10 a11 a12 zx za; have ha := HBa.out.keeps hk7 (fun h => h); clear HBa; have HBa := Lib.hid ha; clear ha; have hv := HBv.out.keeps hk7 (fun h => h); clear HBv; have HBv := Lib.hid hv; clear hv; have hx := HBx.out.keeps hk7 (fun h => h); clear HBx; have HBx := Lib.hid hx; clear hx; have hg := HBg.out.keeps hk7 (fun h => h); clear HBg; have HBg := Lib.hid hg; clear hg; have hr := (Ov.out).kept hk7; clear Ov; have Ov := Lib.hid hr; clear hr; have hr := (Ox.out).kept hk7; clear Ox; have Ox := Lib.hid hr; clear hr; have hr := (Nx.out).kept hk7; clear Nx; have Nx := Lib.hid hr; clear hr; have hr := (Ng.out).kept hk7; clear Ng; have Ng := Lib.hid hr; clear hr; have hr := HK.out.trans hk7; clear HK; have HK := Lib.hid hr; clear hr; have sz7 := hk7.size; (try simp at sz7); clear hk7; have hb := HBx.out; have x0 := hb.cell 0; have x1 := hb.cell 1; have x2 := hb.cell 2; have x3 := hb.cell 3; have x4 := hb.cell 4; have x5 := hb.cell 5; have x6 := hb.cell 6; have x7 := hb.cell 7; have x8 := hb.cell 8; have x9 := hb.cell 9; have x10 := hb.cell 10; have x11 := hb.cell 11; have x12 := hb.cell 12; simp at x0 x1 x2 x3 x4 x5 x6 x7 x8 x9 x10 x11 x12; have zx := hb.lt; clear hb; have hb := HBa.out; have a0 := hb.cell 0; have a1 := hb.cell 1; have a2 := hb.cell 2; have a3 := hb.cell 3; have a4 := hb.cell 4; have a5 := hb.cell 5; have a6 := hb.cell 6; have a7 := hb.cell 7; have a8 := hb.cell 8; have a9 := hb.cell 9; have a10 := hb.cell 10; have a11 := hb.cell 11; have a12 := hb.cell 12; simp at a0 a1 a2 a3 a4 a5 a6 a7 a8 a9 a10 a11 a12; have za := hb.lt; clear hb) | (go_at_call 18; refine (HEQ.out x y _ Sx.out Sy.out Ox.out Oy.out).mono ?_; rintro e w8 ⟨rfl, hk8⟩; clear x0 x1 x2 x3 x4 x5 x6 x7 x8 x9 x10 x11 x12 a0 a1 a2 a3 a4 a5 a6 a7 a8 a9 a10 a11 a12 zx za; have ha := HBa.out.keeps hk8 (fun h => h); clear HBa; have HBa := Lib.hid ha; clear ha; have hv := HBv.out.keeps hk8 (fun h => h); clear HBv; have HBv := Lib.hid hv; clear hv; have hx := HBx.out.keeps hk8 (fun h => h); clear HBx; have HBx := Lib.hid hx; clear hx; have hg := HBg.out.keeps hk8 (fun h => h); clear HBg; have HBg := Lib.hid hg; clear hg; have hr := (Ov.out).kept hk8; clear Ov; have Ov := Lib.hid hr; clear hr; have hr := (Ox.out).kept hk8; clear Ox; have Ox := Lib.hid hr; clear hr; have hr := (Nx.out).kept hk8; clear Nx; have Nx := Lib.hid hr; clear hr; have hr := (Ng.out).kept hk8; clear Ng; have Ng := Lib.hid hr; clear hr; have hr := (Oy.out).kept hk8; clear Oy; have Oy := Lib.hid hr; clear hr; have hr := HK.out.trans hk8; clear HK; have HK := Lib.hid hr; clear hr; have sz8 := hk8.size; (try simp at sz8); clear hk8; have hb := HBx.out; have x0 := hb.cell 0; have x1 := hb.cell 1; have x2 := hb.cell 2; have x3 := hb.cell 3; have x4 := hb.cell 4; have x5 := hb.cell 5; have x6 := hb.cell 6; have x7 := hb.cell 7; have x8 := hb.cell 8; have x9 := hb.cell 9; have x10 := hb.cell 10; have x11 := hb.cell 11; have x12 := hb.cell 12; simp at x0 x1 x2 x3 x4 x5 x6 x7 x8 x9 x10 x11 x12; have zx := hb.lt; clear hb; have hb := HBa.out; have a0 := hb.cell 0; have a1 := hb.cell 1; have a2 := hb.cell 2; have a3 := hb.cell 3; have a4 := hb.cell 4; have a5 := hb.cell 5; have a6 := hb.cell 6; have a7 := hb.cell 7; have a8 := hb.cell 8; have a9 := hb.cell 9; have a10 := hb.cell 10; have a11 := hb.cell 11; have a12 := hb.cell 12; simp at a0 a1 a2 a3 a4 a5 a6 a7 a8 a9 a10 a11 a12; have za := hb.lt; clear hb))
  clear Oy Sy
  clear x0 x1 x2 x3 x4 x5 x6 x7 x8 x9 x10 x11 x12 a0 a1 a2 a3 a4 a5 a6 a7 a8 a9 a10 a11 a12 zx za
  have hb := HBx.out
  have x0 := hb.cell 0
  have x1 := hb.cell 1
  have x2 := hb.cell 2
  have x3 := hb.cell 3
  have x4 := hb.cell 4
  have x5 := hb.cell 5
  have x6 := hb.cell 6
  have x7 := hb.cell 7
  have x8 := hb.cell 8
  have x9 := hb.cell 9
  have x10 := hb.cell 10
  have x11 := hb.cell 11
  have x12 := hb.cell 12
  simp at x0 x1 x2 x3 x4 x5 x6 x7 x8 x9 x10 x11 x12
  have zx := hb.lt
  clear hb
  go_wp2_with fail
  refine (HMK.out x Gx _ _ Sx.out Nx.out).mono ?_
  rintro e w9 ⟨rfl, hk9⟩
  clear Ox Nx
  clear x0 x1 x2 x3 x4 x5 x6 x7 x8 x9 x10 x11 x12 zx
  have ha := HBa.out.keeps hk9 (fun h => by have q := Lx.out _ h; (try simp at q) <;> omega)
  clear HBa
  have HBa := Lib.hid ha
  clear ha
  have hv := HBv.out.keeps hk9 (fun h => by have q := Lx.out _ h; (try simp at q) <;> omega)
  clear HBv
  have HBv := Lib.hid hv
  clear hv
  have hx := HBx.out.keeps hk9 (fun h => by have q := Lx.out _ h; (try simp at q) <;> omega)
  clear HBx
  have HBx := Lib.hid hx
  clear hx
  have hg := HBg.out.keeps hk9 (fun h => by have q := Lx.out _ h; (try simp at q) <;> omega)
  clear HBg
  have HBg := Lib.hid hg
  clear hg
  have hr := (Ov.out).keeps hk9 (fun b hb h => by have q := Lx.out b h; have q2 := Lv.out b hb; (try simp at q q2) <;> omega)
  clear Ov
  have Ov := Lib.hid hr
  clear hr
  have hr := (Ng.out).keeps hk9 (fun b hb h => by have q := Lx.out b h; have q2 := Lg.out b hb; (try simp at q q2) <;> omega)
  clear Ng
  have Ng := Lib.hid hr
  clear hr
  have hr := HK.out.then hk9 (fun i hi h => by have q := (Lx.out i h).1; (try simp at q) <;> omega)
  clear HK
  have HK := Lib.hid hr
  clear hr
  have sz9 := hk9.size
  (try simp at sz9)
  clear hk9
  have hb := HBv.out
  have v0 := hb.cell 0
  have v1 := hb.cell 1
  have v2 := hb.cell 2
  have v3 := hb.cell 3
  have v4 := hb.cell 4
  have v5 := hb.cell 5
  have v6 := hb.cell 6
  have v7 := hb.cell 7
  have v8 := hb.cell 8
  have v9 := hb.cell 9
  have v10 := hb.cell 10
  have v11 := hb.cell 11
  have v12 := hb.cell 12
  simp at v0 v1 v2 v3 v4 v5 v6 v7 v8 v9 v10 v11 v12
  have zv := hb.lt
  clear hb
  have hb := HBg.out
  have g0 := hb.cell 0
  have g1 := hb.cell 1
  have g2 := hb.cell 2
  have g3 := hb.cell 3
  have g4 := hb.cell 4
  have g5 := hb.cell 5
  have g6 := hb.cell 6
  have g7 := hb.cell 7
  have g8 := hb.cell 8
  have g9 := hb.cell 9
  have g10 := hb.cell 10
  have g11 := hb.cell 11
  have g12 := hb.cell 12
  simp at g0 g1 g2 g3 g4 g5 g6 g7 g8 g9 g10 g11 g12
  have zg := hb.lt
  clear hb
  go_wp2_with fail
  refine (HEQ2.out g v _ Sg.out Sv.out Ng.out.at_ Ov.out).mono ?_
  rintro e w10 ⟨rfl, hk10⟩
  clear v0 v1 v2 v3 v4 v5 v6 v7 v8 v9 v10 v11 v12 g0 g1 g2 g3 g4 g5 g6 g7 g8 g9 g10 g11 g12 zv zg
  have ha := HBa.out.keeps hk10 (fun h => h)
  clear HBa
  have HBa := Lib.hid ha
  clear ha
  have hv := HBv.out.keeps hk10 (fun h => h)
  clear HBv
  have HBv := Lib.hid hv
  clear hv
  have hx := HBx.out.keeps hk10 (fun h => h)
  clear HBx
  have HBx := Lib.hid hx
  clear hx
  have hg := HBg.out.keeps hk10 (fun h => h)
  clear HBg
  have HBg := Lib.hid hg
  clear hg
  have hr := (Ov.out).kept hk10
  clear Ov
  have Ov := Lib.hid hr
  clear hr
  have hr := (Ng.out).kept hk10
  clear Ng
  have Ng := Lib.hid hr
  clear hr
  have hr := HK.out.trans hk10
  clear HK
  have HK := Lib.hid hr
  clear hr
  have sz10 := hk10.size
  (try simp at sz10)
  clear hk10
  have hb := HBg.out
  have g0 := hb.cell 0
  have g1 := hb.cell 1
  have g2 := hb.cell 2
  have g3 := hb.cell 3
  have g4 := hb.cell 4
  have g5 := hb.cell 5
  have g6 := hb.cell 6
  have g7 := hb.cell 7
  have g8 := hb.cell 8
  have g9 := hb.cell 9
  have g10 := hb.cell 10
  have g11 := hb.cell 11
  have g12 := hb.cell 12
  simp at g0 g1 g2 g3 g4 g5 g6 g7 g8 g9 g10 g11 g12
  have zg := hb.lt
  clear hb
  go_wp2_with fail
  refine (HMG.out g Gg _ _ Sg.out Ng.out).mono ?_
  rintro e w11 ⟨rfl, k9, hk11⟩
  clear Ng
  have Ng := Lib.hid k9
  clear k9
  clear g0 g1 g2 g3 g4 g5 g6 g7 g8 g9 g10 g11 g12 zg
  have ha := HBa.out.keeps hk11 (fun h => by have q := Lg.out _ h; (try simp at q) <;> omega)
  clear HBa
  have HBa := Lib.hid ha
  clear ha
  have hv := HBv.out.keeps hk11 (fun h => by have q := Lg.out _ h; (try simp at q) <;> omega)
  clear HBv
  have HBv := Lib.hid hv
  clear hv
  have hx := HBx.out.keeps hk11 (fun h => by have q := Lg.out _ h; (try simp at q) <;> omega)
  clear HBx
  have HBx := Lib.hid hx
  clear hx
  have hg := HBg.out.keeps hk11 (fun h => by have q := Lg.out _ h; (try simp at q) <;> omega)
  clear HBg
  have HBg := Lib.hid hg
  clear hg
  have hr := (Ov.out).keeps hk11 (fun b hb h => by have q := Lg.out b h; have q2 := Lv.out b hb; (try simp at q q2) <;> omega)
  clear Ov
  have Ov := Lib.hid hr
  clear hr
  have hr := HK.out.then hk11 (fun i hi h => by have q := (Lg.out i h).1; (try simp at q) <;> omega)
  clear HK
  have HK := Lib.hid hr
  clear hr
  have sz11 := hk11.size
  (try simp at sz11)
  clear hk11
  have hb := HBg.out
  have g0 := hb.cell 0
  have g1 := hb.cell 1
  have g2 := hb.cell 2
  have g3 := hb.cell 3
  have g4 := hb.cell 4
  have g5 := hb.cell 5
  have g6 := hb.cell 6
  have g7 := hb.cell 7
  have g8 := hb.cell 8
  have g9 := hb.cell 9
  have g10 := hb.cell 10
  have g11 := hb.cell 11
  have g12 := hb.cell 12
  simp at g0 g1 g2 g3 g4 g5 g6 g7 g8 g9 g10 g11 g12
  have zg := hb.lt
  clear hb
  go_wp2_with fail
  refine (HHD.out g Gg _ _ Sg.out Ng.out).mono ?_
  rintro e w12 ⟨rfl, hk12⟩
  clear g0 g1 g2 g3 g4 g5 g6 g7 g8 g9 g10 g11 g12 zg
  have ha := HBa.out.keeps hk12 (fun h => h)
  clear HBa
  have HBa := Lib.hid ha
  clear ha
  have hv := HBv.out.keeps hk12 (fun h => h)
  clear HBv
  have HBv := Lib.hid hv
  clear hv
  have hx := HBx.out.keeps hk12 (fun h => h)
  clear HBx
  have HBx := Lib.hid hx
  clear hx
  have hg := HBg.out.keeps hk12 (fun h => h)
  clear HBg
  have HBg := Lib.hid hg
  clear hg
  have hr := (Ov.out).kept hk12
  clear Ov
  have Ov := Lib.hid hr
  clear hr
  have hr := (Ng.out).kept hk12
  clear Ng
  have Ng := Lib.hid hr
  clear hr
  have hr := HK.out.trans hk12
  clear HK
  have HK := Lib.hid hr
  clear hr
  have sz12 := hk12.size
  (try simp at sz12)
  clear hk12
  have hb := HBa.out
  have a0 := hb.cell 0
  have a1 := hb.cell 1
  have a2 := hb.cell 2
  have a3 := hb.cell 3
  have a4 := hb.cell 4
  have a5 := hb.cell 5
  have a6 := hb.cell 6
  have a7 := hb.cell 7
  have a8 := hb.cell 8
  have a9 := hb.cell 9
  have a10 := hb.cell 10
  have a11 := hb.cell 11
  have a12 := hb.cell 12
  simp at a0 a1 a2 a3 a4 a5 a6 a7 a8 a9 a10 a11 a12
  have za := hb.lt
  clear hb
  go_wp2_with fail
  refine (HTO.out _ HK.out).mono ?_
  rintro e w13 ⟨y, Gy, rfl, s9, o9, hk13⟩
  dsimp only [ChM.val]
  have Sy := Lib.hid s9
  have Oy := Lib.hid o9.at_
  clear s9 o9
  clear a0 a1 a2 a3 a4 a5 a6 a7 a8 a9 a10 a11 a12 za
  have ha := HBa.out.keeps hk13 (fun h => h)
  clear HBa
  have HBa := Lib.hid ha
  clear ha
  have hv := HBv.out.keeps hk13 (fun h => h)
  clear HBv
  have HBv := Lib.hid hv
  clear hv
  have hx := HBx.out.keeps hk13 (fun h => h)
  clear HBx
  have HBx := Lib.hid hx
  clear hx
  have hg := HBg.out.keeps hk13 (fun h => h)
  clear HBg
  have HBg := Lib.hid hg
  clear hg
  have hr := (Ov.out).kept hk13
  clear Ov
  have Ov := Lib.hid hr
  clear hr
  have hr := (Ng.out).kept hk13
  clear Ng
  have Ng := Lib.hid hr
  clear hr
  have hr := HK.out.trans hk13
  clear HK
  have HK := Lib.hid hr
  clear hr
  have sz13 := hk13.size
  (try simp at sz13)
  clear hk13
  have hb := HBa.out
  have a0 := hb.cell 0
  have a1 := hb.cell 1
  have a2 := hb.cell 2
  have a3 := hb.cell 3
  have a4 := hb.cell 4
  have a5 := hb.cell 5
  have a6 := hb.cell 6
  have a7 := hb.cell 7
  have a8 := hb.cell 8
  have a9 := hb.cell 9
  have a10 := hb.cell 10
  have a11 := hb.cell 11
  have a12 := hb.cell 12
  simp at a0 a1 a2 a3 a4 a5 a6 a7 a8 a9 a10 a11 a12
  have za := hb.lt
  clear hb
  go_wp2_with fail
  refine (HIM.out y _ Sy.out Oy.out (HT.out.keeps HK.out)).mono ?_
  rintro e w14 ⟨u, Gu, rfl, s9, k9, hk14⟩
  dsimp only [ChM.val]
  have Su := Lib.hid s9
  have Ou := Lib.hid k9.at_
  clear s9 k9
  clear a0 a1 a2 a3 a4 a5 a6 a7 a8 a9 a10 a11 a12 za
  have ha := HBa.out.keeps hk14 (fun h => h)
  clear HBa
  have HBa := Lib.hid ha
  clear ha
  have hv := HBv.out.keeps hk14 (fun h => h)
  clear HBv
  have HBv := Lib.hid hv
  clear hv
  have hx := HBx.out.keeps hk14 (fun h => h)
  clear HBx
  have HBx := Lib.hid hx
  clear hx
  have hg := HBg.out.keeps hk14 (fun h => h)
  clear HBg
  have HBg := Lib.hid hg
  clear hg
  have hr := (Ov.out).kept hk14
  clear Ov
  have Ov := Lib.hid hr
  clear hr
  have hr := (Ng.out).kept hk14
  clear Ng
  have Ng := Lib.hid hr
  clear hr
  have hr := (Oy.out).kept hk14
  clear Oy
  have Oy := Lib.hid hr
  clear hr
  have hr := HK.out.trans hk14
  clear HK
  have HK := Lib.hid hr
  clear hr
  have sz14 := hk14.size
  (try simp at sz14)
  clear hk14
  clear Oy Sy
  have ha := HBa.out.alloc (.cells #[.int .i64 u.id, .slice u.bk.A1 u.bk.b.own.length u.bk.c1, .slice u.bk.A2 u.bk.b.notes.length u.bk.c2, .int .i64 u.bk.b.locked, .int .i64 u.st.x.way, .int .i64 u.st.x.ver, .int .i64 u.st.x.want, .slice u.st.A1 u.st.x.sent.length u.st.c1, .slice u.st.A2 u.st.x.live.length u.st.c2, .slice u.st.A3 u.st.x.back.length u.st.c3, .slice u.st.A4 u.st.x.got.length u.st.c4, .slice u.pA u.past.length u.pc, .slice u.kA u.knows.length u.kc] 40)
  clear HBa
  have HBa := Lib.hid ha
  clear ha
  have hv := HBv.out.alloc (.cells #[.int .i64 u.id, .slice u.bk.A1 u.bk.b.own.length u.bk.c1, .slice u.bk.A2 u.bk.b.notes.length u.bk.c2, .int .i64 u.bk.b.locked, .int .i64 u.st.x.way, .int .i64 u.st.x.ver, .int .i64 u.st.x.want, .slice u.st.A1 u.st.x.sent.length u.st.c1, .slice u.st.A2 u.st.x.live.length u.st.c2, .slice u.st.A3 u.st.x.back.length u.st.c3, .slice u.st.A4 u.st.x.got.length u.st.c4, .slice u.pA u.past.length u.pc, .slice u.kA u.knows.length u.kc] 40)
  clear HBv
  have HBv := Lib.hid hv
  clear hv
  have hx := HBx.out.alloc (.cells #[.int .i64 u.id, .slice u.bk.A1 u.bk.b.own.length u.bk.c1, .slice u.bk.A2 u.bk.b.notes.length u.bk.c2, .int .i64 u.bk.b.locked, .int .i64 u.st.x.way, .int .i64 u.st.x.ver, .int .i64 u.st.x.want, .slice u.st.A1 u.st.x.sent.length u.st.c1, .slice u.st.A2 u.st.x.live.length u.st.c2, .slice u.st.A3 u.st.x.back.length u.st.c3, .slice u.st.A4 u.st.x.got.length u.st.c4, .slice u.pA u.past.length u.pc, .slice u.kA u.knows.length u.kc] 40)
  clear HBx
  have HBx := Lib.hid hx
  clear hx
  have hg := HBg.out.alloc (.cells #[.int .i64 u.id, .slice u.bk.A1 u.bk.b.own.length u.bk.c1, .slice u.bk.A2 u.bk.b.notes.length u.bk.c2, .int .i64 u.bk.b.locked, .int .i64 u.st.x.way, .int .i64 u.st.x.ver, .int .i64 u.st.x.want, .slice u.st.A1 u.st.x.sent.length u.st.c1, .slice u.st.A2 u.st.x.live.length u.st.c2, .slice u.st.A3 u.st.x.back.length u.st.c3, .slice u.st.A4 u.st.x.got.length u.st.c4, .slice u.pA u.past.length u.pc, .slice u.kA u.knows.length u.kc] 40)
  clear HBg
  have HBg := Lib.hid hg
  clear hg
  have hr := (Ov.out).kept ((Keeps.refl noBlk w14).alloc (.cells #[.int .i64 u.id, .slice u.bk.A1 u.bk.b.own.length u.bk.c1, .slice u.bk.A2 u.bk.b.notes.length u.bk.c2, .int .i64 u.bk.b.locked, .int .i64 u.st.x.way, .int .i64 u.st.x.ver, .int .i64 u.st.x.want, .slice u.st.A1 u.st.x.sent.length u.st.c1, .slice u.st.A2 u.st.x.live.length u.st.c2, .slice u.st.A3 u.st.x.back.length u.st.c3, .slice u.st.A4 u.st.x.got.length u.st.c4, .slice u.pA u.past.length u.pc, .slice u.kA u.knows.length u.kc] 40))
  clear Ov
  have Ov := Lib.hid hr
  clear hr
  have hr := (Ng.out).kept ((Keeps.refl noBlk w14).alloc (.cells #[.int .i64 u.id, .slice u.bk.A1 u.bk.b.own.length u.bk.c1, .slice u.bk.A2 u.bk.b.notes.length u.bk.c2, .int .i64 u.bk.b.locked, .int .i64 u.st.x.way, .int .i64 u.st.x.ver, .int .i64 u.st.x.want, .slice u.st.A1 u.st.x.sent.length u.st.c1, .slice u.st.A2 u.st.x.live.length u.st.c2, .slice u.st.A3 u.st.x.back.length u.st.c3, .slice u.st.A4 u.st.x.got.length u.st.c4, .slice u.pA u.past.length u.pc, .slice u.kA u.knows.length u.kc] 40))
  clear Ng
  have Ng := Lib.hid hr
  clear hr
  have hr := (Ou.out).kept ((Keeps.refl noBlk w14).alloc (.cells #[.int .i64 u.id, .slice u.bk.A1 u.bk.b.own.length u.bk.c1, .slice u.bk.A2 u.bk.b.notes.length u.bk.c2, .int .i64 u.bk.b.locked, .int .i64 u.st.x.way, .int .i64 u.st.x.ver, .int .i64 u.st.x.want, .slice u.st.A1 u.st.x.sent.length u.st.c1, .slice u.st.A2 u.st.x.live.length u.st.c2, .slice u.st.A3 u.st.x.back.length u.st.c3, .slice u.st.A4 u.st.x.got.length u.st.c4, .slice u.pA u.past.length u.pc, .slice u.kA u.knows.length u.kc] 40))
  clear Ou
  have Ou := Lib.hid hr
  clear hr
  have hr := HK.out.alloc (.cells #[.int .i64 u.id, .slice u.bk.A1 u.bk.b.own.length u.bk.c1, .slice u.bk.A2 u.bk.b.notes.length u.bk.c2, .int .i64 u.bk.b.locked, .int .i64 u.st.x.way, .int .i64 u.st.x.ver, .int .i64 u.st.x.want, .slice u.st.A1 u.st.x.sent.length u.st.c1, .slice u.st.A2 u.st.x.live.length u.st.c2, .slice u.st.A3 u.st.x.back.length u.st.c3, .slice u.st.A4 u.st.x.got.length u.st.c4, .slice u.pA u.past.length u.pc, .slice u.kA u.knows.length u.kc] 40)
  clear HK
  have HK := Lib.hid hr
  clear hr
  have HBu := Lib.hid (Box.new w14 _ rfl 40 #[.int .i64 u.id, .slice u.bk.A1 u.bk.b.own.length u.bk.c1, .slice u.bk.A2 u.bk.b.notes.length u.bk.c2, .int .i64 u.bk.b.locked, .int .i64 u.st.x.way, .int .i64 u.st.x.ver, .int .i64 u.st.x.want, .slice u.st.A1 u.st.x.sent.length u.st.c1, .slice u.st.A2 u.st.x.live.length u.st.c2, .slice u.st.A3 u.st.x.back.length u.st.c3, .slice u.st.A4 u.st.x.got.length u.st.c4, .slice u.pA u.past.length u.pc, .slice u.kA u.knows.length u.kc])
  have hb := HBv.out
  have v0 := hb.cell 0
  have v1 := hb.cell 1
  have v2 := hb.cell 2
  have v3 := hb.cell 3
  have v4 := hb.cell 4
  have v5 := hb.cell 5
  have v6 := hb.cell 6
  have v7 := hb.cell 7
  have v8 := hb.cell 8
  have v9 := hb.cell 9
  have v10 := hb.cell 10
  have v11 := hb.cell 11
  have v12 := hb.cell 12
  simp at v0 v1 v2 v3 v4 v5 v6 v7 v8 v9 v10 v11 v12
  have zv := hb.lt
  clear hb
  have hb := HBu.out
  have u0 := hb.cell 0
  have u1 := hb.cell 1
  have u2 := hb.cell 2
  have u3 := hb.cell 3
  have u4 := hb.cell 4
  have u5 := hb.cell 5
  have u6 := hb.cell 6
  have u7 := hb.cell 7
  have u8 := hb.cell 8
  have u9 := hb.cell 9
  have u10 := hb.cell 10
  have u11 := hb.cell 11
  have u12 := hb.cell 12
  simp at u0 u1 u2 u3 u4 u5 u6 u7 u8 u9 u10 u11 u12
  have zu := hb.lt
  clear hb
  go_wp2_with fail
  refine (HEQ2.out u v _ Su.out Sv.out Ou.out Ov.out).mono ?_
  rintro e w15 ⟨rfl, hk15⟩
  clear v0 v1 v2 v3 v4 v5 v6 v7 v8 v9 v10 v11 v12 u0 u1 u2 u3 u4 u5 u6 u7 u8 u9 u10 u11 u12 zv zu
  have ha := HBa.out.keeps hk15 (fun h => h)
  clear HBa
  have HBa := Lib.hid ha
  clear ha
  have hv := HBv.out.keeps hk15 (fun h => h)
  clear HBv
  have HBv := Lib.hid hv
  clear hv
  have hx := HBx.out.keeps hk15 (fun h => h)
  clear HBx
  have HBx := Lib.hid hx
  clear hx
  have hg := HBg.out.keeps hk15 (fun h => h)
  clear HBg
  have HBg := Lib.hid hg
  clear hg
  have hu := HBu.out.keeps hk15 (fun h => h)
  clear HBu
  have HBu := Lib.hid hu
  clear hu
  have hr := (Ov.out).kept hk15
  clear Ov
  have Ov := Lib.hid hr
  clear hr
  have hr := (Ng.out).kept hk15
  clear Ng
  have Ng := Lib.hid hr
  clear hr
  have hr := (Ou.out).kept hk15
  clear Ou
  have Ou := Lib.hid hr
  clear hr
  have hr := HK.out.trans hk15
  clear HK
  have HK := Lib.hid hr
  clear hr
  have sz15 := hk15.size
  (try simp at sz15)
  clear hk15
  have hb := HBg.out
  have g0 := hb.cell 0
  have g1 := hb.cell 1
  have g2 := hb.cell 2
  have g3 := hb.cell 3
  have g4 := hb.cell 4
  have g5 := hb.cell 5
  have g6 := hb.cell 6
  have g7 := hb.cell 7
  have g8 := hb.cell 8
  have g9 := hb.cell 9
  have g10 := hb.cell 10
  have g11 := hb.cell 11
  have g12 := hb.cell 12
  simp at g0 g1 g2 g3 g4 g5 g6 g7 g8 g9 g10 g11 g12
  have zg := hb.lt
  clear hb
  go_wp2_with fail
  refine (HHD.out g Gg _ _ Sg.out Ng.out).mono ?_
  rintro e w16 ⟨rfl, hk16⟩
  clear g0 g1 g2 g3 g4 g5 g6 g7 g8 g9 g10 g11 g12 zg
  have ha := HBa.out.keeps hk16 (fun h => h)
  clear HBa
  have HBa := Lib.hid ha
  clear ha
  have hv := HBv.out.keeps hk16 (fun h => h)
  clear HBv
  have HBv := Lib.hid hv
  clear hv
  have hx := HBx.out.keeps hk16 (fun h => h)
  clear HBx
  have HBx := Lib.hid hx
  clear hx
  have hg := HBg.out.keeps hk16 (fun h => h)
  clear HBg
  have HBg := Lib.hid hg
  clear hg
  have hu := HBu.out.keeps hk16 (fun h => h)
  clear HBu
  have HBu := Lib.hid hu
  clear hu
  have hr := (Ov.out).kept hk16
  clear Ov
  have Ov := Lib.hid hr
  clear hr
  have hr := (Ng.out).kept hk16
  clear Ng
  have Ng := Lib.hid hr
  clear hr
  have hr := (Ou.out).kept hk16
  clear Ou
  have Ou := Lib.hid hr
  clear hr
  have hr := HK.out.trans hk16
  clear HK
  have HK := Lib.hid hr
  clear hr
  have sz16 := hk16.size
  (try simp at sz16)
  clear hk16
  go_wp2
  go_ret
  exact ⟨rfl, HK.out.below⟩
end Go.Proofs.YtbgpclicflafaaaDoor
