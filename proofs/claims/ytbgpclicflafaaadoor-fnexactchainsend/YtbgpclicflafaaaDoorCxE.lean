/- eqStateS, eqChain of the laws, of two chains that hold the same. -/
import Derived.Test.YtbgpclicflafaaaDoorCxM
import Derived.Test.YtbgpclicflafaaaDoorUEM
import Derived.Test.YtbgpclicflafaaaDoorUMem
set_option linter.unusedVariables false
set_option linter.unusedSimpArgs false
namespace Go.Proofs.YtbgpclicflafaaaDoor
open Go.RowKit

/-- Two lists of states hold the same. -/
def SameS (ps qs : List StM) : Prop := ps.length = qs.length ∧ ∀ i, i < ps.length → (ps.getD i stm0).x = (qs.getD i stm0).x
theorem SameS.refl (ps : List StM) : SameS ps ps := ⟨rfl, fun _ _ => rfl⟩
theorem SameS.symm {ps qs : List StM} (h : SameS ps qs) : SameS qs ps := ⟨h.1.symm, fun i hi => (h.2 i (by rw [h.1]; exact hi)).symm⟩
theorem SameS.trans {ps qs rs : List StM} (h : SameS ps qs) (k : SameS qs rs) : SameS ps rs := ⟨h.1.trans k.1, fun i hi => (h.2 i hi).trans (k.2 i (by rw [← h.1]; exact hi))⟩
set_option maxHeartbeats 2000000 in
theorem eqStateS_same (A B : Option Addr) (n c d : Nat) (ps qs : List StM) (w : World) (ha : Pas w A n ps) (hb : Pas w B n qs) (hs : SameS ps qs) (hpa : ∀ s ∈ ps, s.At w) (hqa : ∀ s ∈ qs, s.At w) (hn : n ≤ maxLen) :
    Calls Tryd.prog 66 #[.slice A n c, .slice B n d] w fun e w' => e = .returned (.bool true) ∧ Keeps noBlk w w' := by
  unfold maxLen at hn
  have hl := Lib.hid ha.1
  have hl2 := Lib.hid hb.1
  have HA := Lib.hid ha
  have HB := Lib.hid hb
  have HS := Lib.hid hs
  have HP := Lib.hid hpa
  have HQ := Lib.hid hqa
  clear ha hb hs hpa hqa
  go_enter Tryd.func66, Tryd.ntmps66
  go_wp2
  go_loopw [5] (fun i wr => ∃ k : Nat, k ≤ n ∧ i = .int .i64 k ∧ Keeps noBlk w wr) (fun i _ => n - (intOf i).toNat)
  case atStart => exact ⟨0, Nat.zero_le _, rfl, Keeps.refl _ _⟩
  case round =>
    obtain ⟨k, hk, rfl, hkp⟩ := hrel
    have HK := Lib.hid hkp
    clear hkp
    by_cases hlt : k < n
    · obtain ⟨b1, o1, rfl, _, q0, q1, q2, q3, q4, q5, q6⟩ := (HA.out.kept HK.out).at_ hlt
      obtain ⟨b2, o2, rfl, _, r0, r1, r2, r3, r4, r5, r6⟩ := (HB.out.kept HK.out).at_ hlt
      have hx := HS.out.2 k (by rw [hl.out]; exact hlt)
      have H1 := Lib.hid ((HP.out _ (getD_mem' stm0 (by rw [hl.out]; exact hlt : k < ps.length))).kept HK.out)
      have H2 := Lib.hid ((HQ.out _ (getD_mem' stm0 (by rw [hl2.out]; exact hlt : k < qs.length))).kept HK.out)
      generalize ps.getD k stm0 = p at q0 q1 q2 q3 q4 q5 q6 hx H1
      generalize qs.getD k stm0 = q at r0 r1 r2 r3 r4 r5 r6 hx H2
      obtain ⟨x, A1, A2, A3, A4, c1, c2, c3, c4⟩ := p
      obtain ⟨y, B1, B2, B3, B4, d1, d2, d3, d4⟩ := q
      dsimp only [StM.At] at q0 q1 q2 q3 q4 q5 q6 r0 r1 r2 r3 r4 r5 r6 hx H1 H2
      subst hx
      have hcall := Lib.hid (fun W (hk : Keeps noBlk wr W) => eqState_same x A1 A2 A3 A4 B1 B2 B3 B4 c1 c2 c3 c4 d1 d2 d3 d4 W (H1.out.kept hk) (H2.out.kept hk))
      unfold stV at hcall
      have q0 := fun U : GW wr => GW.cell q0 U
      have q1 := fun U : GW wr => GW.cell q1 U
      have q2 := fun U : GW wr => GW.cell q2 U
      have q3 := fun U : GW wr => GW.cell q3 U
      have q4 := fun U : GW wr => GW.cell q4 U
      have q5 := fun U : GW wr => GW.cell q5 U
      have q6 := fun U : GW wr => GW.cell q6 U
      have r0 := fun U : GW wr => GW.cell r0 U
      have r1 := fun U : GW wr => GW.cell r1 U
      have r2 := fun U : GW wr => GW.cell r2 U
      have r3 := fun U : GW wr => GW.cell r3 U
      have r4 := fun U : GW wr => GW.cell r4 U
      have r5 := fun U : GW wr => GW.cell r5 U
      have r6 := fun U : GW wr => GW.cell r6 U
      go_wp2_with fail
      refine wp_region_grow (by kernel_rfl) (by kernel_rfl) ?_
      repeat (go_big_quiet_step ((go_at_call 27; exact Calls.grow _ (hcall.out _ (GW.keep _)))))
      refine wpQuiet_nil ?_
      rintro _ ⟨U1, rfl⟩
      have HK1 := Lib.hid (HK.out.trans U1.keep)
      go_wp2
      go_roundw
      case rel => exact ⟨k + 1, by omega, by go_num, HK1.out⟩
      case measure => simp [intOf]; omega
    · go_wp2
      go_ret
      exact ⟨rfl, HK.out⟩

/-- Two chains hold the same. -/
structure SameC (c d : ChM) : Prop where
  id : c.id = d.id
  bk : c.bk.b = d.bk.b
  st : c.st.x = d.st.x
  past : SameS c.past d.past
  knows : c.knows = d.knows

set_option maxRecDepth 100000 in
set_option maxHeartbeats 4000000 in
theorem eqChain_same (c d : ChM) (w : World) (ha : ChAt w c) (hb : ChAt w d) (hs : SameC c d) :
    Calls Tryd.prog 18 #[c.val, d.val] w fun e w' => e = .returned (.bool true) ∧ Keeps noBlk w w' := by
  have F1 := Lib.hid (fun W (hk : Keeps noBlk w W) => eqBank_yes c.bk.A1 c.bk.A2 d.bk.A1 d.bk.A2 _ _ c.bk.c1 c.bk.c2 d.bk.c1 d.bk.c2 c.bk.b.locked _ _ W (ha.kept hk).own (by rw [hs.bk]; exact (hb.kept hk).own) (ha.kept hk).notes (by rw [hs.bk]; exact (hb.kept hk).notes) ha.m1 ha.m2)
  have F2 := Lib.hid (fun W (hk : Keeps noBlk w W) => eqState_same c.st.x c.st.A1 c.st.A2 c.st.A3 c.st.A4 d.st.A1 d.st.A2 d.st.A3 d.st.A4 c.st.c1 c.st.c2 c.st.c3 c.st.c4 d.st.c1 d.st.c2 d.st.c3 d.st.c4 W (ha.kept hk).st (by rw [hs.st]; exact (hb.kept hk).st))
  have F3 := Lib.hid (fun W (hk : Keeps noBlk w W) => eqStateS_same c.pA d.pA _ c.pc d.pc c.past d.past W (ha.kept hk).row (by rw [hs.past.1]; exact (hb.kept hk).row) hs.past (ha.kept hk).past (hb.kept hk).past ha.m3)
  have F4 := Lib.hid (fun W (hk : Keeps noBlk w W) => eqIntS_yes c.kA d.kA _ c.kc d.kc c.knows W (ha.kept hk).knows (by rw [hs.knows]; exact (hb.kept hk).knows) ha.m4)
  have hl := hs.past.1
  obtain ⟨s1, s2, s3, _, s5⟩ := hs
  clear ha hb
  obtain ⟨id, ⟨⟨own, notes, lk⟩, ua1, ua2, ue1, ue2⟩, ⟨x, uA1, uA2, uA3, uA4, uc1, uc2, uc3, uc4⟩, upast, upA, upc, knows, ukA, ukc⟩ := c
  obtain ⟨id', ⟨⟨own', notes', lk'⟩, va1, va2, ve1, ve2⟩, ⟨x', vA1, vA2, vA3, vA4, vc1, vc2, vc3, vc4⟩, vpast, vpA, vpc, knows', vkA, vkc⟩ := d
  dsimp only at s1 s2 s3 s5 hl F1 F2 F3 F4
  injection s2 with s2 s6 s7
  subst s1 s2 s3 s5 s6 s7
  unfold ChM.val
  dsimp only
  unfold stV at F2
  rw [← hl]
  generalize upast.length = n at F3
  clear hl
  have HBa := Lib.hid ((Box.new w _ rfl 40 #[.int .i64 id, .slice ua1 own.length ue1, .slice ua2 notes.length ue2, .int .i64 lk, .int .i64 x.way, .int .i64 x.ver, .int .i64 x.want, .slice uA1 x.sent.length uc1, .slice uA2 x.live.length uc2, .slice uA3 x.back.length uc3, .slice uA4 x.got.length uc4, .slice upA n upc, .slice ukA knows.length ukc]).alloc (.cells #[.int .i64 id, .slice va1 own.length ve1, .slice va2 notes.length ve2, .int .i64 lk, .int .i64 x.way, .int .i64 x.ver, .int .i64 x.want, .slice vA1 x.sent.length vc1, .slice vA2 x.live.length vc2, .slice vA3 x.back.length vc3, .slice vA4 x.got.length vc4, .slice vpA n vpc, .slice vkA knows.length vkc] 40))
  have HBb := Lib.hid (Box.new (w.alloc (.cells #[.int .i64 id, .slice ua1 own.length ue1, .slice ua2 notes.length ue2, .int .i64 lk, .int .i64 x.way, .int .i64 x.ver, .int .i64 x.want, .slice uA1 x.sent.length uc1, .slice uA2 x.live.length uc2, .slice uA3 x.back.length uc3, .slice uA4 x.got.length uc4, .slice upA n upc, .slice ukA knows.length ukc] 40)) (w.heap.size + 1) (by simp) 40 #[.int .i64 id, .slice va1 own.length ve1, .slice va2 notes.length ve2, .int .i64 lk, .int .i64 x.way, .int .i64 x.ver, .int .i64 x.want, .slice vA1 x.sent.length vc1, .slice vA2 x.live.length vc2, .slice vA3 x.back.length vc3, .slice vA4 x.got.length vc4, .slice vpA n vpc, .slice vkA knows.length vkc])
  have HK := Lib.hid (((Keeps.refl noBlk w).alloc (.cells #[.int .i64 id, .slice ua1 own.length ue1, .slice ua2 notes.length ue2, .int .i64 lk, .int .i64 x.way, .int .i64 x.ver, .int .i64 x.want, .slice uA1 x.sent.length uc1, .slice uA2 x.live.length uc2, .slice uA3 x.back.length uc3, .slice uA4 x.got.length uc4, .slice upA n upc, .slice ukA knows.length ukc] 40)).alloc (.cells #[.int .i64 id, .slice va1 own.length ve1, .slice va2 notes.length ve2, .int .i64 lk, .int .i64 x.way, .int .i64 x.ver, .int .i64 x.want, .slice vA1 x.sent.length vc1, .slice vA2 x.live.length vc2, .slice vA3 x.back.length vc3, .slice vA4 x.got.length vc4, .slice vpA n vpc, .slice vkA knows.length vkc] 40))
  go_enter Tryd.func18, Tryd.ntmps18
  go_wp2_with fail
  refine (F1.out _ HK.out).mono ?_
  rintro e w1 ⟨rfl, hk1⟩
  have ha := HBa.out.keeps hk1 (fun h => h)
  clear HBa
  have HBa := Lib.hid ha
  clear ha
  have hb := HBb.out.keeps hk1 (fun h => h)
  clear HBb
  have HBb := Lib.hid hb
  clear hb
  have hr := HK.out.trans hk1
  clear HK
  have HK := Lib.hid hr
  clear hr
  have sz1 := hk1.size
  (try simp at sz1)
  clear hk1
  have hb := HBa.out
  have a0 := hb.cell 0
  have a1 := hb.cell 1
  have a2 := hb.cell 2
  have a3 := hb.cell 3
  have a4 := hb.cell 4
  have a5 := hb.cell 5
  have a6 := hb.cell 6
  have a7 := hb.cell 7
  have a8 := hb.cell 8
  have a9 := hb.cell 9
  have a10 := hb.cell 10
  have a11 := hb.cell 11
  have a12 := hb.cell 12
  simp at a0 a1 a2 a3 a4 a5 a6 a7 a8 a9 a10 a11 a12
  have za := hb.lt
  clear hb
  have hb := HBb.out
  have b0 := hb.cell 0
  have b1 := hb.cell 1
  have b2 := hb.cell 2
  have b3 := hb.cell 3
  have b4 := hb.cell 4
  have b5 := hb.cell 5
  have b6 := hb.cell 6
  have b7 := hb.cell 7
  have b8 := hb.cell 8
  have b9 := hb.cell 9
  have b10 := hb.cell 10
  have b11 := hb.cell 11
  have b12 := hb.cell 12
  simp at b0 b1 b2 b3 b4 b5 b6 b7 b8 b9 b10 b11 b12
  have zb := hb.lt
  clear hb
  go_wp2_with fail
  refine (F2.out _ HK.out).mono ?_
  rintro e w2 ⟨rfl, hk2⟩
  clear a0 a1 a2 a3 a4 a5 a6 a7 a8 a9 a10 a11 a12 b0 b1 b2 b3 b4 b5 b6 b7 b8 b9 b10 b11 b12 za zb
  have ha := HBa.out.keeps hk2 (fun h => h)
  clear HBa
  have HBa := Lib.hid ha
  clear ha
  have hb := HBb.out.keeps hk2 (fun h => h)
  clear HBb
  have HBb := Lib.hid hb
  clear hb
  have hr := HK.out.trans hk2
  clear HK
  have HK := Lib.hid hr
  clear hr
  have sz2 := hk2.size
  (try simp at sz2)
  clear hk2
  have hb := HBa.out
  have a0 := hb.cell 0
  have a1 := hb.cell 1
  have a2 := hb.cell 2
  have a3 := hb.cell 3
  have a4 := hb.cell 4
  have a5 := hb.cell 5
  have a6 := hb.cell 6
  have a7 := hb.cell 7
  have a8 := hb.cell 8
  have a9 := hb.cell 9
  have a10 := hb.cell 10
  have a11 := hb.cell 11
  have a12 := hb.cell 12
  simp at a0 a1 a2 a3 a4 a5 a6 a7 a8 a9 a10 a11 a12
  have za := hb.lt
  clear hb
  have hb := HBb.out
  have b0 := hb.cell 0
  have b1 := hb.cell 1
  have b2 := hb.cell 2
  have b3 := hb.cell 3
  have b4 := hb.cell 4
  have b5 := hb.cell 5
  have b6 := hb.cell 6
  have b7 := hb.cell 7
  have b8 := hb.cell 8
  have b9 := hb.cell 9
  have b10 := hb.cell 10
  have b11 := hb.cell 11
  have b12 := hb.cell 12
  simp at b0 b1 b2 b3 b4 b5 b6 b7 b8 b9 b10 b11 b12
  have zb := hb.lt
  clear hb
  go_wp2_with fail
  refine (F3.out _ HK.out).mono ?_
  rintro e w3 ⟨rfl, hk3⟩
  clear a0 a1 a2 a3 a4 a5 a6 a7 a8 a9 a10 a11 a12 b0 b1 b2 b3 b4 b5 b6 b7 b8 b9 b10 b11 b12 za zb
  have ha := HBa.out.keeps hk3 (fun h => h)
  clear HBa
  have HBa := Lib.hid ha
  clear ha
  have hb := HBb.out.keeps hk3 (fun h => h)
  clear HBb
  have HBb := Lib.hid hb
  clear hb
  have hr := HK.out.trans hk3
  clear HK
  have HK := Lib.hid hr
  clear hr
  have sz3 := hk3.size
  (try simp at sz3)
  clear hk3
  have hb := HBa.out
  have a0 := hb.cell 0
  have a1 := hb.cell 1
  have a2 := hb.cell 2
  have a3 := hb.cell 3
  have a4 := hb.cell 4
  have a5 := hb.cell 5
  have a6 := hb.cell 6
  have a7 := hb.cell 7
  have a8 := hb.cell 8
  have a9 := hb.cell 9
  have a10 := hb.cell 10
  have a11 := hb.cell 11
  have a12 := hb.cell 12
  simp at a0 a1 a2 a3 a4 a5 a6 a7 a8 a9 a10 a11 a12
  have za := hb.lt
  clear hb
  have hb := HBb.out
  have b0 := hb.cell 0
  have b1 := hb.cell 1
  have b2 := hb.cell 2
  have b3 := hb.cell 3
  have b4 := hb.cell 4
  have b5 := hb.cell 5
  have b6 := hb.cell 6
  have b7 := hb.cell 7
  have b8 := hb.cell 8
  have b9 := hb.cell 9
  have b10 := hb.cell 10
  have b11 := hb.cell 11
  have b12 := hb.cell 12
  simp at b0 b1 b2 b3 b4 b5 b6 b7 b8 b9 b10 b11 b12
  have zb := hb.lt
  clear hb
  go_wp2_with fail
  refine (F4.out _ HK.out).mono ?_
  rintro e w4 ⟨rfl, hq4⟩
  have hk4 := hq4.keeps noBlk
  clear a0 a1 a2 a3 a4 a5 a6 a7 a8 a9 a10 a11 a12 b0 b1 b2 b3 b4 b5 b6 b7 b8 b9 b10 b11 b12 za zb
  have ha := HBa.out.keeps hk4 (fun h => h)
  clear HBa
  have HBa := Lib.hid ha
  clear ha
  have hb := HBb.out.keeps hk4 (fun h => h)
  clear HBb
  have HBb := Lib.hid hb
  clear hb
  have hr := HK.out.trans hk4
  clear HK
  have HK := Lib.hid hr
  clear hr
  have sz4 := hk4.size
  (try simp at sz4)
  clear hk4
  go_wp2
  go_ret
  exact ⟨rfl, HK.out⟩
end Go.Proofs.YtbgpclicflafaaaDoor
