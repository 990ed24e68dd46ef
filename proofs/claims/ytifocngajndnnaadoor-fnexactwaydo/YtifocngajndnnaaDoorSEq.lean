/- eqState of the laws, of two states that hold the same. -/
import Derived.Test.YtifocngajndnnaaDoorSTo
import Derived.Test.YtifocngajndnnaaDoorEq
set_option linter.unusedVariables false
set_option linter.unusedSimpArgs false
namespace Go.Proofs.YtifocngajndnnaaDoor
open Go.RowKit

set_option maxHeartbeats 400000 in
theorem eqPacket_same (s k f t m u v : Int) (w : World) : Calls Tryd.prog 92 #[.agg #[.int .i64 s, .int .i64 k, .int .i64 f, .int .i64 t, .int .i64 m, .int .i64 u, .int .i64 v], .agg #[.int .i64 s, .int .i64 k, .int .i64 f, .int .i64 t, .int .i64 m, .int .i64 u, .int .i64 v]] w fun e w' => e = .returned (.bool true) ∧ Keeps noBlk w w' := by
  go_enter Tryd.func92, Tryd.ntmps92
  go_wp2
  go_ret
  exact ⟨rfl, ((Keeps.refl _ _).alloc _).alloc _⟩

set_option maxHeartbeats 400000 in
theorem eqBoolS_same (A B : Option Addr) (n c d : Nat) (xs : List Bool) (w : World) (ha : Bools w A n xs) (hb : Bools w B n xs) (hn : n ≤ maxLen) :
    Calls Tryd.prog 54 #[.slice A n c, .slice B n d] w fun e w' => e = .returned (.bool true) ∧ Qt w w' := by
  unfold maxLen at hn
  have HA := Lib.hid ha
  have HB := Lib.hid hb
  clear ha hb
  go_enter Tryd.func54, Tryd.ntmps54
  go_wp2
  go_loopw [5] (fun i wr => ∃ k : Nat, k ≤ n ∧ i = .int .i64 k ∧ Qt w wr) (fun i _ => n - (intOf i).toNat)
  case atStart => exact ⟨0, Nat.zero_le _, rfl, Qt.refl _⟩
  case round =>
    obtain ⟨k, hk, rfl, q, rfl⟩ := hrel
    by_cases hlt : k < n
    · obtain ⟨b1, o1, rfl, _, hc1⟩ := HA.out.at_ hlt
      obtain ⟨b2, o2, rfl, _, hc2⟩ := HB.out.at_ hlt
      generalize xs.getD k false = y at hc1 hc2
      cases y with
      | false =>
        go_wp2
        go_quiet (fail)
        go_wp2
        go_roundw
        case rel => exact ⟨k + 1, by omega, by go_num, Qt.of _ _⟩
        case measure => simp [intOf]; omega
      | true =>
        go_wp2
        go_quiet (fail)
        go_wp2
        go_roundw
        case rel => exact ⟨k + 1, by omega, by go_num, Qt.of _ _⟩
        case measure => simp [intOf]; omega
    · go_wp2
      go_ret
      exact ⟨rfl, Qt.of _ _⟩
/-! packets -/
set_option maxHeartbeats 1000000 in
theorem eqPacketS_same (A B : Option Addr) (n c d : Nat) (ps : List Pk) (w : World) (ha : Pks w A n ps) (hb : Pks w B n ps) (hn : n ≤ maxLen) :
    Calls Tryd.prog 53 #[.slice A n c, .slice B n d] w fun e w' => e = .returned (.bool true) ∧ Keeps noBlk w w' := by
  unfold maxLen at hn
  have HA := Lib.hid ha
  have HB := Lib.hid hb
  clear ha hb
  go_enter Tryd.func53, Tryd.ntmps53
  go_wp2
  go_loopw [5] (fun i wr => ∃ k : Nat, k ≤ n ∧ i = .int .i64 k ∧ Keeps noBlk w wr) (fun i _ => n - (intOf i).toNat)
  case atStart => exact ⟨0, Nat.zero_le _, rfl, Keeps.refl _ _⟩
  case round =>
    obtain ⟨k, hk, rfl, hkp⟩ := hrel
    have HK := Lib.hid hkp
    clear hkp
    by_cases hlt : k < n
    · obtain ⟨b1, o1, rfl, _, q0, q1, q2, q3, q4, q5, q6⟩ := (HA.out.keeps HK.out fun _ _ h => h).at_ hlt
      obtain ⟨b2, o2, rfl, _, r0, r1, r2, r3, r4, r5, r6⟩ := (HB.out.keeps HK.out fun _ _ h => h).at_ hlt
      generalize ps.getD k pk0 = p at q0 q1 q2 q3 q4 q5 q6 r0 r1 r2 r3 r4 r5 r6
      obtain ⟨s, kd, f, t, m, u, v⟩ := p
      dsimp only at q0 q1 q2 q3 q4 q5 q6 r0 r1 r2 r3 r4 r5 r6
      have q0 := fun U : GW wr => GW.cell q0 U
      have q1 := fun U : GW wr => GW.cell q1 U
      have q2 := fun U : GW wr => GW.cell q2 U
      have q3 := fun U : GW wr => GW.cell q3 U
      have q4 := fun U : GW wr => GW.cell q4 U
      have q5 := fun U : GW wr => GW.cell q5 U
      have q6 := fun U : GW wr => GW.cell q6 U
      have r0 := fun U : GW wr => GW.cell r0 U
      have r1 := fun U : GW wr => GW.cell r1 U
      have r2 := fun U : GW wr => GW.cell r2 U
      have r3 := fun U : GW wr => GW.cell r3 U
      have r4 := fun U : GW wr => GW.cell r4 U
      have r5 := fun U : GW wr => GW.cell r5 U
      have r6 := fun U : GW wr => GW.cell r6 U
      go_wp2_with fail
      refine wp_region_grow (by kernel_rfl) (by kernel_rfl) ?_
      repeat (go_big_quiet_step ((go_at_call 92; exact Calls.grow _ (eqPacket_same s kd f t m u v _))))
      refine wpQuiet_nil ?_
      rintro _ ⟨U1, rfl⟩
      have HK1 := Lib.hid (HK.out.trans U1.keep)
      go_wp2
      go_roundw
      case rel => exact ⟨k + 1, by omega, by go_num, HK1.out⟩
      case measure => simp [intOf]; omega
    · go_wp2
      go_ret
      exact ⟨rfl, HK.out⟩

theorem qt_keep {w w' : World} {e : Ending} {v : Value} (h : e = .returned v ∧ Qt w w') : e = .returned v ∧ Keeps noBlk w w' := ⟨h.1, h.2.keeps _⟩
set_option maxHeartbeats 2000000 in
theorem eqState_same (x : StL) (A1 A2 A3 A4 B1 B2 B3 B4 : Option Addr) (c1 c2 c3 c4 d1 d2 d3 d4 : Nat) (w : World) (ha : StAt w x A1 A2 A3 A4) (hb : StAt w x B1 B2 B3 B4) :
    Calls Tryd.prog 16 #[stV x A1 A2 A3 A4 c1 c2 c3 c4, stV x B1 B2 B3 B4 d1 d2 d3 d4] w fun e w' => e = .returned (.bool true) ∧ Keeps noBlk w w' := by
  have HA := Lib.hid ha
  have HB := Lib.hid hb
  clear ha hb
  have X0 := Lib.hid ((Box.new w _ rfl 31 #[.int .i64 x.way, .int .i64 x.ver, .int .i64 x.want, .slice A1 x.sent.length c1, .slice A2 x.live.length c2, .slice A3 x.back.length c3, .slice A4 x.got.length c4]).alloc (.cells #[.int .i64 x.way, .int .i64 x.ver, .int .i64 x.want, .slice B1 x.sent.length d1, .slice B2 x.live.length d2, .slice B3 x.back.length d3, .slice B4 x.got.length d4] 31))
  have Y0 := Lib.hid (Box.new (w.alloc (.cells #[.int .i64 x.way, .int .i64 x.ver, .int .i64 x.want, .slice A1 x.sent.length c1, .slice A2 x.live.length c2, .slice A3 x.back.length c3, .slice A4 x.got.length c4] 31)) (w.heap.size + 1) (by simp) 31 #[.int .i64 x.way, .int .i64 x.ver, .int .i64 x.want, .slice B1 x.sent.length d1, .slice B2 x.live.length d2, .slice B3 x.back.length d3, .slice B4 x.got.length d4])
  have HK0 := Lib.hid (((Keeps.refl noBlk w).alloc (.cells #[.int .i64 x.way, .int .i64 x.ver, .int .i64 x.want, .slice A1 x.sent.length c1, .slice A2 x.live.length c2, .slice A3 x.back.length c3, .slice A4 x.got.length c4] 31)).alloc (.cells #[.int .i64 x.way, .int .i64 x.ver, .int .i64 x.want, .slice B1 x.sent.length d1, .slice B2 x.live.length d2, .slice B3 x.back.length d3, .slice B4 x.got.length d4] 31))
  unfold stV
  go_enter Tryd.func16, Tryd.ntmps16
  go_wp2_with fail
  generalize ((w.alloc (.cells #[.int .i64 x.way, .int .i64 x.ver, .int .i64 x.want, .slice A1 x.sent.length c1, .slice A2 x.live.length c2, .slice A3 x.back.length c3, .slice A4 x.got.length c4] 31)).alloc (.cells #[.int .i64 x.way, .int .i64 x.ver, .int .i64 x.want, .slice B1 x.sent.length d1, .slice B2 x.live.length d2, .slice B3 x.back.length d3, .slice B4 x.got.length d4] 31)) = W0 at X0 Y0 HK0
  refine (eqPacketS_same A1 B1 x.sent.length _ _ x.sent _ (HA.out.kept HK0.out).1.1 (HB.out.kept HK0.out).1.1 HA.out.2.1).mono ?_
  rintro e w1 ⟨he, hk⟩
  subst he
  have hk := hk
  have hx := X0.out.keeps hk fun h => h
  have hy := Y0.out.keeps hk fun h => h
  have a3 := hx.cell 3
  have b3 := hy.cell 3
  have a4 := hx.cell 4
  have b4 := hy.cell 4
  have a5 := hx.cell 5
  have b5 := hy.cell 5
  have a6 := hx.cell 6
  have b6 := hy.cell 6
  simp at a3 a4 a5 a6 b3 b4 b5 b6
  have X1 := Lib.hid hx
  have Y1 := Lib.hid hy
  have HK1 := Lib.hid (HK0.out.trans hk)
  clear hx hy hk
  go_wp2_with fail
  clear a3 a4 a5 a6 b3 b4 b5 b6
  refine (eqBoolS_same A2 B2 x.live.length _ _ x.live _ (HA.out.kept HK1.out).1.2.1 (HB.out.kept HK1.out).1.2.1 HA.out.2.2.1).mono ?_
  rintro e w2 ⟨he, hk⟩
  subst he
  have hk := hk.keeps noBlk
  have hx := X1.out.keeps hk fun h => h
  have hy := Y1.out.keeps hk fun h => h
  have a3 := hx.cell 3
  have b3 := hy.cell 3
  have a4 := hx.cell 4
  have b4 := hy.cell 4
  have a5 := hx.cell 5
  have b5 := hy.cell 5
  have a6 := hx.cell 6
  have b6 := hy.cell 6
  simp at a3 a4 a5 a6 b3 b4 b5 b6
  have X2 := Lib.hid hx
  have Y2 := Lib.hid hy
  have HK2 := Lib.hid (HK1.out.trans hk)
  clear hx hy hk
  go_wp2_with fail
  clear a3 a4 a5 a6 b3 b4 b5 b6
  refine (eqBoolS_same A3 B3 x.back.length _ _ x.back _ (HA.out.kept HK2.out).1.2.2.1 (HB.out.kept HK2.out).1.2.2.1 HA.out.2.2.2.1).mono ?_
  rintro e w3 ⟨he, hk⟩
  subst he
  have hk := hk.keeps noBlk
  have hx := X2.out.keeps hk fun h => h
  have hy := Y2.out.keeps hk fun h => h
  have a3 := hx.cell 3
  have b3 := hy.cell 3
  have a4 := hx.cell 4
  have b4 := hy.cell 4
  have a5 := hx.cell 5
  have b5 := hy.cell 5
  have a6 := hx.cell 6
  have b6 := hy.cell 6
  simp at a3 a4 a5 a6 b3 b4 b5 b6
  have X3 := Lib.hid hx
  have Y3 := Lib.hid hy
  have HK3 := Lib.hid (HK2.out.trans hk)
  clear hx hy hk
  go_wp2_with fail
  clear a3 a4 a5 a6 b3 b4 b5 b6
  refine (eqIntS_any A4 B4 x.got.length x.got.length _ _ x.got x.got _ (HA.out.kept HK3.out).1.2.2.2 (HB.out.kept HK3.out).1.2.2.2 HA.out.2.2.2.2 HA.out.2.2.2.2).mono ?_
  rintro e w4 ⟨he, hk⟩
  obtain rfl : e = .returned (.bool true) := by simpa using he
  clear he
  have hk := hk.keeps noBlk
  have hx := X3.out.keeps hk fun h => h
  have hy := Y3.out.keeps hk fun h => h
  have a3 := hx.cell 3
  have b3 := hy.cell 3
  have a4 := hx.cell 4
  have b4 := hy.cell 4
  have a5 := hx.cell 5
  have b5 := hy.cell 5
  have a6 := hx.cell 6
  have b6 := hy.cell 6
  simp at a3 a4 a5 a6 b3 b4 b5 b6
  have X4 := Lib.hid hx
  have Y4 := Lib.hid hy
  have HK4 := Lib.hid (HK3.out.trans hk)
  clear hx hy hk
  go_wp2
  go_ret
  exact ⟨rfl, HK4.out⟩
end Go.Proofs.YtifocngajndnnaaDoor
