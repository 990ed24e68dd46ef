/- eqState of the laws, of two states that hold the same. markPacketS, heldPacketS, markBoolS, heldBoolS, markState, heldState of the laws: a state's memory is marked with k, k+1, ..; a marked one is told. StateNew of the model and of the program: a state of its own. -/
import Derived.Test.YtcnbephpadmboaaGreatDoorSTo
import Derived.Test.YtcnbephpadmboaaGreatDoorUMem
set_option linter.unusedVariables false
set_option linter.unusedSimpArgs false
/-! SEq -/
namespace Go.Proofs.YtcnbephpadmboaaGreatDoor
open Go.RowKit

set_option maxHeartbeats 400000 in
theorem eqPacket_same (s k f t m u v : Int) (w : World) : Calls Tryz.prog 86 #[.agg #[.int .i64 s, .int .i64 k, .int .i64 f, .int .i64 t, .int .i64 m, .int .i64 u, .int .i64 v], .agg #[.int .i64 s, .int .i64 k, .int .i64 f, .int .i64 t, .int .i64 m, .int .i64 u, .int .i64 v]] w fun e w' => e = .returned (.bool true) ∧ Keeps noBlk w w' := by
  go_enter Tryz.func86, Tryz.ntmps86
  go_wp2
  go_ret
  exact ⟨rfl, ((Keeps.refl _ _).alloc _).alloc _⟩

set_option maxHeartbeats 400000 in
theorem eqBoolS_same (A B : Option Addr) (n c d : Nat) (xs : List Bool) (w : World) (ha : Bools w A n xs) (hb : Bools w B n xs) (hn : n ≤ maxLen) :
    Calls Tryz.prog 49 #[.slice A n c, .slice B n d] w fun e w' => e = .returned (.bool true) ∧ Qt w w' := by
  unfold maxLen at hn
  have HA := Lib.hid ha
  have HB := Lib.hid hb
  clear ha hb
  go_enter Tryz.func49, Tryz.ntmps49
  go_wp2
  go_loopw [5] (fun i wr => ∃ k : Nat, k ≤ n ∧ i = .int .i64 k ∧ Qt w wr) (fun i _ => n - (intOf i).toNat)
  case atStart => exact ⟨0, Nat.zero_le _, rfl, Qt.refl _⟩
  case round =>
    obtain ⟨k, hk, rfl, q, rfl⟩ := hrel
    by_cases hlt : k < n
    · obtain ⟨b1, o1, rfl, _, hc1⟩ := HA.out.at_ hlt
      obtain ⟨b2, o2, rfl, _, hc2⟩ := HB.out.at_ hlt
      generalize xs.getD k false = y at hc1 hc2
      cases y with
      | false =>
        go_wp2
        go_quiet (fail)
        go_wp2
        go_roundw
        case rel => exact ⟨k + 1, by omega, by go_num, Qt.of _ _⟩
        case measure => simp [intOf]; omega
      | true =>
        go_wp2
        go_quiet (fail)
        go_wp2
        go_roundw
        case rel => exact ⟨k + 1, by omega, by go_num, Qt.of _ _⟩
        case measure => simp [intOf]; omega
    · go_wp2
      go_ret
      exact ⟨rfl, Qt.of _ _⟩
/-! packets -/
set_option maxHeartbeats 1000000 in
theorem eqPacketS_same (A B : Option Addr) (n c d : Nat) (ps : List Pk) (w : World) (ha : Pks w A n ps) (hb : Pks w B n ps) (hn : n ≤ maxLen) :
    Calls Tryz.prog 48 #[.slice A n c, .slice B n d] w fun e w' => e = .returned (.bool true) ∧ Keeps noBlk w w' := by
  unfold maxLen at hn
  have HA := Lib.hid ha
  have HB := Lib.hid hb
  clear ha hb
  go_enter Tryz.func48, Tryz.ntmps48
  go_wp2
  go_loopw [5] (fun i wr => ∃ k : Nat, k ≤ n ∧ i = .int .i64 k ∧ Keeps noBlk w wr) (fun i _ => n - (intOf i).toNat)
  case atStart => exact ⟨0, Nat.zero_le _, rfl, Keeps.refl _ _⟩
  case round =>
    obtain ⟨k, hk, rfl, hkp⟩ := hrel
    have HK := Lib.hid hkp
    clear hkp
    by_cases hlt : k < n
    · obtain ⟨b1, o1, rfl, _, q0, q1, q2, q3, q4, q5, q6⟩ := (HA.out.keeps HK.out fun _ _ h => h).at_ hlt
      obtain ⟨b2, o2, rfl, _, r0, r1, r2, r3, r4, r5, r6⟩ := (HB.out.keeps HK.out fun _ _ h => h).at_ hlt
      generalize ps.getD k pk0 = p at q0 q1 q2 q3 q4 q5 q6 r0 r1 r2 r3 r4 r5 r6
      obtain ⟨s, kd, f, t, m, u, v⟩ := p
      dsimp only at q0 q1 q2 q3 q4 q5 q6 r0 r1 r2 r3 r4 r5 r6
      have q0 := fun U : GW wr => GW.cell q0 U
      have q1 := fun U : GW wr => GW.cell q1 U
      have q2 := fun U : GW wr => GW.cell q2 U
      have q3 := fun U : GW wr => GW.cell q3 U
      have q4 := fun U : GW wr => GW.cell q4 U
      have q5 := fun U : GW wr => GW.cell q5 U
      have q6 := fun U : GW wr => GW.cell q6 U
      have r0 := fun U : GW wr => GW.cell r0 U
      have r1 := fun U : GW wr => GW.cell r1 U
      have r2 := fun U : GW wr => GW.cell r2 U
      have r3 := fun U : GW wr => GW.cell r3 U
      have r4 := fun U : GW wr => GW.cell r4 U
      have r5 := fun U : GW wr => GW.cell r5 U
      have r6 := fun U : GW wr => GW.cell r6 U
      go_wp2_with fail
      refine wp_region_grow (by kernel_rfl) (by kernel_rfl) ?_
      repeat (go_big_quiet_step ((go_at_call 86; exact Calls.grow _ (eqPacket_same s kd f t m u v _))))
      refine wpQuiet_nil ?_
      rintro _ ⟨U1, rfl⟩
      have HK1 := Lib.hid (HK.out.trans U1.keep)
      go_wp2
      go_roundw
      case rel => exact ⟨k + 1, by omega, by go_num, HK1.out⟩
      case measure => simp [intOf]; omega
    · go_wp2
      go_ret
      exact ⟨rfl, HK.out⟩

set_option maxHeartbeats 2000000 in
theorem eqState_same (x : StL) (A1 A2 A3 A4 B1 B2 B3 B4 : Option Addr) (c1 c2 c3 c4 d1 d2 d3 d4 : Nat) (w : World) (ha : StAt w x A1 A2 A3 A4) (hb : StAt w x B1 B2 B3 B4) :
    Calls Tryz.prog 15 #[stV x A1 A2 A3 A4 c1 c2 c3 c4, stV x B1 B2 B3 B4 d1 d2 d3 d4] w fun e w' => e = .returned (.bool true) ∧ Keeps noBlk w w' := by
  have HA := Lib.hid ha
  have HB := Lib.hid hb
  clear ha hb
  have X0 := Lib.hid ((Box.new w _ rfl 39 #[.int .i64 x.way, .int .i64 x.ver, .int .i64 x.want, .slice A1 x.sent.length c1, .slice A2 x.live.length c2, .slice A3 x.back.length c3, .slice A4 x.got.length c4]).alloc (.cells #[.int .i64 x.way, .int .i64 x.ver, .int .i64 x.want, .slice B1 x.sent.length d1, .slice B2 x.live.length d2, .slice B3 x.back.length d3, .slice B4 x.got.length d4] 39))
  have Y0 := Lib.hid (Box.new (w.alloc (.cells #[.int .i64 x.way, .int .i64 x.ver, .int .i64 x.want, .slice A1 x.sent.length c1, .slice A2 x.live.length c2, .slice A3 x.back.length c3, .slice A4 x.got.length c4] 39)) (w.heap.size + 1) (by simp) 39 #[.int .i64 x.way, .int .i64 x.ver, .int .i64 x.want, .slice B1 x.sent.length d1, .slice B2 x.live.length d2, .slice B3 x.back.length d3, .slice B4 x.got.length d4])
  have HK0 := Lib.hid (((Keeps.refl noBlk w).alloc (.cells #[.int .i64 x.way, .int .i64 x.ver, .int .i64 x.want, .slice A1 x.sent.length c1, .slice A2 x.live.length c2, .slice A3 x.back.length c3, .slice A4 x.got.length c4] 39)).alloc (.cells #[.int .i64 x.way, .int .i64 x.ver, .int .i64 x.want, .slice B1 x.sent.length d1, .slice B2 x.live.length d2, .slice B3 x.back.length d3, .slice B4 x.got.length d4] 39))
  unfold stV
  go_enter Tryz.func15, Tryz.ntmps15
  go_wp2_with fail
  generalize ((w.alloc (.cells #[.int .i64 x.way, .int .i64 x.ver, .int .i64 x.want, .slice A1 x.sent.length c1, .slice A2 x.live.length c2, .slice A3 x.back.length c3, .slice A4 x.got.length c4] 39)).alloc (.cells #[.int .i64 x.way, .int .i64 x.ver, .int .i64 x.want, .slice B1 x.sent.length d1, .slice B2 x.live.length d2, .slice B3 x.back.length d3, .slice B4 x.got.length d4] 39)) = W0 at X0 Y0 HK0
  refine (eqPacketS_same A1 B1 x.sent.length _ _ x.sent _ (HA.out.kept HK0.out).1.1 (HB.out.kept HK0.out).1.1 HA.out.2.1).mono ?_
  rintro e w1 ⟨he, hk⟩
  subst he
  have hk := hk
  have hx := X0.out.keeps hk fun h => h
  have hy := Y0.out.keeps hk fun h => h
  have a3 := hx.cell 3
  have b3 := hy.cell 3
  have a4 := hx.cell 4
  have b4 := hy.cell 4
  have a5 := hx.cell 5
  have b5 := hy.cell 5
  have a6 := hx.cell 6
  have b6 := hy.cell 6
  simp at a3 a4 a5 a6 b3 b4 b5 b6
  have X1 := Lib.hid hx
  have Y1 := Lib.hid hy
  have HK1 := Lib.hid (HK0.out.trans hk)
  clear hx hy hk
  go_wp2_with fail
  clear a3 a4 a5 a6 b3 b4 b5 b6
  refine (eqBoolS_same A2 B2 x.live.length _ _ x.live _ (HA.out.kept HK1.out).1.2.1 (HB.out.kept HK1.out).1.2.1 HA.out.2.2.1).mono ?_
  rintro e w2 ⟨he, hk⟩
  subst he
  have hk := hk.keeps noBlk
  have hx := X1.out.keeps hk fun h => h
  have hy := Y1.out.keeps hk fun h => h
  have a3 := hx.cell 3
  have b3 := hy.cell 3
  have a4 := hx.cell 4
  have b4 := hy.cell 4
  have a5 := hx.cell 5
  have b5 := hy.cell 5
  have a6 := hx.cell 6
  have b6 := hy.cell 6
  simp at a3 a4 a5 a6 b3 b4 b5 b6
  have X2 := Lib.hid hx
  have Y2 := Lib.hid hy
  have HK2 := Lib.hid (HK1.out.trans hk)
  clear hx hy hk
  go_wp2_with fail
  clear a3 a4 a5 a6 b3 b4 b5 b6
  refine (eqBoolS_same A3 B3 x.back.length _ _ x.back _ (HA.out.kept HK2.out).1.2.2.1 (HB.out.kept HK2.out).1.2.2.1 HA.out.2.2.2.1).mono ?_
  rintro e w3 ⟨he, hk⟩
  subst he
  have hk := hk.keeps noBlk
  have hx := X2.out.keeps hk fun h => h
  have hy := Y2.out.keeps hk fun h => h
  have a3 := hx.cell 3
  have b3 := hy.cell 3
  have a4 := hx.cell 4
  have b4 := hy.cell 4
  have a5 := hx.cell 5
  have b5 := hy.cell 5
  have a6 := hx.cell 6
  have b6 := hy.cell 6
  simp at a3 a4 a5 a6 b3 b4 b5 b6
  have X3 := Lib.hid hx
  have Y3 := Lib.hid hy
  have HK3 := Lib.hid (HK2.out.trans hk)
  clear hx hy hk
  go_wp2_with fail
  clear a3 a4 a5 a6 b3 b4 b5 b6
  refine (eqIntS_any A4 B4 x.got.length x.got.length _ _ x.got x.got _ (HA.out.kept HK3.out).1.2.2.2 (HB.out.kept HK3.out).1.2.2.2 HA.out.2.2.2.2 HA.out.2.2.2.2).mono ?_
  rintro e w4 ⟨he, hk⟩
  obtain rfl : e = .returned (.bool true) := by simpa using he
  clear he
  have hk := hk.keeps noBlk
  have hx := X3.out.keeps hk fun h => h
  have hy := Y3.out.keeps hk fun h => h
  have a3 := hx.cell 3
  have b3 := hy.cell 3
  have a4 := hx.cell 4
  have b4 := hy.cell 4
  have a5 := hx.cell 5
  have b5 := hy.cell 5
  have a6 := hx.cell 6
  have b6 := hy.cell 6
  simp at a3 a4 a5 a6 b3 b4 b5 b6
  have X4 := Lib.hid hx
  have Y4 := Lib.hid hy
  have HK4 := Lib.hid (HK3.out.trans hk)
  clear hx hy hk
  go_wp2
  go_ret
  exact ⟨rfl, HK4.out⟩
end Go.Proofs.YtcnbephpadmboaaGreatDoor

/-! SMark -/
namespace Go.Proofs.YtcnbephpadmboaaGreatDoor
open Go.RowKit

/-- Seven marks from k on, as a packet. -/
def pkm (k : Int) : Pk := ⟨k, k + 1, k + 2, k + 3, k + 4, k + 5, k + 6⟩
def pmarks (k : Int) (n : Nat) : List Pk := (List.range n).map fun (i : Nat) => pkm (k + 7 * (i : Int))
theorem pmarks_length (k : Int) (n : Nat) : (pmarks k n).length = n := by simp [pmarks]
theorem pmarks_getD (k : Int) (n i : Nat) (h : i < n) : (pmarks k n).getD i pk0 = pkm (k + 7 * i) := by simp [pmarks, List.getD_eq_getElem?_getD, h]
def pmarked (k : Int) (i : Nat) (xs : List Pk) : List Pk := pmarks k i ++ xs.drop i
theorem pmarked_zero (k : Int) (xs : List Pk) : pmarked k 0 xs = xs := by simp [pmarked, pmarks]
theorem pmarked_step (k : Int) (i : Nat) (xs : List Pk) (h : i < xs.length) : (pmarked k i xs).set i (pkm (k + 7 * i)) = pmarked k (i + 1) xs := by
  apply List.ext_getElem?
  intro j
  simp only [pmarked, pmarks]
  rw [List.getElem?_set]
  by_cases hj : i = j
  · subst hj
    rw [if_pos rfl, if_pos (by simp; omega), List.getElem?_append_left (by simp)]
    simp
  · rw [if_neg hj]
    by_cases hlt : j < i
    · rw [List.getElem?_append_left (by simpa using hlt), List.getElem?_append_left (by simp; omega)]
      simp [hlt, Nat.lt_succ_of_lt hlt]
    · rw [List.getElem?_append_right (by simp; omega), List.getElem?_append_right (by simp; omega)]
      simp only [List.length_map, List.length_range, List.getElem?_drop]
      congr 1
      omega
theorem pmarked_all (k : Int) (n : Nat) (xs : List Pk) (h : xs.length = n) : pmarked k n xs = pmarks k n := by
  simp [pmarked, List.drop_of_length_le (Nat.le_of_eq h)]
def RetPMark (w : World) (lo : Nat) (A : Option Addr) (n : Nat) (k : Int) (e : Ending) (w' : World) : Prop :=
  e = .returned (.int .i64 (k + 7 * n)) ∧ PRow w' lo A n (pmarks k n) ∧ Keeps (blk A n) w w'

set_option maxHeartbeats 2000000 in
theorem markPacketS_any (A : Option Addr) (n c lo : Nat) (k : Int) (xs : List Pk) (w : World) (ha : PRow w lo A n xs) (hk0 : 0 ≤ k) (hk : k + 7 * n ≤ 1000000000) :
    Calls Tryz.prog 53 #[.slice A n c, .int .i64 k] w (RetPMark w lo A n k) := by
  have hxl := Lib.hid ha.1.1
  have HA := Lib.hid ha
  clear ha
  go_enter Tryz.func53, Tryz.ntmps53
  go_wp2
  go_loopw [1, 5] (fun kk i wr => ∃ j : Nat, j ≤ n ∧ i = .int .i64 j ∧ kk = .int .i64 (k + 7 * j) ∧ PRow wr lo A n (pmarked k j xs) ∧ Keeps (blk A n) w wr) (fun _ i _ => n - (intOf i).toNat)
  case atStart => exact ⟨0, Nat.zero_le _, rfl, by simp, by rw [pmarked_zero]; exact HA.out, Keeps.refl _ _⟩
  case round =>
    obtain ⟨j, hj, rfl, rfl, hr, hkp⟩ := hrel
    by_cases hlt : j < n
    · obtain ⟨b1, o1, rfl, _, z0, z1, z2, z3, z4, z5, z6⟩ := hr.1.at_ hlt
      obtain ⟨b1', o1', e1', _, hf⟩ := hr.2 (by omega)
      injection e1' with e1'
      injection e1' with e1' e2'
      subst e1'
      subst e2'
      have f0 := hf (j * 7) (by omega)
      have f1 := hf (j * 7 + 1) (by omega)
      have f2 := hf (j * 7 + 2) (by omega)
      have f3 := hf (j * 7 + 3) (by omega)
      have f4 := hf (j * 7 + 4) (by omega)
      have f5 := hf (j * 7 + 5) (by omega)
      have f6 := hf (j * 7 + 6) (by omega)
      simp only [← Nat.add_assoc] at f1 f2 f3 f4 f5 f6
      clear hf
      have Hr := Lib.hid hr
      have Hkp := Lib.hid hkp
      clear hr hkp
      generalize (pmarked k j xs).getD j pk0 = p at z0 z1 z2 z3 z4 z5 z6
      go_wp2
      refine ⟨⟨j + 1, by omega, by go_num, by go_num, ?_, ?_⟩, by simp [intOf]; omega⟩
      · rw [← pmarked_step k j xs (by rw [hxl.out]; exact hlt)]
        have := Hr.out.set_ hlt (pkm (k + 7 * j))
        simpa [setPk, pkm, Int.add_assoc] using this
      · have := Hkp.out.setPk (b := b1) (.inr ⟨by omega, ⟨b1, o1, none⟩, rfl, rfl⟩) (o1 + j * 7) (pkm (k + 7 * j))
        simpa [setPk, pkm, Int.add_assoc] using this
    · obtain rfl : n = j := by omega
      go_wp2
      go_ret
      exact ⟨rfl, by rw [← pmarked_all k n xs hxl.out]; exact hr, hkp⟩

set_option maxHeartbeats 2000000 in
theorem heldPacketS_any (A : Option Addr) (n c : Nat) (k : Int) (w : World) (ha : Pks w A n (pmarks k n)) (hk0 : 0 ≤ k) (hk : k + 7 * n ≤ 1000000000) :
    Calls Tryz.prog 87 #[.slice A n c, .int .i64 k] w fun e w' => e = .returned (.int .i64 (k + 7 * n)) ∧ w = w' := by
  go_enter Tryz.func87, Tryz.ntmps87
  go_wp2
  go_loopw [1, 5] (fun kk i wr => ∃ j : Nat, j ≤ n ∧ i = .int .i64 j ∧ kk = .int .i64 (k + 7 * j) ∧ wr = w) (fun _ i _ => n - (intOf i).toNat)
  case atStart => exact ⟨0, Nat.zero_le _, rfl, by simp, rfl⟩
  case round =>
    obtain ⟨j, hj, rfl, rfl, rfl⟩ := hrel
    by_cases hlt : j < n
    · obtain ⟨b1, o1, rfl, _, z0, z1, z2, z3, z4, z5, z6⟩ := ha.at_ hlt
      rw [pmarks_getD k n j hlt] at z0 z1 z2 z3 z4 z5 z6
      clear ha
      obtain ⟨K, hK⟩ : ∃ K, k + 7 * (j : Int) = K := ⟨_, rfl⟩
      have hK2 : k + 7 * ((j + 1 : Nat) : Int) = K + 1 + 1 + 1 + 1 + 1 + 1 + 1 := by omega
      have hKb : 0 ≤ K ∧ K + 7 ≤ 1000000000 := by omega
      have e1 : K + 1 = K + 1 := rfl
      simp only [pkm, hK] at z0 z1 z2 z3 z4 z5 z6
      rw [hK]
      have HK2 := Lib.hid hK2
      clear hK hK2
      rw [show K + 2 = K + 1 + 1 by omega] at z2
      rw [show K + 3 = K + 1 + 1 + 1 by omega] at z3
      rw [show K + 4 = K + 1 + 1 + 1 + 1 by omega] at z4
      rw [show K + 5 = K + 1 + 1 + 1 + 1 + 1 by omega] at z5
      rw [show K + 6 = K + 1 + 1 + 1 + 1 + 1 + 1 by omega] at z6
      have n0 : (K != K) = false := by simp
      have n1 : (K + 1 != K + 1) = false := by simp
      have n2 : (K + 1 + 1 != K + 1 + 1) = false := by simp
      have n3 : (K + 1 + 1 + 1 != K + 1 + 1 + 1) = false := by simp
      have n4 : (K + 1 + 1 + 1 + 1 != K + 1 + 1 + 1 + 1) = false := by simp
      have n5 : (K + 1 + 1 + 1 + 1 + 1 != K + 1 + 1 + 1 + 1 + 1) = false := by simp
      have n6 : (K + 1 + 1 + 1 + 1 + 1 + 1 != K + 1 + 1 + 1 + 1 + 1 + 1) = false := by simp
      go_wp2
      refine ⟨⟨j + 1, by omega, by go_num, by rw [HK2.out], trivial⟩, by simp [intOf]; omega⟩
    · obtain rfl : n = j := by omega
      go_wp2
      go_ret
      exact ⟨rfl, rfl⟩

/-- Bools from k on: is it a multiple of three. -/
def bm (k : Int) : Bool := k % 3 == 0
def bmarks (k : Int) (n : Nat) : List Bool := (List.range n).map fun (i : Nat) => bm (k + (i : Int))
theorem bmarks_length (k : Int) (n : Nat) : (bmarks k n).length = n := by simp [bmarks]
theorem bmarks_getD (k : Int) (n i : Nat) (h : i < n) : (bmarks k n).getD i false = bm (k + i) := by simp [bmarks, List.getD_eq_getElem?_getD, h]
def bmarked (k : Int) (i : Nat) (xs : List Bool) : List Bool := bmarks k i ++ xs.drop i
theorem bmarked_zero (k : Int) (xs : List Bool) : bmarked k 0 xs = xs := by simp [bmarked, bmarks]
theorem bmarked_step (k : Int) (i : Nat) (xs : List Bool) (h : i < xs.length) : (bmarked k i xs).set i (bm (k + i)) = bmarked k (i + 1) xs := by
  apply List.ext_getElem?
  intro j
  simp only [bmarked, bmarks]
  rw [List.getElem?_set]
  by_cases hj : i = j
  · subst hj
    rw [if_pos rfl, if_pos (by simp; omega), List.getElem?_append_left (by simp)]
    simp
  · rw [if_neg hj]
    by_cases hlt : j < i
    · rw [List.getElem?_append_left (by simpa using hlt), List.getElem?_append_left (by simp; omega)]
      simp [hlt, Nat.lt_succ_of_lt hlt]
    · rw [List.getElem?_append_right (by simp; omega), List.getElem?_append_right (by simp; omega)]
      simp only [List.length_map, List.length_range, List.getElem?_drop]
      congr 1
      omega
theorem bmarked_all (k : Int) (n : Nat) (xs : List Bool) (h : xs.length = n) : bmarked k n xs = bmarks k n := by
  simp [bmarked, List.drop_of_length_le (Nat.le_of_eq h)]
def RetBMark (w : World) (lo : Nat) (A : Option Addr) (n : Nat) (k : Int) (e : Ending) (w' : World) : Prop :=
  e = .returned (.int .i64 (k + n)) ∧ BRow w' lo A n (bmarks k n) ∧ Keeps (blk A n) w w'

set_option maxHeartbeats 1000000 in
theorem markBoolS_any (A : Option Addr) (n c lo : Nat) (k : Int) (xs : List Bool) (w : World) (ha : BRow w lo A n xs) (hk0 : 0 ≤ k) (hk : k + n ≤ 1000000000) :
    Calls Tryz.prog 54 #[.slice A n c, .int .i64 k] w (RetBMark w lo A n k) := by
  have hxl := Lib.hid ha.1.1
  have HA := Lib.hid ha
  clear ha
  go_enter Tryz.func54, Tryz.ntmps54
  go_wp2
  go_loopw [1, 5] (fun kk i wr => ∃ j : Nat, j ≤ n ∧ i = .int .i64 j ∧ kk = .int .i64 (k + j) ∧ BRow wr lo A n (bmarked k j xs) ∧ Keeps (blk A n) w wr) (fun _ i _ => n - (intOf i).toNat)
  case atStart => exact ⟨0, Nat.zero_le _, rfl, by simp, by rw [bmarked_zero]; exact HA.out, Keeps.refl _ _⟩
  case round =>
    obtain ⟨j, hj, rfl, rfl, hr, hkp⟩ := hrel
    by_cases hlt : j < n
    · obtain ⟨b1, o1, rfl, _, _, hc1, hf1⟩ := hr.at_ hlt
      have Hr := Lib.hid hr
      have Hkp := Lib.hid hkp
      clear hr hkp
      go_wp2
      refine ⟨⟨j + 1, by omega, by go_num, by go_num, ?_, Hkp.out.setCell (p := ⟨b1, o1 + j, none⟩) (.inr ⟨by omega, ⟨b1, o1, none⟩, rfl, rfl⟩) _⟩, by simp [intOf]; omega⟩
      rw [← bmarked_step k j xs (by rw [hxl.out]; exact hlt)]
      exact Hr.out.set_ hlt _
    · obtain rfl : n = j := by omega
      go_wp2
      go_ret
      exact ⟨rfl, by rw [← bmarked_all k n xs hxl.out]; exact hr, hkp⟩

set_option maxHeartbeats 1000000 in
theorem heldBoolS_any (A : Option Addr) (n c : Nat) (k : Int) (w : World) (ha : Bools w A n (bmarks k n)) (hk0 : 0 ≤ k) (hk : k + n ≤ 1000000000) :
    Calls Tryz.prog 88 #[.slice A n c, .int .i64 k] w fun e w' => e = .returned (.int .i64 (k + n)) ∧ w = w' := by
  go_enter Tryz.func88, Tryz.ntmps88
  go_wp2
  go_loopw [1, 5] (fun kk i wr => ∃ j : Nat, j ≤ n ∧ i = .int .i64 j ∧ kk = .int .i64 (k + j) ∧ wr = w) (fun _ i _ => n - (intOf i).toNat)
  case atStart => exact ⟨0, Nat.zero_le _, rfl, by simp, rfl⟩
  case round =>
    obtain ⟨j, hj, rfl, rfl, rfl⟩ := hrel
    by_cases hlt : j < n
    · obtain ⟨b1, o1, rfl, _, hc1⟩ := ha.at_ hlt
      rw [bmarks_getD k n j hlt] at hc1
      clear ha
      unfold bm at hc1
      have hne : (((k + (j : Int)) % 3 == 0) != ((k + (j : Int)) % 3 == 0)) = false := by simp
      go_wp2
      refine ⟨⟨j + 1, by omega, by go_num, by go_num, trivial⟩, by simp [intOf]; omega⟩
    · obtain rfl : n = j := by omega
      go_wp2
      go_ret
      exact ⟨rfl, rfl⟩

/-- How many marks a state takes. -/
def stN (x : StL) : Nat := 7 * x.sent.length + x.live.length + x.back.length + x.got.length
/-- A state all of whose memory is marked from k on. -/
def stMark (x : StL) (k : Int) : StL := { x with sent := pmarks k x.sent.length, live := bmarks (k + 7 * x.sent.length) x.live.length, back := bmarks (k + 7 * x.sent.length + x.live.length) x.back.length, got := iota (k + 7 * x.sent.length + x.live.length + x.back.length) x.got.length }
/-- The blocks of a state's rows. -/
def stBlk (x : StL) (A1 A2 A3 A4 : Option Addr) (b : Nat) : Prop := blk A1 x.sent.length b ∨ blk A2 x.live.length b ∨ blk A3 x.back.length b ∨ blk A4 x.got.length b
def RetStMark (w : World) (lo : Nat) (x : StL) (A1 A2 A3 A4 : Option Addr) (k : Int) (e : Ending) (w' : World) : Prop :=
  e = .returned (.int .i64 (k + stN x)) ∧ StOwn w' lo (stMark x k) A1 A2 A3 A4 ∧ Keeps (stBlk x A1 A2 A3 A4) w w'
theorem StOwn.lt {w : World} {lo : Nat} {x : StL} {A1 A2 A3 A4 : Option Addr} (h : StOwn w lo x A1 A2 A3 A4) {b : Nat} (hb : stBlk x A1 A2 A3 A4 b) : b < w.heap.size := by
  obtain ⟨s1, s2, s3, ⟨h1, h2, h3, h4⟩, _⟩ := h
  rcases hb with hb | hb | hb | hb
  · exact h1.lt hb
  · exact h2.lt hb
  · exact h3.lt hb
  · exact h4.lt hb
theorem StOwn.ge {w : World} {lo : Nat} {x : StL} {A1 A2 A3 A4 : Option Addr} (h : StOwn w lo x A1 A2 A3 A4) {b : Nat} (hb : stBlk x A1 A2 A3 A4 b) : lo ≤ b := by
  obtain ⟨s1, s2, s3, ⟨h1, h2, h3, h4⟩, _, _, _, e1, e2, e3⟩ := h
  rcases hb with hb | hb | hb | hb
  · exact h1.ge hb
  · have := h2.ge hb; omega
  · have := h3.ge hb; omega
  · have := h4.ge hb; omega
theorem StOwn.keeps {S : Nat → Prop} {w w' : World} {lo : Nat} {x : StL} {A1 A2 A3 A4 : Option Addr} (h : StOwn w lo x A1 A2 A3 A4) (hk : Keeps S w w') (hs : ∀ b, stBlk x A1 A2 A3 A4 b → ¬ S b) : StOwn w' lo x A1 A2 A3 A4 := by
  obtain ⟨s1, s2, s3, ⟨h1, h2, h3, h4⟩, r⟩ := h
  exact ⟨s1, s2, s3, ⟨h1.keeps hk fun b hb => hs b (.inl hb), h2.keeps hk fun b hb => hs b (.inr (.inl hb)), h3.keeps hk fun b hb => hs b (.inr (.inr (.inl hb))), h4.keeps hk fun b hb => hs b (.inr (.inr (.inr hb)))⟩, r⟩
theorem StAt.lt {w : World} {x : StL} {A1 A2 A3 A4 : Option Addr} (h : StAt w x A1 A2 A3 A4) {b : Nat} (hb : stBlk x A1 A2 A3 A4 b) : b < w.heap.size := by
  obtain ⟨⟨h1, h2, h3, h4⟩, _⟩ := h
  rcases hb with hb | hb | hb | hb
  · exact h1.lt hb
  · exact h2.lt hb
  · exact h3.lt hb
  · exact h4.lt hb

set_option maxHeartbeats 1000000 in
theorem markState_any (x : StL) (A1 A2 A3 A4 : Option Addr) (c1 c2 c3 c4 lo : Nat) (k : Int) (w : World) (hx : StOwn w lo x A1 A2 A3 A4) (hk0 : 0 ≤ k) (hk : k + stN x ≤ 1000000000) :
    Calls Tryz.prog 17 #[stV x A1 A2 A3 A4 c1 c2 c3 c4, .int .i64 k] w (RetStMark w lo x A1 A2 A3 A4 k) := by
  have HX := Lib.hid hx
  obtain ⟨s1, s2, s3, ⟨h1, h2, h3, h4⟩, q1, q2, q3, e1, e2, e3⟩ := hx
  have H1 := Lib.hid h1
  have H2 := Lib.hid h2
  have H3 := Lib.hid h3
  have H4 := Lib.hid h4
  have d12 : ∀ b, blk A1 x.sent.length b → ¬ blk A2 x.live.length b := fun b h h' => by have := q1 b h; have := H2.out.ge h'; omega
  have d13 : ∀ b, blk A1 x.sent.length b → ¬ blk A3 x.back.length b := fun b h h' => by have := q1 b h; have := H3.out.ge h'; omega
  have d14 : ∀ b, blk A1 x.sent.length b → ¬ blk A4 x.got.length b := fun b h h' => by have := q1 b h; have := H4.out.ge h'; omega
  have d23 : ∀ b, blk A2 x.live.length b → ¬ blk A3 x.back.length b := fun b h h' => by have := q2 b h; have := H3.out.ge h'; omega
  have d24 : ∀ b, blk A2 x.live.length b → ¬ blk A4 x.got.length b := fun b h h' => by have := q2 b h; have := H4.out.ge h'; omega
  have d34 : ∀ b, blk A3 x.back.length b → ¬ blk A4 x.got.length b := fun b h h' => by have := q3 b h; have := H4.out.ge h'; omega
  have D := Lib.hid (And.intro d12 (And.intro d13 (And.intro d14 (And.intro d23 (And.intro d24 d34)))))
  have Q := Lib.hid (And.intro q1 (And.intro q2 (And.intro q3 (And.intro e1 (And.intro e2 e3)))))
  clear h1 h2 h3 h4 q1 q2 q3 e1 e2 e3 d12 d13 d14 d23 d24 d34
  unfold stN at hk
  have HB0 := Lib.hid (Box.new w _ rfl 39 #[.int .i64 x.way, .int .i64 x.ver, .int .i64 x.want, .slice A1 x.sent.length c1, .slice A2 x.live.length c2, .slice A3 x.back.length c3, .slice A4 x.got.length c4])
  have HK0 := Lib.hid ((Keeps.refl (stBlk x A1 A2 A3 A4) w).alloc (.cells #[.int .i64 x.way, .int .i64 x.ver, .int .i64 x.want, .slice A1 x.sent.length c1, .slice A2 x.live.length c2, .slice A3 x.back.length c3, .slice A4 x.got.length c4] 39))
  have hnb : ¬ stBlk x A1 A2 A3 A4 w.heap.size := fun h => by have := HX.out.lt h; omega
  unfold stV
  go_enter Tryz.func17, Tryz.ntmps17
  go_wp2_with fail
  refine (markPacketS_any A1 x.sent.length _ lo k x.sent _ (H1.out.alloc _) hk0 (by omega)).mono ?_
  rintro e w1 ⟨rfl, hr1, hk1⟩
  have hb := HB0.out.keeps hk1 (fun h => hnb (.inl h))
  have b4 := hb.cell 4
  simp at b4
  have HB1 := Lib.hid hb
  have R1 := Lib.hid hr1
  have R2 := Lib.hid ((H2.out.alloc (.cells #[.int .i64 x.way, .int .i64 x.ver, .int .i64 x.want, .slice A1 x.sent.length c1, .slice A2 x.live.length c2, .slice A3 x.back.length c3, .slice A4 x.got.length c4] 39)).keeps hk1 fun b h h' => D.out.1 b h' h)
  have R3 := Lib.hid ((H3.out.alloc (.cells #[.int .i64 x.way, .int .i64 x.ver, .int .i64 x.want, .slice A1 x.sent.length c1, .slice A2 x.live.length c2, .slice A3 x.back.length c3, .slice A4 x.got.length c4] 39)).keeps hk1 fun b h h' => D.out.2.1 b h' h)
  have R4 := Lib.hid ((H4.out.alloc (.cells #[.int .i64 x.way, .int .i64 x.ver, .int .i64 x.want, .slice A1 x.sent.length c1, .slice A2 x.live.length c2, .slice A3 x.back.length c3, .slice A4 x.got.length c4] 39)).keeps hk1 fun b h h' => D.out.2.2.1 b h' h)
  have HK1 := Lib.hid (HK0.out.then hk1 fun i hi h => .inl h)
  clear hb hr1 hk1
  go_wp2_with fail
  refine (markBoolS_any A2 x.live.length _ s1 _ x.live _ R2.out (by omega) (by omega)).mono ?_
  rintro e w2 ⟨rfl, hr2, hk2⟩
  have hb := HB1.out.keeps hk2 (fun h => hnb (.inr (.inl h)))
  have b5 := hb.cell 5
  simp at b5
  have HB2 := Lib.hid hb
  have T1 := Lib.hid (R1.out.keeps hk2 fun b h h' => D.out.1 b h h')
  have T2 := Lib.hid hr2
  have T3 := Lib.hid (R3.out.keeps hk2 fun b h h' => D.out.2.2.2.1 b h' h)
  have T4 := Lib.hid (R4.out.keeps hk2 fun b h h' => D.out.2.2.2.2.1 b h' h)
  have HK2 := Lib.hid (HK1.out.then hk2 fun i hi h => .inr (.inl h))
  clear hb hr2 hk2 b4
  go_wp2_with fail
  refine (markBoolS_any A3 x.back.length _ s2 _ x.back _ T3.out (by omega) (by omega)).mono ?_
  rintro e w3 ⟨rfl, hr3, hk3⟩
  have hb := HB2.out.keeps hk3 (fun h => hnb (.inr (.inr (.inl h))))
  have b6 := hb.cell 6
  simp at b6
  have V1 := Lib.hid (T1.out.keeps hk3 fun b h h' => D.out.2.1 b h h')
  have V2 := Lib.hid (T2.out.keeps hk3 fun b h h' => D.out.2.2.2.1 b h h')
  have V3 := Lib.hid hr3
  have V4 := Lib.hid (T4.out.keeps hk3 fun b h h' => D.out.2.2.2.2.2 b h' h)
  have HK3 := Lib.hid (HK2.out.then hk3 fun i hi h => .inr (.inr (.inl h)))
  clear hb hr3 hk3 b5
  go_wp2_with fail
  refine (markIntS_any A4 x.got.length _ s3 _ x.got _ V4.out (by omega) (by omega)).mono ?_
  rintro e w4 ⟨rfl, hr4, hk4⟩
  have HK4 := Lib.hid (HK3.out.then hk4 fun i hi h => .inr (.inr (.inr h)))
  have Y1 := Lib.hid (V1.out.keeps hk4 fun b h h' => D.out.2.2.1 b h h')
  have Y2 := Lib.hid (V2.out.keeps hk4 fun b h h' => D.out.2.2.2.2.1 b h h')
  have Y3 := Lib.hid (V3.out.keeps hk4 fun b h h' => D.out.2.2.2.2.2 b h h')
  have Y4 := Lib.hid hr4
  clear hr4 hk4 b6
  go_wp2
  go_ret
  refine ⟨?_, ⟨s1, s2, s3, ?_, ?_⟩, HK4.out⟩
  · simp [stN]; omega
  · simp only [stMark, pmarks_length, bmarks_length, iota_length]
    exact ⟨Y1.out, Y2.out, Y3.out, Y4.out⟩
  · simp only [stMark, pmarks_length, bmarks_length, iota_length]
    exact Q.out

set_option maxHeartbeats 1000000 in
theorem heldState_any (x : StL) (A1 A2 A3 A4 : Option Addr) (c1 c2 c3 c4 : Nat) (k : Int) (w : World) (hx : StAt w (stMark x k) A1 A2 A3 A4) (hk0 : 0 ≤ k) (hk : k + stN x ≤ 1000000000) :
    Calls Tryz.prog 56 #[stV x A1 A2 A3 A4 c1 c2 c3 c4, .int .i64 k] w fun e w' => e = .returned (.int .i64 (k + stN x)) ∧ Keeps noBlk w w' := by
  obtain ⟨⟨h1, h2, h3, h4⟩, _⟩ := hx
  simp only [stMark, pmarks_length, bmarks_length, iota_length] at h1 h2 h3 h4
  have H1 := Lib.hid h1
  have H2 := Lib.hid h2
  have H3 := Lib.hid h3
  have H4 := Lib.hid h4
  clear h1 h2 h3 h4
  unfold stN at hk
  have HK0 := Lib.hid ((Keeps.refl noBlk w).alloc (.cells #[.int .i64 x.way, .int .i64 x.ver, .int .i64 x.want, .slice A1 x.sent.length c1, .slice A2 x.live.length c2, .slice A3 x.back.length c3, .slice A4 x.got.length c4] 39))
  unfold stV
  go_enter Tryz.func56, Tryz.ntmps56
  go_wp2_with fail
  refine (heldPacketS_any A1 x.sent.length _ k _ (H1.out.alloc _) hk0 (by omega)).mono ?_
  rintro e w1 ⟨rfl, rfl⟩
  have n1 : ¬ k + 7 * (x.sent.length : Int) < 0 := by omega
  go_wp2_with fail
  refine (heldBoolS_any A2 x.live.length _ _ _ (H2.out.alloc _) (by omega) (by omega)).mono ?_
  rintro e w2 ⟨rfl, rfl⟩
  have n2 : ¬ k + 7 * (x.sent.length : Int) + (x.live.length : Int) < 0 := by omega
  go_wp2_with fail
  refine (heldBoolS_any A3 x.back.length _ _ _ (H3.out.alloc _) (by omega) (by omega)).mono ?_
  rintro e w3 ⟨rfl, rfl⟩
  have n3 : ¬ k + 7 * (x.sent.length : Int) + (x.live.length : Int) + (x.back.length : Int) < 0 := by omega
  go_wp2_with fail
  refine (heldIntS_any A4 x.got.length _ _ _ (H4.out.alloc _) (by omega) (by omega)).mono ?_
  rintro e w4 ⟨rfl, rfl⟩
  have n4 : ¬ k + 7 * (x.sent.length : Int) + (x.live.length : Int) + (x.back.length : Int) + (x.got.length : Int) < 0 := by omega
  go_wp2
  go_ret
  exact ⟨by simp [stN]; omega, HK0.out⟩
end Go.Proofs.YtcnbephpadmboaaGreatDoor

/-! SNew -/
namespace Go.Proofs.YtcnbephpadmboaaGreatDoor
open Go.RowKit

end Go.Proofs.YtcnbephpadmboaaGreatDoor
