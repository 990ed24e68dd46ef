/- lwState, lwChain over what holds the same, nothing being sent, of no height. -/
import Derived.Test.YtcnbephpadmboaaDoorLw
import Derived.Test.YtcnbephpadmboaaDoorUCxM
import Derived.Test.YtcnbephpadmboaaDoorUEM
set_option linter.unusedVariables false
set_option linter.unusedSimpArgs false
namespace Go.Proofs.YtcnbephpadmboaaDoor
open Go.RowKit
set_option maxHeartbeats 1000000 in
theorem lwBools_same (A B : Option Addr) (n c d : Nat) (xs : List Bool) (w : World) (ha : Bools w A n xs) (hb : Bools w B n xs) (hn : n ≤ maxLen) :
    Calls Tryd.prog 72 #[.slice A n c, .slice B n d] w fun e w' => e = .returned (.bool true) ∧ Qt w w' := by
  unfold maxLen at hn
  have HA := Lib.hid ha
  have HB := Lib.hid hb
  clear ha hb
  go_enter Tryd.func72, Tryd.ntmps72
  go_wp2
  go_loopw [5] (fun i wr => ∃ k : Nat, k ≤ n ∧ i = .int .i64 k ∧ Qt w wr) (fun i _ => n - (intOf i).toNat)
  case atStart => exact ⟨0, Nat.zero_le _, rfl, Qt.refl _⟩
  case round =>
    obtain ⟨k, hk, rfl, q, rfl⟩ := hrel
    by_cases hlt : k < n
    · obtain ⟨b1, o1, rfl, _, hc1⟩ := HA.out.at_ hlt
      obtain ⟨b2, o2, rfl, _, hc2⟩ := HB.out.at_ hlt
      generalize xs.getD k false = y at hc1 hc2
      cases y with
      | false =>
        go_wp2
        go_quiet (fail)
        go_wp2
        go_roundw
        case rel => exact ⟨k + 1, by omega, by go_num, Qt.of _ _⟩
        case measure => simp [intOf]; omega
      | true =>
        go_wp2
        go_quiet (fail)
        go_wp2
        go_roundw
        case rel => exact ⟨k + 1, by omega, by go_num, Qt.of _ _⟩
        case measure => simp [intOf]; omega
    · go_wp2
      go_ret
      exact ⟨rfl, Qt.of _ _⟩
set_option maxRecDepth 100000 in
set_option maxHeartbeats 4000000 in
theorem lwState_none0 (way ver want : Int) (live back : List Bool) (got : List Int) (A1 A2 A3 A4 B1 B2 B3 B4 : Option Addr) (c1 c2 c3 c4 d1 d2 d3 d4 : Nat) (w : World) (ha : StAt w ⟨way, ver, want, [], live, back, got⟩ A1 A2 A3 A4) (hb : StAt w ⟨way, ver, want, [], live, back, got⟩ B1 B2 B3 B4) :
    Calls Tryd.prog 41 #[.agg #[.int .i64 way, .int .i64 ver, .int .i64 want, .slice A1 0 c1, .slice A2 live.length c2, .slice A3 back.length c3, .slice A4 got.length c4], .agg #[.int .i64 way, .int .i64 ver, .int .i64 want, .slice B1 0 d1, .slice B2 live.length d2, .slice B3 back.length d3, .slice B4 got.length d4]] w fun e w' => e = .returned (.bool true) ∧ Keeps noBlk w w' := by
  have F1 := Lib.hid (fun W (hk : Keeps noBlk w W) => (lwBools_same A2 B2 live.length c2 d2 live W (ha.kept hk).1.2.1 (hb.kept hk).1.2.1 ha.2.2.1).mono fun _ _ h => qt_keep h)
  have F2 := Lib.hid (fun W (hk : Keeps noBlk w W) => (lwBools_same A3 B3 back.length c3 d3 back W (ha.kept hk).1.2.2.1 (hb.kept hk).1.2.2.1 ha.2.2.2.1).mono fun _ _ h => qt_keep h)
  have F3 := Lib.hid (fun W (hk : Keeps noBlk w W) => (lwInts_yes A4 B4 got.length c4 d4 got W (ha.kept hk).1.2.2.2 (hb.kept hk).1.2.2.2 ha.2.2.2.2).mono fun _ _ h => qt_keep h)
  clear ha hb
  have h1 : (way != way) = false := by simp
  have h2 : (ver != ver) = false := by simp
  have h3 : (want != want) = false := by simp
  have HBa := Lib.hid ((Box.new w _ rfl 27 #[.int .i64 way, .int .i64 ver, .int .i64 want, .slice A1 0 c1, .slice A2 live.length c2, .slice A3 back.length c3, .slice A4 got.length c4]).alloc (.cells #[.int .i64 way, .int .i64 ver, .int .i64 want, .slice B1 0 d1, .slice B2 live.length d2, .slice B3 back.length d3, .slice B4 got.length d4] 27))
  have HBb := Lib.hid (Box.new (w.alloc (.cells #[.int .i64 way, .int .i64 ver, .int .i64 want, .slice A1 0 c1, .slice A2 live.length c2, .slice A3 back.length c3, .slice A4 got.length c4] 27)) (w.heap.size + 1) (by simp) 27 #[.int .i64 way, .int .i64 ver, .int .i64 want, .slice B1 0 d1, .slice B2 live.length d2, .slice B3 back.length d3, .slice B4 got.length d4])
  have HK := Lib.hid (((Keeps.refl noBlk w).alloc (.cells #[.int .i64 way, .int .i64 ver, .int .i64 want, .slice A1 0 c1, .slice A2 live.length c2, .slice A3 back.length c3, .slice A4 got.length c4] 27)).alloc (.cells #[.int .i64 way, .int .i64 ver, .int .i64 want, .slice B1 0 d1, .slice B2 live.length d2, .slice B3 back.length d3, .slice B4 got.length d4] 27))
  go_enter Tryd.func41, Tryd.ntmps41
  go_wp2
  go_loopw [5] (fun i wr => i = .int .i64 0 ∧ Keeps noBlk ((w.alloc (.cells #[.int .i64 way, .int .i64 ver, .int .i64 want, .slice A1 0 c1, .slice A2 live.length c2, .slice A3 back.length c3, .slice A4 got.length c4] 27)).alloc (.cells #[.int .i64 way, .int .i64 ver, .int .i64 want, .slice B1 0 d1, .slice B2 live.length d2, .slice B3 back.length d3, .slice B4 got.length d4] 27)) wr) (fun _ _ => 0)
  case atStart => exact ⟨rfl, Keeps.refl _ _⟩
  case round =>
    obtain ⟨rfl, hkr⟩ := hrel
    have ha := HBa.out.keeps hkr (fun h => h)
    clear HBa
    have HBa := Lib.hid ha
    clear ha
    have hb := HBb.out.keeps hkr (fun h => h)
    clear HBb
    have HBb := Lib.hid hb
    clear hb
    have hr := HK.out.trans hkr
    clear HK
    have HK := Lib.hid hr
    clear hr
    clear hkr
    have hb := HBa.out
    have a0 := hb.cell 0
    have a1 := hb.cell 1
    have a2 := hb.cell 2
    have a3 := hb.cell 3
    have a4 := hb.cell 4
    have a5 := hb.cell 5
    have a6 := hb.cell 6
    simp at a0 a1 a2 a3 a4 a5 a6
    have za := hb.lt
    clear hb
    have hb := HBb.out
    have b0 := hb.cell 0
    have b1 := hb.cell 1
    have b2 := hb.cell 2
    have b3 := hb.cell 3
    have b4 := hb.cell 4
    have b5 := hb.cell 5
    have b6 := hb.cell 6
    simp at b0 b1 b2 b3 b4 b5 b6
    have zb := hb.lt
    clear hb
    go_wp2_with fail
    refine (F1.out _ HK.out).mono ?_
    rintro e w2 ⟨rfl, hk2⟩
    clear a0 a1 a2 a3 a4 a5 a6 b0 b1 b2 b3 b4 b5 b6 za zb
    have ha := HBa.out.keeps hk2 (fun h => h)
    clear HBa
    have HBa := Lib.hid ha
    clear ha
    have hb := HBb.out.keeps hk2 (fun h => h)
    clear HBb
    have HBb := Lib.hid hb
    clear hb
    have hr := HK.out.trans hk2
    clear HK
    have HK := Lib.hid hr
    clear hr
    have sz2 := hk2.size
    (try simp at sz2)
    clear hk2
    have hb := HBa.out
    have a0 := hb.cell 0
    have a1 := hb.cell 1
    have a2 := hb.cell 2
    have a3 := hb.cell 3
    have a4 := hb.cell 4
    have a5 := hb.cell 5
    have a6 := hb.cell 6
    simp at a0 a1 a2 a3 a4 a5 a6
    have za := hb.lt
    clear hb
    have hb := HBb.out
    have b0 := hb.cell 0
    have b1 := hb.cell 1
    have b2 := hb.cell 2
    have b3 := hb.cell 3
    have b4 := hb.cell 4
    have b5 := hb.cell 5
    have b6 := hb.cell 6
    simp at b0 b1 b2 b3 b4 b5 b6
    have zb := hb.lt
    clear hb
    go_wp2_with fail
    refine (F2.out _ HK.out).mono ?_
    rintro e w3 ⟨rfl, hk3⟩
    clear a0 a1 a2 a3 a4 a5 a6 b0 b1 b2 b3 b4 b5 b6 za zb
    have ha := HBa.out.keeps hk3 (fun h => h)
    clear HBa
    have HBa := Lib.hid ha
    clear ha
    have hb := HBb.out.keeps hk3 (fun h => h)
    clear HBb
    have HBb := Lib.hid hb
    clear hb
    have hr := HK.out.trans hk3
    clear HK
    have HK := Lib.hid hr
    clear hr
    have sz3 := hk3.size
    (try simp at sz3)
    clear hk3
    have hb := HBa.out
    have a0 := hb.cell 0
    have a1 := hb.cell 1
    have a2 := hb.cell 2
    have a3 := hb.cell 3
    have a4 := hb.cell 4
    have a5 := hb.cell 5
    have a6 := hb.cell 6
    simp at a0 a1 a2 a3 a4 a5 a6
    have za := hb.lt
    clear hb
    have hb := HBb.out
    have b0 := hb.cell 0
    have b1 := hb.cell 1
    have b2 := hb.cell 2
    have b3 := hb.cell 3
    have b4 := hb.cell 4
    have b5 := hb.cell 5
    have b6 := hb.cell 6
    simp at b0 b1 b2 b3 b4 b5 b6
    have zb := hb.lt
    clear hb
    go_wp2_with fail
    refine (F3.out _ HK.out).mono ?_
    rintro e w4 ⟨rfl, hk4⟩
    clear a0 a1 a2 a3 a4 a5 a6 b0 b1 b2 b3 b4 b5 b6 za zb
    have ha := HBa.out.keeps hk4 (fun h => h)
    clear HBa
    have HBa := Lib.hid ha
    clear ha
    have hb := HBb.out.keeps hk4 (fun h => h)
    clear HBb
    have HBb := Lib.hid hb
    clear hb
    have hr := HK.out.trans hk4
    clear HK
    have HK := Lib.hid hr
    clear hr
    have sz4 := hk4.size
    (try simp at sz4)
    clear hk4
    go_wp2
    go_ret
    exact ⟨rfl, HK.out⟩
theorem lwState_none (s t : StM) (w : World) (e : s.x = t.x) (h0 : s.x.sent = []) (k : s.At w) (k' : t.At w) : Calls Tryd.prog 41 #[s.val, t.val] w fun e w' => e = .returned (.bool true) ∧ Keeps noBlk w w' := by
  obtain ⟨⟨way, ver, want, sent, live, back, got⟩, A1, A2, A3, A4, c1, c2, c3, c4⟩ := s
  obtain ⟨y, B1, B2, B3, B4, d1, d2, d3, d4⟩ := t
  dsimp only at e h0
  subst e
  subst h0
  exact lwState_none0 way ver want live back got A1 A2 A3 A4 B1 B2 B3 B4 c1 c2 c3 c4 d1 d2 d3 d4 w k k'
set_option maxRecDepth 100000 in
set_option maxHeartbeats 4000000 in
theorem lwChain_none0 (id lk way ver want : Int) (own notes knows got : List Int) (live back : List Bool) (A1 A2 A3 A4 A5 A6 A7 A8 B1 B2 B3 B4 B5 B6 B7 B8 : Option Addr) (c1 c2 c3 c4 c5 c6 c7 c8 d1 d2 d3 d4 d5 d6 d7 d8 : Nat) (w : World)
    (a1 : Ints w A1 own.length own) (b1 : Ints w B1 own.length own) (a2 : Ints w A2 notes.length notes) (b2 : Ints w B2 notes.length notes) (a8 : Ints w A8 knows.length knows) (b8 : Ints w B8 knows.length knows) (m1 : own.length ≤ maxLen) (m2 : notes.length ≤ maxLen) (m8 : knows.length ≤ maxLen)
    (ha : StAt w ⟨way, ver, want, [], live, back, got⟩ A3 A4 A5 A6) (hb : StAt w ⟨way, ver, want, [], live, back, got⟩ B3 B4 B5 B6) :
    Calls Tryd.prog 37 #[.agg #[.int .i64 id, .slice A1 own.length c1, .slice A2 notes.length c2, .int .i64 lk, .int .i64 way, .int .i64 ver, .int .i64 want, .slice A3 0 c3, .slice A4 live.length c4, .slice A5 back.length c5, .slice A6 got.length c6, .slice A7 0 c7, .slice A8 knows.length c8], .agg #[.int .i64 id, .slice B1 own.length d1, .slice B2 notes.length d2, .int .i64 lk, .int .i64 way, .int .i64 ver, .int .i64 want, .slice B3 0 d3, .slice B4 live.length d4, .slice B5 back.length d5, .slice B6 got.length d6, .slice B7 0 d7, .slice B8 knows.length d8]] w fun e w' => e = .returned (.bool true) ∧ Keeps noBlk w w' := by
  have F1 := Lib.hid (fun W (hk : Keeps noBlk w W) => lwBank_yes A1 A2 B1 B2 own.length notes.length c1 c2 d1 d2 lk own notes W (a1.keeps hk fun _ _ h => h) (b1.keeps hk fun _ _ h => h) (a2.keeps hk fun _ _ h => h) (b2.keeps hk fun _ _ h => h) m1 m2)
  have F2 := Lib.hid (fun W (hk : Keeps noBlk w W) => lwState_none0 way ver want live back got A3 A4 A5 A6 B3 B4 B5 B6 c3 c4 c5 c6 d3 d4 d5 d6 W (ha.kept hk) (hb.kept hk))
  have F3 := Lib.hid (fun W (hk : Keeps noBlk w W) => (lwInts_yes A8 B8 knows.length c8 d8 knows W (a8.keeps hk fun _ _ h => h) (b8.keeps hk fun _ _ h => h) m8).mono fun _ _ h => qt_keep h)
  clear ha hb a1 b1 a2 b2 a8 b8 m1 m2 m8
  have h1 : (id != id) = false := by simp
  have HBa := Lib.hid ((Box.new w _ rfl 47 #[.int .i64 id, .slice A1 own.length c1, .slice A2 notes.length c2, .int .i64 lk, .int .i64 way, .int .i64 ver, .int .i64 want, .slice A3 0 c3, .slice A4 live.length c4, .slice A5 back.length c5, .slice A6 got.length c6, .slice A7 0 c7, .slice A8 knows.length c8]).alloc (.cells #[.int .i64 id, .slice B1 own.length d1, .slice B2 notes.length d2, .int .i64 lk, .int .i64 way, .int .i64 ver, .int .i64 want, .slice B3 0 d3, .slice B4 live.length d4, .slice B5 back.length d5, .slice B6 got.length d6, .slice B7 0 d7, .slice B8 knows.length d8] 47))
  have HBb := Lib.hid (Box.new (w.alloc (.cells #[.int .i64 id, .slice A1 own.length c1, .slice A2 notes.length c2, .int .i64 lk, .int .i64 way, .int .i64 ver, .int .i64 want, .slice A3 0 c3, .slice A4 live.length c4, .slice A5 back.length c5, .slice A6 got.length c6, .slice A7 0 c7, .slice A8 knows.length c8] 47)) (w.heap.size + 1) (by simp) 47 #[.int .i64 id, .slice B1 own.length d1, .slice B2 notes.length d2, .int .i64 lk, .int .i64 way, .int .i64 ver, .int .i64 want, .slice B3 0 d3, .slice B4 live.length d4, .slice B5 back.length d5, .slice B6 got.length d6, .slice B7 0 d7, .slice B8 knows.length d8])
  have HK := Lib.hid (((Keeps.refl noBlk w).alloc (.cells #[.int .i64 id, .slice A1 own.length c1, .slice A2 notes.length c2, .int .i64 lk, .int .i64 way, .int .i64 ver, .int .i64 want, .slice A3 0 c3, .slice A4 live.length c4, .slice A5 back.length c5, .slice A6 got.length c6, .slice A7 0 c7, .slice A8 knows.length c8] 47)).alloc (.cells #[.int .i64 id, .slice B1 own.length d1, .slice B2 notes.length d2, .int .i64 lk, .int .i64 way, .int .i64 ver, .int .i64 want, .slice B3 0 d3, .slice B4 live.length d4, .slice B5 back.length d5, .slice B6 got.length d6, .slice B7 0 d7, .slice B8 knows.length d8] 47))
  go_enter Tryd.func37, Tryd.ntmps37
  go_wp2_with fail
  refine (F1.out _ HK.out).mono ?_
  rintro e w1 ⟨rfl, hk1⟩
  have ha := HBa.out.keeps hk1 (fun h => h)
  clear HBa
  have HBa := Lib.hid ha
  clear ha
  have hb := HBb.out.keeps hk1 (fun h => h)
  clear HBb
  have HBb := Lib.hid hb
  clear hb
  have hr := HK.out.trans hk1
  clear HK
  have HK := Lib.hid hr
  clear hr
  have sz1 := hk1.size
  (try simp at sz1)
  clear hk1
  have hb := HBa.out
  have a0 := hb.cell 0
  have a1 := hb.cell 1
  have a2 := hb.cell 2
  have a3 := hb.cell 3
  have a4 := hb.cell 4
  have a5 := hb.cell 5
  have a6 := hb.cell 6
  have a7 := hb.cell 7
  have a8 := hb.cell 8
  have a9 := hb.cell 9
  have a10 := hb.cell 10
  have a11 := hb.cell 11
  have a12 := hb.cell 12
  simp at a0 a1 a2 a3 a4 a5 a6 a7 a8 a9 a10 a11 a12
  have za := hb.lt
  clear hb
  have hb := HBb.out
  have b0 := hb.cell 0
  have b1 := hb.cell 1
  have b2 := hb.cell 2
  have b3 := hb.cell 3
  have b4 := hb.cell 4
  have b5 := hb.cell 5
  have b6 := hb.cell 6
  have b7 := hb.cell 7
  have b8 := hb.cell 8
  have b9 := hb.cell 9
  have b10 := hb.cell 10
  have b11 := hb.cell 11
  have b12 := hb.cell 12
  simp at b0 b1 b2 b3 b4 b5 b6 b7 b8 b9 b10 b11 b12
  have zb := hb.lt
  clear hb
  go_wp2_with fail
  refine (F2.out _ HK.out).mono ?_
  rintro e w2 ⟨rfl, hk2⟩
  clear a0 a1 a2 a3 a4 a5 a6 a7 a8 a9 a10 a11 a12 b0 b1 b2 b3 b4 b5 b6 b7 b8 b9 b10 b11 b12 za zb
  have ha := HBa.out.keeps hk2 (fun h => h)
  clear HBa
  have HBa := Lib.hid ha
  clear ha
  have hb := HBb.out.keeps hk2 (fun h => h)
  clear HBb
  have HBb := Lib.hid hb
  clear hb
  have hr := HK.out.trans hk2
  clear HK
  have HK := Lib.hid hr
  clear hr
  have sz2 := hk2.size
  (try simp at sz2)
  clear hk2
  have hb := HBa.out
  have a0 := hb.cell 0
  have a1 := hb.cell 1
  have a2 := hb.cell 2
  have a3 := hb.cell 3
  have a4 := hb.cell 4
  have a5 := hb.cell 5
  have a6 := hb.cell 6
  have a7 := hb.cell 7
  have a8 := hb.cell 8
  have a9 := hb.cell 9
  have a10 := hb.cell 10
  have a11 := hb.cell 11
  have a12 := hb.cell 12
  simp at a0 a1 a2 a3 a4 a5 a6 a7 a8 a9 a10 a11 a12
  have za := hb.lt
  clear hb
  have hb := HBb.out
  have b0 := hb.cell 0
  have b1 := hb.cell 1
  have b2 := hb.cell 2
  have b3 := hb.cell 3
  have b4 := hb.cell 4
  have b5 := hb.cell 5
  have b6 := hb.cell 6
  have b7 := hb.cell 7
  have b8 := hb.cell 8
  have b9 := hb.cell 9
  have b10 := hb.cell 10
  have b11 := hb.cell 11
  have b12 := hb.cell 12
  simp at b0 b1 b2 b3 b4 b5 b6 b7 b8 b9 b10 b11 b12
  have zb := hb.lt
  clear hb
  go_wp2_with fail
  refine (F3.out _ HK.out).mono ?_
  rintro e w3 ⟨rfl, hk3⟩
  clear a0 a1 a2 a3 a4 a5 a6 a7 a8 a9 a10 a11 a12 b0 b1 b2 b3 b4 b5 b6 b7 b8 b9 b10 b11 b12 za zb
  have ha := HBa.out.keeps hk3 (fun h => h)
  clear HBa
  have HBa := Lib.hid ha
  clear ha
  have hb := HBb.out.keeps hk3 (fun h => h)
  clear HBb
  have HBb := Lib.hid hb
  clear hb
  have hr := HK.out.trans hk3
  clear HK
  have HK := Lib.hid hr
  clear hr
  have sz3 := hk3.size
  (try simp at sz3)
  clear hk3
  go_wp2
  go_loopw [5] (fun i wr => i = .int .i64 0 ∧ Keeps noBlk w3 wr) (fun _ _ => 0)
  case atStart => exact ⟨rfl, Keeps.refl _ _⟩
  case round =>
    obtain ⟨rfl, hkr⟩ := hrel
    have ha := HBa.out.keeps hkr (fun h => h)
    clear HBa
    have HBa := Lib.hid ha
    clear ha
    have hb := HBb.out.keeps hkr (fun h => h)
    clear HBb
    have HBb := Lib.hid hb
    clear hb
    have hr := HK.out.trans hkr
    clear HK
    have HK := Lib.hid hr
    clear hr
    clear hkr
    have hb := HBa.out
    have a0 := hb.cell 0
    have a1 := hb.cell 1
    have a2 := hb.cell 2
    have a3 := hb.cell 3
    have a4 := hb.cell 4
    have a5 := hb.cell 5
    have a6 := hb.cell 6
    have a7 := hb.cell 7
    have a8 := hb.cell 8
    have a9 := hb.cell 9
    have a10 := hb.cell 10
    have a11 := hb.cell 11
    have a12 := hb.cell 12
    simp at a0 a1 a2 a3 a4 a5 a6 a7 a8 a9 a10 a11 a12
    have za := hb.lt
    clear hb
    have hb := HBb.out
    have b0 := hb.cell 0
    have b1 := hb.cell 1
    have b2 := hb.cell 2
    have b3 := hb.cell 3
    have b4 := hb.cell 4
    have b5 := hb.cell 5
    have b6 := hb.cell 6
    have b7 := hb.cell 7
    have b8 := hb.cell 8
    have b9 := hb.cell 9
    have b10 := hb.cell 10
    have b11 := hb.cell 11
    have b12 := hb.cell 12
    simp at b0 b1 b2 b3 b4 b5 b6 b7 b8 b9 b10 b11 b12
    have zb := hb.lt
    clear hb
    go_wp2
    go_ret
    exact ⟨rfl, HK.out⟩
theorem lwChain_none (c d : ChM) (w : World) (s : SameC c d) (hp : c.past = []) (h0 : c.st.x.sent = []) (k : ChAt w c) (k' : ChAt w d) : Calls Tryd.prog 37 #[c.val, d.val] w fun e w' => e = .returned (.bool true) ∧ Keeps noBlk w w' := by
  obtain ⟨id, ⟨⟨own, notes, lk⟩, A1, A2, c1, c2⟩, ⟨⟨way, ver, want, sent, live, back, got⟩, A3, A4, A5, A6, c3, c4, c5, c6⟩, past, A7, c7, knows, A8, c8⟩ := c
  obtain ⟨id', ⟨b', B1, B2, d1, d2⟩, ⟨x', B3, B4, B5, B6, d3, d4, d5, d6⟩, past', B7, d7, knows', B8, d8⟩ := d
  obtain ⟨s1, s2, s3, s4, s5⟩ := s
  dsimp only at s1 s2 s3 s4 s5 hp h0
  subst s1
  subst s2
  subst s3
  subst s5
  subst hp
  subst h0
  obtain rfl : past' = [] := List.eq_nil_of_length_eq_zero s4.1.symm
  exact lwChain_none0 id lk way ver want own notes knows got live back A1 A2 A3 A4 A5 A6 A7 A8 B1 B2 B3 B4 B5 B6 B7 B8 c1 c2 c3 c4 c5 c6 c7 c8 d1 d2 d3 d4 d5 d6 d7 d8 w k.own k'.own k.notes k'.notes k.knows k'.knows k.m1 k.m2 k.m4 k.st k'.st
end Go.Proofs.YtcnbephpadmboaaDoor
