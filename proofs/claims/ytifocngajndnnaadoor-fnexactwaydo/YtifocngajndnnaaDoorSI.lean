/- impl's parts of StateOk. -/
import Derived.Test.YtifocngajndnnaaDoorStP
import Derived.Test.YtifocngajndnnaaDoorPkI
import Derived.Deep.RegionHeld3
set_option linter.unusedVariables false
set_option linter.unusedSimpArgs false
namespace Go.Proofs.YtifocngajndnnaaDoor
open Go.RowKit

set_option maxHeartbeats 1000000 in
theorem sentOk_any (A : Option Addr) (n c : Nat) (ps : List Pk) (ver : Int) (w : World) (hp : Pks w A n ps) (hn : n ≤ maxLen) (ht : Tabs w) :
    Calls Tryd.prog 74 #[.slice A n c, .int .i64 ver] w fun e w' => e = .returned (.bool (decide (SentOk ver ps))) ∧ Keeps noBlk w w' := by
  unfold maxLen at hn
  have HP := Lib.hid hp
  have HT := Lib.hid ht
  clear hp ht
  go_enter Tryd.func74, Tryd.ntmps74
  go_wp2
  go_loopw [9] (fun i wr => ∃ k : Nat, k ≤ n ∧ i = .int .i64 k ∧ (∀ j, j < k → pkAt ver j (ps.getD j pk0)) ∧ Keeps noBlk w wr) (fun i _ => n - (intOf i).toNat)
  case atStart => exact ⟨0, Nat.zero_le _, rfl, fun j hj => absurd hj (by omega), Keeps.refl _ _⟩
  case round =>
    obtain ⟨k, hk, rfl, hok, hkp⟩ := hrel
    have HO := Lib.hid hok
    have HK := Lib.hid hkp
    by_cases hlt : k < n
    · obtain ⟨b, off, rfl, hb, c0, c1, c2, c3, c4, c5, c6⟩ := (HP.out.keeps hkp (fun _ _ h => h)).at_ hlt
      clear hok hkp
      generalize hpp : ps.getD k pk0 = p at c0 c1 c2 c3 c4 c5 c6
      have HPP := Lib.hid hpp
      clear hpp
      obtain ⟨s, kd, f, t, m, u, v⟩ := p
      dsimp only at c0 c1 c2 c3 c4 c5 c6
      have HBAD : Hid (¬ pkAt ver k ⟨s, kd, f, t, m, u, v⟩ → decide (SentOk ver ps) = false) := by
        refine Lib.hid fun h => ?_
        simp only [decide_eq_false_iff_not]
        intro hs
        have := hs k (by rw [HP.out.1]; exact hlt)
        rw [HPP.out] at this
        exact h this
      rcases Bool.eq_false_or_eq_true (pkB s kd f t m u v) with ho | ho
      · have hs := (pkB_parts ho).1
        have HOK := Lib.hid ho
        have HIM := Lib.hid (fun W hW => (show Calls Tryd.prog 43 #[.agg #[.int .i64 s, .int .i64 kd, .int .i64 f, .int .i64 t, .int .i64 m, .int .i64 u, .int .i64 v]] W (fun e w' => e = .returned (.bool true) ∧ Keeps noBlk W w') from by rw [← ho]; exact implPk_any s kd f t m u v W hW))
        clear ho
        go_wp2_with fail
        refine (HIM.out _ (HT.out.keeps (HK.out.alloc _))).mono ?_
        rintro e w1 ⟨rfl, hk1⟩
        have hbx := (Box.new wr _ rfl 44 #[.int .i64 s, .int .i64 kd, .int .i64 f, .int .i64 t, .int .i64 m, .int .i64 u, .int .i64 v]).keeps hk1 (fun h => h)
        have x0 := hbx.cell 0
        have x1 := hbx.cell 1
        have x2 := hbx.cell 2
        have x3 := hbx.cell 3
        have x4 := hbx.cell 4
        have x5 := hbx.cell 5
        have x6 := hbx.cell 6
        simp at x0 x1 x2 x3 x4 x5 x6
        have HK1 := Lib.hid ((HK.out.alloc (.cells #[.int .i64 s, .int .i64 kd, .int .i64 f, .int .i64 t, .int .i64 m, .int .i64 u, .int .i64 v] 44)).trans hk1)
        clear hbx hk1
        by_cases hseq : s = (k : Int) + 1
        · have hsd : (s != (k : Int) + 1) = false := by simpa using hseq
          have HSQ := Lib.hid hseq
          clear hseq
          by_cases hv : ver < v
          · have HB := Lib.hid (HBAD.out (fun h => by have := h.2.2; simp only at this; omega))
            go_wp2
            go_ret
            exact ⟨by simp [HB.out], HK1.out⟩
          · go_wp2
            go_roundw
            case rel => exact ⟨k + 1, by omega, by go_num, SentOk.take_step HO.out (by rw [HPP.out]; exact ⟨HOK.out, HSQ.out, by simp only; omega⟩), HK1.out⟩
            case measure => simp [intOf]; omega
        · have hsd : (s != (k : Int) + 1) = true := by simpa using hseq
          have HB := Lib.hid (HBAD.out (fun h => by have := h.2.1; simp only at this; omega))
          clear hseq
          go_wp2
          go_ret
          exact ⟨by simp [HB.out], HK1.out⟩
      · have HIM := Lib.hid (fun W hW => (show Calls Tryd.prog 43 #[.agg #[.int .i64 s, .int .i64 kd, .int .i64 f, .int .i64 t, .int .i64 m, .int .i64 u, .int .i64 v]] W (fun e w' => e = .returned (.bool false) ∧ Keeps noBlk W w') from by rw [← ho]; exact implPk_any s kd f t m u v W hW))
        have HB := Lib.hid (HBAD.out (fun h => by have h1 := h.1; unfold Pk.ok at h1; simp only at h1; rw [ho] at h1; cases h1))
        clear ho
        go_wp2_with fail
        refine (HIM.out _ (HT.out.keeps (HK.out.alloc _))).mono ?_
        rintro e w1 ⟨rfl, hk1⟩
        have HK1 := Lib.hid ((HK.out.alloc (.cells #[.int .i64 s, .int .i64 kd, .int .i64 f, .int .i64 t, .int .i64 m, .int .i64 u, .int .i64 v] 44)).trans hk1)
        clear hk1
        go_wp2
        go_ret
        exact ⟨by simp [HB.out], HK1.out⟩
    · have HS : Hid (SentOk ver ps) := Lib.hid (fun i hi => HO.out i (by have := HP.out.1; omega))
      clear hok hkp
      go_wp2
      go_ret
      exact ⟨by simp [HS.out], HK.out⟩

set_option maxHeartbeats 1000000 in
theorem gotOk_any (A : Option Addr) (n c : Nat) (xs : List Int) (w : World) (ha : Ints w A n xs) (hn : n ≤ maxLen) :
    Calls Tryd.prog 76 #[.slice A n c] w fun e w' => e = .returned (.bool (decide (GotOk xs))) ∧ Qt w w' := by
  unfold maxLen at hn
  have HA := Lib.hid ha
  clear ha
  by_cases hn8 : n = 8
  · subst hn8
    have hl := Lib.hid HA.out.1
    go_enter Tryd.func76, Tryd.ntmps76
    go_wp2
    go_loopw [10] (fun i wr => ∃ k : Nat, k ≤ 8 ∧ i = .int .i64 k ∧ (∀ j, j < k → in2 (xs.getD j 0) 0 2 = true) ∧ Qt w wr) (fun i _ => 8 - (intOf i).toNat)
    case atStart => exact ⟨0, Nat.zero_le _, rfl, fun j hj => absurd hj (by omega), Qt.refl _⟩
    case round =>
      obtain ⟨k, hk, rfl, hok, q, rfl⟩ := hrel
      have HO := Lib.hid hok
      clear hok
      by_cases hlt : k < 8
      · obtain ⟨b, off, rfl, hb, c0⟩ := (HA.out.drewN q).at_ hlt
        have HBAD : Hid (¬ in2 (xs.getD k 0) 0 2 = true → decide (GotOk xs) = false) := by
          refine Lib.hid fun h => ?_
          simp only [decide_eq_false_iff_not]
          intro hs
          exact h (hs.2 k hlt)
        have HGOOD : Hid (in2 (xs.getD k 0) 0 2 = true → ∀ j, j < k + 1 → in2 (xs.getD j 0) 0 2 = true) := by
          refine Lib.hid fun h j hj => ?_
          rcases Nat.lt_or_ge j k with hl | hl
          · exact HO.out j hl
          · obtain rfl : j = k := by omega
            exact h
        generalize xs.getD k 0 = x at c0 HBAD HGOOD
        by_cases h0 : x = 0
        · subst h0
          go_wp2
          go_roundw
          case rel => exact ⟨k + 1, by omega, by go_num, HGOOD.out (in2_yes (by omega) (by omega)), Qt.of _ _⟩
          case measure => simp [intOf]; omega
        · by_cases h1 : x = 1
          · subst h1
            go_wp2
            go_roundw
            case rel => exact ⟨k + 1, by omega, by go_num, HGOOD.out (in2_yes (by omega) (by omega)), Qt.of _ _⟩
            case measure => simp [intOf]; omega
          · by_cases h2 : x = 2
            · subst h2
              go_wp2
              go_roundw
              case rel => exact ⟨k + 1, by omega, by go_num, HGOOD.out (in2_yes (by omega) (by omega)), Qt.of _ _⟩
              case measure => simp [intOf]; omega
            · have d0 : (x != 0) = true := by simpa using h0
              have d1 : (x != 1) = true := by simpa using h1
              have d2 : (x != 2) = true := by simpa using h2
              have HB := Lib.hid (HBAD.out (fun h => by have := in2_parts h; omega))
              clear h0 h1 h2
              go_wp2
              go_ret
              exact ⟨by simp [HB.out], Qt.of _ _⟩
      · have HS : Hid (GotOk xs) := Lib.hid ⟨hl.out, fun i hi => HO.out i (by omega)⟩
        go_wp2
        go_ret
        exact ⟨by simp [HS.out], Qt.of _ _⟩
  · have hne : ((n : Int) != 8) = true := by simp; omega
    have HB : Hid (decide (GotOk xs) = false) := Lib.hid (by
      simp only [decide_eq_false_iff_not]
      intro h
      exact hn8 (HA.out.1 ▸ h.1))
    go_enter Tryd.func76, Tryd.ntmps76
    go_wp2
    go_ret
    exact ⟨by simp [HB.out], Qt.refl _⟩

/-- A state lies in memory behind the value. -/
def StAt (w : World) (x : StL) (A1 A2 A3 A4 : Option Addr) : Prop :=
  (Pks w A1 x.sent.length x.sent ∧ Bools w A2 x.live.length x.live ∧ Bools w A3 x.back.length x.back ∧ Ints w A4 x.got.length x.got) ∧
  (x.sent.length ≤ maxLen ∧ x.live.length ≤ maxLen ∧ x.back.length ≤ maxLen ∧ x.got.length ≤ maxLen)
theorem StAt.keeps {S : Nat → Prop} {w w' : World} {x : StL} {A1 A2 A3 A4 : Option Addr} (h : StAt w x A1 A2 A3 A4) (hk : Keeps S w w')
    (hs : ∀ b, (blk A1 x.sent.length b ∨ blk A2 x.live.length b ∨ blk A3 x.back.length b ∨ blk A4 x.got.length b) → ¬ S b) : StAt w' x A1 A2 A3 A4 :=
  ⟨⟨h.1.1.keeps hk fun b hb => hs b (.inl hb), h.1.2.1.keeps hk fun b hb => hs b (.inr (.inl hb)), h.1.2.2.1.keeps hk fun b hb => hs b (.inr (.inr (.inl hb))), h.1.2.2.2.keeps hk fun b hb => hs b (.inr (.inr (.inr hb)))⟩, h.2⟩
theorem StAt.kept {w w' : World} {x : StL} {A1 A2 A3 A4 : Option Addr} (h : StAt w x A1 A2 A3 A4) (hk : Keeps noBlk w w') : StAt w' x A1 A2 A3 A4 := h.keeps hk fun _ _ h => h
theorem StAt.alloc {w : World} {x : StL} {A1 A2 A3 A4 : Option Addr} (h : StAt w x A1 A2 A3 A4) (o : Obj) : StAt (w.alloc o) x A1 A2 A3 A4 := h.kept ((Keeps.refl _ _).alloc o)
theorem StAt.drewN {w : World} {x : StL} {A1 A2 A3 A4 : Option Addr} (h : StAt w x A1 A2 A3 A4) (n : Nat) : StAt (w.drewN n) x A1 A2 A3 A4 := h.kept ((Keeps.refl _ _).drewN n)

set_option maxHeartbeats 1000000 in
theorem fatesOk_any (way ver want : Int) (A1 A2 A3 : Option Addr) (G : Value) (n1 n2 n3 c1 c2 c3 : Nat) (ls bs : List Bool) (w : World) (h2 : Bools w A2 n2 ls) (h3 : Bools w A3 n3 bs) (m1 : n1 ≤ maxLen) (m2 : n2 ≤ maxLen) (m3 : n3 ≤ maxLen) :
    Calls Tryd.prog 75 #[.agg #[.int .i64 way, .int .i64 ver, .int .i64 want, .slice A1 n1 c1, .slice A2 n2 c2, .slice A3 n3 c3, G]] w fun e w' => e = .returned (.bool (decide (FateOk n1 ls bs))) ∧ Keeps noBlk w w' := by
  unfold maxLen at m1 m2 m3
  have H2 := Lib.hid h2
  have H3 := Lib.hid h3
  clear h2 h3
  by_cases e2 : n2 = n1
  · by_cases e3 : n3 = n1
    · subst e2
      subst e3
      go_enter Tryd.func75, Tryd.ntmps75
      go_wp2
      go_loopw [23] (fun i wr => ∃ k : Nat, k ≤ n3 ∧ i = .int .i64 k ∧ (∀ j, j < k → ¬ (ls.getD j false = true ∧ bs.getD j false = true)) ∧ Qt (w.alloc (.cells #[.int .i64 way, .int .i64 ver, .int .i64 want, .slice A1 n3 c1, .slice A2 n3 c2, .slice A3 n3 c3, G] 31)) wr) (fun i _ => n3 - (intOf i).toNat)
      case atStart => exact ⟨0, Nat.zero_le _, rfl, fun j hj => absurd hj (by omega), Qt.refl _⟩
      case round =>
        obtain ⟨k, hk, rfl, hok, q, rfl⟩ := hrel
        have HO := Lib.hid hok
        clear hok
        by_cases hlt : k < n3
        · obtain ⟨b, off, rfl, hb, d2⟩ := ((H2.out.alloc (.cells #[.int .i64 way, .int .i64 ver, .int .i64 want, .slice A1 n3 c1, .slice A2 n3 c2, .slice A3 n3 c3, G] 31)).drewN q).at_ hlt
          obtain ⟨b', off', rfl, hb', d3⟩ := ((H3.out.alloc (.cells #[.int .i64 way, .int .i64 ver, .int .i64 want, .slice A1 n3 c1, .slice (some ⟨b, off, none⟩) n3 c2, .slice A3 n3 c3, G] 31)).drewN q).at_ hlt
          have HBAD : Hid ((ls.getD k false = true ∧ bs.getD k false = true) → decide (FateOk n3 ls bs) = false) := by
            refine Lib.hid fun h => ?_
            simp only [decide_eq_false_iff_not]
            intro hs
            exact hs.2.2 k hlt h
          have HGOOD : Hid (¬ (ls.getD k false = true ∧ bs.getD k false = true) → ∀ j, j < k + 1 → ¬ (ls.getD j false = true ∧ bs.getD j false = true)) := by
            refine Lib.hid fun h j hj => ?_
            rcases Nat.lt_or_ge j k with hl | hl
            · exact HO.out j hl
            · obtain rfl : j = k := by omega
              exact h
          generalize ls.getD k false = x at d2 HBAD HGOOD
          generalize bs.getD k false = y at d3 HBAD HGOOD
          cases x with
          | false =>
            go_wp2
            go_roundw
            case rel => exact ⟨k + 1, by omega, by go_num, HGOOD.out (by simp), Qt.of _ _⟩
            case measure => simp [intOf]; omega
          | true =>
            cases y with
            | false =>
              go_wp2
              go_roundw
              case rel => exact ⟨k + 1, by omega, by go_num, HGOOD.out (by simp), Qt.of _ _⟩
              case measure => simp [intOf]; omega
            | true =>
              have HB := Lib.hid (HBAD.out ⟨rfl, rfl⟩)
              go_wp2
              go_ret
              exact ⟨by simp [HB.out], ((Keeps.refl _ _).alloc _).drewN _⟩
        · have HS : Hid (FateOk n3 ls bs) := Lib.hid ⟨H2.out.1, H3.out.1, fun i hi => HO.out i (by omega)⟩
          go_wp2
          go_ret
          exact ⟨by simp [HS.out], ((Keeps.refl _ _).alloc _).drewN _⟩
    · have hne : ((n3 : Int) != (n1 : Int)) = true := by simp; omega
      have HB : Hid (decide (FateOk n1 ls bs) = false) := Lib.hid (by
        simp only [decide_eq_false_iff_not]
        intro h
        exact e3 (H3.out.1 ▸ h.2.1))
      subst e2
      go_enter Tryd.func75, Tryd.ntmps75
      go_wp2
      go_ret
      exact ⟨by simp [HB.out], ((Keeps.refl _ _).alloc _)⟩
  · have hne : ((n2 : Int) != (n1 : Int)) = true := by simp; omega
    have HB : Hid (decide (FateOk n1 ls bs) = false) := Lib.hid (by
      simp only [decide_eq_false_iff_not]
      intro h
      exact e2 (H2.out.1 ▸ h.1))
    go_enter Tryd.func75, Tryd.ntmps75
    go_wp2
    go_ret
    exact ⟨by simp [HB.out], ((Keeps.refl _ _).alloc _)⟩
end Go.Proofs.YtifocngajndnnaaDoor
