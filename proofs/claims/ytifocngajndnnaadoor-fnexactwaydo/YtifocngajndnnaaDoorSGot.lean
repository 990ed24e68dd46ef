/- StateGot of the model and of the program. -/
import Derived.Test.YtifocngajndnnaaDoorSS
set_option linter.unusedVariables false
set_option linter.unusedSimpArgs false
namespace Go.Proofs.YtifocngajndnnaaDoor
open Go.RowKit

/-- What became of a packet of the other chain. -/
def gotN (x : StL) (q : Int) : Int := if stB x = true ∧ 1 ≤ q ∧ q ≤ 8 then x.got.getD (q - 1).toNat 0 else 0
theorem gotN_bad {x : StL} {q : Int} (h : stB x = false) : gotN x q = 0 := by simp [gotN, h]
theorem gotN_lo {x : StL} {q : Int} (h : q < 1) : gotN x q = 0 := by unfold gotN; rw [if_neg (by omega)]
theorem gotN_hi {x : StL} {q : Int} (h : 8 < q) : gotN x q = 0 := by unfold gotN; rw [if_neg (by omega)]
theorem gotN_at {x : StL} {q : Int} (h : stB x = true) (h1 : 1 ≤ q) (h2 : q ≤ 8) : gotN x q = x.got.getD (q - 1).toNat 0 := by unfold gotN; rw [if_pos ⟨h, h1, h2⟩]
theorem stB_ok {x : StL} (h : stB x = true) : StOk x := by simpa [stB] using h


set_option maxHeartbeats 1000000 in
theorem specGot_any (x : StL) (A1 A2 A3 A4 : Option Addr) (c1 c2 c3 c4 : Nat) (q : Int) (w : World) (hx : StAt w x A1 A2 A3 A4) :
    Calls Tryd.prog 33 #[stV x A1 A2 A3 A4 c1 c2 c3 c4, .int .i64 q] w fun e w' => e = .returned (.int .i64 (gotN x q)) ∧ Keeps noBlk w w' := by
  have HX := Lib.hid hx
  skip
  clear hx
  have HSP := Lib.hid (fun W (h : StAt W x A1 A2 A3 A4) => specSt_any x A1 A2 A3 A4 c1 c2 c3 c4 W h)
  have N1 := Lib.hid (@gotN_bad x q)
  have N2 := Lib.hid (@gotN_lo x q)
  have N3 := Lib.hid (@gotN_hi x q)
  have N4 := Lib.hid (@gotN_at x q)
  have N5 := Lib.hid (@stB_ok x)
  generalize stB x = o at HSP N1 N4 N5
  generalize hg : gotN x q = g at N1 N2 N3 N4
  clear hg
  have HB0 := Lib.hid (Box.new w _ rfl 31 #[.int .i64 x.way, .int .i64 x.ver, .int .i64 x.want, .slice A1 x.sent.length c1, .slice A2 x.live.length c2, .slice A3 x.back.length c3, .slice A4 x.got.length c4])
  have HK0 := Lib.hid ((Keeps.refl noBlk w).alloc (.cells #[.int .i64 x.way, .int .i64 x.ver, .int .i64 x.want, .slice A1 x.sent.length c1, .slice A2 x.live.length c2, .slice A3 x.back.length c3, .slice A4 x.got.length c4] 31))
  unfold stV at HSP ⊢
  go_enter Tryd.func33, Tryd.ntmps33
  go_wp2_with fail
  refine (HSP.out _ (HX.out.alloc _)).mono ?_
  rintro e w1 ⟨rfl, hk1⟩
  have hb := HB0.out.keeps hk1 fun h => h
  have a6 := hb.cell 6
  simp at a6
  have HK1 := Lib.hid (HK0.out.trans hk1)
  clear hb hk1
  cases o with
  | false =>
    have HE := Lib.hid (N1.out rfl)
    go_wp2_with (first | (go_at_call 71; refine (l6In_any _ _ _ _).mono ?_; rintro e w' ⟨rfl, rfl⟩))
    go_ret
    exact ⟨by simp [HE.out], HK1.out⟩
  | true =>
    have hok := N5.out rfl
    have hl8 : x.got.length = 8 := hok.2.2.2.1
    by_cases h1 : q < 1
    · have HE := Lib.hid (N2.out h1)
      have d1 := in2_lo (hi := 8) h1
      clear hok hl8
      go_wp2_with (first | (go_at_call 71; refine (l6In_any _ _ _ _).mono ?_; rintro e w' ⟨rfl, rfl⟩))
      go_ret
      exact ⟨by simp [HE.out], HK1.out⟩
    · by_cases h2 : q ≤ 8
      · have h1' : 1 ≤ q := by omega
        have HE := Lib.hid (N4.out rfl h1' h2)
        have d1 := in2_yes h1' h2
        obtain ⟨k, hk⟩ : ∃ k : Nat, q = (k : Int) + 1 := ⟨(q - 1).toNat, by omega⟩
        subst hk
        have hlt : k < x.got.length := by omega
        have hkk : ((k : Int) + 1 - 1).toNat = k := by omega
        rw [hkk] at HE
        obtain ⟨b, off, rfl, hb, d4⟩ := (HX.out.kept HK1.out).1.2.2.2.at_ hlt
        generalize x.got.getD k 0 = y at HE d4
        clear hok hl8 hkk N1 N2 N3 N4 N5
        go_wp2_with (first | (go_at_call 71; refine (l6In_any _ _ _ _).mono ?_; rintro e w' ⟨rfl, rfl⟩))
        go_ret
        exact ⟨by simp [HE.out], HK1.out⟩
      · have HE := Lib.hid (N3.out (by omega))
        have d1 := in2_hi (lo := 1) (Int.not_le.1 h2)
        clear hok hl8
        go_wp2_with (first | (go_at_call 71; refine (l6In_any _ _ _ _).mono ?_; rintro e w' ⟨rfl, rfl⟩))
        go_ret
        exact ⟨by simp [HE.out], HK1.out⟩

set_option maxHeartbeats 1000000 in
theorem implGot_any (x : StL) (A1 A2 A3 A4 : Option Addr) (c1 c2 c3 c4 : Nat) (q : Int) (w : World) (hx : StAt w x A1 A2 A3 A4) (ht : Tabs w) :
    Calls Tryd.prog 32 #[stV x A1 A2 A3 A4 c1 c2 c3 c4, .int .i64 q] w fun e w' => e = .returned (.int .i64 (gotN x q)) ∧ Keeps noBlk w w' := by
  have HX := Lib.hid hx
  have HT := Lib.hid ht
  clear hx
  have HSP := Lib.hid (fun W (h : StAt W x A1 A2 A3 A4) hT => implSt_any x A1 A2 A3 A4 c1 c2 c3 c4 W h hT)
  have N1 := Lib.hid (@gotN_bad x q)
  have N2 := Lib.hid (@gotN_lo x q)
  have N3 := Lib.hid (@gotN_hi x q)
  have N4 := Lib.hid (@gotN_at x q)
  have N5 := Lib.hid (@stB_ok x)
  generalize stB x = o at HSP N1 N4 N5
  generalize hg : gotN x q = g at N1 N2 N3 N4
  clear hg
  have HB0 := Lib.hid (Box.new w _ rfl 31 #[.int .i64 x.way, .int .i64 x.ver, .int .i64 x.want, .slice A1 x.sent.length c1, .slice A2 x.live.length c2, .slice A3 x.back.length c3, .slice A4 x.got.length c4])
  have HK0 := Lib.hid ((Keeps.refl noBlk w).alloc (.cells #[.int .i64 x.way, .int .i64 x.ver, .int .i64 x.want, .slice A1 x.sent.length c1, .slice A2 x.live.length c2, .slice A3 x.back.length c3, .slice A4 x.got.length c4] 31))
  unfold stV at HSP ⊢
  go_enter Tryd.func32, Tryd.ntmps32
  go_wp2_with fail
  refine (HSP.out _ (HX.out.alloc _) (HT.out.keeps HK0.out)).mono ?_
  rintro e w1 ⟨rfl, hk1⟩
  have hb := HB0.out.keeps hk1 fun h => h
  have a6 := hb.cell 6
  simp at a6
  have HK1 := Lib.hid (HK0.out.trans hk1)
  clear hb hk1
  cases o with
  | false =>
    have HE := Lib.hid (N1.out rfl)
    go_wp2
    go_ret
    exact ⟨by simp [HE.out], HK1.out⟩
  | true =>
    have hok := N5.out rfl
    have hl8 : x.got.length = 8 := hok.2.2.2.1
    by_cases h1 : q < 1
    · have HE := Lib.hid (N2.out h1)
      skip
      clear hok hl8
      go_wp2
      go_ret
      exact ⟨by simp [HE.out], HK1.out⟩
    · by_cases h2 : q ≤ 8
      · have h1' : 1 ≤ q := by omega
        have HE := Lib.hid (N4.out rfl h1' h2)
        skip
        obtain ⟨k, hk⟩ : ∃ k : Nat, q = (k : Int) + 1 := ⟨(q - 1).toNat, by omega⟩
        subst hk
        have hlt : k < x.got.length := by omega
        have hkk : ((k : Int) + 1 - 1).toNat = k := by omega
        rw [hkk] at HE
        obtain ⟨b, off, rfl, hb, d4⟩ := (HX.out.kept HK1.out).1.2.2.2.at_ hlt
        generalize x.got.getD k 0 = y at HE d4
        clear hok hl8 hkk N1 N2 N3 N4 N5
        go_wp2
        go_ret
        exact ⟨by simp [HE.out], HK1.out⟩
      · have HE := Lib.hid (N3.out (by omega))
        skip
        clear hok hl8
        go_wp2
        go_ret
        exact ⟨by simp [HE.out], HK1.out⟩
end Go.Proofs.YtifocngajndnnaaDoor
