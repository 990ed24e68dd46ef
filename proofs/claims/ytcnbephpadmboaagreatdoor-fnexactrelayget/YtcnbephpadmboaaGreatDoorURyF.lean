/- What the program's relays ask for is what the model's ask for. What the laws of the relays use of states and chains. -/
import Derived.Test.YtcnbephpadmboaaGreatDoorRyA
import Derived.Test.YtcnbephpadmboaaGreatDoorURyB
import Derived.Test.YtcnbephpadmboaaGreatDoorRyD
import Derived.Test.YtcnbephpadmboaaGreatDoorUCxN
import Derived.Test.YtcnbephpadmboaaGreatDoorCxF
import Derived.Test.YtcnbephpadmboaaGreatDoorUCxS
import Derived.Test.YtcnbephpadmboaaGreatDoorCxU
import Derived.Test.YtcnbephpadmboaaGreatDoorUCxM
import Derived.Test.YtcnbephpadmboaaGreatDoorCxL
import Derived.Test.YtcnbephpadmboaaGreatDoorCxH
import Derived.Test.YtcnbephpadmboaaGreatDoorUStF
set_option linter.unusedVariables false
set_option linter.unusedSimpArgs false
/-! RyF -/
namespace Go.Proofs.YtcnbephpadmboaaGreatDoor
open Go.RowKit

theorem mg_get {c : ChM} {y : StL} {p : Pk} (hb : ckB c = true) (hy : stB y = true) : mgB c y p = getOk c y p := by
  have hs := (of_decide_eq_true hb).2.2.1
  have hw := (stB_ok hs).1.2.1
  unfold mgB getOk
  rw [hasB_ok hy]
  have e1 : decide (c.st.x.way = 3 ∨ c.st.x.way = 4) = decide (3 ≤ c.st.x.way) := by
    rw [decide_eq_decide]
    omega
  rw [e1]
  rcases Bool.eq_false_or_eq_true (l3B y p) with hl | hl
  · have h1 : 1 ≤ p.s ∧ p.s ≤ 8 := by
      unfold l3B at hl
      have h := of_decide_eq_true hl
      have := (stB_len hy).1
      omega
    rw [gotN_at hs h1.1 h1.2]
  · rw [hl]
    simp
theorem refB_turn {b : BankL} {k f m : Int} (hq : okB b = true) (hk : kindB k = true) (hu : userB f = true) (hm : 0 ≤ m) : refB b k f m = turnB b k f m := by
  unfold refB turnB backOk
  rw [hq, hk, hu]
  by_cases h : m ≤ room b k
  · simp [hm, h]
  · simp [h]
/-- A chain that is ok, with its heights linked and another bank and state, is as chain() wants it. -/
theorem lnk_turn {w W : World} {c : ChM} {P : Option Addr} {lo : Nat} {s : BkM} {t : StM} (h : ChAt w c) (hb : ckB c = true) (hk : Keeps noBlk w W) (hl : Lk W lo P c.past.reverse) (i1 : Ints W s.A1 s.b.own.length s.b.own) (i2 : Ints W s.A2 s.b.notes.length s.b.notes) (ht : t.At W)
    (l1 : s.b.own.length ≤ 1000) (l2 : s.b.notes.length ≤ 1000) (l3 : t.x.sent.length ≤ 1000 ∧ t.x.live.length ≤ 1000 ∧ t.x.back.length ≤ 1000 ∧ t.x.got.length ≤ 1000) : Lnk W { c with bk := s, st := t } P lo := by
  have q := lnk_of (h.kept hk) hb hl
  exact ⟨i1, i2, ht, q.past, q.knows, hl, l1, l2, l3, q.l4, q.l5, q.l6⟩
/-- A list of heights lies in blocks of its own type: a store into another box leaves it. -/
theorem st_len8 {x : StL} (h : stB x = true) : x.sent.length ≤ 1000 ∧ x.live.length ≤ 1000 ∧ x.back.length ≤ 1000 ∧ x.got.length ≤ 1000 := by
  have := stB_len h
  omega
theorem shown_any_no (c : ChM) (y : StM) (w : World) (hc : ChAt w c) (hy : y.At w) (ht : Tabs w) (hb : (ckB c && stB y.x) = false) :
    Calls Tryz.prog 40 #[y.val, c.val] w fun e w' => e = .returned (.tuple #[lk0, .bool false]) ∧ Keeps noBlk w w' := by
  rcases Bool.eq_false_or_eq_true (ckB c) with h1 | h1
  · rw [h1] at hb
    exact shown_any_no2 c y w hc hy ht h1 hb
  · exact shown_any_no1 c y w hc hy ht h1
end Go.Proofs.YtcnbephpadmboaaGreatDoor

/-! RyL -/
namespace Go.Proofs.YtcnbephpadmboaaGreatDoor
open Go.RowKit
theorem eqSt_same2 (s t : StM) (W : World) (e : s.x = t.x) (k : s.At W) (k' : t.At W) : Calls Tryz.prog 15 #[s.val, t.val] W (fun e w' => e = .returned (.bool true) ∧ Keeps noBlk W w') := by
  obtain ⟨x, A1, A2, A3, A4, c1, c2, c3, c4⟩ := s
  obtain ⟨y, B1, B2, B3, B4, d1, d2, d3, d4⟩ := t
  obtain rfl : x = y := e
  exact eqState_same x A1 A2 A3 A4 B1 B2 B3 B4 c1 c2 c3 c4 d1 d2 d3 d4 W k k'
theorem toSt_any (y : StM) (w : World) (hy : y.At w) (hs : stTot y.x ≤ 1048576) : Calls Tryz.prog 11 #[y.val] w fun e w' => ∃ t : StM, e = .returned t.val ∧ t.x = y.x ∧ t.Own w' w.heap.size ∧ Keeps noBlk w w' := by
  unfold stTot at hs
  refine (toState_any y.x y.A1 y.A2 y.A3 y.A4 y.c1 y.c2 y.c3 y.c4 w hy (by omega) (by omega) (by omega) (by omega)).mono ?_
  rintro e w' ⟨A1, A2, A3, A4, rfl, ho, hk⟩
  exact ⟨⟨y.x, A1, A2, A3, A4, _, _, _, _⟩, rfl, rfl, ho, hk⟩
theorem markSt_any (t : StM) (lo : Nat) (k : Int) (W : World) (h : t.Own W lo) (hk0 : 0 ≤ k) (hk : k + stN t.x ≤ 1000000000) : Calls Tryz.prog 17 #[t.val, .int .i64 k] W fun e w' => e = .returned (.int .i64 (k + (stN t.x : Int))) ∧ Keeps t.bl W w' :=
  (markState_any t.x t.A1 t.A2 t.A3 t.A4 t.c1 t.c2 t.c3 t.c4 lo k W h hk0 hk).mono fun _ _ h => ⟨h.1, h.2.2⟩
theorem chTot_nn (c : ChM) : 0 ≤ chTot c := by
  have z1 := stTot_nn c.st.x
  have z2 := paTot_nn c.past c.past.length
  unfold chTot pastTot
  omega
theorem stN_le (x : StL) : 0 ≤ (stN x : Int) ∧ (stN x : Int) ≤ 10 * stTot x := by
  unfold stN stTot
  omega
theorem tot_len {x : StL} (h : stTot x ≤ 1048576) : x.sent.length ≤ maxLen ∧ x.live.length ≤ maxLen ∧ x.back.length ≤ maxLen ∧ x.got.length ≤ maxLen := by
  unfold stTot at h
  unfold maxLen
  omega
end Go.Proofs.YtcnbephpadmboaaGreatDoor
