/- What the program's relays ask for is what the model's ask for. What the laws of the relays use of states and chains. -/
import Derived.Test.YtcnbephpadmboaaGreatDoorRyA
import Derived.Test.YtcnbephpadmboaaGreatDoorURyB
import Derived.Test.YtcnbephpadmboaaGreatDoorRyD
import Derived.Test.YtcnbephpadmboaaGreatDoorUCxN
import Derived.Test.YtcnbephpadmboaaGreatDoorCxF
import Derived.Test.YtcnbephpadmboaaGreatDoorUCxS
import Derived.Test.YtcnbephpadmboaaGreatDoorCxU
import Derived.Test.YtcnbephpadmboaaGreatDoorUCxM
import Derived.Test.YtcnbephpadmboaaGreatDoorCxL
import Derived.Test.YtcnbephpadmboaaGreatDoorCxH
import Derived.Test.YtcnbephpadmboaaGreatDoorUStF
set_option linter.unusedVariables false
set_option linter.unusedSimpArgs false
/-! RyF -/
namespace Go.Proofs.YtcnbephpadmboaaGreatDoor
open Go.RowKit

theorem setN_mine {x : StL} {q : Int} (hs : stB x = true) : decide (setN x q = 1) = mineB x q := by
  unfold mineB setN
  by_cases hc : 1 ≤ q ∧ q ≤ x.sent.length
  · rw [if_pos ⟨hs, hc⟩]
    unfold setOf
    cases x.live.getD (q - 1).toNat false <;> cases x.back.getD (q - 1).toNat false <;> simp [hc]
  · rw [if_neg (fun h => hc h.2)]
    rw [decide_eq_false (by decide), decide_eq_false (fun h => hc ⟨h.1, h.2.1⟩)]
theorem mine_in {x : StL} {q : Int} (hs : stB x = true) (h : mineB x q = true) : 1 ≤ q ∧ q ≤ 8 := by
  unfold mineB at h
  have := (stB_len hs).1
  have h := of_decide_eq_true h
  omega
theorem mt_tell {c : ChM} {y : StL} {q : Int} (hb : ckB c = true) (hy : stB y = true) : mtB c y q = tellB c.st.x y q := by
  have hs := (of_decide_eq_true hb).2.2.1
  unfold mtB tellB
  rw [setN_mine hs]
  rcases Bool.eq_false_or_eq_true (mineB c.st.x q) with hm | hm
  · have h := mine_in hs hm
    rw [gotN_at hy h.1 h.2]
  · rw [hm]
    rfl
theorem ml_late {c : ChM} {y : StL} {t q : Int} (hb : ckB c = true) (hy : stB y = true) : mlB c y t q = lateB c.st.x y t q := by
  have hs := (of_decide_eq_true hb).2.2.1
  unfold mlB lateB
  rw [setN_mine hs]
  rcases Bool.eq_false_or_eq_true (mineB c.st.x q) with hm | hm
  · have h := mine_in hs hm
    rw [gotN_at hy h.1 h.2]
  · rw [hm]
    rfl
/-- A packet that an ok state sent. -/
theorem sent_parts {x : StL} {k : Nat} (hs : stB x = true) (hk : k < x.sent.length) : kindB (x.sent.getD k pk0).k = true ∧ userB (x.sent.getD k pk0).f = true ∧ 0 ≤ (x.sent.getD k pk0).m ∧ (x.sent.getD k pk0).m ≤ 1000 := (fit_of hs).pk k hk
theorem refB_turn {b : BankL} {k f m : Int} (hq : okB b = true) (hk : kindB k = true) (hu : userB f = true) (hm : 0 ≤ m) : refB b k f m = turnB b k f m := by
  unfold refB turnB backOk
  rw [hq, hk, hu]
  by_cases h : m ≤ room b k
  · simp [hm, h]
  · simp [h]
theorem refB_len {b : BankL} {k f m : Int} (hq : okB b = true) (hk : kindB k = true) (hu : userB f = true) (hm : 0 ≤ m) : (refB b k f m).own.length ≤ 1000 ∧ (refB b k f m).notes.length ≤ 1000 := by
  rw [refB_turn hq hk hu hm]
  have := turnB_len (k := k) (f := f) (s := m) hq
  omega
theorem m64_user {f : Int} (h : userB f = true) : M64 f := by
  unfold userB at h
  simp only [Bool.and_eq_true, decide_eq_true_eq] at h
  exact ⟨by omega, by omega⟩
/-- A chain that is ok, with its heights linked and another bank and state, is as chain() wants it. -/
theorem lnk_turn {w W : World} {c : ChM} {P : Option Addr} {lo : Nat} {s : BkM} {t : StM} (h : ChAt w c) (hb : ckB c = true) (hk : Keeps noBlk w W) (hl : Lk W lo P c.past.reverse) (i1 : Ints W s.A1 s.b.own.length s.b.own) (i2 : Ints W s.A2 s.b.notes.length s.b.notes) (ht : t.At W)
    (l1 : s.b.own.length ≤ 1000) (l2 : s.b.notes.length ≤ 1000) (l3 : t.x.sent.length ≤ 1000 ∧ t.x.live.length ≤ 1000 ∧ t.x.back.length ≤ 1000 ∧ t.x.got.length ≤ 1000) : Lnk W { c with bk := s, st := t } P lo := by
  have q := lnk_of (h.kept hk) hb hl
  exact ⟨i1, i2, ht, q.past, q.knows, hl, l1, l2, l3, q.l4, q.l5, q.l6⟩
/-- A list of heights lies in blocks of its own type: a store into another box leaves it. -/
theorem st_len8 {x : StL} (h : stB x = true) : x.sent.length ≤ 1000 ∧ x.live.length ≤ 1000 ∧ x.back.length ≤ 1000 ∧ x.got.length ≤ 1000 := by
  have := stB_len h
  omega
theorem shown_any_no (c : ChM) (y : StM) (w : World) (hc : ChAt w c) (hy : y.At w) (ht : Tabs w) (hb : (ckB c && stB y.x) = false) :
    Calls Tryz.prog 40 #[y.val, c.val] w fun e w' => e = .returned (.tuple #[lk0, .bool false]) ∧ Keeps noBlk w w' := by
  rcases Bool.eq_false_or_eq_true (ckB c) with h1 | h1
  · rw [h1] at hb
    exact shown_any_no2 c y w hc hy ht h1 hb
  · exact shown_any_no1 c y w hc hy ht h1
theorem shown_one_no (c : ChM) (y : StM) (h : Int) (w : World) (hc : ChAt w c) (hy : y.At w) (ht : Tabs w) (hb : (ckB c && stB y.x && in2 h 1 90) = false) :
    Calls Tryz.prog 66 #[.agg #[.int .i64 y.x.way, .int .i64 y.x.ver, .int .i64 y.x.want, .slice y.A1 y.x.sent.length y.c1, .slice y.A2 y.x.live.length y.c2, .slice y.A3 y.x.back.length y.c3, .slice y.A4 y.x.got.length y.c4, .int .i64 h], c.val] w fun e w' => e = .returned (.tuple #[lk0, .bool false]) ∧ Keeps noBlk w w' := by
  rcases Bool.eq_false_or_eq_true (ckB c) with h1 | h1
  · rcases Bool.eq_false_or_eq_true (stB y.x) with h2 | h2
    · rw [h1, h2] at hb
      exact shown_one_no3 c y h w hc hy ht h1 h2 hb
    · exact shown_one_no2 c y h w hc hy ht h1 h2
  · exact shown_one_no1 c y h w hc hy ht h1
end Go.Proofs.YtcnbephpadmboaaGreatDoor

/-! RyL -/
namespace Go.Proofs.YtcnbephpadmboaaGreatDoor
open Go.RowKit
theorem eqSt_same2 (s t : StM) (W : World) (e : s.x = t.x) (k : s.At W) (k' : t.At W) : Calls Tryz.prog 15 #[s.val, t.val] W (fun e w' => e = .returned (.bool true) ∧ Keeps noBlk W w') := by
  obtain ⟨x, A1, A2, A3, A4, c1, c2, c3, c4⟩ := s
  obtain ⟨y, B1, B2, B3, B4, d1, d2, d3, d4⟩ := t
  obtain rfl : x = y := e
  exact eqState_same x A1 A2 A3 A4 B1 B2 B3 B4 c1 c2 c3 c4 d1 d2 d3 d4 W k k'
theorem toSt_any (y : StM) (w : World) (hy : y.At w) (hs : stTot y.x ≤ 1048576) : Calls Tryz.prog 11 #[y.val] w fun e w' => ∃ t : StM, e = .returned t.val ∧ t.x = y.x ∧ t.Own w' w.heap.size ∧ Keeps noBlk w w' := by
  unfold stTot at hs
  refine (toState_any y.x y.A1 y.A2 y.A3 y.A4 y.c1 y.c2 y.c3 y.c4 w hy (by omega) (by omega) (by omega) (by omega)).mono ?_
  rintro e w' ⟨A1, A2, A3, A4, rfl, ho, hk⟩
  exact ⟨⟨y.x, A1, A2, A3, A4, _, _, _, _⟩, rfl, rfl, ho, hk⟩
theorem markSt_any (t : StM) (lo : Nat) (k : Int) (W : World) (h : t.Own W lo) (hk0 : 0 ≤ k) (hk : k + stN t.x ≤ 1000000000) : Calls Tryz.prog 17 #[t.val, .int .i64 k] W fun e w' => e = .returned (.int .i64 (k + (stN t.x : Int))) ∧ Keeps t.bl W w' :=
  (markState_any t.x t.A1 t.A2 t.A3 t.A4 t.c1 t.c2 t.c3 t.c4 lo k W h hk0 hk).mono fun _ _ h => ⟨h.1, h.2.2⟩
theorem chTot_nn (c : ChM) : 0 ≤ chTot c := by
  have z1 := stTot_nn c.st.x
  have z2 := paTot_nn c.past c.past.length
  unfold chTot pastTot
  omega
theorem stN_le (x : StL) : 0 ≤ (stN x : Int) ∧ (stN x : Int) ≤ 10 * stTot x := by
  unfold stN stTot
  omega
theorem tot_len {x : StL} (h : stTot x ≤ 1048576) : x.sent.length ≤ maxLen ∧ x.live.length ≤ maxLen ∧ x.back.length ≤ maxLen ∧ x.got.length ≤ maxLen := by
  unfold stTot at h
  unfold maxLen
  omega
end Go.Proofs.YtcnbephpadmboaaGreatDoor
