/- impl.ChainOk: it says when a chain is ok. -/
import Derived.Test.YtcnbephpadmboaaDoorUCxM
import Derived.Test.YtcnbephpadmboaaDoorUSt
import Derived.Test.YtcnbephpadmboaaDoorUBOk
set_option linter.unusedVariables false
set_option linter.unusedSimpArgs false
namespace Go.Proofs.YtcnbephpadmboaaDoor
open Go.RowKit

theorem chainIdOk_any (id : Int) (w : World) : Calls Tryd.prog 68 #[.int .i64 id] w fun e w' => e = .returned (.bool (in2 id 1 2)) ∧ w = w' := by
  by_cases h1 : id = 1
  · subst h1
    go_enter Tryd.func68, Tryd.ntmps68
    go_wp2
    go_ret
    exact ⟨rfl, rfl⟩
  · by_cases h2 : id = 2
    · subst h2
      go_enter Tryd.func68, Tryd.ntmps68
      go_wp2
      go_ret
      exact ⟨rfl, rfl⟩
    · have HR : Hid (in2 id 1 2 = false) := Lib.hid (by simp only [in2, Bool.and_eq_false_iff, decide_eq_false_iff_not]; omega)
      have e1 : (id == 1) = false := by simpa using h1
      have e2 : (id == 2) = false := by simpa using h2
      go_enter Tryd.func68, Tryd.ntmps68
      go_wp2
      go_ret
      exact ⟨(by rw [HR.out]; first | done | rfl), rfl⟩
theorem kn_step {l : List Int} {k : Nat} (h : ∀ i, i < k → (1 ≤ l.getD i 0 ∧ l.getD i 0 ≤ 90) ∧ (0 < i → l.getD (i - 1) 0 < l.getD i 0)) (hk : (1 ≤ l.getD k 0 ∧ l.getD k 0 ≤ 90) ∧ (0 < k → l.getD (k - 1) 0 < l.getD k 0)) :
    ∀ i, i < k + 1 → (1 ≤ l.getD i 0 ∧ l.getD i 0 ≤ 90) ∧ (0 < i → l.getD (i - 1) 0 < l.getD i 0) := by
  intro i hi
  rcases Nat.lt_or_ge i k with hl | hl
  · exact h i hl
  · obtain rfl : i = k := by omega
    exact hk
/-- The height before place k. -/
def bef (l : List Int) (k : Nat) : Int := if k = 0 then 0 else l.getD (k - 1) 0
theorem bef_nn {l : List Int} {k : Nat} (h : ∀ i, i < k → (1 ≤ l.getD i 0 ∧ l.getD i 0 ≤ 90) ∧ (0 < i → l.getD (i - 1) 0 < l.getD i 0)) : 0 ≤ bef l k := by
  unfold bef
  split
  · exact Int.le_refl _
  · have := (h (k - 1) (by omega)).1.1; omega
set_option maxHeartbeats 2000000 in
theorem knowsOk_any (A : Option Addr) (c : Nat) (l : List Int) (w : World) (ha : Ints w A l.length l) (hn : l.length ≤ maxLen) :
    Calls Tryd.prog 71 #[.slice A l.length c] w fun e w' => e = .returned (.bool (decide (KnOk l))) ∧ w = w' := by
  unfold maxLen at hn
  have HF : Hid (¬ KnOk l → decide (KnOk l) = false) := Lib.hid fun h => by simpa using h
  have HT : Hid (KnOk l → decide (KnOk l) = true) := Lib.hid fun h => by simpa using h
  generalize decide (KnOk l) = o at HF HT
  have HA := Lib.hid ha
  clear ha
  go_enter Tryd.func71, Tryd.ntmps71
  go_wp2
  go_loopw [3, 8] (fun before i wr => ∃ k : Nat, k ≤ l.length ∧ i = .int .i64 k ∧ before = .int .i64 (bef l k) ∧ (∀ i, i < k → (1 ≤ l.getD i 0 ∧ l.getD i 0 ≤ 90) ∧ (0 < i → l.getD (i - 1) 0 < l.getD i 0)) ∧ wr = w) (fun _ i _ => l.length - (intOf i).toNat)
  case atStart => exact ⟨0, Nat.zero_le _, rfl, rfl, fun i hi => absurd hi (Nat.not_lt_zero _), rfl⟩
  case round =>
    obtain ⟨k, hk, rfl, rfl, hok, rfl⟩ := hrel
    by_cases hlt : k < l.length
    · obtain ⟨b, off, rfl, _, q⟩ := HA.out.at_ hlt
      have HLT := Lib.hid hlt
      have HB : Hid (¬ ((1 ≤ l.getD k 0 ∧ l.getD k 0 ≤ 90) ∧ (0 < k → l.getD (k - 1) 0 < l.getD k 0)) → o = false) := Lib.hid fun h => HF.out fun hh => h (hh k hlt)
      have HS := Lib.hid (fun h => kn_step hok (k := k) h)
      have b0 := bef_nn hok
      have hbe : bef l (k + 1) = l.getD k 0 := by simp [bef]
      have HBE := Lib.hid hbe
      have hb1 : 0 < k → bef l k = l.getD (k - 1) 0 := fun h => by unfold bef; rw [if_neg (by omega)]
      have HB1 := Lib.hid hb1
      have hb2 : k = 0 → bef l k = 0 := fun h => by unfold bef; rw [if_pos h]
      have HB2 := Lib.hid hb2
      clear hok hbe hb1 hb2
      generalize l.getD k 0 = v at *
      generalize bef l k = bf at *
      by_cases c1 : v ≤ bf
      · have HR : Hid (o = false) := Lib.hid (HB.out fun h => by
          rcases Nat.eq_zero_or_pos k with h0 | h0
          · have := HB2.out h0; omega
          · have := HB1.out h0; have := h.2 h0; omega)
        go_wp2
        go_ret
        exact ⟨(by rw [HR.out]; first | done | rfl), rfl⟩
      · by_cases c2 : 90 < v
        · have HR : Hid (o = false) := Lib.hid (HB.out fun h => by omega)
          go_wp2
          go_ret
          exact ⟨(by rw [HR.out]; first | done | rfl), rfl⟩
        · have HS2 := Lib.hid (HS.out ⟨⟨by omega, by omega⟩, fun h0 => by have := HB1.out h0; omega⟩)
          go_wp2
          go_roundw
          case rel => exact ⟨k + 1, HLT.out, by go_num, by rw [HBE.out], HS2.out, by trivial⟩
          case measure => have := HLT.out; simp [intOf]; omega
    · have HR : Hid (o = true) := Lib.hid (HT.out fun i hi => hok i (by omega))
      clear hok
      go_wp2
      go_ret
      exact ⟨(by rw [HR.out]; first | done | rfl), rfl⟩
theorem pa_step {l : List StM} {k : Nat} (h : ∀ i, i < k → stB (l.getD i stm0).x = true) (hk : stB (l.getD k stm0).x = true) : ∀ i, i < k + 1 → stB (l.getD i stm0).x = true := by
  intro i hi
  rcases Nat.lt_or_ge i k with hl | hl
  · exact h i hl
  · obtain rfl : i = k := by omega
    exact hk
def PaOk2 (l : List StM) : Prop := l.length ≤ 90 ∧ PaOk l
instance (l : List StM) : Decidable (PaOk2 l) := by unfold PaOk2; infer_instance
set_option maxRecDepth 100000 in
set_option maxHeartbeats 2000000 in
theorem pastOk_any (A : Option Addr) (c : Nat) (l : List StM) (w : World) (ha : Pas w A l.length l) (hat : ∀ s ∈ l, s.At w) (hn : l.length ≤ maxLen) (ht : Tabs w) :
    Calls Tryd.prog 70 #[.slice A l.length c] w fun e w' => e = .returned (.bool (decide (PaOk2 l))) ∧ Keeps noBlk w w' := by
  unfold maxLen at hn
  have HF : Hid (¬ PaOk2 l → decide (PaOk2 l) = false) := Lib.hid fun h => by simpa using h
  have HTT : Hid (PaOk2 l → decide (PaOk2 l) = true) := Lib.hid fun h => by simpa using h
  generalize decide (PaOk2 l) = o at HF HTT
  have HA := Lib.hid ha
  have HP := Lib.hid hat
  have HT := Lib.hid ht
  clear ha hat ht
  by_cases h90 : l.length ≤ 90
  case neg =>
    have HR : Hid (o = false) := Lib.hid (HF.out fun h => h90 h.1)
    have h9 : (90 : Int) < (l.length : Int) := by omega
    go_enter Tryd.func70, Tryd.ntmps70
    go_wp2
    go_ret
    exact ⟨(by rw [HR.out]; first | done | rfl), Keeps.refl _ _⟩
  have h9 : ¬ (90 : Int) < (l.length : Int) := by omega
  go_enter Tryd.func70, Tryd.ntmps70
  go_wp2
  go_loopw [10] (fun i wr => ∃ k : Nat, k ≤ l.length ∧ i = .int .i64 k ∧ (∀ i, i < k → stB (l.getD i stm0).x = true) ∧ Keeps noBlk w wr) (fun i _ => l.length - (intOf i).toNat)
  case atStart => exact ⟨0, Nat.zero_le _, rfl, fun i hi => absurd hi (Nat.not_lt_zero _), Keeps.refl _ _⟩
  case round =>
    obtain ⟨k, hk, rfl, hok, hkp⟩ := hrel
    have HK := Lib.hid hkp
    clear hkp
    by_cases hlt : k < l.length
    · obtain ⟨b1, o1, rfl, _, q0, q1, q2, q3, q4, q5, q6⟩ := (HA.out.kept HK.out).at_ hlt
      have H1 := Lib.hid ((HP.out _ (getD_mem' stm0 hlt)).kept HK.out)
      have HLT := Lib.hid hlt
      have HS := Lib.hid (fun h => pa_step hok (k := k) h)
      have HB : Hid (stB (l.getD k stm0).x = false → o = false) := Lib.hid fun h => HF.out fun hh => by rw [hh.2 k hlt] at h; cases h
      clear hok
      generalize l.getD k stm0 = p at *
      obtain ⟨x, A1, A2, A3, A4, c1, c2, c3, c4⟩ := p
      dsimp only [StM.At] at q0 q1 q2 q3 q4 q5 q6 H1 HS HB
      have F := Lib.hid (fun W (hk : Keeps noBlk wr W) => implSt_any x A1 A2 A3 A4 c1 c2 c3 c4 W (H1.out.kept hk) (HT.out.keeps (HK.out.trans hk)))
      unfold stV at F
      have hal := Lib.hid ((Keeps.refl noBlk wr).alloc (.cells #[.int .i64 x.way, .int .i64 x.ver, .int .i64 x.want, .slice A1 x.sent.length c1, .slice A2 x.live.length c2, .slice A3 x.back.length c3, .slice A4 x.got.length c4] 27))
      go_wp2_with fail
      refine (F.out _ hal.out).mono ?_
      rintro e w1 ⟨rfl, hk1⟩
      have HK1 := Lib.hid (HK.out.trans (hal.out.trans hk1))
      clear hk1 q0 q1 q2 q3 q4 q5 q6
      rcases Bool.eq_false_or_eq_true (stB x) with hb | hb
      · have HS2 := Lib.hid (HS.out hb)
        rw [hb]
        go_wp2
        go_roundw
        case rel => exact ⟨k + 1, HLT.out, by go_num, HS2.out, HK1.out⟩
        case measure => have := HLT.out; simp [intOf]; omega
      · have HR := Lib.hid (HB.out hb)
        rw [hb]
        go_wp2
        go_ret
        exact ⟨(by rw [HR.out]; first | done | rfl), HK1.out⟩
    · have HR : Hid (o = true) := Lib.hid (HTT.out ⟨h90, fun i hi => hok i (by omega)⟩)
      clear hok
      go_wp2
      go_ret
      exact ⟨(by rw [HR.out]; first | done | rfl), HK.out⟩

set_option maxRecDepth 100000 in
set_option maxHeartbeats 4000000 in
theorem implChOk_any (c : ChM) (w : World) (h : ChAt w c) (ht : Tabs w) :
    Calls Tryd.prog 38 #[c.val] w fun e w' => e = .returned (.bool (ckB c)) ∧ Keeps noBlk w w' := by
  have F0 := Lib.hid (fun W => chainIdOk_any c.id W)
  have F1 := Lib.hid (fun W (hk : Keeps noBlk w W) => implOk_any c.bk.A1 c.bk.A2 c.bk.b.own.length c.bk.b.notes.length c.bk.c1 c.bk.c2 c.bk.b.locked c.bk.b.own c.bk.b.notes W (h.kept hk).own (h.kept hk).notes h.m1 h.m2)
  have F2 := Lib.hid (fun W (hk : Keeps noBlk w W) => implSt_any c.st.x c.st.A1 c.st.A2 c.st.A3 c.st.A4 c.st.c1 c.st.c2 c.st.c3 c.st.c4 W (h.kept hk).st (ht.keeps hk))
  have F3 := Lib.hid (fun W (hk : Keeps noBlk w W) => pastOk_any c.pA c.pc c.past W (h.kept hk).row (h.kept hk).past h.m3 (ht.keeps hk))
  have F4 := Lib.hid (fun W (hk : Keeps noBlk w W) => knowsOk_any c.kA c.kc c.knows W (h.kept hk).knows h.m4)
  have e1 : (⟨c.bk.b.own, c.bk.b.notes, c.bk.b.locked⟩ : BankL) = c.bk.b := rfl
  rw [e1] at F1
  clear e1 h ht
  have HCK : Hid (ckB c = (in2 c.id 1 2 && okB c.bk.b && stB c.st.x && decide (PaOk2 c.past) && decide (KnOk c.knows))) := Lib.hid (by
    rw [Bool.eq_iff_iff]
    simp only [ckB, in2, Bool.and_eq_true, decide_eq_true_eq]
    simp only [CkOk, PaOk2, and_assoc])
  unfold stV at F2
  generalize ckB c = R at HCK
  generalize in2 c.id 1 2 = z0 at F0 HCK
  generalize okB c.bk.b = z1 at F1 HCK
  generalize stB c.st.x = z2 at F2 HCK
  generalize decide (PaOk2 c.past) = z3 at F3 HCK
  generalize decide (KnOk c.knows) = z4 at F4 HCK
  obtain ⟨id, ⟨⟨own, notes, lk⟩, a1, a2, e1, e2⟩, ⟨x, A1, A2, A3, A4, c1, c2, c3, c4⟩, past, pA, pc, knows, kA, kc⟩ := c
  dsimp only at F0 F1 F2 F3 F4
  unfold ChM.val
  dsimp only
  have HBa := Lib.hid (Box.new w _ rfl 47 #[.int .i64 id, .slice a1 own.length e1, .slice a2 notes.length e2, .int .i64 lk, .int .i64 x.way, .int .i64 x.ver, .int .i64 x.want, .slice A1 x.sent.length c1, .slice A2 x.live.length c2, .slice A3 x.back.length c3, .slice A4 x.got.length c4, .slice pA past.length pc, .slice kA knows.length kc])
  have HK := Lib.hid ((Keeps.refl noBlk w).alloc (.cells #[.int .i64 id, .slice a1 own.length e1, .slice a2 notes.length e2, .int .i64 lk, .int .i64 x.way, .int .i64 x.ver, .int .i64 x.want, .slice A1 x.sent.length c1, .slice A2 x.live.length c2, .slice A3 x.back.length c3, .slice A4 x.got.length c4, .slice pA past.length pc, .slice kA knows.length kc] 47))
  cases z0 with
  | false =>
    have HR : Hid (R = false) := Lib.hid (by rw [HCK.out]; simp)
    clear HCK
    go_enter Tryd.func38, Tryd.ntmps38
    go_wp2_with (go_at_call 68; refine (F0.out _).mono ?_; rintro e w' ⟨rfl, rfl⟩)
    go_ret
    exact ⟨(by rw [HR.out]; first | done | rfl), HK.out⟩
  | true =>
  cases z1 with
  | false =>
    have HR : Hid (R = false) := Lib.hid (by rw [HCK.out]; simp)
    clear HCK
    go_enter Tryd.func38, Tryd.ntmps38
    go_wp2_with (go_at_call 68; refine (F0.out _).mono ?_; rintro e w' ⟨rfl, rfl⟩)
    refine (F1.out _ HK.out).mono ?_
    rintro e w1 ⟨rfl, hk1⟩
    have ha := HBa.out.keeps hk1 (fun h => h)
    clear HBa
    have HBa := Lib.hid ha
    clear ha
    have hr := HK.out.trans hk1
    clear HK
    have HK := Lib.hid hr
    clear hr
    clear hk1
    have hb := HBa.out
    have a0 := hb.cell 0
    have a1 := hb.cell 1
    have a2 := hb.cell 2
    have a3 := hb.cell 3
    have a4 := hb.cell 4
    have a5 := hb.cell 5
    have a6 := hb.cell 6
    have a7 := hb.cell 7
    have a8 := hb.cell 8
    have a9 := hb.cell 9
    have a10 := hb.cell 10
    have a11 := hb.cell 11
    have a12 := hb.cell 12
    simp at a0 a1 a2 a3 a4 a5 a6 a7 a8 a9 a10 a11 a12
    have za := hb.lt
    clear hb
    go_wp2
    go_ret
    exact ⟨(by rw [HR.out]; first | done | rfl), HK.out⟩
  | true =>
  cases z2 with
  | false =>
    have HR : Hid (R = false) := Lib.hid (by rw [HCK.out]; simp)
    clear HCK
    go_enter Tryd.func38, Tryd.ntmps38
    go_wp2_with (go_at_call 68; refine (F0.out _).mono ?_; rintro e w' ⟨rfl, rfl⟩)
    refine (F1.out _ HK.out).mono ?_
    rintro e w1 ⟨rfl, hk1⟩
    have ha := HBa.out.keeps hk1 (fun h => h)
    clear HBa
    have HBa := Lib.hid ha
    clear ha
    have hr := HK.out.trans hk1
    clear HK
    have HK := Lib.hid hr
    clear hr
    clear hk1
    have hb := HBa.out
    have a0 := hb.cell 0
    have a1 := hb.cell 1
    have a2 := hb.cell 2
    have a3 := hb.cell 3
    have a4 := hb.cell 4
    have a5 := hb.cell 5
    have a6 := hb.cell 6
    have a7 := hb.cell 7
    have a8 := hb.cell 8
    have a9 := hb.cell 9
    have a10 := hb.cell 10
    have a11 := hb.cell 11
    have a12 := hb.cell 12
    simp at a0 a1 a2 a3 a4 a5 a6 a7 a8 a9 a10 a11 a12
    have za := hb.lt
    clear hb
    go_wp2_with fail
    refine (F2.out _ HK.out).mono ?_
    rintro e w2 ⟨rfl, hk2⟩
    clear a0 a1 a2 a3 a4 a5 a6 a7 a8 a9 a10 a11 a12 za
    have ha := HBa.out.keeps hk2 (fun h => h)
    clear HBa
    have HBa := Lib.hid ha
    clear ha
    have hr := HK.out.trans hk2
    clear HK
    have HK := Lib.hid hr
    clear hr
    clear hk2
    have hb := HBa.out
    have a0 := hb.cell 0
    have a1 := hb.cell 1
    have a2 := hb.cell 2
    have a3 := hb.cell 3
    have a4 := hb.cell 4
    have a5 := hb.cell 5
    have a6 := hb.cell 6
    have a7 := hb.cell 7
    have a8 := hb.cell 8
    have a9 := hb.cell 9
    have a10 := hb.cell 10
    have a11 := hb.cell 11
    have a12 := hb.cell 12
    simp at a0 a1 a2 a3 a4 a5 a6 a7 a8 a9 a10 a11 a12
    have za := hb.lt
    clear hb
    go_wp2
    go_ret
    exact ⟨(by rw [HR.out]; first | done | rfl), HK.out⟩
  | true =>
  cases z3 with
  | false =>
    have HR : Hid (R = false) := Lib.hid (by rw [HCK.out]; simp)
    clear HCK
    go_enter Tryd.func38, Tryd.ntmps38
    go_wp2_with (go_at_call 68; refine (F0.out _).mono ?_; rintro e w' ⟨rfl, rfl⟩)
    refine (F1.out _ HK.out).mono ?_
    rintro e w1 ⟨rfl, hk1⟩
    have ha := HBa.out.keeps hk1 (fun h => h)
    clear HBa
    have HBa := Lib.hid ha
    clear ha
    have hr := HK.out.trans hk1
    clear HK
    have HK := Lib.hid hr
    clear hr
    clear hk1
    have hb := HBa.out
    have a0 := hb.cell 0
    have a1 := hb.cell 1
    have a2 := hb.cell 2
    have a3 := hb.cell 3
    have a4 := hb.cell 4
    have a5 := hb.cell 5
    have a6 := hb.cell 6
    have a7 := hb.cell 7
    have a8 := hb.cell 8
    have a9 := hb.cell 9
    have a10 := hb.cell 10
    have a11 := hb.cell 11
    have a12 := hb.cell 12
    simp at a0 a1 a2 a3 a4 a5 a6 a7 a8 a9 a10 a11 a12
    have za := hb.lt
    clear hb
    go_wp2_with fail
    refine (F2.out _ HK.out).mono ?_
    rintro e w2 ⟨rfl, hk2⟩
    clear a0 a1 a2 a3 a4 a5 a6 a7 a8 a9 a10 a11 a12 za
    have ha := HBa.out.keeps hk2 (fun h => h)
    clear HBa
    have HBa := Lib.hid ha
    clear ha
    have hr := HK.out.trans hk2
    clear HK
    have HK := Lib.hid hr
    clear hr
    clear hk2
    have hb := HBa.out
    have a0 := hb.cell 0
    have a1 := hb.cell 1
    have a2 := hb.cell 2
    have a3 := hb.cell 3
    have a4 := hb.cell 4
    have a5 := hb.cell 5
    have a6 := hb.cell 6
    have a7 := hb.cell 7
    have a8 := hb.cell 8
    have a9 := hb.cell 9
    have a10 := hb.cell 10
    have a11 := hb.cell 11
    have a12 := hb.cell 12
    simp at a0 a1 a2 a3 a4 a5 a6 a7 a8 a9 a10 a11 a12
    have za := hb.lt
    clear hb
    go_wp2_with fail
    refine (F3.out _ HK.out).mono ?_
    rintro e w3 ⟨rfl, hk3⟩
    clear a0 a1 a2 a3 a4 a5 a6 a7 a8 a9 a10 a11 a12 za
    have ha := HBa.out.keeps hk3 (fun h => h)
    clear HBa
    have HBa := Lib.hid ha
    clear ha
    have hr := HK.out.trans hk3
    clear HK
    have HK := Lib.hid hr
    clear hr
    clear hk3
    have hb := HBa.out
    have a0 := hb.cell 0
    have a1 := hb.cell 1
    have a2 := hb.cell 2
    have a3 := hb.cell 3
    have a4 := hb.cell 4
    have a5 := hb.cell 5
    have a6 := hb.cell 6
    have a7 := hb.cell 7
    have a8 := hb.cell 8
    have a9 := hb.cell 9
    have a10 := hb.cell 10
    have a11 := hb.cell 11
    have a12 := hb.cell 12
    simp at a0 a1 a2 a3 a4 a5 a6 a7 a8 a9 a10 a11 a12
    have za := hb.lt
    clear hb
    go_wp2
    go_ret
    exact ⟨(by rw [HR.out]; first | done | rfl), HK.out⟩
  | true =>
  cases z4 with
  | false =>
    have HR : Hid (R = false) := Lib.hid (by rw [HCK.out]; simp)
    clear HCK
    go_enter Tryd.func38, Tryd.ntmps38
    go_wp2_with (go_at_call 68; refine (F0.out _).mono ?_; rintro e w' ⟨rfl, rfl⟩)
    refine (F1.out _ HK.out).mono ?_
    rintro e w1 ⟨rfl, hk1⟩
    have ha := HBa.out.keeps hk1 (fun h => h)
    clear HBa
    have HBa := Lib.hid ha
    clear ha
    have hr := HK.out.trans hk1
    clear HK
    have HK := Lib.hid hr
    clear hr
    clear hk1
    have hb := HBa.out
    have a0 := hb.cell 0
    have a1 := hb.cell 1
    have a2 := hb.cell 2
    have a3 := hb.cell 3
    have a4 := hb.cell 4
    have a5 := hb.cell 5
    have a6 := hb.cell 6
    have a7 := hb.cell 7
    have a8 := hb.cell 8
    have a9 := hb.cell 9
    have a10 := hb.cell 10
    have a11 := hb.cell 11
    have a12 := hb.cell 12
    simp at a0 a1 a2 a3 a4 a5 a6 a7 a8 a9 a10 a11 a12
    have za := hb.lt
    clear hb
    go_wp2_with fail
    refine (F2.out _ HK.out).mono ?_
    rintro e w2 ⟨rfl, hk2⟩
    clear a0 a1 a2 a3 a4 a5 a6 a7 a8 a9 a10 a11 a12 za
    have ha := HBa.out.keeps hk2 (fun h => h)
    clear HBa
    have HBa := Lib.hid ha
    clear ha
    have hr := HK.out.trans hk2
    clear HK
    have HK := Lib.hid hr
    clear hr
    clear hk2
    have hb := HBa.out
    have a0 := hb.cell 0
    have a1 := hb.cell 1
    have a2 := hb.cell 2
    have a3 := hb.cell 3
    have a4 := hb.cell 4
    have a5 := hb.cell 5
    have a6 := hb.cell 6
    have a7 := hb.cell 7
    have a8 := hb.cell 8
    have a9 := hb.cell 9
    have a10 := hb.cell 10
    have a11 := hb.cell 11
    have a12 := hb.cell 12
    simp at a0 a1 a2 a3 a4 a5 a6 a7 a8 a9 a10 a11 a12
    have za := hb.lt
    clear hb
    go_wp2_with fail
    refine (F3.out _ HK.out).mono ?_
    rintro e w3 ⟨rfl, hk3⟩
    clear a0 a1 a2 a3 a4 a5 a6 a7 a8 a9 a10 a11 a12 za
    have ha := HBa.out.keeps hk3 (fun h => h)
    clear HBa
    have HBa := Lib.hid ha
    clear ha
    have hr := HK.out.trans hk3
    clear HK
    have HK := Lib.hid hr
    clear hr
    clear hk3
    have hb := HBa.out
    have a0 := hb.cell 0
    have a1 := hb.cell 1
    have a2 := hb.cell 2
    have a3 := hb.cell 3
    have a4 := hb.cell 4
    have a5 := hb.cell 5
    have a6 := hb.cell 6
    have a7 := hb.cell 7
    have a8 := hb.cell 8
    have a9 := hb.cell 9
    have a10 := hb.cell 10
    have a11 := hb.cell 11
    have a12 := hb.cell 12
    simp at a0 a1 a2 a3 a4 a5 a6 a7 a8 a9 a10 a11 a12
    have za := hb.lt
    clear hb
    go_wp2_with fail
    refine (F4.out _ HK.out).mono ?_
    rintro e w4 ⟨rfl, rfl⟩
    go_wp2
    go_ret
    exact ⟨(by rw [HR.out]; first | done | rfl), HK.out⟩
  | true =>
  have HR : Hid (R = true) := Lib.hid (by rw [HCK.out]; rfl)
  clear HCK
  go_enter Tryd.func38, Tryd.ntmps38
  go_wp2_with (go_at_call 68; refine (F0.out _).mono ?_; rintro e w' ⟨rfl, rfl⟩)
  refine (F1.out _ HK.out).mono ?_
  rintro e w1 ⟨rfl, hk1⟩
  have ha := HBa.out.keeps hk1 (fun h => h)
  clear HBa
  have HBa := Lib.hid ha
  clear ha
  have hr := HK.out.trans hk1
  clear HK
  have HK := Lib.hid hr
  clear hr
  clear hk1
  have hb := HBa.out
  have a0 := hb.cell 0
  have a1 := hb.cell 1
  have a2 := hb.cell 2
  have a3 := hb.cell 3
  have a4 := hb.cell 4
  have a5 := hb.cell 5
  have a6 := hb.cell 6
  have a7 := hb.cell 7
  have a8 := hb.cell 8
  have a9 := hb.cell 9
  have a10 := hb.cell 10
  have a11 := hb.cell 11
  have a12 := hb.cell 12
  simp at a0 a1 a2 a3 a4 a5 a6 a7 a8 a9 a10 a11 a12
  have za := hb.lt
  clear hb
  go_wp2_with fail
  refine (F2.out _ HK.out).mono ?_
  rintro e w2 ⟨rfl, hk2⟩
  clear a0 a1 a2 a3 a4 a5 a6 a7 a8 a9 a10 a11 a12 za
  have ha := HBa.out.keeps hk2 (fun h => h)
  clear HBa
  have HBa := Lib.hid ha
  clear ha
  have hr := HK.out.trans hk2
  clear HK
  have HK := Lib.hid hr
  clear hr
  clear hk2
  have hb := HBa.out
  have a0 := hb.cell 0
  have a1 := hb.cell 1
  have a2 := hb.cell 2
  have a3 := hb.cell 3
  have a4 := hb.cell 4
  have a5 := hb.cell 5
  have a6 := hb.cell 6
  have a7 := hb.cell 7
  have a8 := hb.cell 8
  have a9 := hb.cell 9
  have a10 := hb.cell 10
  have a11 := hb.cell 11
  have a12 := hb.cell 12
  simp at a0 a1 a2 a3 a4 a5 a6 a7 a8 a9 a10 a11 a12
  have za := hb.lt
  clear hb
  go_wp2_with fail
  refine (F3.out _ HK.out).mono ?_
  rintro e w3 ⟨rfl, hk3⟩
  clear a0 a1 a2 a3 a4 a5 a6 a7 a8 a9 a10 a11 a12 za
  have ha := HBa.out.keeps hk3 (fun h => h)
  clear HBa
  have HBa := Lib.hid ha
  clear ha
  have hr := HK.out.trans hk3
  clear HK
  have HK := Lib.hid hr
  clear hr
  clear hk3
  have hb := HBa.out
  have a0 := hb.cell 0
  have a1 := hb.cell 1
  have a2 := hb.cell 2
  have a3 := hb.cell 3
  have a4 := hb.cell 4
  have a5 := hb.cell 5
  have a6 := hb.cell 6
  have a7 := hb.cell 7
  have a8 := hb.cell 8
  have a9 := hb.cell 9
  have a10 := hb.cell 10
  have a11 := hb.cell 11
  have a12 := hb.cell 12
  simp at a0 a1 a2 a3 a4 a5 a6 a7 a8 a9 a10 a11 a12
  have za := hb.lt
  clear hb
  go_wp2_with fail
  refine (F4.out _ HK.out).mono ?_
  rintro e w4 ⟨rfl, rfl⟩
  go_wp2
  go_ret
  exact ⟨(by rw [HR.out]; first | done | rfl), HK.out⟩
end Go.Proofs.YtcnbephpadmboaaDoor
