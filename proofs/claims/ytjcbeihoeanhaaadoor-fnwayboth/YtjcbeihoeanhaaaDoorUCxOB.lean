/- impl.ChainOk: it says when a chain is ok. spec.ChainOk: it says when a chain is ok. -/
import Derived.Test.YtjcbeihoeanhaaaDoorUCxMB
import Derived.Test.YtjcbeihoeanhaaaDoorUBOk
import Derived.Test.YtjcbeihoeanhaaaDoorSS
set_option maxRecDepth 100000
set_option maxHeartbeats 8000000
set_option linter.unusedVariables false
set_option linter.unusedSimpArgs false
/-! CxO -/
namespace Go.Proofs.YtjcbeihoeanhaaaDoor
open Go.RowKit

theorem kn_step {l : List Int} {k : Nat} (h : ∀ i, i < k → (1 ≤ l.getD i 0 ∧ l.getD i 0 ≤ 90) ∧ (0 < i → l.getD (i - 1) 0 < l.getD i 0)) (hk : (1 ≤ l.getD k 0 ∧ l.getD k 0 ≤ 90) ∧ (0 < k → l.getD (k - 1) 0 < l.getD k 0)) :
  ∀ i, i < k + 1 → (1 ≤ l.getD i 0 ∧ l.getD i 0 ≤ 90) ∧ (0 < i → l.getD (i - 1) 0 < l.getD i 0) := by
 intro i hi
 rcases Nat.lt_or_ge i k with hl | hl
 ·exact h i hl
 ·obtain rfl : i = k := by omega
  exact hk
theorem pa_step {l : List StM} {k : Nat} (h : ∀ i, i < k → stB (l.getD i stm0).x = true) (hk : stB (l.getD k stm0).x = true) : ∀ i, i < k + 1 → stB (l.getD i stm0).x = true := by
 intro i hi
 rcases Nat.lt_or_ge i k with hl | hl
 ·exact h i hl
 ·obtain rfl : i = k := by omega
  exact hk
def PaOk2 (l : List StM) : Prop := l.length ≤ 90 ∧ PaOk l
instance (l : List StM) : Decidable (PaOk2 l) := by unfold PaOk2; infer_instance

theorem specChOk_any (c : ChM) (w : World) (h : ChAt w c) (hL : c.bk.b.locked ≤ 9223372036854775807) :
  Calls Tryd.prog 106 #[c.val] w fun e w' => e = .returned (.bool (ckB c)) ∧ Keeps noBlk w w' := by
 have F0 := hH (fun W => l6In_any c.id 1 2 W); have F1 := hH (fun W (hk : Keeps noBlk w W) => specOk_any c.bk.A1 c.bk.A2 c.bk.b.own.length c.bk.b.notes.length c.bk.c1 c.bk.c2 c.bk.b.locked c.bk.b.own c.bk.b.notes W (h.kept hk).own (h.kept hk).notes h.m1 h.m2 hL); have F2 := hH (fun W (hk : Keeps noBlk w W) => specSt_any c.st.x c.st.A1 c.st.A2 c.st.A3 c.st.A4 c.st.c1 c.st.c2 c.st.c3 c.st.c4 W (h.kept hk).st); have e1 : (⟨c.bk.b.own, c.bk.b.notes, c.bk.b.locked⟩ : BankL) = c.bk.b := rfl; rw [e1] at F1; have hn := h.m3; have hm := h.m4; unfold maxLen at hn hm; have HR := hH h.row; have HP := hH h.past; have HW := hH h.knows; clear e1 h
 have HCK : Hid (ckB c = (in2 c.id 1 2 && okB c.bk.b && stB c.st.x && decide (c.past.length ≤ 90 ∧ PaOk c.past ∧ KnOk c.knows))) := hH (by
  rw [Bool.eq_iff_iff]; simp only [ckB, in2, Bool.and_eq_true, decide_eq_true_eq]
  simp only [CkOk, and_assoc])
 unfold stV at F2; generalize ckB c = R at HCK; generalize in2 c.id 1 2 = z0 at F0 HCK; generalize okB c.bk.b = z1 at F1 HCK; generalize stB c.st.x = z2 at F2 HCK; obtain ⟨id, ⟨⟨own, notes, lk⟩, a1, a2, e1, e2⟩, ⟨x, A1, A2, A3, A4, c1, c2, c3, c4⟩, past, pA, pc, knows, kA, kc⟩ := c; dsimp only at F0 F1 F2 HR HP HW hn hm HCK; unfold ChM.val; dsimp only; have HBa := hH (Box.new w _ rfl 94 #[.int .i64 id, .slice a1 own.length e1, .slice a2 notes.length e2, .int .i64 lk, .int .i64 x.way, .int .i64 x.ver, .int .i64 x.want, .slice A1 x.sent.length c1, .slice A2 x.live.length c2, .slice A3 x.back.length c3, .slice A4 x.got.length c4, .slice pA past.length pc, .slice kA knows.length kc]); have HK := hH ((Keeps.refl noBlk w).alloc (.cells #[.int .i64 id, .slice a1 own.length e1, .slice a2 notes.length e2, .int .i64 lk, .int .i64 x.way, .int .i64 x.ver, .int .i64 x.want, .slice A1 x.sent.length c1, .slice A2 x.live.length c2, .slice A3 x.back.length c3, .slice A4 x.got.length c4, .slice pA past.length pc, .slice kA knows.length kc] 94))
 cases z0 with
 | false =>
  have HR : Hid (R = false) := hH (by rw [HCK.out]; simp); clear HCK
  go_enter Tryd.func106, Tryd.ntmps106
  go_wp2_with (go_at_call 50; refine (F0.out _).mono ?_; rintro e w' ⟨rfl, rfl⟩)
  go_ret; exact ⟨(by rw [HR.out]; first | done | rfl), HK.out⟩
 | true =>
 cases z1 with
 | false =>
  have HR : Hid (R = false) := hH (by rw [HCK.out]; simp); clear HCK
  go_enter Tryd.func106, Tryd.ntmps106
  go_wp2_with (go_at_call 50; refine (F0.out _).mono ?_; rintro e w' ⟨rfl, rfl⟩)
  refine (F1.out _ HK.out).mono ?_; rintro e w1 ⟨rfl, hk1⟩; replace HBa := hH (HBa.out.keeps hk1 (fun h => h)); replace HK := hH (HK.out.trans hk1); clear hk1; have hb := HBa.out; obtain ⟨a0, a1, a2, a3, a4, a5, a6, a7, a8, a9, a10, a11, a12⟩ := hb.cells13; have za := hb.lt; clear hb; go_wp2; go_ret; exact ⟨(by rw [HR.out]; first | done | rfl), HK.out⟩
 | true =>
 cases z2 with
 | false =>
  have HR : Hid (R = false) := hH (by rw [HCK.out]; simp); clear HCK
  go_enter Tryd.func106, Tryd.ntmps106
  go_wp2_with (go_at_call 50; refine (F0.out _).mono ?_; rintro e w' ⟨rfl, rfl⟩)
  refine (F1.out _ HK.out).mono ?_; rintro e w1 ⟨rfl, hk1⟩; replace HBa := hH (HBa.out.keeps hk1 (fun h => h)); replace HK := hH (HK.out.trans hk1); clear hk1; have hb := HBa.out; obtain ⟨a0, a1, a2, a3, a4, a5, a6, a7, a8, a9, a10, a11, a12⟩ := hb.cells13; have za := hb.lt; clear hb; go_wp2_with fail; refine (F2.out _ HK.out).mono ?_; rintro e w2 ⟨rfl, hk2⟩; clear a0 a1 a2 a3 a4 a5 a6 a7 a8 a9 a10 a11 a12 za; replace HBa := hH (HBa.out.keeps hk2 (fun h => h)); replace HK := hH (HK.out.trans hk2); clear hk2; have hb := HBa.out; obtain ⟨a0, a1, a2, a3, a4, a5, a6, a7, a8, a9, a10, a11, a12⟩ := hb.cells13; have za := hb.lt; clear hb; go_wp2; go_ret; exact ⟨(by rw [HR.out]; first | done | rfl), HK.out⟩
 | true =>
 have HF : Hid (¬ (past.length ≤ 90 ∧ PaOk past ∧ KnOk knows) → R = false) := hH fun h => by rw [HCK.out]; simpa using h
 have HTT : Hid ((past.length ≤ 90 ∧ PaOk past ∧ KnOk knows) → R = true) := hH fun h => by rw [HCK.out]; simpa using h
 clear HCK
 by_cases h90 : past.length ≤ 90
 case neg =>
  have HR : Hid (R = false) := hH (HF.out fun h => h90 h.1)
  have h9 : (90 : Int) < (past.length : Int) := by omega
  go_enter Tryd.func106, Tryd.ntmps106
  go_wp2_with (go_at_call 50; refine (F0.out _).mono ?_; rintro e w' ⟨rfl, rfl⟩)
  refine (F1.out _ HK.out).mono ?_; rintro e w1 ⟨rfl, hk1⟩; replace HBa := hH (HBa.out.keeps hk1 (fun h => h)); replace HK := hH (HK.out.trans hk1); clear hk1; have hb := HBa.out; obtain ⟨a0, a1, a2, a3, a4, a5, a6, a7, a8, a9, a10, a11, a12⟩ := hb.cells13; have za := hb.lt; clear hb; go_wp2_with fail; refine (F2.out _ HK.out).mono ?_; rintro e w2 ⟨rfl, hk2⟩; clear a0 a1 a2 a3 a4 a5 a6 a7 a8 a9 a10 a11 a12 za; replace HBa := hH (HBa.out.keeps hk2 (fun h => h)); replace HK := hH (HK.out.trans hk2); clear hk2; have hb := HBa.out; obtain ⟨a0, a1, a2, a3, a4, a5, a6, a7, a8, a9, a10, a11, a12⟩ := hb.cells13; have za := hb.lt; clear hb; go_wp2; go_ret; exact ⟨(by rw [HR.out]; first | done | rfl), HK.out⟩
 have h9 : ¬ (90 : Int) < (past.length : Int) := by omega
 go_enter Tryd.func106, Tryd.ntmps106
 go_wp2_with (go_at_call 50; refine (F0.out _).mono ?_; rintro e w' ⟨rfl, rfl⟩)
 refine (F1.out _ HK.out).mono ?_; rintro e w1 ⟨rfl, hk1⟩; replace HBa := hH (HBa.out.keeps hk1 (fun h => h)); replace HK := hH (HK.out.trans hk1); clear hk1; have hb := HBa.out; obtain ⟨a0, a1, a2, a3, a4, a5, a6, a7, a8, a9, a10, a11, a12⟩ := hb.cells13; have za := hb.lt; clear hb; go_wp2_with fail; refine (F2.out _ HK.out).mono ?_; rintro e w2 ⟨rfl, hk2⟩; clear a0 a1 a2 a3 a4 a5 a6 a7 a8 a9 a10 a11 a12 za; replace HBa := hH (HBa.out.keeps hk2 (fun h => h)); replace HK := hH (HK.out.trans hk2); clear hk2; have hb := HBa.out; obtain ⟨a0, a1, a2, a3, a4, a5, a6, a7, a8, a9, a10, a11, a12⟩ := hb.cells13; have za := hb.lt; clear hb; go_wp2; clear a0 a1 a2 a3 a4 a5 a6 a7 a8 a9 a10 a11 a12 za; generalize hg : w.heap.size = g at HBa; clear hg
 go_loopw [3] (fun i wr => ∃ k : Nat, k ≤ past.length ∧ i = .int .i64 k ∧ (∀ i, i < k → stB (past.getD i stm0).x = true) ∧ Keeps noBlk w2 wr) (fun i _ => past.length - (intOf i).toNat)
 case atStart => exact ⟨0, Nat.zero_le _, rfl, fun i hi => absurd hi (Nat.not_lt_zero _), Keeps.refl _ _⟩
 case round =>
  obtain ⟨k, hk, rfl, hok, hkp⟩ := hrel; have hbx := HBa.out.keeps hkp (fun h => h); have p11 := hbx.cell 11; have p12 := hbx.cell 12; simp at p11 p12; clear hbx; have HKW := hH (HK.out.trans hkp); have HKS := hH hkp; clear hkp
  by_cases hlt : k < past.length
  ·obtain ⟨b1, o1, rfl, _, q0, q1, q2, q3, q4, q5, q6⟩ := (HR.out.kept HKW.out).at_ hlt
   have H1 := hH ((HP.out _ (getD_mem' stm0 hlt)).kept HKW.out); have HLT := hH hlt; have HS := hH (fun h => pa_step hok (k := k) h)
   have HB : Hid (stB (past.getD k stm0).x = false → R = false) := hH fun h => HF.out fun hh => by rw [hh.2.1 k hlt] at h; cases h
   clear hok; generalize past.getD k stm0 = p at *; obtain ⟨y, B1, B2, B3, B4, d1, d2, d3, d4⟩ := p; dsimp only [StM.At] at q0 q1 q2 q3 q4 q5 q6 H1 HS HB; have F := hH (specSt_any y B1 B2 B3 B4 d1 d2 d3 d4 wr H1.out); unfold stV at F; go_wp2_with fail; refine F.out.mono ?_; rintro e w3 ⟨rfl, hk1⟩; have HK1 := hH hk1; clear hk1 q0 q1 q2 q3 q4 q5 q6 p11 p12
   rcases Bool.eq_false_or_eq_true (stB y) with hb | hb
   ·have HS2 := hH (HS.out hb)
    rw [hb]; go_wp2
    go_roundw
    case rel => exact ⟨k + 1, HLT.out, by go_num, HS2.out, HKS.out.trans HK1.out⟩
    case measure => have := HLT.out; simp [intOf]; omega
   ·have HRR := hH (HB.out hb)
    rw [hb]; go_wp2; go_ret; exact ⟨(by rw [HRR.out]; first | done | rfl), HKW.out.trans HK1.out⟩
  ·have HPA : Hid (PaOk past) := hH fun i hi => hok i (by omega)
   have HBX := hH (HBa.out.keeps HKS.out (fun h => h)); clear hok; go_wp2; clear p11 p12
   go_loopw [4] (fun i wv => ∃ k : Nat, k ≤ knows.length ∧ i = .int .i64 k ∧ (∀ i, i < k → (1 ≤ knows.getD i 0 ∧ knows.getD i 0 ≤ 90) ∧ (0 < i → knows.getD (i - 1) 0 < knows.getD i 0)) ∧ Keeps noBlk wr wv) (fun i _ => knows.length - (intOf i).toNat)
   case atStart => exact ⟨0, Nat.zero_le _, rfl, fun i hi => absurd hi (Nat.not_lt_zero _), Keeps.refl _ _⟩
   case round =>
    obtain ⟨j, hj, rfl, hok, hkp⟩ := hrel; have hbx := HBX.out.keeps hkp (fun h => h); have p12 := hbx.cell 12; simp at p12; clear hbx; have HKV := hH (HKW.out.trans hkp); have HK1 := hH hkp; clear hkp
    by_cases hlt : j < knows.length
    ·obtain ⟨b2, o2, hkA, _, q⟩ := (HW.out.keeps HKV.out fun _ _ h => h).at_ hlt
     have HLT := hH hlt
     have HB : Hid (¬ ((1 ≤ knows.getD j 0 ∧ knows.getD j 0 ≤ 90) ∧ (0 < j → knows.getD (j - 1) 0 < knows.getD j 0)) → R = false) := hH fun h => HF.out fun hh => h (hh.2.2 j hlt)
     have HS := hH (fun h => kn_step hok (k := j) h); have hin := l6In_any (knows.getD j 0) 1 90; have HIN := hH (fun W => (hin W).mono fun _ w' ⟨h1, h2⟩ => (⟨h1, h2 ▸ Keeps.refl noBlk W⟩ : _ ∧ Keeps noBlk W w'))
     have HI1 : Hid (in2 (knows.getD j 0) 1 90 = true → 1 ≤ knows.getD j 0 ∧ knows.getD j 0 ≤ 90) := hH fun h => in2_parts h
     have HI2 : Hid (in2 (knows.getD j 0) 1 90 = false → ¬ (1 ≤ knows.getD j 0 ∧ knows.getD j 0 ≤ 90)) := hH fun h hh => by rw [in2_yes hh.1 hh.2] at h; cases h
     clear hin hok
     have hprev : 0 < j → wr.cell? ⟨b2, o2 + (j - 1), none⟩ = some (.int .i64 (knows.getD (j - 1) 0)) := fun h0 => by
      obtain ⟨b3, o3, e3, _, q3⟩ := (HW.out.keeps HKV.out fun _ _ h => h).at_ (show j - 1 < knows.length by omega); rw [hkA] at e3
      injection e3 with e3
      injection e3 with e3 e4
      subst e3; subst e4; exact q3
     have HPV := hH hprev; clear hprev; subst hkA; generalize knows.getD j 0 = v at *; generalize hpv : knows.getD (j - 1) 0 = pv at *; clear hpv
     have p12 := fun U : GW wr => GW.cell p12 U
     rcases Bool.eq_false_or_eq_true (in2 v 1 90) with hi | hi
     ·have HI := hH (HI1.out hi)
      rw [hi] at HIN; clear hi HI1 HI2
      by_cases hj0 : j = 0
      ·have HG := hH (HS.out ⟨HI.out, fun h => absurd hj0 (by omega)⟩)
       subst hj0; rw [Nat.add_zero] at q
       have q := fun U : GW wr => GW.cell q U
       go_wp2_with fail; refine wp_region_grow (by kernel_rfl) (by kernel_rfl) ?_
       repeat (go_big_quiet_step ((go_at_call 50; exact Calls.grow _ (HIN.out _))))
       refine wpQuiet_nil ?_; rintro _ ⟨U1, rfl⟩; have HK2 := hH (HK1.out.trans U1.keep); go_wp2
       go_roundw
       case rel => exact ⟨0 + 1, HLT.out, by go_num, HG.out, HK2.out⟩
       case measure => have := HLT.out; simp [intOf]; omega
      ·have q := fun U : GW wr => GW.cell q U
       have hjp : (0 : Int) < (j : Int) := by omega
       have hjd : decide ((0 : Int) < (j : Int)) = true := by simpa using hjp
       have hjq : 0 < j := by omega
       have hje : decide (0 < j) = true := by simpa using hjq
       have q3 := HPV.out (by omega)
       have q3 := fun U : GW wr => GW.cell q3 U
       have hsub : (j : Int) - 1 = ((j - 1 : Nat) : Int) := by omega
       have hjl : j - 1 < knows.length := by have := HLT.out; omega
       generalize hjm : j - 1 = jm at q3 hsub hjl; have HJM := hH hjm; clear hjm hj0
       by_cases hge : v ≤ pv
       ·have HRR := hH (HB.out fun h => by have := h.2 (by omega); omega)
        go_wp2_with fail; refine wp_region_grow (by kernel_rfl) (by kernel_rfl) ?_
        repeat (go_big_quiet_step ((go_at_call 50; exact Calls.grow _ (HIN.out _))))
        refine wpQuiet_nil ?_; rintro _ ⟨U1, rfl⟩; have HK2 := hH (HK1.out.trans U1.keep); go_wp2; go_ret; exact ⟨(by rw [HRR.out]; first | done | rfl), HKW.out.trans HK2.out⟩
       ·have HG := hH (HS.out ⟨HI.out, fun _ => by omega⟩)
        go_wp2_with fail; refine wp_region_grow (by kernel_rfl) (by kernel_rfl) ?_
        repeat (go_big_quiet_step ((go_at_call 50; exact Calls.grow _ (HIN.out _))))
        refine wpQuiet_nil ?_; rintro _ ⟨U1, rfl⟩; have HK2 := hH (HK1.out.trans U1.keep); go_wp2
        go_roundw
        case rel => exact ⟨j + 1, HLT.out, by go_num, HG.out, HK2.out⟩
        case measure => have := HLT.out; simp [intOf]; omega
     ·have HRR := hH (HB.out fun h => HI2.out hi h.1)
      rw [hi] at HIN; clear hi HI1 HI2
      have q := fun U : GW wr => GW.cell q U
      go_wp2_with fail; refine wp_region_grow (by kernel_rfl) (by kernel_rfl) ?_
      repeat (go_big_quiet_step ((go_at_call 50; exact Calls.grow _ (HIN.out _))))
      refine wpQuiet_nil ?_; rintro _ ⟨U1, rfl⟩; have HK2 := hH (HK1.out.trans U1.keep); go_wp2; go_ret; exact ⟨(by rw [HRR.out]; first | done | rfl), HKW.out.trans HK2.out⟩
    ·have HRR : Hid (R = true) := hH (HTT.out ⟨h90, HPA.out, fun i hi => hok i (by omega)⟩)
     clear hok; go_wp2; go_ret; exact ⟨(by rw [HRR.out]; first | done | rfl), HKV.out⟩
end Go.Proofs.YtjcbeihoeanhaaaDoor
