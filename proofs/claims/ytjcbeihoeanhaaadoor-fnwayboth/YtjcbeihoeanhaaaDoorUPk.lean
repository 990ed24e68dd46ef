/- Packets: what is ok, in plain words; the tables of the program; l6In, l1User of the model. spec.PacketOk answers pkB. impl.PacketOk answers pkB, where its tables read as the text lays them. toPacket of the exact laws. -/
import Derived.Test.YtjcbeihoeanhaaaDoorUMem
set_option maxRecDepth 100000
set_option maxHeartbeats 2000000
set_option linter.unusedVariables false
set_option linter.unusedSimpArgs false
/-! Pk0 -/
namespace Go.Proofs.YtjcbeihoeanhaaaDoor
open Go.RowKit

def in2 (n lo hi : Int) : Bool := decide (lo ≤ n) && decide (n ≤ hi)
theorem in2_yes {n lo hi : Int} (h : lo ≤ n) (h' : n ≤ hi) : in2 n lo hi = true := by simp [in2, h, h']
theorem in2_lo {n lo hi : Int} (h : n < lo) : in2 n lo hi = false := by simp [in2]; omega
theorem in2_hi {n lo hi : Int} (h : hi < n) : in2 n lo hi = false := by simp [in2]; omega
theorem in2_parts {n lo hi : Int} (h : in2 n lo hi = true) : lo ≤ n ∧ n ≤ hi := by simpa [in2] using h
def pkB (s k f t m u v : Int) : Bool := in2 s 1 8 && in2 k 1 2 && in2 f 1 3 && in2 t 0 3 && in2 m 1 9 && in2 u 1 90 && in2 v 1 9
theorem pkB_yes {s k f t m u v : Int} (h0 : in2 s 1 8 = true) (h1 : in2 k 1 2 = true) (h2 : in2 f 1 3 = true) (h3 : in2 t 0 3 = true) (h4 : in2 m 1 9 = true) (h5 : in2 u 1 90 = true) (h6 : in2 v 1 9 = true) : pkB s k f t m u v = true := by simp [pkB, h0, h1, h2, h3, h4, h5, h6]
theorem pkB_no0 {s k f t m u v : Int} (h : in2 s 1 8 = false) : pkB s k f t m u v = false := by simp [pkB, h]
theorem pkB_no1 {s k f t m u v : Int} (h : in2 k 1 2 = false) : pkB s k f t m u v = false := by simp [pkB, h]
theorem pkB_no2 {s k f t m u v : Int} (h : in2 f 1 3 = false) : pkB s k f t m u v = false := by simp [pkB, h]
theorem pkB_no3 {s k f t m u v : Int} (h : in2 t 0 3 = false) : pkB s k f t m u v = false := by simp [pkB, h]
theorem pkB_no4 {s k f t m u v : Int} (h : in2 m 1 9 = false) : pkB s k f t m u v = false := by simp [pkB, h]
theorem pkB_no5 {s k f t m u v : Int} (h : in2 u 1 90 = false) : pkB s k f t m u v = false := by simp [pkB, h]
theorem pkB_no6 {s k f t m u v : Int} (h : in2 v 1 9 = false) : pkB s k f t m u v = false := by simp [pkB, h]
theorem pkB_parts {s k f t m u v : Int} (h : pkB s k f t m u v = true) : (1 ≤ s ∧ s ≤ 8) ∧ (1 ≤ k ∧ k ≤ 2) ∧ (1 ≤ f ∧ f ≤ 3) ∧ (0 ≤ t ∧ t ≤ 3) ∧ (1 ≤ m ∧ m ≤ 9) ∧ (1 ≤ u ∧ u ≤ 90) ∧ (1 ≤ v ∧ v ≤ 9) := by
 simp only [pkB, Bool.and_eq_true] at h; obtain ⟨⟨⟨⟨⟨⟨h0, h1⟩, h2⟩, h3⟩, h4⟩, h5⟩, h6⟩ := h; exact ⟨in2_parts h0, in2_parts h1, in2_parts h2, in2_parts h3, in2_parts h4, in2_parts h5, in2_parts h6⟩
theorem l6In_any (n lo hi : Int) (w : World) : Calls Tryd.prog 50 #[.int .i64 n, .int .i64 lo, .int .i64 hi] w fun e w' => e = .returned (.bool (in2 n lo hi)) ∧ w = w' := by
 by_cases h1 : lo ≤ n
 ·have d1 : decide (lo ≤ n) = true := by simpa using h1
  by_cases h2 : n ≤ hi
  ·have HF := hH (in2_yes h1 h2)
   have d2 : decide (n ≤ hi) = true := by simpa using h2
   go_enter Tryd.func50, Tryd.ntmps50
   go_wp2; go_ret; exact ⟨by simp [HF.out], rfl⟩
  ·have HF := hH (in2_hi (lo := lo) (Int.not_le.1 h2))
   have d2 : decide (n ≤ hi) = false := by simpa using h2
   go_enter Tryd.func50, Tryd.ntmps50
   go_wp2; go_ret; exact ⟨by simp [HF.out], rfl⟩
 ·have HF := hH (in2_lo (hi := hi) (Int.not_le.1 h1))
  have d1 : decide (lo ≤ n) = false := by simpa using h1
  go_enter Tryd.func50, Tryd.ntmps50
  go_wp2; go_ret; exact ⟨by simp [HF.out], rfl⟩

theorem l1User_any (n : Int) (w : World) : Calls Tryd.prog 63 #[.int .i64 n] w fun e w' => e = .returned (.bool (in2 n 1 3)) ∧ w = w' := by
 go_enter Tryd.func63, Tryd.ntmps63
 go_wp2_with fail; refine (l6In_any _ _ _ _).mono ?_; rintro e w' ⟨rfl, rfl⟩; go_wp2; go_ret; exact ⟨rfl, rfl⟩

theorem specPk_any (s k f t m u v : Int) (w : World) : Calls Tryd.prog 51 #[.agg #[.int .i64 s, .int .i64 k, .int .i64 f, .int .i64 t, .int .i64 m, .int .i64 u, .int .i64 v]] w fun e w' => e = .returned (.bool (pkB s k f t m u v)) ∧ Keeps noBlk w w' := by
 rcases Bool.eq_false_or_eq_true (in2 s 1 8) with h0 | h0
 ·rcases Bool.eq_false_or_eq_true (in2 k 1 2) with h1 | h1
  ·rcases Bool.eq_false_or_eq_true (in2 f 1 3) with h2 | h2
   ·rcases Bool.eq_false_or_eq_true (in2 t 0 3) with h3 | h3
    ·rcases Bool.eq_false_or_eq_true (in2 m 1 9) with h4 | h4
     ·rcases Bool.eq_false_or_eq_true (in2 u 1 90) with h5 | h5
      ·rcases Bool.eq_false_or_eq_true (in2 v 1 9) with h6 | h6
       ·have HF := hH (pkB_yes h0 h1 h2 h3 h4 h5 h6)
        go_enter Tryd.func51, Tryd.ntmps51
        go_wp2_with (first | (go_at_call 50; refine (l6In_any _ _ _ _).mono ?_; rintro e w' ⟨rfl, rfl⟩) | (go_at_call 63; refine (l1User_any _ _).mono ?_; rintro e w' ⟨rfl, rfl⟩))
        go_ret; exact ⟨by simp [HF.out], (Keeps.refl _ _).alloc _⟩
       ·have HF := hH ((pkB_no6 h6 : pkB s k f t m u v = false))
        go_enter Tryd.func51, Tryd.ntmps51
        go_wp2_with (first | (go_at_call 50; refine (l6In_any _ _ _ _).mono ?_; rintro e w' ⟨rfl, rfl⟩) | (go_at_call 63; refine (l1User_any _ _).mono ?_; rintro e w' ⟨rfl, rfl⟩))
        go_ret; exact ⟨by simp [HF.out], (Keeps.refl _ _).alloc _⟩
      ·have HF := hH ((pkB_no5 h5 : pkB s k f t m u v = false))
       go_enter Tryd.func51, Tryd.ntmps51
       go_wp2_with (first | (go_at_call 50; refine (l6In_any _ _ _ _).mono ?_; rintro e w' ⟨rfl, rfl⟩) | (go_at_call 63; refine (l1User_any _ _).mono ?_; rintro e w' ⟨rfl, rfl⟩))
       go_ret; exact ⟨by simp [HF.out], (Keeps.refl _ _).alloc _⟩
     ·have HF := hH ((pkB_no4 h4 : pkB s k f t m u v = false))
      go_enter Tryd.func51, Tryd.ntmps51
      go_wp2_with (first | (go_at_call 50; refine (l6In_any _ _ _ _).mono ?_; rintro e w' ⟨rfl, rfl⟩) | (go_at_call 63; refine (l1User_any _ _).mono ?_; rintro e w' ⟨rfl, rfl⟩))
      go_ret; exact ⟨by simp [HF.out], (Keeps.refl _ _).alloc _⟩
    ·have HF := hH ((pkB_no3 h3 : pkB s k f t m u v = false))
     go_enter Tryd.func51, Tryd.ntmps51
     go_wp2_with (first | (go_at_call 50; refine (l6In_any _ _ _ _).mono ?_; rintro e w' ⟨rfl, rfl⟩) | (go_at_call 63; refine (l1User_any _ _).mono ?_; rintro e w' ⟨rfl, rfl⟩))
     go_ret; exact ⟨by simp [HF.out], (Keeps.refl _ _).alloc _⟩
   ·have HF := hH ((pkB_no2 h2 : pkB s k f t m u v = false))
    go_enter Tryd.func51, Tryd.ntmps51
    go_wp2_with (first | (go_at_call 50; refine (l6In_any _ _ _ _).mono ?_; rintro e w' ⟨rfl, rfl⟩) | (go_at_call 63; refine (l1User_any _ _).mono ?_; rintro e w' ⟨rfl, rfl⟩))
    go_ret; exact ⟨by simp [HF.out], (Keeps.refl _ _).alloc _⟩
  ·have HF := hH ((pkB_no1 h1 : pkB s k f t m u v = false))
   go_enter Tryd.func51, Tryd.ntmps51
   go_wp2_with (first | (go_at_call 50; refine (l6In_any _ _ _ _).mono ?_; rintro e w' ⟨rfl, rfl⟩) | (go_at_call 63; refine (l1User_any _ _).mono ?_; rintro e w' ⟨rfl, rfl⟩))
   go_ret; exact ⟨by simp [HF.out], (Keeps.refl _ _).alloc _⟩
 ·have HF := hH ((pkB_no0 h0 : pkB s k f t m u v = false))
  go_enter Tryd.func51, Tryd.ntmps51
  go_wp2_with (first | (go_at_call 50; refine (l6In_any _ _ _ _).mono ?_; rintro e w' ⟨rfl, rfl⟩) | (go_at_call 63; refine (l1User_any _ _).mono ?_; rintro e w' ⟨rfl, rfl⟩))
  go_ret; exact ⟨by simp [HF.out], (Keeps.refl _ _).alloc _⟩

def loL : List Int := [1, 1, 1, 0, 1, 1, 1]
def hiL : List Int := [8, 2, 3, 3, 9, 90, 9]
def Tabs (w : World) : Prop :=
  (∀ j x, loL[j]? = some x → w.cell? ⟨0, j, none⟩ = some (.int .i64 x)) ∧ (∀ j x, hiL[j]? = some x → w.cell? ⟨1, j, none⟩ = some (.int .i64 x))
theorem Tabs.keeps {w w' : World} (h : Tabs w) (hk : Keeps noBlk w w') : Tabs w' :=
  ⟨fun j x hx => (hk.cell (World.block_lt_of_cell? w _ (h.1 j x hx)) (fun a => a)).trans (h.1 j x hx),
   fun j x hx => (hk.cell (World.block_lt_of_cell? w _ (h.2 j x hx)) (fun a => a)).trans (h.2 j x hx)⟩
theorem Tabs.drewN {w : World} (h : Tabs w) (n : Nat) : Tabs (w.drewN n) := h

theorem fieldsOf_any (s k f t m u v : Int) (w : World) : Calls Tryd.prog 56 #[.agg #[.int .i64 s, .int .i64 k, .int .i64 f, .int .i64 t, .int .i64 m, .int .i64 u, .int .i64 v]] w fun e w' => e = .returned (.agg #[.int .i64 s, .int .i64 k, .int .i64 f, .int .i64 t, .int .i64 m, .int .i64 u, .int .i64 v]) ∧ Keeps noBlk w w' := by
  go_enter Tryd.func56, Tryd.ntmps56
  go_wp2; refine bodyPost_ret (v := .agg #[.int .i64 s, .int .i64 k, .int .i64 f, .int .i64 t, .int .i64 m, .int .i64 u, .int .i64 v]) (by simp [results, Tryd.results56, go_sem]) rfl ⟨rfl, ((Keeps.refl _ _).alloc _).alloc _⟩

theorem idx_0 (s k f t m u v : Int) (w : World) : (Instr.index 69 (.agg #[.int .i64 s, .int .i64 k, .int .i64 f, .int .i64 t, .int .i64 m, .int .i64 u, .int .i64 v]) (.int .i64 0)).run Tryd.prog w = .ok (.int .i64 s) w := by
  simp [Instr.index, asIntOf, run_underlying Tryd.underlying69, go_sem]
theorem idx_1 (s k f t m u v : Int) (w : World) : (Instr.index 69 (.agg #[.int .i64 s, .int .i64 k, .int .i64 f, .int .i64 t, .int .i64 m, .int .i64 u, .int .i64 v]) (.int .i64 1)).run Tryd.prog w = .ok (.int .i64 k) w := by
  simp [Instr.index, asIntOf, run_underlying Tryd.underlying69, go_sem]
theorem idx_2 (s k f t m u v : Int) (w : World) : (Instr.index 69 (.agg #[.int .i64 s, .int .i64 k, .int .i64 f, .int .i64 t, .int .i64 m, .int .i64 u, .int .i64 v]) (.int .i64 2)).run Tryd.prog w = .ok (.int .i64 f) w := by
  simp [Instr.index, asIntOf, run_underlying Tryd.underlying69, go_sem]
theorem idx_3 (s k f t m u v : Int) (w : World) : (Instr.index 69 (.agg #[.int .i64 s, .int .i64 k, .int .i64 f, .int .i64 t, .int .i64 m, .int .i64 u, .int .i64 v]) (.int .i64 3)).run Tryd.prog w = .ok (.int .i64 t) w := by
  simp [Instr.index, asIntOf, run_underlying Tryd.underlying69, go_sem]
theorem idx_4 (s k f t m u v : Int) (w : World) : (Instr.index 69 (.agg #[.int .i64 s, .int .i64 k, .int .i64 f, .int .i64 t, .int .i64 m, .int .i64 u, .int .i64 v]) (.int .i64 4)).run Tryd.prog w = .ok (.int .i64 m) w := by
  simp [Instr.index, asIntOf, run_underlying Tryd.underlying69, go_sem]
theorem idx_5 (s k f t m u v : Int) (w : World) : (Instr.index 69 (.agg #[.int .i64 s, .int .i64 k, .int .i64 f, .int .i64 t, .int .i64 m, .int .i64 u, .int .i64 v]) (.int .i64 5)).run Tryd.prog w = .ok (.int .i64 u) w := by
  simp [Instr.index, asIntOf, run_underlying Tryd.underlying69, go_sem]
theorem idx_6 (s k f t m u v : Int) (w : World) : (Instr.index 69 (.agg #[.int .i64 s, .int .i64 k, .int .i64 f, .int .i64 t, .int .i64 m, .int .i64 u, .int .i64 v]) (.int .i64 6)).run Tryd.prog w = .ok (.int .i64 v) w := by
  simp [Instr.index, asIntOf, run_underlying Tryd.underlying69, go_sem]
attribute [local go_sem] idx_0 idx_1 idx_2 idx_3 idx_4 idx_5 idx_6

def okTo : Nat → Int → Int → Int → Int → Int → Int → Int → Bool
  | 0, _, _, _, _, _, _, _ => true
  | 1, s, k, f, t, m, u, v => in2 s 1 8
  | 2, s, k, f, t, m, u, v => in2 s 1 8 && in2 k 1 2
  | 3, s, k, f, t, m, u, v => in2 s 1 8 && in2 k 1 2 && in2 f 1 3
  | 4, s, k, f, t, m, u, v => in2 s 1 8 && in2 k 1 2 && in2 f 1 3 && in2 t 0 3
  | 5, s, k, f, t, m, u, v => in2 s 1 8 && in2 k 1 2 && in2 f 1 3 && in2 t 0 3 && in2 m 1 9
  | 6, s, k, f, t, m, u, v => in2 s 1 8 && in2 k 1 2 && in2 f 1 3 && in2 t 0 3 && in2 m 1 9 && in2 u 1 90
  | 7, s, k, f, t, m, u, v => in2 s 1 8 && in2 k 1 2 && in2 f 1 3 && in2 t 0 3 && in2 m 1 9 && in2 u 1 90 && in2 v 1 9
  | _, s, k, f, t, m, u, v => pkB s k f t m u v

theorem implPk_any (s k f t m u v : Int) (w : World) (ht : Tabs w) : Calls Tryd.prog 32 #[.agg #[.int .i64 s, .int .i64 k, .int .i64 f, .int .i64 t, .int .i64 m, .int .i64 u, .int .i64 v]] w fun e w' => e = .returned (.bool (pkB s k f t m u v)) ∧ Keeps noBlk w w' := by
  have HT := hH ht; clear ht
  go_enter Tryd.func32, Tryd.ntmps32
  go_wp2_with fail; refine (fieldsOf_any s k f t m u v _).mono ?_; rintro e w1 ⟨rfl, hk1⟩; have HK := hH (((Keeps.refl noBlk w).alloc (.cells #[.int .i64 s, .int .i64 k, .int .i64 f, .int .i64 t, .int .i64 m, .int .i64 u, .int .i64 v] 29)).trans hk1); clear hk1; go_wp2_with fail
  go_loopw [7] (fun i wr => ∃ n : Nat, n ≤ 7 ∧ i = .int .i64 n ∧ okTo n s k f t m u v = true ∧ Qt w1 wr) (fun i _ => 7 - (intOf i).toNat)
  case atStart => exact ⟨0, by omega, rfl, rfl, Qt.refl _⟩
  case round =>
    obtain ⟨n, hn, rfl, hok, q, rfl⟩ := hrel; have HO := hH hok; clear hok
    obtain hn | hn | hn | hn | hn | hn | hn | hn : n = 0 ∨ n = 1 ∨ n = 2 ∨ n = 3 ∨ n = 4 ∨ n = 5 ∨ n = 6 ∨ n = 7 := by omega
    · subst hn
      have c1 := (HT.out.keeps HK.out).1 0 1 rfl; have c2 := (HT.out.keeps HK.out).2 0 8 rfl
      by_cases h1 : s < 1
      · have d1 : decide (s < 1) = true := by simpa using h1
        have HF := hH (pkB_no0 (in2_lo h1) : pkB s k f t m u v = false); go_wp2; go_ret; exact ⟨by simp [HF.out], HK.out.drewN _⟩
      · have d1 : decide (s < 1) = false := by simpa using h1
        by_cases h2 : 8 < s
        · have d2 : decide (8 < s) = true := by simpa using h2
          have HF := hH (pkB_no0 (in2_hi h2) : pkB s k f t m u v = false); go_wp2; go_ret; exact ⟨by simp [HF.out], HK.out.drewN _⟩
        · have d2 : decide (8 < s) = false := by simpa using h2
          have HI := hH (in2_yes (Int.not_lt.1 h1) (Int.not_lt.1 h2)); go_wp2; exact ⟨⟨1, by omega, by go_num, by exact HI.out, Qt.of _ _⟩, by simp [intOf]⟩
    · subst hn
      have c1 := (HT.out.keeps HK.out).1 1 1 rfl; have c2 := (HT.out.keeps HK.out).2 1 2 rfl
      by_cases h1 : k < 1
      · have d1 : decide (k < 1) = true := by simpa using h1
        have HF := hH (pkB_no1 (in2_lo h1) : pkB s k f t m u v = false); go_wp2; go_ret; exact ⟨by simp [HF.out], HK.out.drewN _⟩
      · have d1 : decide (k < 1) = false := by simpa using h1
        by_cases h2 : 2 < k
        · have d2 : decide (2 < k) = true := by simpa using h2
          have HF := hH (pkB_no1 (in2_hi h2) : pkB s k f t m u v = false); go_wp2; go_ret; exact ⟨by simp [HF.out], HK.out.drewN _⟩
        · have d2 : decide (2 < k) = false := by simpa using h2
          have HI := hH (in2_yes (Int.not_lt.1 h1) (Int.not_lt.1 h2)); go_wp2; exact ⟨⟨2, by omega, by go_num, by have h8 := HO.out; have h9 := HI.out; simp only [okTo, Bool.and_eq_true] at h8 ⊢; exact ⟨h8, h9⟩, Qt.of _ _⟩, by simp [intOf]⟩
    · subst hn
      have c1 := (HT.out.keeps HK.out).1 2 1 rfl; have c2 := (HT.out.keeps HK.out).2 2 3 rfl
      by_cases h1 : f < 1
      · have d1 : decide (f < 1) = true := by simpa using h1
        have HF := hH (pkB_no2 (in2_lo h1) : pkB s k f t m u v = false); go_wp2; go_ret; exact ⟨by simp [HF.out], HK.out.drewN _⟩
      · have d1 : decide (f < 1) = false := by simpa using h1
        by_cases h2 : 3 < f
        · have d2 : decide (3 < f) = true := by simpa using h2
          have HF := hH (pkB_no2 (in2_hi h2) : pkB s k f t m u v = false); go_wp2; go_ret; exact ⟨by simp [HF.out], HK.out.drewN _⟩
        · have d2 : decide (3 < f) = false := by simpa using h2
          have HI := hH (in2_yes (Int.not_lt.1 h1) (Int.not_lt.1 h2)); go_wp2; exact ⟨⟨3, by omega, by go_num, by have h8 := HO.out; have h9 := HI.out; simp only [okTo, Bool.and_eq_true] at h8 ⊢; exact ⟨h8, h9⟩, Qt.of _ _⟩, by simp [intOf]⟩
    · subst hn
      have c1 := (HT.out.keeps HK.out).1 3 0 rfl; have c2 := (HT.out.keeps HK.out).2 3 3 rfl
      by_cases h1 : t < 0
      · have d1 : decide (t < 0) = true := by simpa using h1
        have HF := hH (pkB_no3 (in2_lo h1) : pkB s k f t m u v = false); go_wp2; go_ret; exact ⟨by simp [HF.out], HK.out.drewN _⟩
      · have d1 : decide (t < 0) = false := by simpa using h1
        by_cases h2 : 3 < t
        · have d2 : decide (3 < t) = true := by simpa using h2
          have HF := hH (pkB_no3 (in2_hi h2) : pkB s k f t m u v = false); go_wp2; go_ret; exact ⟨by simp [HF.out], HK.out.drewN _⟩
        · have d2 : decide (3 < t) = false := by simpa using h2
          have HI := hH (in2_yes (Int.not_lt.1 h1) (Int.not_lt.1 h2)); go_wp2; exact ⟨⟨4, by omega, by go_num, by have h8 := HO.out; have h9 := HI.out; simp only [okTo, Bool.and_eq_true] at h8 ⊢; exact ⟨h8, h9⟩, Qt.of _ _⟩, by simp [intOf]⟩
    · subst hn
      have c1 := (HT.out.keeps HK.out).1 4 1 rfl; have c2 := (HT.out.keeps HK.out).2 4 9 rfl
      by_cases h1 : m < 1
      · have d1 : decide (m < 1) = true := by simpa using h1
        have HF := hH (pkB_no4 (in2_lo h1) : pkB s k f t m u v = false); go_wp2; go_ret; exact ⟨by simp [HF.out], HK.out.drewN _⟩
      · have d1 : decide (m < 1) = false := by simpa using h1
        by_cases h2 : 9 < m
        · have d2 : decide (9 < m) = true := by simpa using h2
          have HF := hH (pkB_no4 (in2_hi h2) : pkB s k f t m u v = false); go_wp2; go_ret; exact ⟨by simp [HF.out], HK.out.drewN _⟩
        · have d2 : decide (9 < m) = false := by simpa using h2
          have HI := hH (in2_yes (Int.not_lt.1 h1) (Int.not_lt.1 h2)); go_wp2; exact ⟨⟨5, by omega, by go_num, by have h8 := HO.out; have h9 := HI.out; simp only [okTo, Bool.and_eq_true] at h8 ⊢; exact ⟨h8, h9⟩, Qt.of _ _⟩, by simp [intOf]⟩
    · subst hn
      have c1 := (HT.out.keeps HK.out).1 5 1 rfl; have c2 := (HT.out.keeps HK.out).2 5 90 rfl
      by_cases h1 : u < 1
      · have d1 : decide (u < 1) = true := by simpa using h1
        have HF := hH (pkB_no5 (in2_lo h1) : pkB s k f t m u v = false); go_wp2; go_ret; exact ⟨by simp [HF.out], HK.out.drewN _⟩
      · have d1 : decide (u < 1) = false := by simpa using h1
        by_cases h2 : 90 < u
        · have d2 : decide (90 < u) = true := by simpa using h2
          have HF := hH (pkB_no5 (in2_hi h2) : pkB s k f t m u v = false); go_wp2; go_ret; exact ⟨by simp [HF.out], HK.out.drewN _⟩
        · have d2 : decide (90 < u) = false := by simpa using h2
          have HI := hH (in2_yes (Int.not_lt.1 h1) (Int.not_lt.1 h2)); go_wp2; exact ⟨⟨6, by omega, by go_num, by have h8 := HO.out; have h9 := HI.out; simp only [okTo, Bool.and_eq_true] at h8 ⊢; exact ⟨h8, h9⟩, Qt.of _ _⟩, by simp [intOf]⟩
    · subst hn
      have c1 := (HT.out.keeps HK.out).1 6 1 rfl; have c2 := (HT.out.keeps HK.out).2 6 9 rfl
      by_cases h1 : v < 1
      · have d1 : decide (v < 1) = true := by simpa using h1
        have HF := hH (pkB_no6 (in2_lo h1) : pkB s k f t m u v = false); go_wp2; go_ret; exact ⟨by simp [HF.out], HK.out.drewN _⟩
      · have d1 : decide (v < 1) = false := by simpa using h1
        by_cases h2 : 9 < v
        · have d2 : decide (9 < v) = true := by simpa using h2
          have HF := hH (pkB_no6 (in2_hi h2) : pkB s k f t m u v = false); go_wp2; go_ret; exact ⟨by simp [HF.out], HK.out.drewN _⟩
        · have d2 : decide (9 < v) = false := by simpa using h2
          have HI := hH (in2_yes (Int.not_lt.1 h1) (Int.not_lt.1 h2)); go_wp2; exact ⟨⟨7, by omega, by go_num, by have h8 := HO.out; have h9 := HI.out; simp only [okTo, Bool.and_eq_true] at h8 ⊢; exact ⟨h8, h9⟩, Qt.of _ _⟩, by simp [intOf]⟩
    · subst hn
      have HF := hH (show pkB s k f t m u v = true from HO.out); go_wp2; go_ret; exact ⟨by simp [HF.out], HK.out.drewN _⟩
end Go.Proofs.YtjcbeihoeanhaaaDoor

/-! PkTo -/
namespace Go.Proofs.YtjcbeihoeanhaaaDoor
open Go.RowKit

end Go.Proofs.YtjcbeihoeanhaaaDoor
