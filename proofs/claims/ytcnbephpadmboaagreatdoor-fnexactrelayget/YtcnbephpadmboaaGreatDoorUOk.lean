/- Sums and validity of banks: l1All, l1Parts, BankOk of the model; amountSum, amountsOk, BankOk of the program: both answer okB. szBank, toIntS, toBank of the laws. -/
import Derived.Test.YtcnbephpadmboaaGreatDoorUMem
set_option linter.unusedVariables false
set_option linter.unusedSimpArgs false
/-! Ok -/
namespace Go.Proofs.YtcnbephpadmboaaGreatDoor
open Go.RowKit

def sumL : List Int → Int
  | [] => 0
  | x :: r => x + sumL r
theorem sumL_append (xs ys : List Int) : sumL (xs ++ ys) = sumL xs + sumL ys := by
  induction xs with
  | nil => simp [sumL]
  | cons x r ih => simp [sumL, ih]; omega
theorem sumL_step (xs : List Int) (k : Nat) (h : k < xs.length) : sumL (xs.take (k + 1)) = sumL (xs.take k) + xs.getD k 0 := by
  rw [List.take_succ_eq_append_getElem h, sumL_append]
  simp [sumL, List.getD_eq_getElem?_getD, List.getElem?_eq_getElem h]
def Small (xs : List Int) : Prop := ∀ x ∈ xs, 0 ≤ x ∧ x ≤ 100
theorem Small.sum {xs : List Int} (h : Small xs) : 0 ≤ sumL xs ∧ sumL xs ≤ 100 * xs.length := by
  induction xs with
  | nil => simp [sumL]
  | cons x r ih =>
    have h1 := h x (by simp)
    have h2 := ih fun y hy => h y (by simp [hy])
    simp only [sumL, List.length_cons]
    omega
theorem Small.take {xs : List Int} (h : Small xs) (k : Nat) : Small (xs.take k) := fun x hx => h x (List.mem_of_mem_take hx)
theorem Small.getD {xs : List Int} (h : Small xs) (k : Nat) : 0 ≤ xs.getD k 0 ∧ xs.getD k 0 ≤ 100 := by
  rw [List.getD_eq_getElem?_getD]
  rcases hk : xs[k]? with _ | x
  · simp
  · exact h x (List.mem_of_getElem? hk)

def inB (x : Int) : Bool := decide (0 ≤ x) && decide (x ≤ 30)
theorem inB_lo {x : Int} (h : x < 0) : inB x = false := by simp [inB]; omega
theorem inB_hi {x : Int} (h : 30 < x) : inB x = false := by simp [inB]; omega
theorem inB_yes {x : Int} (h : ¬ x < 0) (h' : ¬ 30 < x) : inB x = true := by simp [inB]; omega
def partsB (xs : List Int) : Bool := xs.all inB && decide (xs.length = 3)
def okB (b : BankL) : Bool := partsB b.own && partsB b.notes && decide (0 ≤ b.locked) && decide (sumL b.own + b.locked = 30) && decide (sumL b.notes ≤ 30)

theorem all_snoc (p : Int → Bool) (xs : List Int) (k : Nat) (h : k < xs.length) : (xs.take (k + 1)).all p = ((xs.take k).all p && p (xs.getD k 0)) := by
  have hg : xs.getD k 0 = xs[k] := by simp [List.getD_eq_getElem?_getD, List.getElem?_eq_getElem h]
  rw [hg, List.take_succ_eq_append_getElem h, List.all_append, List.all_cons, List.all_nil, Bool.and_true]
theorem all_false_of (p : Int → Bool) (xs : List Int) (k : Nat) (h : k < xs.length) (hp : p (xs.getD k 0) = false) : xs.all p = false := by
  rw [List.all_eq_false]
  refine ⟨xs[k], by simp, ?_⟩
  rw [List.getD_eq_getElem?_getD, List.getElem?_eq_getElem h] at hp
  simp at hp
  simp [hp]
theorem parts_small {xs : List Int} (h : partsB xs = true) : Small xs ∧ xs.length = 3 := by
  unfold partsB at h
  simp [List.all_eq_true, inB] at h
  exact ⟨fun x hx => by have := h.1 x hx; omega, h.2⟩

set_option maxHeartbeats 400000 in
theorem specAll_any (A : Option Addr) (n c : Nat) (xs : List Int) (w : World) (ha : Ints w A n xs) (hs : Small xs) (hn : n ≤ 1000) :
    Calls Tryz.prog 97 #[.slice A n c] w fun e w' => e = .returned (.int .i64 (sumL xs)) ∧ w = w' := by
  have hxl := Lib.hid ha.1
  have HS := Lib.hid hs
  clear hs
  go_enter Tryz.func97, Tryz.ntmps97
  go_wp2
  go_loop [3, 4] (fun s i => ∃ k : Nat, k ≤ n ∧ i = .int .i64 k ∧ s = .int .i64 (sumL (xs.take k))) (fun _ i => n - (intOf i).toNat)
  case atStart => exact ⟨0, Nat.zero_le _, rfl, rfl⟩
  case round =>
    obtain ⟨k, hk, rfl, rfl⟩ := hrel
    have hl : (xs.take k).length ≤ k := List.length_take_le _ _
    have hb := (HS.out.take k).sum
    by_cases hlt : k < n
    · obtain ⟨b1, o1, rfl, _, hc1⟩ := ha.at_ hlt
      have hst := Lib.hid (sumL_step xs k (by rw [hxl.out]; exact hlt))
      have hg := HS.out.getD k
      generalize xs.getD k 0 = y at hc1 hg hst
      generalize sumL (xs.take k) = s at hb hst
      clear ha
      go_wp2
      go_round
      case rel => exact ⟨k + 1, by omega, by go_num, by rw [hst.out]⟩
      case measure => simp [intOf]; omega
    · have he : xs.take k = xs := List.take_of_length_le (by rw [hxl.out]; omega)
      rw [he]
      clear he
      go_wp2
      go_ret
      exact ⟨rfl, rfl⟩

set_option maxHeartbeats 400000 in
theorem implSum_any (A : Option Addr) (n c : Nat) (xs : List Int) (w : World) (ha : Ints w A n xs) (hs : Small xs) (hn : n ≤ 1000) :
    Calls Tryz.prog 133 #[.slice A n c] w fun e w' => e = .returned (.int .i64 (sumL xs)) ∧ w = w' := by
  have hxl := Lib.hid ha.1
  have HS := Lib.hid hs
  clear hs
  go_enter Tryz.func133, Tryz.ntmps133
  go_wp2
  go_loop [3, 8] (fun s i => ∃ k : Nat, k ≤ n ∧ i = .int .i64 k ∧ s = .int .i64 (sumL (xs.take k))) (fun _ i => n - (intOf i).toNat)
  case atStart => exact ⟨0, Nat.zero_le _, rfl, rfl⟩
  case round =>
    obtain ⟨k, hk, rfl, rfl⟩ := hrel
    have hl : (xs.take k).length ≤ k := List.length_take_le _ _
    have hb := (HS.out.take k).sum
    by_cases hlt : k < n
    · obtain ⟨b1, o1, rfl, _, hc1⟩ := ha.at_ hlt
      have hst := Lib.hid (sumL_step xs k (by rw [hxl.out]; exact hlt))
      have hg := HS.out.getD k
      generalize xs.getD k 0 = y at hc1 hg hst
      generalize sumL (xs.take k) = s at hb hst
      clear ha
      go_wp2
      go_round
      case rel => exact ⟨k + 1, by omega, by go_num, by rw [hst.out]⟩
      case measure => simp [intOf]; omega
    · have he : xs.take k = xs := List.take_of_length_le (by rw [hxl.out]; omega)
      rw [he]
      clear he
      go_wp2
      go_ret
      exact ⟨rfl, rfl⟩

set_option maxHeartbeats 400000 in
theorem l6In_bk (x lo hi : Int) (w : World) :
    Calls Tryz.prog 64 #[.int .i64 x, .int .i64 lo, .int .i64 hi] w fun e w' => e = .returned (.bool (decide (lo ≤ x) && decide (x ≤ hi))) ∧ w = w' := by
  by_cases h1 : lo ≤ x
  · have hd : decide (lo ≤ x) = true := by simpa using h1
    go_enter Tryz.func64, Tryz.ntmps64
    go_wp2
    go_ret
    exact ⟨by simp [h1], rfl⟩
  · have hd : decide (lo ≤ x) = false := by simpa using h1
    go_enter Tryz.func64, Tryz.ntmps64
    go_wp2
    go_ret
    exact ⟨by simp [h1], rfl⟩

set_option maxHeartbeats 400000 in
theorem specParts_any (A : Option Addr) (n c : Nat) (xs : List Int) (w : World) (ha : Ints w A n xs) (hn : n ≤ maxLen) :
    Calls Tryz.prog 96 #[.slice A n c] w fun e w' => e = .returned (.bool (partsB xs)) ∧ w = w' := by
  unfold maxLen at hn
  have hxl := Lib.hid ha.1
  go_enter Tryz.func96, Tryz.ntmps96
  go_wp2
  go_loop [3] (fun i => ∃ k : Nat, k ≤ n ∧ i = .int .i64 k ∧ (xs.take k).all inB = true) (fun i => n - (intOf i).toNat)
  case atStart => exact ⟨0, Nat.zero_le _, rfl, rfl⟩
  case round =>
    obtain ⟨k, hk, rfl, hall⟩ := hrel
    have HA := Lib.hid hall
    clear hall
    by_cases hlt : k < n
    · obtain ⟨b1, o1, rfl, _, hc1⟩ := ha.at_ hlt
      have hst := Lib.hid (all_snoc inB xs k (by rw [hxl.out]; exact hlt))
      clear ha
      by_cases hin : inB (xs.getD k 0) = true
      · have hd : (decide (0 ≤ xs.getD k 0) && decide (xs.getD k 0 ≤ 30)) = true := hin
        have HI := Lib.hid hin
        generalize xs.getD k 0 = y at hc1 hd
        clear hin
        go_wp2_with (go_at_call 64; refine (l6In_bk _ _ _ _).mono ?_; rintro e w' ⟨rfl, rfl⟩)
        go_round
        case rel => exact ⟨k + 1, by omega, by go_num, by rw [hst.out, HA.out, HI.out]; rfl⟩
        case measure => simp [intOf]; omega
      · have hd : (decide (0 ≤ xs.getD k 0) && decide (xs.getD k 0 ≤ 30)) = false := Bool.eq_false_iff.2 hin
        have hf := Lib.hid (all_false_of inB xs k (by rw [hxl.out]; exact hlt) hd)
        generalize xs.getD k 0 = y at hc1 hd
        clear hin
        go_wp2_with (go_at_call 64; refine (l6In_bk _ _ _ _).mono ?_; rintro e w' ⟨rfl, rfl⟩)
        go_ret
        exact ⟨by simp [partsB, hf.out], rfl⟩
    · have he : xs.take k = xs := List.take_of_length_le (by rw [hxl.out]; omega)
      have HA2 := HA.out
      rw [he] at HA2
      have HP : Hid (partsB xs = decide (n = 3)) := by
        show partsB xs = _
        unfold partsB
        rw [HA2, hxl.out, Bool.true_and]
      clear he HA2
      by_cases h3 : n = 3
      · have hd : ((n : Int) == 3) = true := by simp; omega
        go_wp2
        go_ret
        exact ⟨by rw [HP.out]; simp [h3], rfl⟩
      · have hd : ((n : Int) == 3) = false := by simp; omega
        go_wp2
        go_ret
        exact ⟨by rw [HP.out]; simp [h3], rfl⟩

set_option maxHeartbeats 400000 in
theorem implParts_any (A : Option Addr) (n c : Nat) (xs : List Int) (w : World) (ha : Ints w A n xs) (hn : n ≤ maxLen) :
    Calls Tryz.prog 137 #[.slice A n c] w fun e w' => e = .returned (.bool (partsB xs)) ∧ w = w' := by
  unfold maxLen at hn
  have hxl := Lib.hid ha.1
  by_cases h3 : n = 3
  · have hd : ((n : Int) != 3) = false := by simp; omega
    have H3 := Lib.hid h3
    have hle : n ≤ 3 := by omega
    clear h3
    go_enter Tryz.func137, Tryz.ntmps137
    go_wp2
    go_loop [10] (fun i => ∃ k : Nat, k ≤ n ∧ i = .int .i64 k ∧ (xs.take k).all inB = true) (fun i => n - (intOf i).toNat)
    case atStart => exact ⟨0, Nat.zero_le _, rfl, rfl⟩
    case round =>
      obtain ⟨k, hk, rfl, hall⟩ := hrel
      have HA := Lib.hid hall
      clear hall
      by_cases hlt : k < n
      · obtain ⟨b1, o1, rfl, _, hc1⟩ := ha.at_ hlt
        have hst := Lib.hid (all_snoc inB xs k (by rw [hxl.out]; exact hlt))
        have hff := fun h => Lib.hid (all_false_of inB xs k (by rw [hxl.out]; exact hlt) h)
        have HFF := Lib.hid hff
        clear ha hff
        by_cases h0 : xs.getD k 0 < 0
        · have hd0 : decide (xs.getD k 0 < 0) = true := by simpa using h0
          have hf := HFF.out (inB_lo h0)
          generalize xs.getD k 0 = y at hc1 hd0 h0
          go_wp2
          go_ret
          exact ⟨by simp [partsB, hf.out], rfl⟩
        · have hd0 : decide (xs.getD k 0 < 0) = false := by simpa using h0
          by_cases h30 : 30 < xs.getD k 0
          · have hf := HFF.out (inB_hi h30)
            have hd1 : decide (30 < xs.getD k 0) = true := by simpa using h30
            generalize xs.getD k 0 = y at hc1 hd0 hd1 h0 h30
            go_wp2
            go_ret
            exact ⟨by simp [partsB, hf.out], rfl⟩
          · have HI : Hid (inB (xs.getD k 0) = true) := inB_yes h0 h30
            have hd1 : decide (30 < xs.getD k 0) = false := by simpa using h30
            generalize xs.getD k 0 = y at hc1 hd0 hd1 h0 h30
            go_wp2
            go_round
            case rel => exact ⟨k + 1, by omega, by go_num, by rw [hst.out, HA.out, HI.out]; rfl⟩
            case measure => simp [intOf]; omega
      · have he : xs.take k = xs := List.take_of_length_le (by rw [hxl.out]; omega)
        have HA2 := HA.out
        rw [he] at HA2
        have HP : Hid (partsB xs = true) := by
          show partsB xs = _
          unfold partsB
          rw [HA2, hxl.out, H3.out]
          rfl
        clear he HA2
        go_wp2
        go_ret
        exact ⟨by simp [HP.out], rfl⟩
  · have hd : ((n : Int) != 3) = true := by simp; omega
    have HP : Hid (partsB xs = false) := by
      show partsB xs = _
      unfold partsB
      rw [hxl.out]
      simp [h3]
    go_enter Tryz.func137, Tryz.ntmps137
    go_wp2
    go_ret
    exact ⟨by simp [HP.out], rfl⟩
end Go.Proofs.YtcnbephpadmboaaGreatDoor

/-! To -/
namespace Go.Proofs.YtcnbephpadmboaaGreatDoor
open Go.RowKit

set_option maxHeartbeats 400000 in
theorem szBank_yes (A1 A2 : Option Addr) (n1 n2 c1 c2 : Nat) (L left : Int) (w : World) (hn : (n1 : Int) + n2 ≤ left) (hl : left ≤ 1048576) :
    Calls Tryz.prog 25 #[.agg #[.slice A1 n1 c1, .slice A2 n2 c2, .int .i64 L], .int .i64 left] w fun e w' => e = .returned (.int .i64 (left - n1 - n2)) ∧ Keeps noBlk w w' := by
  have h0 : ¬ left - (n1 : Int) < 0 := by omega
  have h1 : ¬ left - (n1 : Int) - (n2 : Int) < 0 := by omega
  go_enter Tryz.func25, Tryz.ntmps25
  go_wp2_with fail
  refine (szIntS_yes A1 n1 _ left _ (by omega) hl).mono ?_
  rintro e w' ⟨rfl, rfl⟩
  go_wp2_with fail
  refine (szIntS_yes A2 n2 _ _ _ (by omega) (by omega)).mono ?_
  rintro e w' ⟨rfl, rfl⟩
  go_wp2
  go_ret
  exact ⟨rfl, (Keeps.refl _ _).alloc _⟩

set_option maxHeartbeats 400000 in
theorem szBank_no (A1 A2 : Option Addr) (n1 n2 c1 c2 : Nat) (L left : Int) (w : World) (hn : left < (n1 : Int) + n2) (hp : 0 ≤ left) (hl : left ≤ 1048576) (m1 : n1 ≤ maxLen) (m2 : n2 ≤ maxLen) :
    Calls Tryz.prog 25 #[.agg #[.slice A1 n1 c1, .slice A2 n2 c2, .int .i64 L], .int .i64 left] w fun e w' => e = .returned (.int .i64 (-1)) ∧ Keeps noBlk w w' := by
  by_cases h : left < n1
  · go_enter Tryz.func25, Tryz.ntmps25
    go_wp2_with fail
    refine (szIntS_no A1 n1 _ left _ h hp m1).mono ?_
    rintro e w' ⟨rfl, rfl⟩
    go_wp2
    go_ret
    exact ⟨rfl, (Keeps.refl _ _).alloc _⟩
  · have h0 : ¬ left - (n1 : Int) < 0 := by omega
    go_enter Tryz.func25, Tryz.ntmps25
    go_wp2_with fail
    refine (szIntS_yes A1 n1 _ left _ (by omega) hl).mono ?_
    rintro e w' ⟨rfl, rfl⟩
    go_wp2_with fail
    refine (szIntS_no A2 n2 _ _ _ (by omega) (by omega) m2).mono ?_
    rintro e w' ⟨rfl, rfl⟩
    go_wp2
    go_ret
    exact ⟨rfl, (Keeps.refl _ _).alloc _⟩

def RetBank' (w : World) (b : BankL) (e : Ending) (w' : World) : Prop :=
  ∃ A1 A2, e = .returned (.agg #[.slice A1 b.own.length b.own.length, .slice A2 b.notes.length b.notes.length, .int .i64 b.locked]) ∧
    Row w' w.heap.size A1 b.own.length b.own ∧ Row w' w.heap.size A2 b.notes.length b.notes ∧ (∀ i, blk A1 b.own.length i → ¬ blk A2 b.notes.length i) ∧ Keeps noBlk w w'

set_option maxHeartbeats 1000000 in
theorem toBank_any (A1 A2 : Option Addr) (n1 n2 c1 c2 : Nat) (L : Int) (xs ys : List Int) (w : World) (ha1 : Ints w A1 n1 xs) (ha2 : Ints w A2 n2 ys) (h1 : n1 ≤ 1048576) (h2 : n2 ≤ 1048576) :
    Calls Tryz.prog 35 #[.agg #[.slice A1 n1 c1, .slice A2 n2 c2, .int .i64 L]] w (RetBank' w ⟨xs, ys, L⟩) := by
  have HA1 := Lib.hid ha1
  have HA2 := Lib.hid ha2
  clear ha1 ha2
  go_enter Tryz.func35, Tryz.ntmps35
  go_wp2_with fail
  refine (toIntS_any A1 n1 _ xs _ (((HA1.out.alloc _).alloc _).alloc _) h1).mono ?_
  rintro e w1 ⟨B1, rfl, hr1, hk1⟩
  have hbA : Box w1 w.heap.size 24 #[.slice A1 n1 c1, .slice A2 n2 c2, .int .i64 L] := (((Box.new w _ rfl _ _).alloc _).alloc _).keeps hk1 fun h => h
  have hbR : Box w1 (w.heap.size + 1) 36 #[.slice none 0 0, .slice none 0 0, .int .i64 0] := ((Box.new _ _ (by simp) _ _).alloc _).keeps hk1 fun h => h
  have hbO : Box w1 (w.heap.size + 1 + 1) 36 #[.slice none 0 0, .slice none 0 0, .int .i64 0] := (Box.new _ _ (by simp) _ _).keeps hk1 fun h => h
  have a1 := hbA.cell 1
  have a2 := hbA.cell 2
  have o0 := hbO.cell 0
  have o1 := hbO.cell 1
  have o2 := hbO.cell 2
  have f0 := hbO.frozen 0
  have r0 := hbR.cell 0
  have r1 := hbR.cell 1
  have r2 := hbR.cell 2
  simp at a1 a2 o0 o1 o2 r0 r1 r2
  have hz : w.heap.size + 1 + 1 < w1.heap.size := hbO.lt
  have HBA := Lib.hid hbA
  have HBR := Lib.hid hbR
  have HBO := Lib.hid hbO
  have HR1 := Lib.hid hr1
  have HK1 := Lib.hid hk1
  clear hbA hbR hbO hr1 hk1
  go_wp2_with fail
  refine (toIntS_any A2 n2 _ ys _ (((((HA2.out.alloc _).alloc _).alloc _).keeps HK1.out fun _ _ h => h).far (fun h => by have := HA2.out.lt h; simp at this; omega) _) h2).mono ?_
  rintro e w2 ⟨B2, rfl, hr2, hk2⟩
  have hbA := (HBA.out.far (p := ⟨w.heap.size + 1 + 1, 0, none⟩) (by dsimp only; omega) (.slice B1 xs.length xs.length)).keeps hk2 fun h => h
  have hbR := (HBR.out.far (p := ⟨w.heap.size + 1 + 1, 0, none⟩) (by dsimp only; omega) (.slice B1 xs.length xs.length)).keeps hk2 fun h => h
  have hbO := (HBO.out.set_ 0 (.slice B1 xs.length xs.length)).keeps hk2 fun h => h
  simp only [List.setIfInBounds_toArray, List.set_cons_zero] at hbO
  have a2 := hbA.cell 2
  have o0 := hbO.cell 0
  have o1 := hbO.cell 1
  have o2 := hbO.cell 2
  have f1 := hbO.frozen 1
  have f2 := hbO.frozen 2
  have r0 := hbR.cell 0
  have r1 := hbR.cell 1
  have r2 := hbR.cell 2
  have g0 := hbR.frozen 0
  have g1 := hbR.frozen 1
  have g2 := hbR.frozen 2
  simp at a2 o0 o1 o2 r0 r1 r2
  have hnO : ¬ blk B1 xs.length (w.heap.size + 1 + 1) := fun h => by have := HR1.out.ge h; simp at this; omega
  have hw12 : w1.heap.size ≤ w2.heap.size := by simpa [World.setCell] using hk2.size
  have hr1 := (HR1.out.far (p := ⟨w.heap.size + 1 + 1, 0, none⟩) hnO (.slice B1 xs.length xs.length)).keeps hk2 fun _ _ h => h
  have HR1b := Lib.hid hr1
  have HR2 := Lib.hid hr2
  have HK2 := Lib.hid hk2
  clear hbA hbR hbO hr2 hk2 hr1
  go_wp2
  refine bodyPost_ret (v := .agg #[.slice B1 xs.length xs.length, .slice B2 ys.length ys.length, .int .i64 L]) (by simp [results, Tryz.results35, go_sem, r0, r1, r2]) rfl ?_
  have hn1 : ∀ i, i < w.heap.size + 3 → ¬ blk B1 xs.length i := fun i hi h => by have := HR1.out.ge h; simp at this; omega
  have hn2 : ∀ i, i < w1.heap.size → ¬ blk B2 ys.length i := fun i hi h => by have := HR2.out.ge h; simp [World.setCell] at this; omega
  refine ⟨B1, B2, rfl, ?_, ?_, ?_, ?_⟩
  · exact (HR1b.out.keeps (((((Keeps.refl (two (w.heap.size + 1) (w.heap.size + 1 + 1)) _).setB _ _).setB _ _).setA _ _).setA _ _ |>.setA _ _) fun b hb h => hn1 b (by rcases h with h | h <;> omega) hb).less (by simp; omega)
  · exact (HR2.out.keeps (((((Keeps.refl (two (w.heap.size + 1) (w.heap.size + 1 + 1)) _).setB _ _).setB _ _).setA _ _).setA _ _ |>.setA _ _) fun b hb h => hn2 b (by rcases h with h | h <;> omega) hb).less (by simp [World.setCell]; omega)
  · intro i h1 h2
    exact hn2 i (HR1.out.lt h1) h2
  · have k1 : Keeps noBlk w w1 := (((Keeps.refl _ w).alloc _).alloc _).alloc _ |>.trans HK1.out
    exact ((((((k1.new (by omega) _ _).trans HK2.out).new (by omega) _ _).new (by omega) _ _).new (by omega) _ _).new (by omega) _ _).new (by omega) _ _
end Go.Proofs.YtcnbephpadmboaaGreatDoor
