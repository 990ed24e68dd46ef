/- szBank, toIntS, toBank of the laws. -/
import Derived.Test.YtiglmfefamehhaaOk
namespace Go.Proofs.Ytiglmfefamehhaa
open Go.RowKit

set_option maxHeartbeats 400000 in
theorem szIntS_yes (A : Option Addr) (n c : Nat) (left : Int) (w : World) (hn : (n : Int) ≤ left) (hl : left ≤ 1048576) :
    Calls Try.prog 61 #[.slice A n c, .int .i64 left] w fun e w' => e = .returned (.int .i64 (left - n)) ∧ w = w' := by
  have h0 : ¬ left - (n : Int) < 0 := by omega
  go_enter Try.func61, Try.ntmps61
  go_wp2
  go_ret
  exact ⟨rfl, rfl⟩
set_option maxHeartbeats 400000 in
theorem szIntS_no (A : Option Addr) (n c : Nat) (left : Int) (w : World) (hn : left < (n : Int)) (h0 : 0 ≤ left) (hm : n ≤ maxLen) :
    Calls Try.prog 61 #[.slice A n c, .int .i64 left] w fun e w' => e = .returned (.int .i64 (-1)) ∧ w = w' := by
  unfold maxLen at hm
  have h1 : left - (n : Int) < 0 := by omega
  go_enter Try.func61, Try.ntmps61
  go_wp2
  go_ret
  exact ⟨rfl, rfl⟩

set_option maxHeartbeats 400000 in
theorem szBank_yes (A1 A2 : Option Addr) (n1 n2 c1 c2 : Nat) (L left : Int) (w : World) (hn : (n1 : Int) + n2 ≤ left) (hl : left ≤ 1048576) :
    Calls Try.prog 38 #[.agg #[.slice A1 n1 c1, .slice A2 n2 c2, .int .i64 L], .int .i64 left] w fun e w' => e = .returned (.int .i64 (left - n1 - n2)) ∧ Keeps noBlk w w' := by
  have h0 : ¬ left - (n1 : Int) < 0 := by omega
  have h1 : ¬ left - (n1 : Int) - (n2 : Int) < 0 := by omega
  go_enter Try.func38, Try.ntmps38
  go_wp2_with fail
  refine (szIntS_yes A1 n1 _ left _ (by omega) hl).mono ?_
  rintro e w' ⟨rfl, rfl⟩
  go_wp2_with fail
  refine (szIntS_yes A2 n2 _ _ _ (by omega) (by omega)).mono ?_
  rintro e w' ⟨rfl, rfl⟩
  go_wp2
  go_ret
  exact ⟨rfl, (Keeps.refl _ _).alloc _⟩

set_option maxHeartbeats 400000 in
theorem szBank_no (A1 A2 : Option Addr) (n1 n2 c1 c2 : Nat) (L left : Int) (w : World) (hn : left < (n1 : Int) + n2) (hp : 0 ≤ left) (hl : left ≤ 1048576) (m1 : n1 ≤ maxLen) (m2 : n2 ≤ maxLen) :
    Calls Try.prog 38 #[.agg #[.slice A1 n1 c1, .slice A2 n2 c2, .int .i64 L], .int .i64 left] w fun e w' => e = .returned (.int .i64 (-1)) ∧ Keeps noBlk w w' := by
  by_cases h : left < n1
  · go_enter Try.func38, Try.ntmps38
    go_wp2_with fail
    refine (szIntS_no A1 n1 _ left _ h hp m1).mono ?_
    rintro e w' ⟨rfl, rfl⟩
    go_wp2
    go_ret
    exact ⟨rfl, (Keeps.refl _ _).alloc _⟩
  · have h0 : ¬ left - (n1 : Int) < 0 := by omega
    go_enter Try.func38, Try.ntmps38
    go_wp2_with fail
    refine (szIntS_yes A1 n1 _ left _ (by omega) hl).mono ?_
    rintro e w' ⟨rfl, rfl⟩
    go_wp2_with fail
    refine (szIntS_no A2 n2 _ _ _ (by omega) (by omega) m2).mono ?_
    rintro e w' ⟨rfl, rfl⟩
    go_wp2
    go_ret
    exact ⟨rfl, (Keeps.refl _ _).alloc _⟩

/-- The first k of a row of noughts are as xs. -/
def filled (xs : List Int) (k : Nat) : List Int := xs.take k ++ List.replicate (xs.length - k) 0
theorem filled_zero (xs : List Int) : filled xs 0 = List.replicate xs.length 0 := by simp [filled]
theorem filled_all (xs : List Int) (k : Nat) (h : k = xs.length) : filled xs k = xs := by subst h; simp [filled]
theorem filled_step (xs : List Int) (k : Nat) (h : k < xs.length) : (filled xs k).set k (xs.getD k 0) = filled xs (k + 1) := by
  unfold filled
  apply List.ext_getElem?
  intro j
  rw [List.getElem?_set]
  by_cases hj : k = j
  · subst hj
    rw [if_pos rfl, if_pos (by simp; omega), List.getElem?_append_left (by simp; omega), List.getElem?_take_of_lt (by omega), List.getD_eq_getElem?_getD, List.getElem?_eq_getElem h]
    rfl
  · rw [if_neg hj]
    by_cases hlt : j < k
    · rw [List.getElem?_append_left (by simp; omega), List.getElem?_append_left (by simp; omega), List.getElem?_take_of_lt hlt, List.getElem?_take_of_lt (by omega)]
    · rw [List.getElem?_append_right (by simp; omega), List.getElem?_append_right (by simp; omega)]
      simp only [List.length_take, List.getElem?_replicate]
      have e1 : min k xs.length = k := by omega
      have e2 : min (k + 1) xs.length = k + 1 := by omega
      rw [e1, e2]
      by_cases hx : j < xs.length
      · rw [if_pos (by omega), if_pos (by omega)]
      · rw [if_neg (by omega), if_neg (by omega)]

def RetRow (w : World) (xs : List Int) (e : Ending) (w' : World) : Prop :=
  ∃ A, e = .returned (.slice A xs.length xs.length) ∧ Row w' w.heap.size A xs.length xs ∧ Keeps noBlk w w'

set_option maxHeartbeats 400000 in
theorem toIntS_any (A : Option Addr) (n c : Nat) (xs : List Int) (w : World) (ha : Ints w A n xs) (hn : n ≤ 1048576) :
    Calls Try.prog 62 #[.slice A n c] w (RetRow w xs) := by
  obtain rfl : xs.length = n := ha.1
  have hmk := run_make_row' (P := Try.prog) 23 3 (.int .i64 0) 8 Try.underlying23 info_int rfl .i64 .i64 xs.length (by omega) (by omega)
  have HA := Lib.hid ha
  clear ha
  go_enter Try.func62, Try.ntmps62
  go_wp2
  go_loopw [4] (fun i wr => ∃ k : Nat, k ≤ xs.length ∧ i = .int .i64 k ∧ Row wr w.heap.size (some ⟨w.heap.size, 0, none⟩) xs.length (filled xs k) ∧ Keeps noBlk w wr) (fun i _ => xs.length - (intOf i).toNat)
  case atStart => exact ⟨0, Nat.zero_le _, rfl, Row.made' _ _ _ rfl (Nat.le_refl _) _ _ _ _ (by simp [filled]) (by rw [filled_zero]; exact made_ints _), (Keeps.refl _ _).alloc _⟩
  case round =>
    obtain ⟨k, hk, rfl, hr, hkp⟩ := hrel
    by_cases hlt : k < xs.length
    · obtain ⟨b1, o1, e1, _, _, hc1, hf1⟩ := hr.at_ hlt
      injection e1 with e1
      injection e1 with e1 e2
      subst e1
      subst e2
      obtain ⟨b2, o2, rfl, _, hc2⟩ := (HA.out.keeps hkp fun _ _ h => h).at_ hlt
      have Hr := Lib.hid hr
      have Hkp := Lib.hid hkp
      clear hr hkp
      rw [Nat.zero_add] at hc1 hf1
      have hst := Lib.hid (filled_step xs k hlt)
      generalize xs.getD k 0 = y at hc2 hst
      go_wp2
      go_roundw
      case rel => exact ⟨k + 1, by omega, by go_num, by rw [← hst.out]; simpa using Hr.out.set_ hlt y, Hkp.out.setCell (.inl (Nat.le_refl _)) _⟩
      case measure => simp [intOf]; omega
    · obtain he : k = xs.length := by omega
      have Hr : Hid (Row wr w.heap.size (some ⟨w.heap.size, 0, none⟩) xs.length xs) := by
        have := hr
        rw [filled_all xs k he] at this
        exact this
      clear he
      go_wp2
      go_ret
      exact ⟨_, rfl, Hr.out, hkp⟩

def RetBank' (w : World) (b : BankL) (e : Ending) (w' : World) : Prop :=
  ∃ A1 A2, e = .returned (.agg #[.slice A1 b.own.length b.own.length, .slice A2 b.notes.length b.notes.length, .int .i64 b.locked]) ∧
    Row w' w.heap.size A1 b.own.length b.own ∧ Row w' w.heap.size A2 b.notes.length b.notes ∧ (∀ i, blk A1 b.own.length i → ¬ blk A2 b.notes.length i) ∧ Keeps noBlk w w'

set_option maxHeartbeats 1000000 in
theorem toBank_any (A1 A2 : Option Addr) (n1 n2 c1 c2 : Nat) (L : Int) (xs ys : List Int) (w : World) (ha1 : Ints w A1 n1 xs) (ha2 : Ints w A2 n2 ys) (h1 : n1 ≤ 1048576) (h2 : n2 ≤ 1048576) :
    Calls Try.prog 39 #[.agg #[.slice A1 n1 c1, .slice A2 n2 c2, .int .i64 L]] w (RetBank' w ⟨xs, ys, L⟩) := by
  have HA1 := Lib.hid ha1
  have HA2 := Lib.hid ha2
  clear ha1 ha2
  go_enter Try.func39, Try.ntmps39
  go_wp2_with fail
  refine (toIntS_any A1 n1 _ xs _ (((HA1.out.alloc _).alloc _).alloc _) h1).mono ?_
  rintro e w1 ⟨B1, rfl, hr1, hk1⟩
  have hbA : Box w1 w.heap.size 45 #[.slice A1 n1 c1, .slice A2 n2 c2, .int .i64 L] := (((Box.new w _ rfl _ _).alloc _).alloc _).keeps hk1 fun h => h
  have hbR : Box w1 (w.heap.size + 1) 25 #[.slice none 0 0, .slice none 0 0, .int .i64 0] := ((Box.new _ _ (by simp) _ _).alloc _).keeps hk1 fun h => h
  have hbO : Box w1 (w.heap.size + 1 + 1) 25 #[.slice none 0 0, .slice none 0 0, .int .i64 0] := (Box.new _ _ (by simp) _ _).keeps hk1 fun h => h
  have a1 := hbA.cell 1
  have a2 := hbA.cell 2
  have o0 := hbO.cell 0
  have o1 := hbO.cell 1
  have o2 := hbO.cell 2
  have f0 := hbO.frozen 0
  have r0 := hbR.cell 0
  have r1 := hbR.cell 1
  have r2 := hbR.cell 2
  simp at a1 a2 o0 o1 o2 r0 r1 r2
  have hz : w.heap.size + 1 + 1 < w1.heap.size := hbO.lt
  have HBA := Lib.hid hbA
  have HBR := Lib.hid hbR
  have HBO := Lib.hid hbO
  have HR1 := Lib.hid hr1
  have HK1 := Lib.hid hk1
  clear hbA hbR hbO hr1 hk1
  go_wp2_with fail
  refine (toIntS_any A2 n2 _ ys _ (((((HA2.out.alloc _).alloc _).alloc _).keeps HK1.out fun _ _ h => h).far (fun h => by have := HA2.out.lt h; simp at this; omega) _) h2).mono ?_
  rintro e w2 ⟨B2, rfl, hr2, hk2⟩
  have hbA := (HBA.out.far (p := ⟨w.heap.size + 1 + 1, 0, none⟩) (by dsimp only; omega) (.slice B1 xs.length xs.length)).keeps hk2 fun h => h
  have hbR := (HBR.out.far (p := ⟨w.heap.size + 1 + 1, 0, none⟩) (by dsimp only; omega) (.slice B1 xs.length xs.length)).keeps hk2 fun h => h
  have hbO := (HBO.out.set_ 0 (.slice B1 xs.length xs.length)).keeps hk2 fun h => h
  simp only [List.setIfInBounds_toArray, List.set_cons_zero] at hbO
  have a2 := hbA.cell 2
  have o0 := hbO.cell 0
  have o1 := hbO.cell 1
  have o2 := hbO.cell 2
  have f1 := hbO.frozen 1
  have f2 := hbO.frozen 2
  have r0 := hbR.cell 0
  have r1 := hbR.cell 1
  have r2 := hbR.cell 2
  have g0 := hbR.frozen 0
  have g1 := hbR.frozen 1
  have g2 := hbR.frozen 2
  simp at a2 o0 o1 o2 r0 r1 r2
  have hnO : ¬ blk B1 xs.length (w.heap.size + 1 + 1) := fun h => by have := HR1.out.ge h; simp at this; omega
  have hw12 : w1.heap.size ≤ w2.heap.size := by simpa [World.setCell] using hk2.size
  have hr1 := (HR1.out.far (p := ⟨w.heap.size + 1 + 1, 0, none⟩) hnO (.slice B1 xs.length xs.length)).keeps hk2 fun _ _ h => h
  have HR1b := Lib.hid hr1
  have HR2 := Lib.hid hr2
  have HK2 := Lib.hid hk2
  clear hbA hbR hbO hr2 hk2 hr1
  go_wp2
  refine bodyPost_ret (v := .agg #[.slice B1 xs.length xs.length, .slice B2 ys.length ys.length, .int .i64 L]) (by simp [results, Try.results39, go_sem, r0, r1, r2]) rfl ?_
  have hn1 : ∀ i, i < w.heap.size + 3 → ¬ blk B1 xs.length i := fun i hi h => by have := HR1.out.ge h; simp at this; omega
  have hn2 : ∀ i, i < w1.heap.size → ¬ blk B2 ys.length i := fun i hi h => by have := HR2.out.ge h; simp [World.setCell] at this; omega
  refine ⟨B1, B2, rfl, ?_, ?_, ?_, ?_⟩
  · exact (HR1b.out.keeps (((((Keeps.refl (two (w.heap.size + 1) (w.heap.size + 1 + 1)) _).setB _ _).setB _ _).setA _ _).setA _ _ |>.setA _ _) fun b hb h => hn1 b (by rcases h with h | h <;> omega) hb).less (by simp; omega)
  · exact (HR2.out.keeps (((((Keeps.refl (two (w.heap.size + 1) (w.heap.size + 1 + 1)) _).setB _ _).setB _ _).setA _ _).setA _ _ |>.setA _ _) fun b hb h => hn2 b (by rcases h with h | h <;> omega) hb).less (by simp [World.setCell]; omega)
  · intro i h1 h2
    exact hn2 i (HR1.out.lt h1) h2
  · have k1 : Keeps noBlk w w1 := (((Keeps.refl _ w).alloc _).alloc _).alloc _ |>.trans HK1.out
    exact ((((((k1.new (by omega) _ _).trans HK2.out).new (by omega) _ _).new (by omega) _ _).new (by omega) _ _).new (by omega) _ _).new (by omega) _ _
end Go.Proofs.Ytiglmfefamehhaa
