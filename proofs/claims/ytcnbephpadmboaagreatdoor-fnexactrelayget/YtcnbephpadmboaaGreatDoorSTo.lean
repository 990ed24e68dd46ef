/- szState, toState of the laws. -/
import Derived.Test.YtcnbephpadmboaaGreatDoorUSt
import Derived.Test.YtcnbephpadmboaaGreatDoorUPk
import Derived.Test.YtcnbephpadmboaaGreatDoorUMem
set_option linter.unusedVariables false
set_option linter.unusedSimpArgs false
namespace Go.Proofs.YtcnbephpadmboaaGreatDoor
open Go.RowKit

theorem info_bool : (Tryz.prog.info? 4).map (fun i => (i.zero, i.size, i.bytes)) = some (some (.bool false), 1, 1) := by kernel_rfl
theorem made_bools (n : Nat) : ∀ (j : Nat) (x : Bool), (List.replicate n false)[j]? = some x → (madeCells #[Value.bool false] n)[j]? = some (Value.bool x) := by
  intro j x h
  rw [List.getElem?_replicate] at h
  split at h
  · injection h with h
    subst h
    simp [madeCells, *, Nat.mod_one]
  · cases h
set_option maxHeartbeats 400000 in
theorem szBoolS_yes (A : Option Addr) (n c : Nat) (left : Int) (w : World) (hn : (n : Int) ≤ left) (hl : left ≤ 1048576) :
    Calls Tryz.prog 29 #[.slice A n c, .int .i64 left] w fun e w' => e = .returned (.int .i64 (left - n)) ∧ w = w' := by
  have h0 : ¬ left - (n : Int) < 0 := by omega
  go_enter Tryz.func29, Tryz.ntmps29
  go_wp2
  go_ret
  exact ⟨rfl, rfl⟩
set_option maxHeartbeats 400000 in
theorem szBoolS_no (A : Option Addr) (n c : Nat) (left : Int) (w : World) (hn : left < (n : Int)) (h0 : 0 ≤ left) (hm : n ≤ maxLen) :
    Calls Tryz.prog 29 #[.slice A n c, .int .i64 left] w fun e w' => e = .returned (.int .i64 (-1)) ∧ w = w' := by
  unfold maxLen at hm
  have h1 : left - (n : Int) < 0 := by omega
  go_enter Tryz.func29, Tryz.ntmps29
  go_wp2
  go_ret
  exact ⟨rfl, rfl⟩

set_option maxHeartbeats 400000 in
theorem szPacketS_yes (A : Option Addr) (n c : Nat) (left : Int) (w : World) (hn : (n : Int) ≤ left) (hl : left ≤ 1048576) :
    Calls Tryz.prog 28 #[.slice A n c, .int .i64 left] w fun e w' => e = .returned (.int .i64 (left - n)) ∧ w = w' := by
  have h0 : ¬ left - (n : Int) < 0 := by omega
  go_enter Tryz.func28, Tryz.ntmps28
  go_wp2
  go_ret
  exact ⟨rfl, rfl⟩
set_option maxHeartbeats 400000 in
theorem szPacketS_no (A : Option Addr) (n c : Nat) (left : Int) (w : World) (hn : left < (n : Int)) (h0 : 0 ≤ left) (hm : n ≤ maxLen) :
    Calls Tryz.prog 28 #[.slice A n c, .int .i64 left] w fun e w' => e = .returned (.int .i64 (-1)) ∧ w = w' := by
  unfold maxLen at hm
  have h1 : left - (n : Int) < 0 := by omega
  go_enter Tryz.func28, Tryz.ntmps28
  go_wp2
  go_ret
  exact ⟨rfl, rfl⟩

/-- The first k of a row of noughts are as xs. -/
def filledB (xs : List Bool) (k : Nat) : List Bool := xs.take k ++ List.replicate (xs.length - k) false
theorem filledB_zero (xs : List Bool) : filledB xs 0 = List.replicate xs.length false := by simp [filledB]
theorem filledB_all (xs : List Bool) (k : Nat) (h : k = xs.length) : filledB xs k = xs := by subst h; simp [filledB]
theorem filledB_step (xs : List Bool) (k : Nat) (h : k < xs.length) : (filledB xs k).set k (xs.getD k false) = filledB xs (k + 1) := by
  unfold filledB
  apply List.ext_getElem?
  intro j
  rw [List.getElem?_set]
  by_cases hj : k = j
  · subst hj
    rw [if_pos rfl, if_pos (by simp; omega), List.getElem?_append_left (by simp; omega), List.getElem?_take_of_lt (by omega), List.getD_eq_getElem?_getD, List.getElem?_eq_getElem h]
    rfl
  · rw [if_neg hj]
    by_cases hlt : j < k
    · rw [List.getElem?_append_left (by simp; omega), List.getElem?_append_left (by simp; omega), List.getElem?_take_of_lt hlt, List.getElem?_take_of_lt (by omega)]
    · rw [List.getElem?_append_right (by simp; omega), List.getElem?_append_right (by simp; omega)]
      simp only [List.length_take, List.getElem?_replicate]
      have e1 : min k xs.length = k := by omega
      have e2 : min (k + 1) xs.length = k + 1 := by omega
      rw [e1, e2]
      by_cases hx : j < xs.length
      · rw [if_pos (by omega), if_pos (by omega)]
      · rw [if_neg (by omega), if_neg (by omega)]

def RetBRow (w : World) (xs : List Bool) (e : Ending) (w' : World) : Prop :=
  ∃ A, e = .returned (.slice A xs.length xs.length) ∧ BRow w' w.heap.size A xs.length xs ∧ Keeps noBlk w w'

set_option maxHeartbeats 400000 in
theorem toBoolS_any (A : Option Addr) (n c : Nat) (xs : List Bool) (w : World) (ha : Bools w A n xs) (hn : n ≤ 1048576) :
    Calls Tryz.prog 39 #[.slice A n c] w (RetBRow w xs) := by
  obtain rfl : xs.length = n := ha.1
  have hmk := run_make_row' (P := Tryz.prog) 26 4 (.bool false) 1 Tryz.underlying26 info_bool rfl .i64 .i64 xs.length (by omega) (by omega)
  have HA := Lib.hid ha
  clear ha
  go_enter Tryz.func39, Tryz.ntmps39
  go_wp2
  go_loopw [4] (fun i wr => ∃ k : Nat, k ≤ xs.length ∧ i = .int .i64 k ∧ BRow wr w.heap.size (some ⟨w.heap.size, 0, none⟩) xs.length (filledB xs k) ∧ Keeps noBlk w wr) (fun i _ => xs.length - (intOf i).toNat)
  case atStart => exact ⟨0, Nat.zero_le _, rfl, BRow.made' _ _ _ rfl (Nat.le_refl _) _ _ _ _ (by simp [filledB]) (by rw [filledB_zero]; exact made_bools _), (Keeps.refl _ _).alloc _⟩
  case round =>
    obtain ⟨k, hk, rfl, hr, hkp⟩ := hrel
    by_cases hlt : k < xs.length
    · obtain ⟨b1, o1, e1, _, _, hc1, hf1⟩ := hr.at_ hlt
      injection e1 with e1
      injection e1 with e1 e2
      subst e1
      subst e2
      obtain ⟨b2, o2, rfl, _, hc2⟩ := (HA.out.keeps hkp fun _ _ h => h).at_ hlt
      have Hr := Lib.hid hr
      have Hkp := Lib.hid hkp
      clear hr hkp
      rw [Nat.zero_add] at hc1 hf1
      have hst := Lib.hid (filledB_step xs k hlt)
      generalize xs.getD k false = y at hc2 hst
      go_wp2
      go_roundw
      case rel => exact ⟨k + 1, by omega, by go_num, by rw [← hst.out]; simpa using Hr.out.set_ hlt y, Hkp.out.setCell (.inl (Nat.le_refl _)) _⟩
      case measure => simp [intOf]; omega
    · obtain he : k = xs.length := by omega
      have Hr : Hid (BRow wr w.heap.size (some ⟨w.heap.size, 0, none⟩) xs.length xs) := by
        have := hr
        rw [filledB_all xs k he] at this
        exact this
      clear he
      go_wp2
      go_ret
      exact ⟨_, rfl, Hr.out, hkp⟩


/-! packets -/
theorem info_pk : (Tryz.prog.info? 47).map (fun i => (i.zero, i.size, i.bytes)) = some (some (.agg #[.int .i64 0, .int .i64 0, .int .i64 0, .int .i64 0, .int .i64 0, .int .i64 0, .int .i64 0]), 7, 56) := by kernel_rfl
def zpk : Array Value := #[.int .i64 0, .int .i64 0, .int .i64 0, .int .i64 0, .int .i64 0, .int .i64 0, .int .i64 0]
theorem run_make_pks (n : Nat) (hn : n ≤ 1048576) (w : World) :
    (Instr.makeSlice 37 (.int .i64 (n : Int)) (.int .i64 (n : Int))).run Tryz.prog w = .ok (.slice (some ⟨w.heap.size, 0, none⟩) n n) (w.alloc (.cells (madeCells zpk (n * 7)) 47)) := by
  obtain ⟨i, hi, hzz⟩ := Option.map_eq_some_iff.1 info_pk
  simp only [Prod.mk.injEq] at hzz
  obtain ⟨hz, hs, hb⟩ := hzz
  have hr := run_make (P := Tryz.prog) w 37 47 i _ Tryz.underlying37 hi hz .i64 .i64 n n (by omega) (Int.le_refl _) (by rw [hb]; omega) (by omega)
  simp only [Int.toNat_natCast, hs] at hr
  exact hr
theorem made_pk (n j : Nat) (hj : j < n) (i : Nat) (c : Value) (hc : pk0.cs[i]? = some c) : (madeCells zpk (n * 7))[j * 7 + i]? = some c := by
  have hi : i < 7 := (List.getElem?_eq_some_iff.1 hc).1
  have hm : (j * 7 + i) % 7 = i := by omega
  have hlt : j * 7 + i < n * 7 := by omega
  simp only [madeCells, zpk]
  have hr : (Array.range (n * 7))[j * 7 + i]? = some (j * 7 + i) := by simp [hlt]
  rw [Array.getElem?_map, hr]
  simp only [Option.map_some]
  have : (#[Value.int .i64 0, .int .i64 0, .int .i64 0, .int .i64 0, .int .i64 0, .int .i64 0, .int .i64 0] : Array Value).size = 7 := rfl
  rw [this, hm]
  match i, hi, hc with
  | 0, _, hc => exact hc
  | 1, _, hc => exact hc
  | 2, _, hc => exact hc
  | 3, _, hc => exact hc
  | 4, _, hc => exact hc
  | 5, _, hc => exact hc
  | 6, _, hc => exact hc
def filledP (ps : List Pk) (k : Nat) : List Pk := ps.take k ++ List.replicate (ps.length - k) pk0
theorem filledP_zero (xs : List Pk) : filledP xs 0 = List.replicate xs.length pk0 := by simp [filledP]
theorem filledP_all (xs : List Pk) (k : Nat) (h : k = xs.length) : filledP xs k = xs := by subst h; simp [filledP]
theorem filledP_step (xs : List Pk) (k : Nat) (h : k < xs.length) : (filledP xs k).set k (xs.getD k pk0) = filledP xs (k + 1) := by
  unfold filledP
  apply List.ext_getElem?
  intro j
  rw [List.getElem?_set]
  by_cases hj : k = j
  · subst hj
    rw [if_pos rfl, if_pos (by simp; omega), List.getElem?_append_left (by simp; omega), List.getElem?_take_of_lt (by omega), List.getD_eq_getElem?_getD, List.getElem?_eq_getElem h]
    rfl
  · rw [if_neg hj]
    by_cases hlt : j < k
    · rw [List.getElem?_append_left (by simp; omega), List.getElem?_append_left (by simp; omega), List.getElem?_take_of_lt hlt, List.getElem?_take_of_lt (by omega)]
    · rw [List.getElem?_append_right (by simp; omega), List.getElem?_append_right (by simp; omega)]
      simp only [List.length_take, List.getElem?_replicate]
      have e1 : min k xs.length = k := by omega
      have e2 : min (k + 1) xs.length = k + 1 := by omega
      rw [e1, e2]
      by_cases hx : j < xs.length
      · rw [if_pos (by omega), if_pos (by omega)]
      · rw [if_neg (by omega), if_neg (by omega)]
theorem PRow.made (w : World) (n : Nat) : PRow (w.alloc (.cells (madeCells zpk (n * 7)) 47)) w.heap.size (some ⟨w.heap.size, 0, none⟩) n (List.replicate n pk0) :=
  ⟨⟨by simp, fun _ => ⟨_, _, rfl, by simp, fun j p hp i c hc => by
      rw [List.getElem?_replicate] at hp
      split at hp
      · injection hp with hp
        subst hp
        rw [Nat.zero_add, World.cell?_alloc_new]
        exact made_pk n j (by assumption) i c hc
      · cases hp⟩⟩,
    fun _ => ⟨_, _, rfl, Nat.le_refl _, fun j _ => World.frozen?_alloc_new w _ _ _⟩⟩
/-- Seven stores, one packet. -/
def setPk (w : World) (b o : Nat) (p : Pk) : World :=
  ((((((w.setCell ⟨b, o, none⟩ (.int .i64 p.s)).setCell ⟨b, o + 1, none⟩ (.int .i64 p.k)).setCell ⟨b, o + 2, none⟩ (.int .i64 p.f)).setCell ⟨b, o + 3, none⟩ (.int .i64 p.t)).setCell ⟨b, o + 4, none⟩ (.int .i64 p.m)).setCell ⟨b, o + 5, none⟩ (.int .i64 p.u)).setCell ⟨b, o + 6, none⟩ (.int .i64 p.v)
theorem setPk_other (w : World) (b o : Nat) (p : Pk) (y : Nat) (hy : y < o ∨ o + 7 ≤ y) : (setPk w b o p).cell? ⟨b, y, none⟩ = w.cell? ⟨b, y, none⟩ := by
  have ne : ∀ j, j < 7 → (⟨b, o + j, none⟩ : Addr) ≠ ⟨b, y, none⟩ := fun j hj e => by injection e with _ e; omega
  have n0 : (⟨b, o, none⟩ : Addr) ≠ ⟨b, y, none⟩ := fun e => by injection e with _ e; omega
  unfold setPk
  rw [World.cell?_setCell_other _ _ _ _ (ne 6 (by omega)), World.cell?_setCell_other _ _ _ _ (ne 5 (by omega)), World.cell?_setCell_other _ _ _ _ (ne 4 (by omega)), World.cell?_setCell_other _ _ _ _ (ne 3 (by omega)), World.cell?_setCell_other _ _ _ _ (ne 2 (by omega)), World.cell?_setCell_other _ _ _ _ (ne 1 (by omega)), World.cell?_setCell_other _ _ _ _ n0]
theorem setPk_same (w : World) (b o : Nat) (p : Pk) (h : ∀ i, i < 7 → ∃ v, w.cell? ⟨b, o + i, none⟩ = some v) (i : Nat) (c : Value) (hc : p.cs[i]? = some c) : (setPk w b o p).cell? ⟨b, o + i, none⟩ = some c := by
  have hi : i < 7 := (List.getElem?_eq_some_iff.1 hc).1
  have ne : ∀ j k, j ≠ k → (⟨b, o + k, none⟩ : Addr) ≠ ⟨b, o + j, none⟩ := fun j k hj e => by injection e with _ e; omega
  have n0 : ∀ j, j ≠ 0 → (⟨b, o, none⟩ : Addr) ≠ ⟨b, o + j, none⟩ := fun j hj e => by injection e with _ e; omega
  obtain ⟨v, hv⟩ := h i hi
  unfold setPk
  obtain rfl | rfl | rfl | rfl | rfl | rfl | rfl : i = 0 ∨ i = 1 ∨ i = 2 ∨ i = 3 ∨ i = 4 ∨ i = 5 ∨ i = 6 := by omega
  · obtain rfl : _ = c := Option.some.inj hc
    rw [World.cell?_setCell_other _ _ _ _ (ne 0 6 (by omega)), World.cell?_setCell_other _ _ _ _ (ne 0 5 (by omega)), World.cell?_setCell_other _ _ _ _ (ne 0 4 (by omega)), World.cell?_setCell_other _ _ _ _ (ne 0 3 (by omega)), World.cell?_setCell_other _ _ _ _ (ne 0 2 (by omega)), World.cell?_setCell_other _ _ _ _ (ne 0 1 (by omega))]
    exact World.cell?_setCell_same _ _ _ hv
  · obtain rfl : _ = c := Option.some.inj hc
    rw [World.cell?_setCell_other _ _ _ _ (ne 1 6 (by omega)), World.cell?_setCell_other _ _ _ _ (ne 1 5 (by omega)), World.cell?_setCell_other _ _ _ _ (ne 1 4 (by omega)), World.cell?_setCell_other _ _ _ _ (ne 1 3 (by omega)), World.cell?_setCell_other _ _ _ _ (ne 1 2 (by omega))]
    exact World.cell?_setCell_same _ _ _ ((World.cell?_setCell_other _ _ _ _ (n0 1 (by omega))).trans hv)
  · obtain rfl : _ = c := Option.some.inj hc
    rw [World.cell?_setCell_other _ _ _ _ (ne 2 6 (by omega)), World.cell?_setCell_other _ _ _ _ (ne 2 5 (by omega)), World.cell?_setCell_other _ _ _ _ (ne 2 4 (by omega)), World.cell?_setCell_other _ _ _ _ (ne 2 3 (by omega))]
    exact World.cell?_setCell_same _ _ _ ((World.cell?_setCell_other _ _ _ _ (ne 2 1 (by omega))).trans ((World.cell?_setCell_other _ _ _ _ (n0 2 (by omega))).trans hv))
  · obtain rfl : _ = c := Option.some.inj hc
    rw [World.cell?_setCell_other _ _ _ _ (ne 3 6 (by omega)), World.cell?_setCell_other _ _ _ _ (ne 3 5 (by omega)), World.cell?_setCell_other _ _ _ _ (ne 3 4 (by omega))]
    exact World.cell?_setCell_same _ _ _ ((World.cell?_setCell_other _ _ _ _ (ne 3 2 (by omega))).trans ((World.cell?_setCell_other _ _ _ _ (ne 3 1 (by omega))).trans ((World.cell?_setCell_other _ _ _ _ (n0 3 (by omega))).trans hv)))
  · obtain rfl : _ = c := Option.some.inj hc
    rw [World.cell?_setCell_other _ _ _ _ (ne 4 6 (by omega)), World.cell?_setCell_other _ _ _ _ (ne 4 5 (by omega))]
    exact World.cell?_setCell_same _ _ _ ((World.cell?_setCell_other _ _ _ _ (ne 4 3 (by omega))).trans ((World.cell?_setCell_other _ _ _ _ (ne 4 2 (by omega))).trans ((World.cell?_setCell_other _ _ _ _ (ne 4 1 (by omega))).trans ((World.cell?_setCell_other _ _ _ _ (n0 4 (by omega))).trans hv))))
  · obtain rfl : _ = c := Option.some.inj hc
    rw [World.cell?_setCell_other _ _ _ _ (ne 5 6 (by omega))]
    exact World.cell?_setCell_same _ _ _ ((World.cell?_setCell_other _ _ _ _ (ne 5 4 (by omega))).trans ((World.cell?_setCell_other _ _ _ _ (ne 5 3 (by omega))).trans ((World.cell?_setCell_other _ _ _ _ (ne 5 2 (by omega))).trans ((World.cell?_setCell_other _ _ _ _ (ne 5 1 (by omega))).trans ((World.cell?_setCell_other _ _ _ _ (n0 5 (by omega))).trans hv)))))
  · obtain rfl : _ = c := Option.some.inj hc
    exact World.cell?_setCell_same _ _ _ ((World.cell?_setCell_other _ _ _ _ (ne 6 5 (by omega))).trans ((World.cell?_setCell_other _ _ _ _ (ne 6 4 (by omega))).trans ((World.cell?_setCell_other _ _ _ _ (ne 6 3 (by omega))).trans ((World.cell?_setCell_other _ _ _ _ (ne 6 2 (by omega))).trans ((World.cell?_setCell_other _ _ _ _ (ne 6 1 (by omega))).trans ((World.cell?_setCell_other _ _ _ _ (n0 6 (by omega))).trans hv))))))
theorem setPk_size (w : World) (b o : Nat) (p : Pk) : (setPk w b o p).heap.size = w.heap.size := by simp [setPk, World.setCell]
theorem setPk_frozen (w : World) (b o : Nat) (p : Pk) (a : Addr) : (setPk w b o p).frozen? a = w.frozen? a := by simp only [setPk, World.frozen?_setCell]
theorem Keeps.setPk {S : Nat → Prop} {a w : World} (h : Keeps S a w) {b : Nat} (hb : a.heap.size ≤ b ∨ S b) (o : Nat) (p : Pk) : Keeps S a (setPk w b o p) :=
  ((((((h.setCell (p := ⟨b, o, none⟩) hb _).setCell (p := ⟨b, o + 1, none⟩) hb _).setCell (p := ⟨b, o + 2, none⟩) hb _).setCell (p := ⟨b, o + 3, none⟩) hb _).setCell (p := ⟨b, o + 4, none⟩) hb _).setCell (p := ⟨b, o + 5, none⟩) hb _).setCell (p := ⟨b, o + 6, none⟩) hb _
theorem PRow.set_ {w : World} {lo b off n k : Nat} {ps : List Pk} (h : PRow w lo (some ⟨b, off, none⟩) n ps) (hk : k < n) (p : Pk) :
    PRow (setPk w b (off + k * 7) p) lo (some ⟨b, off, none⟩) n (ps.set k p) := by
  obtain ⟨⟨hl, h2⟩, h3⟩ := h
  refine ⟨⟨by simpa using hl, fun hn => ?_⟩, fun hn => ?_⟩
  · obtain ⟨b', off', e', hb, hc⟩ := h2 hn
    injection e' with e'
    injection e' with e1 e2
    subst e1
    subst e2
    refine ⟨b, off, rfl, by rw [setPk_size]; exact hb, fun j q hq i c hi => ?_⟩
    have hi7 : i < 7 := (List.getElem?_eq_some_iff.1 hi).1
    have hjl : j < ps.length := by
      have := (List.getElem?_eq_some_iff.1 hq).1
      simpa using this
    by_cases hjk : j = k
    · subst hjk
      have hq' : (ps.set j p)[j]? = some p := List.getElem?_set_self (by omega)
      have hpq : p = q := Option.some.inj (hq'.symm.trans hq)
      clear hq hq'
      subst hpq
      have := setPk_same w b (off + j * 7) p (fun i' hi' => by
        have hl' : i' < (ps[j]).cs.length := hi'
        obtain ⟨c', hc'⟩ : ∃ c', (ps[j]).cs[i']? = some c' := ⟨_, List.getElem?_eq_getElem hl'⟩
        exact ⟨c', by have := hc j _ (List.getElem?_eq_getElem hjl) i' c' hc'; rwa [← Nat.add_assoc] at this⟩) i c hi
      rwa [← Nat.add_assoc]
    · rw [List.getElem?_set_ne (by omega)] at hq
      rw [setPk_other _ _ _ _ _ (by rcases Nat.lt_or_gt_of_ne hjk with h | h <;> omega)]
      exact hc j q hq i c hi
  · obtain ⟨b', off', e', hb, hf⟩ := h3 hn
    exact ⟨b', off', e', hb, fun j hj => by rw [setPk_frozen]; exact hf j hj⟩

def RetPRow (w : World) (xs : List Pk) (e : Ending) (w' : World) : Prop :=
  ∃ A, e = .returned (.slice A xs.length xs.length) ∧ PRow w' w.heap.size A xs.length xs ∧ Keeps noBlk w w'

set_option maxHeartbeats 1000000 in
theorem toPacketS_any (A : Option Addr) (n c : Nat) (ps : List Pk) (w : World) (ha : Pks w A n ps) (hn : n ≤ 1048576) :
    Calls Tryz.prog 38 #[.slice A n c] w (RetPRow w ps) := by
  obtain rfl : ps.length = n := ha.1
  have hmk := run_make_pks ps.length hn
  have HA := Lib.hid ha
  clear ha
  go_enter Tryz.func38, Tryz.ntmps38
  go_wp2
  go_loopw [4] (fun i wr => ∃ k : Nat, k ≤ ps.length ∧ i = .int .i64 k ∧ PRow wr w.heap.size (some ⟨w.heap.size, 0, none⟩) ps.length (filledP ps k) ∧ Keeps noBlk w wr) (fun i _ => ps.length - (intOf i).toNat)
  case atStart => exact ⟨0, Nat.zero_le _, rfl, by rw [filledP_zero]; exact PRow.made w ps.length, (Keeps.refl _ _).alloc _⟩
  case round =>
    obtain ⟨k, hk, rfl, hr, hkp⟩ := hrel
    by_cases hlt : k < ps.length
    · obtain ⟨b2, o2, rfl, _, q0, q1, q2, q3, q4, q5, q6⟩ := (HA.out.keeps hkp fun _ _ h => h).at_ hlt
      have Hr := Lib.hid hr
      have Hkp := Lib.hid hkp
      clear hr hkp
      have hst := Lib.hid (filledP_step ps k hlt)
      generalize ps.getD k pk0 = p at q0 q1 q2 q3 q4 q5 q6 hst
      obtain ⟨s, kd, f, t, m, u, v⟩ := p
      dsimp only at q0 q1 q2 q3 q4 q5 q6
      go_wp2_with fail
      refine (toPk_any s kd f t m u v _).mono ?_
      rintro e w1 ⟨rfl, hk1⟩
      have hr1 := Hr.out.keeps hk1 (fun _ _ h => h)
      obtain ⟨b1, o1, e1, _, z0, z1, z2, z3, z4, z5, z6⟩ := hr1.1.at_ hlt
      obtain ⟨b1', o1', e1', _, hf⟩ := hr1.2 (by omega)
      injection e1 with e1
      injection e1 with e1 e2
      subst e1
      subst e2
      injection e1' with e1'
      injection e1' with e1' e2'
      subst e1'
      subst e2'
      have f0 := hf (k * 7) (by omega)
      have f1 := hf (k * 7 + 1) (by omega)
      have f2 := hf (k * 7 + 2) (by omega)
      have f3 := hf (k * 7 + 3) (by omega)
      have f4 := hf (k * 7 + 4) (by omega)
      have f5 := hf (k * 7 + 5) (by omega)
      have f6 := hf (k * 7 + 6) (by omega)
      rw [Nat.zero_add] at z0 z1 z2 z3 z4 z5 z6
      simp only [Nat.zero_add] at f0 f1 f2 f3 f4 f5 f6
      clear hf
      have Hr1 := Lib.hid hr1
      have Hk1 := Lib.hid (Hkp.out.trans hk1)
      clear hr1 hk1
      go_wp2
      refine ⟨⟨k + 1, by omega, by go_num, ?_, ?_⟩, by simp [intOf]; omega⟩
      · rw [← hst.out]
        have := Hr1.out.set_ hlt ⟨s, kd, f, t, m, u, v⟩
        rw [Nat.zero_add] at this
        exact this
      · exact Hk1.out.setPk (.inl (Nat.le_refl _)) (k * 7) ⟨s, kd, f, t, m, u, v⟩
    · obtain he : k = ps.length := by omega
      have Hr : Hid (PRow wr w.heap.size (some ⟨w.heap.size, 0, none⟩) ps.length ps) := by
        have := hr
        rw [filledP_all ps k he] at this
        exact this
      clear he
      go_wp2
      go_ret
      exact ⟨_, rfl, Hr.out, hkp⟩

set_option maxHeartbeats 400000 in
theorem szState_yes (way ver want : Int) (A1 A2 A3 A4 : Option Addr) (n1 n2 n3 n4 c1 c2 c3 c4 : Nat) (left : Int) (w : World) (hn : (n1 : Int) + n2 + n3 + n4 ≤ left) (hl : left ≤ 1048576) :
    Calls Tryz.prog 8 #[.agg #[.int .i64 way, .int .i64 ver, .int .i64 want, .slice A1 n1 c1, .slice A2 n2 c2, .slice A3 n3 c3, .slice A4 n4 c4], .int .i64 left] w fun e w' => e = .returned (.int .i64 (left - n1 - n2 - n3 - n4)) ∧ Keeps noBlk w w' := by
  have h1 : ¬ left - (n1 : Int) < 0 := by omega
  have h2 : ¬ left - (n1 : Int) - (n2 : Int) < 0 := by omega
  have h3 : ¬ left - (n1 : Int) - (n2 : Int) - (n3 : Int) < 0 := by omega
  have h4 : ¬ left - (n1 : Int) - (n2 : Int) - (n3 : Int) - (n4 : Int) < 0 := by omega
  go_enter Tryz.func8, Tryz.ntmps8
  go_wp2_with fail
  refine (szPacketS_yes A1 n1 _ _ _ (by omega) (by omega)).mono ?_
  rintro e w' ⟨rfl, rfl⟩
  go_wp2_with fail
  refine (szBoolS_yes A2 n2 _ _ _ (by omega) (by omega)).mono ?_
  rintro e w' ⟨rfl, rfl⟩
  go_wp2_with fail
  refine (szBoolS_yes A3 n3 _ _ _ (by omega) (by omega)).mono ?_
  rintro e w' ⟨rfl, rfl⟩
  go_wp2_with fail
  refine (szIntS_yes A4 n4 _ _ _ (by omega) (by omega)).mono ?_
  rintro e w' ⟨rfl, rfl⟩
  go_wp2
  go_ret
  exact ⟨rfl, (Keeps.refl _ _).alloc _⟩

set_option maxHeartbeats 400000 in
theorem szState_no (way ver want : Int) (A1 A2 A3 A4 : Option Addr) (n1 n2 n3 n4 c1 c2 c3 c4 : Nat) (left : Int) (w : World) (hn : left < (n1 : Int) + n2 + n3 + n4) (hp : 0 ≤ left) (hl : left ≤ 1048576) (m1 : n1 ≤ maxLen) (m2 : n2 ≤ maxLen) (m3 : n3 ≤ maxLen) (m4 : n4 ≤ maxLen) :
    Calls Tryz.prog 8 #[.agg #[.int .i64 way, .int .i64 ver, .int .i64 want, .slice A1 n1 c1, .slice A2 n2 c2, .slice A3 n3 c3, .slice A4 n4 c4], .int .i64 left] w fun e w' => e = .returned (.int .i64 (-1)) ∧ Keeps noBlk w w' := by
  by_cases k1 : left < n1
  · go_enter Tryz.func8, Tryz.ntmps8
    go_wp2_with fail
    refine (szPacketS_no A1 n1 _ _ _ (by omega) (by omega) m1).mono ?_
    rintro e w' ⟨rfl, rfl⟩
    go_wp2
    go_ret
    exact ⟨rfl, (Keeps.refl _ _).alloc _⟩
  · have g1 : ¬ left - (n1 : Int) < 0 := by omega
    by_cases k2 : left - (n1 : Int) < n2
    · go_enter Tryz.func8, Tryz.ntmps8
      go_wp2_with fail
      refine (szPacketS_yes A1 n1 _ _ _ (by omega) (by omega)).mono ?_
      rintro e w' ⟨rfl, rfl⟩
      go_wp2_with fail
      refine (szBoolS_no A2 n2 _ _ _ (by omega) (by omega) m2).mono ?_
      rintro e w' ⟨rfl, rfl⟩
      go_wp2
      go_ret
      exact ⟨rfl, (Keeps.refl _ _).alloc _⟩
    · have g2 : ¬ left - (n1 : Int) - (n2 : Int) < 0 := by omega
      by_cases k3 : left - (n1 : Int) - (n2 : Int) < n3
      · go_enter Tryz.func8, Tryz.ntmps8
        go_wp2_with fail
        refine (szPacketS_yes A1 n1 _ _ _ (by omega) (by omega)).mono ?_
        rintro e w' ⟨rfl, rfl⟩
        go_wp2_with fail
        refine (szBoolS_yes A2 n2 _ _ _ (by omega) (by omega)).mono ?_
        rintro e w' ⟨rfl, rfl⟩
        go_wp2_with fail
        refine (szBoolS_no A3 n3 _ _ _ (by omega) (by omega) m3).mono ?_
        rintro e w' ⟨rfl, rfl⟩
        go_wp2
        go_ret
        exact ⟨rfl, (Keeps.refl _ _).alloc _⟩
      · have g3 : ¬ left - (n1 : Int) - (n2 : Int) - (n3 : Int) < 0 := by omega
        go_enter Tryz.func8, Tryz.ntmps8
        go_wp2_with fail
        refine (szPacketS_yes A1 n1 _ _ _ (by omega) (by omega)).mono ?_
        rintro e w' ⟨rfl, rfl⟩
        go_wp2_with fail
        refine (szBoolS_yes A2 n2 _ _ _ (by omega) (by omega)).mono ?_
        rintro e w' ⟨rfl, rfl⟩
        go_wp2_with fail
        refine (szBoolS_yes A3 n3 _ _ _ (by omega) (by omega)).mono ?_
        rintro e w' ⟨rfl, rfl⟩
        go_wp2_with fail
        refine (szIntS_no A4 n4 _ _ _ (by omega) (by omega) m4).mono ?_
        rintro e w' ⟨rfl, rfl⟩
        go_wp2
        go_ret
        exact ⟨rfl, (Keeps.refl _ _).alloc _⟩

/-- A state in memory of the call's own: four rows, one behind the other. -/
def StOwn (w : World) (lo : Nat) (x : StL) (A1 A2 A3 A4 : Option Addr) : Prop :=
  ∃ s1 s2 s3, (PRow w lo A1 x.sent.length x.sent ∧ BRow w s1 A2 x.live.length x.live ∧ BRow w s2 A3 x.back.length x.back ∧ Row w s3 A4 x.got.length x.got) ∧
    (∀ i, blk A1 x.sent.length i → i < s1) ∧ (∀ i, blk A2 x.live.length i → i < s2) ∧ (∀ i, blk A3 x.back.length i → i < s3) ∧ lo ≤ s1 ∧ s1 ≤ s2 ∧ s2 ≤ s3
theorem StOwn.kept {w w' : World} {lo : Nat} {x : StL} {A1 A2 A3 A4 : Option Addr} (h : StOwn w lo x A1 A2 A3 A4) (hk : Keeps noBlk w w') : StOwn w' lo x A1 A2 A3 A4 := by
  obtain ⟨s1, s2, s3, ⟨h1, h2, h3, h4⟩, r⟩ := h
  exact ⟨s1, s2, s3, ⟨h1.keeps hk fun _ _ h => h, h2.keeps hk fun _ _ h => h, h3.keeps hk fun _ _ h => h, h4.keeps hk fun _ _ h => h⟩, r⟩
theorem StOwn.at_ {w : World} {lo : Nat} {x : StL} {A1 A2 A3 A4 : Option Addr} (h : StOwn w lo x A1 A2 A3 A4) (m1 : x.sent.length ≤ maxLen) (m2 : x.live.length ≤ maxLen) (m3 : x.back.length ≤ maxLen) (m4 : x.got.length ≤ maxLen) : StAt w x A1 A2 A3 A4 := by
  obtain ⟨s1, s2, s3, ⟨h1, h2, h3, h4⟩, r⟩ := h
  exact ⟨⟨h1.1, h2.1, h3.1, h4.1⟩, m1, m2, m3, m4⟩
def RetSt (w : World) (x : StL) (e : Ending) (w' : World) : Prop :=
  ∃ A1 A2 A3 A4, e = .returned (stV x A1 A2 A3 A4 x.sent.length x.live.length x.back.length x.got.length) ∧ StOwn w' w.heap.size x A1 A2 A3 A4 ∧ Keeps noBlk w w'

set_option maxHeartbeats 2000000 in
theorem toState_any (x : StL) (A1 A2 A3 A4 : Option Addr) (c1 c2 c3 c4 : Nat) (w : World) (hx : StAt w x A1 A2 A3 A4) (n1 : x.sent.length ≤ 1048576) (n2 : x.live.length ≤ 1048576) (n3 : x.back.length ≤ 1048576) (n4 : x.got.length ≤ 1048576) :
    Calls Tryz.prog 11 #[stV x A1 A2 A3 A4 c1 c2 c3 c4] w (RetSt w x) := by
  have HX := Lib.hid hx
  clear hx
  have HA := Lib.hid (((Box.new w _ rfl 28 #[.int .i64 x.way, .int .i64 x.ver, .int .i64 x.want, .slice A1 x.sent.length c1, .slice A2 x.live.length c2, .slice A3 x.back.length c3, .slice A4 x.got.length c4]).alloc (.cells #[.int .i64 0, .int .i64 0, .int .i64 0, .slice none 0 0, .slice none 0 0, .slice none 0 0, .slice none 0 0] 39)).alloc (.cells #[.int .i64 x.way, .int .i64 x.ver, .int .i64 x.want, .slice none 0 0, .slice none 0 0, .slice none 0 0, .slice none 0 0] 39))
  have HR := Lib.hid ((Box.new (w.alloc (.cells #[.int .i64 x.way, .int .i64 x.ver, .int .i64 x.want, .slice A1 x.sent.length c1, .slice A2 x.live.length c2, .slice A3 x.back.length c3, .slice A4 x.got.length c4] 28)) (w.heap.size + 1) (by simp) 39 #[.int .i64 0, .int .i64 0, .int .i64 0, .slice none 0 0, .slice none 0 0, .slice none 0 0, .slice none 0 0]).alloc (.cells #[.int .i64 x.way, .int .i64 x.ver, .int .i64 x.want, .slice none 0 0, .slice none 0 0, .slice none 0 0, .slice none 0 0] 39))
  have HBO := Lib.hid (Box.new ((w.alloc (.cells #[.int .i64 x.way, .int .i64 x.ver, .int .i64 x.want, .slice A1 x.sent.length c1, .slice A2 x.live.length c2, .slice A3 x.back.length c3, .slice A4 x.got.length c4] 28)).alloc (.cells #[.int .i64 0, .int .i64 0, .int .i64 0, .slice none 0 0, .slice none 0 0, .slice none 0 0, .slice none 0 0] 39)) (w.heap.size + 1 + 1) (by simp) 39 #[.int .i64 x.way, .int .i64 x.ver, .int .i64 x.want, .slice none 0 0, .slice none 0 0, .slice none 0 0, .slice none 0 0])
  have HK0 := Lib.hid ((((Keeps.refl noBlk w).alloc (.cells #[.int .i64 x.way, .int .i64 x.ver, .int .i64 x.want, .slice A1 x.sent.length c1, .slice A2 x.live.length c2, .slice A3 x.back.length c3, .slice A4 x.got.length c4] 28)).alloc (.cells #[.int .i64 0, .int .i64 0, .int .i64 0, .slice none 0 0, .slice none 0 0, .slice none 0 0, .slice none 0 0] 39)).alloc (.cells #[.int .i64 x.way, .int .i64 x.ver, .int .i64 x.want, .slice none 0 0, .slice none 0 0, .slice none 0 0, .slice none 0 0] 39))
  unfold stV
  go_enter Tryz.func11, Tryz.ntmps11
  go_wp2_with fail
  have hsz0 : w.heap.size + 2 < (((w.alloc (.cells #[.int .i64 x.way, .int .i64 x.ver, .int .i64 x.want, .slice A1 x.sent.length c1, .slice A2 x.live.length c2, .slice A3 x.back.length c3, .slice A4 x.got.length c4] 28)).alloc (.cells #[.int .i64 0, .int .i64 0, .int .i64 0, .slice none 0 0, .slice none 0 0, .slice none 0 0, .slice none 0 0] 39)).alloc (.cells #[.int .i64 x.way, .int .i64 x.ver, .int .i64 x.want, .slice none 0 0, .slice none 0 0, .slice none 0 0, .slice none 0 0] 39)).heap.size := by simp
  generalize (((w.alloc (.cells #[.int .i64 x.way, .int .i64 x.ver, .int .i64 x.want, .slice A1 x.sent.length c1, .slice A2 x.live.length c2, .slice A3 x.back.length c3, .slice A4 x.got.length c4] 28)).alloc (.cells #[.int .i64 0, .int .i64 0, .int .i64 0, .slice none 0 0, .slice none 0 0, .slice none 0 0, .slice none 0 0] 39)).alloc (.cells #[.int .i64 x.way, .int .i64 x.ver, .int .i64 x.want, .slice none 0 0, .slice none 0 0, .slice none 0 0, .slice none 0 0] 39)) = W0 at HA HR HBO HK0 hsz0
  refine (toPacketS_any A1 x.sent.length _ x.sent _ (HX.out.kept HK0.out).1.1 n1).mono ?_
  rintro e w1 ⟨B1, rfl, hr1, hk⟩
  have hzz : w.heap.size + 2 < w1.heap.size := Nat.lt_of_lt_of_le hsz0 hk.size
  have ha := HA.out.keeps hk fun h => h
  have hr := HR.out.keeps hk fun h => h
  have ho := HBO.out.keeps hk fun h => h
  clear HA HR HBO
  have HK1 := Lib.hid (HK0.out.trans hk)
  have hS1 := hk.size
  clear hk
  have hB1 : ∀ i, blk B1 x.sent.length i → i < w1.heap.size := fun i h => hr1.lt h
  have HR1 := Lib.hid hr1
  clear hr1
  have a0 := ha.cell 0
  have o0 := ho.cell 0
  have a1 := ha.cell 1
  have o1 := ho.cell 1
  have a2 := ha.cell 2
  have o2 := ho.cell 2
  have a3 := ha.cell 3
  have o3 := ho.cell 3
  have a4 := ha.cell 4
  have o4 := ho.cell 4
  have a5 := ha.cell 5
  have o5 := ho.cell 5
  have a6 := ha.cell 6
  have o6 := ho.cell 6
  have fo := ho.frozen 3
  simp at a0 a1 a2 a3 a4 a5 a6 o0 o1 o2 o3 o4 o5 o6
  have HA := Lib.hid (ha.far (p := ⟨w.heap.size + 1 + 1, 3, none⟩) (by dsimp only; omega) (.slice B1 x.sent.length x.sent.length))
  have HR := Lib.hid (hr.far (p := ⟨w.heap.size + 1 + 1, 3, none⟩) (by dsimp only; omega) (.slice B1 x.sent.length x.sent.length))
  have ho := ho.set_ 3 (.slice B1 x.sent.length x.sent.length)
  simp only [List.setIfInBounds_toArray, List.set_cons_zero, List.set_cons_succ] at ho
  have HBO := Lib.hid ho
  clear ha hr ho
  have HK2 := Lib.hid (HK1.out.new (g := w.heap.size + 1 + 1) (by omega) 3 (.slice B1 x.sent.length x.sent.length))
  have HR1 := Lib.hid (HR1.out.far (p := ⟨w.heap.size + 1 + 1, 3, none⟩) (fun h => by have := HR1.out.ge h; dsimp only at this; omega) (.slice B1 x.sent.length x.sent.length))
  go_wp2_with fail
  have hsz2 : w.heap.size + 2 < (w1.setCell ⟨w.heap.size + 1 + 1, 3, none⟩ (.slice B1 x.sent.length x.sent.length)).heap.size := by simpa [World.setCell] using hzz
  have hE1 : w1.heap.size = (w1.setCell ⟨w.heap.size + 1 + 1, 3, none⟩ (.slice B1 x.sent.length x.sent.length)).heap.size := by simp [World.setCell]
  clear hzz a0 a1 a2 a3 a4 a5 a6 o0 o1 o2 o3 o4 o5 o6 fo
  generalize (w1.setCell ⟨w.heap.size + 1 + 1, 3, none⟩ (.slice B1 x.sent.length x.sent.length)) = W1 at HA HR HBO HK2 hsz2 hE1 HR1
  refine (toBoolS_any A2 x.live.length _ x.live _ (HX.out.kept HK2.out).1.2.1 n2).mono ?_
  rintro e w2 ⟨B2, rfl, hr2, hk⟩
  have hzz : w.heap.size + 2 < w2.heap.size := Nat.lt_of_lt_of_le hsz2 hk.size
  have ha := HA.out.keeps hk fun h => h
  have hr := HR.out.keeps hk fun h => h
  have ho := HBO.out.keeps hk fun h => h
  clear HA HR HBO
  have HK3 := Lib.hid (HK2.out.trans hk)
  have HR1 := Lib.hid (HR1.out.keeps hk fun _ _ h => h)
  have hS2 := hk.size
  clear hk
  have hB2 : ∀ i, blk B2 x.live.length i → i < w2.heap.size := fun i h => hr2.lt h
  have HR2 := Lib.hid hr2
  clear hr2
  have a0 := ha.cell 0
  have o0 := ho.cell 0
  have a1 := ha.cell 1
  have o1 := ho.cell 1
  have a2 := ha.cell 2
  have o2 := ho.cell 2
  have a3 := ha.cell 3
  have o3 := ho.cell 3
  have a4 := ha.cell 4
  have o4 := ho.cell 4
  have a5 := ha.cell 5
  have o5 := ho.cell 5
  have a6 := ha.cell 6
  have o6 := ho.cell 6
  have fo := ho.frozen 4
  simp at a0 a1 a2 a3 a4 a5 a6 o0 o1 o2 o3 o4 o5 o6
  have HA := Lib.hid (ha.far (p := ⟨w.heap.size + 1 + 1, 4, none⟩) (by dsimp only; omega) (.slice B2 x.live.length x.live.length))
  have HR := Lib.hid (hr.far (p := ⟨w.heap.size + 1 + 1, 4, none⟩) (by dsimp only; omega) (.slice B2 x.live.length x.live.length))
  have ho := ho.set_ 4 (.slice B2 x.live.length x.live.length)
  simp only [List.setIfInBounds_toArray, List.set_cons_zero, List.set_cons_succ] at ho
  have HBO := Lib.hid ho
  clear ha hr ho
  have HK4 := Lib.hid (HK3.out.new (g := w.heap.size + 1 + 1) (by omega) 4 (.slice B2 x.live.length x.live.length))
  have HR1 := Lib.hid (HR1.out.far (p := ⟨w.heap.size + 1 + 1, 4, none⟩) (fun h => by have := HR1.out.ge h; dsimp only at this; omega) (.slice B2 x.live.length x.live.length))
  have HR2 := Lib.hid (HR2.out.far (p := ⟨w.heap.size + 1 + 1, 4, none⟩) (fun h => by have := HR2.out.ge h; dsimp only at this; omega) (.slice B2 x.live.length x.live.length))
  go_wp2_with fail
  have hsz4 : w.heap.size + 2 < (w2.setCell ⟨w.heap.size + 1 + 1, 4, none⟩ (.slice B2 x.live.length x.live.length)).heap.size := by simpa [World.setCell] using hzz
  have hE2 : w2.heap.size = (w2.setCell ⟨w.heap.size + 1 + 1, 4, none⟩ (.slice B2 x.live.length x.live.length)).heap.size := by simp [World.setCell]
  clear hzz a0 a1 a2 a3 a4 a5 a6 o0 o1 o2 o3 o4 o5 o6 fo
  generalize (w2.setCell ⟨w.heap.size + 1 + 1, 4, none⟩ (.slice B2 x.live.length x.live.length)) = W2 at HA HR HBO HK4 hsz4 hE2 HR1 HR2
  refine (toBoolS_any A3 x.back.length _ x.back _ (HX.out.kept HK4.out).1.2.2.1 n3).mono ?_
  rintro e w3 ⟨B3, rfl, hr3, hk⟩
  have hzz : w.heap.size + 2 < w3.heap.size := Nat.lt_of_lt_of_le hsz4 hk.size
  have ha := HA.out.keeps hk fun h => h
  have hr := HR.out.keeps hk fun h => h
  have ho := HBO.out.keeps hk fun h => h
  clear HA HR HBO
  have HK5 := Lib.hid (HK4.out.trans hk)
  have HR1 := Lib.hid (HR1.out.keeps hk fun _ _ h => h)
  have HR2 := Lib.hid (HR2.out.keeps hk fun _ _ h => h)
  have hS3 := hk.size
  clear hk
  have hB3 : ∀ i, blk B3 x.back.length i → i < w3.heap.size := fun i h => hr3.lt h
  have HR3 := Lib.hid hr3
  clear hr3
  have a0 := ha.cell 0
  have o0 := ho.cell 0
  have a1 := ha.cell 1
  have o1 := ho.cell 1
  have a2 := ha.cell 2
  have o2 := ho.cell 2
  have a3 := ha.cell 3
  have o3 := ho.cell 3
  have a4 := ha.cell 4
  have o4 := ho.cell 4
  have a5 := ha.cell 5
  have o5 := ho.cell 5
  have a6 := ha.cell 6
  have o6 := ho.cell 6
  have fo := ho.frozen 5
  simp at a0 a1 a2 a3 a4 a5 a6 o0 o1 o2 o3 o4 o5 o6
  have HA := Lib.hid (ha.far (p := ⟨w.heap.size + 1 + 1, 5, none⟩) (by dsimp only; omega) (.slice B3 x.back.length x.back.length))
  have HR := Lib.hid (hr.far (p := ⟨w.heap.size + 1 + 1, 5, none⟩) (by dsimp only; omega) (.slice B3 x.back.length x.back.length))
  have ho := ho.set_ 5 (.slice B3 x.back.length x.back.length)
  simp only [List.setIfInBounds_toArray, List.set_cons_zero, List.set_cons_succ] at ho
  have HBO := Lib.hid ho
  clear ha hr ho
  have HK6 := Lib.hid (HK5.out.new (g := w.heap.size + 1 + 1) (by omega) 5 (.slice B3 x.back.length x.back.length))
  have HR1 := Lib.hid (HR1.out.far (p := ⟨w.heap.size + 1 + 1, 5, none⟩) (fun h => by have := HR1.out.ge h; dsimp only at this; omega) (.slice B3 x.back.length x.back.length))
  have HR2 := Lib.hid (HR2.out.far (p := ⟨w.heap.size + 1 + 1, 5, none⟩) (fun h => by have := HR2.out.ge h; dsimp only at this; omega) (.slice B3 x.back.length x.back.length))
  have HR3 := Lib.hid (HR3.out.far (p := ⟨w.heap.size + 1 + 1, 5, none⟩) (fun h => by have := HR3.out.ge h; dsimp only at this; omega) (.slice B3 x.back.length x.back.length))
  go_wp2_with fail
  have hsz6 : w.heap.size + 2 < (w3.setCell ⟨w.heap.size + 1 + 1, 5, none⟩ (.slice B3 x.back.length x.back.length)).heap.size := by simpa [World.setCell] using hzz
  have hE3 : w3.heap.size = (w3.setCell ⟨w.heap.size + 1 + 1, 5, none⟩ (.slice B3 x.back.length x.back.length)).heap.size := by simp [World.setCell]
  clear hzz a0 a1 a2 a3 a4 a5 a6 o0 o1 o2 o3 o4 o5 o6 fo
  generalize (w3.setCell ⟨w.heap.size + 1 + 1, 5, none⟩ (.slice B3 x.back.length x.back.length)) = W3 at HA HR HBO HK6 hsz6 hE3 HR1 HR2 HR3
  refine (toIntS_any A4 x.got.length _ x.got _ (HX.out.kept HK6.out).1.2.2.2 n4).mono ?_
  rintro e w4 ⟨B4, rfl, hr4, hk⟩
  have hzz : w.heap.size + 2 < w4.heap.size := Nat.lt_of_lt_of_le hsz6 hk.size
  have ha := HA.out.keeps hk fun h => h
  have hr := HR.out.keeps hk fun h => h
  have ho := HBO.out.keeps hk fun h => h
  clear HA HR HBO
  have HK7 := Lib.hid (HK6.out.trans hk)
  have HR1 := Lib.hid (HR1.out.keeps hk fun _ _ h => h)
  have HR2 := Lib.hid (HR2.out.keeps hk fun _ _ h => h)
  have HR3 := Lib.hid (HR3.out.keeps hk fun _ _ h => h)
  have hS4 := hk.size
  clear hk
  have hB4 : ∀ i, blk B4 x.got.length i → i < w4.heap.size := fun i h => hr4.lt h
  have HR4 := Lib.hid hr4
  clear hr4
  have a0 := ha.cell 0
  have o0 := ho.cell 0
  have a1 := ha.cell 1
  have o1 := ho.cell 1
  have a2 := ha.cell 2
  have o2 := ho.cell 2
  have a3 := ha.cell 3
  have o3 := ho.cell 3
  have a4 := ha.cell 4
  have o4 := ho.cell 4
  have a5 := ha.cell 5
  have o5 := ho.cell 5
  have a6 := ha.cell 6
  have o6 := ho.cell 6
  have fo := ho.frozen 6
  have r0 := hr.cell 0
  have g0 := hr.frozen 0
  have r1 := hr.cell 1
  have g1 := hr.frozen 1
  have r2 := hr.cell 2
  have g2 := hr.frozen 2
  have r3 := hr.cell 3
  have g3 := hr.frozen 3
  have r4 := hr.cell 4
  have g4 := hr.frozen 4
  have r5 := hr.cell 5
  have g5 := hr.frozen 5
  have r6 := hr.cell 6
  have g6 := hr.frozen 6
  simp at a0 a1 a2 a3 a4 a5 a6 o0 o1 o2 o3 o4 o5 o6 r0 r1 r2 r3 r4 r5 r6
  clear ha hr ho
  go_wp2
  refine bodyPost_ret (v := stV x B1 B2 B3 B4 x.sent.length x.live.length x.back.length x.got.length) (by simp [results, Tryz.results11, go_sem, stV, r0, r1, r2, r3, r4, r5, r6]) rfl ?_
  have kS : Keeps (two (w.heap.size + 1) (w.heap.size + 1 + 1)) w4 ((((((((w4.setCell ⟨w.heap.size + 1 + 1, 6, none⟩ (.slice B4 x.got.length x.got.length)).setCell ⟨w.heap.size + 1, 0, none⟩ (.int .i64 x.way)).setCell ⟨w.heap.size + 1, 1, none⟩ (.int .i64 x.ver)).setCell ⟨w.heap.size + 1, 2, none⟩ (.int .i64 x.want)).setCell ⟨w.heap.size + 1, 3, none⟩ (.slice B1 x.sent.length x.sent.length)).setCell ⟨w.heap.size + 1, 4, none⟩ (.slice B2 x.live.length x.live.length)).setCell ⟨w.heap.size + 1, 5, none⟩ (.slice B3 x.back.length x.back.length)).setCell ⟨w.heap.size + 1, 6, none⟩ (.slice B4 x.got.length x.got.length)) :=
    ((((((((Keeps.refl _ w4).setB _ _).setA _ _).setA _ _).setA _ _).setA _ _).setA _ _).setA _ _).setA _ _
  refine ⟨B1, B2, B3, B4, rfl, ⟨w1.heap.size, w2.heap.size, w3.heap.size, ⟨?_, ?_, ?_, ?_⟩, hB1, hB2, hB3, by omega, by omega, by omega⟩, ?_⟩
  · exact (HR1.out.keeps kS fun b hb h => by have := HR1.out.ge hb; rcases h with h | h <;> omega).less (by omega)
  · exact (HR2.out.keeps kS fun b hb h => by have := HR2.out.ge hb; rcases h with h | h <;> omega).less (by omega)
  · exact (HR3.out.keeps kS fun b hb h => by have := HR3.out.ge hb; rcases h with h | h <;> omega).less (by omega)
  · exact (HR4.out.keeps kS fun b hb h => by have := HR4.out.ge hb; rcases h with h | h <;> omega).less (by omega)
  · exact HK7.out.then kS fun i hi h => by rcases h with h | h <;> omega
end Go.Proofs.YtcnbephpadmboaaGreatDoor
