/- The program's ledger: amountMap, amountList, hasUser, canTake. -/
import Derived.Test.YtedmkbiamjpdaabMap
import Derived.Test.YtedmkbiamjpdaabTo
set_option linter.unusedVariables false
set_option linter.unusedSimpArgs false
namespace Go.Proofs.Ytedmkbiamjpdaab
open Go.RowKit

theorem run_makeMap_n (kd : IntKind) (n : Int) (w : World) :
    (Instr.makeMap 41 (some (.int kd n))).run Try.prog w = .ok (.map (some w.heap.size)) (w.alloc (.map #[] 0)) := by
  simp [Instr.makeMap, run_underlying Try.underlying41 ]
  rfl

def RetMap (w : World) (xs : List Int) (e : Ending) (w' : World) : Prop := ∃ B, e = .returned (.map (some B)) ∧ w.heap.size ≤ B ∧ MapIs w' B xs.length xs ∧ Keeps noBlk w w'

theorem take_snoc (xs : List Int) (k : Nat) (h : k < xs.length) : xs.take (k + 1) = xs.take k ++ [xs.getD k 0] := by
  rw [List.take_succ_eq_append_getElem h]
  simp [List.getD_eq_getElem?_getD, List.getElem?_eq_getElem h]

set_option maxHeartbeats 400000 in
theorem amountMap_any (A : Option Addr) (n c : Nat) (xs : List Int) (w : World) (ha : Ints w A n xs) (hn : n ≤ 100) (hs : Small xs) :
    Calls Try.prog 33 #[.slice A n c] w (RetMap w xs) := by
  obtain rfl : xs.length = n := ha.1
  have HA := Lib.hid ha
  have HS := Lib.hid hs
  clear ha hs
  have hmm := run_makeMap_n
  go_enter Try.func33, Try.ntmps33
  go_wp2
  go_loopw [11] (fun i wr => ∃ k : Nat, k ≤ xs.length ∧ i = .int .i64 k ∧ MapIs wr w.heap.size k (xs.take k) ∧ Keeps noBlk w wr) (fun i _ => xs.length - (intOf i).toNat)
  case atStart => exact ⟨0, Nat.zero_le _, rfl, MapIs.new w _ rfl, (Keeps.refl _ _).alloc _⟩
  case round =>
    obtain ⟨k, hk, rfl, hm, hkp⟩ := hrel
    clear hmm
    by_cases hlt : k < xs.length
    · obtain ⟨b, off, rfl, hb, hc⟩ := (HA.out.keeps hkp fun _ _ h => h).at_ hlt
      have hg := HS.out.getD k
      have hst := Lib.hid (take_snoc xs k hlt)
      have hlen : (xs.take k).length = k := by simp; omega
      obtain ⟨w1, hrun, hm1, hk1⟩ := hm.add (k := (k : Int) + 1) (x := xs.getD k 0) (by omega) (by rw [hlen]) ⟨by omega, by omega⟩ (by omega)
      have HM1 := Lib.hid hm1
      have HK1 := Lib.hid hk1
      have HKP := Lib.hid hkp
      clear hm hm1 hk1 hkp hlen
      generalize xs.getD k 0 = y at *
      go_wp2
      go_roundw
      case rel => exact ⟨k + 1, by omega, by go_num, by rw [hst.out]; exact HM1.out, HKP.out.then HK1.out fun i hi h => by have h' : i = w.heap.size := h; omega⟩
      case measure => simp [intOf]; omega
    · have he : xs.take k = xs := List.take_of_length_le (by omega)
      obtain rfl : k = xs.length := by omega
      rw [he] at hm
      have HM := Lib.hid hm
      have HKP := Lib.hid hkp
      clear hm hkp he
      go_wp2
      go_ret
      exact ⟨_, rfl, Nat.le_refl _, HM.out, HKP.out⟩

set_option maxHeartbeats 400000 in
theorem amountList_any (B n : Nat) (xs : List Int) (w : World) (hm : MapIs w B n xs) (hn : xs.length ≤ 100) :
    Calls Try.prog 34 #[.map (some B)] w (RetRow w xs) := by
  have hmk := run_make_row' (P := Try.prog) 23 3 (.int .i64 0) 8 Try.underlying23 info_int rfl .i64 .i64 xs.length (by omega) (by omega)
  have hln := hm.len 3
  have HM := Lib.hid hm
  have hB := hm.lt
  clear hm
  go_enter Try.func34, Try.ntmps34
  go_wp2
  go_loopw [10] (fun i wr => ∃ k : Nat, k ≤ xs.length ∧ i = .int .i64 k ∧ Row wr w.heap.size (some ⟨w.heap.size, 0, none⟩) xs.length (filled xs k) ∧ Keeps noBlk w wr) (fun i _ => xs.length - (intOf i).toNat)
  case atStart => exact ⟨0, Nat.zero_le _, rfl, Row.made' _ _ _ rfl (Nat.le_refl _) _ _ _ _ (by simp [filled]) (by rw [filled_zero]; exact made_ints _), (Keeps.refl _ _).alloc _⟩
  case round =>
    clear hmk hln
    obtain ⟨k, hk, rfl, hr, hkp⟩ := hrel
    by_cases hlt : k < xs.length
    · obtain ⟨b1, o1, e1, _, _, hc1, hf1⟩ := hr.at_ hlt
      injection e1 with e1
      injection e1 with e1 e2
      subst e1
      subst e2
      have hlk := (HM.out.keeps hkp fun h => h).look (k := (k : Int) + 1) ⟨by omega, by omega⟩
      have hge : mget xs ((k : Int) + 1) = xs.getD k 0 := by
        unfold mget
        rw [if_pos (by omega)]
        congr 1
        omega
      rw [hge] at hlk
      have Hr := Lib.hid hr
      have Hkp := Lib.hid hkp
      clear hr hkp hge
      rw [Nat.zero_add] at hc1 hf1
      have hst := Lib.hid (filled_step xs k hlt)
      generalize xs.getD k 0 = y at hlk hst
      go_wp2
      go_roundw
      case rel => exact ⟨k + 1, by omega, by go_num, by rw [← hst.out]; simpa using Hr.out.set_ hlt y, Hkp.out.setCell (.inl (Nat.le_refl _)) _⟩
      case measure => simp [intOf]; omega
    · have he : k = xs.length := by omega
      have Hr : Hid (Row wr w.heap.size (some ⟨w.heap.size, 0, none⟩) xs.length xs) := by
        have := hr
        rw [filled_all xs k he] at this
        exact this
      clear he
      go_wp2
      go_ret
      exact ⟨_, rfl, Hr.out, hkp⟩

set_option maxHeartbeats 400000 in
theorem hasUser_any (B n : Nat) (xs : List Int) (u : Int) (w : World) (hm : MapIs w B n xs) (hu : I64 u) :
    Calls Try.prog 20 #[.map (some B), .int .i64 u] w fun e w' => e = .returned (.bool (mhas xs u)) ∧ w = w' := by
  have hlk := hm.lookOk hu
  clear hm
  go_enter Try.func20, Try.ntmps20
  go_wp2
  go_ret
  exact ⟨rfl, rfl⟩

def takeB (xs : List Int) (u s : Int) : Bool := mhas xs u && decide (0 ≤ s) && decide (s ≤ mget xs u)
end Go.Proofs.Ytedmkbiamjpdaab
