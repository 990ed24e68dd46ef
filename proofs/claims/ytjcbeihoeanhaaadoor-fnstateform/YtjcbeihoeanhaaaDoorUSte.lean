/- The frame of laws over drawn bytes, beside laid tables. Plain facts of states that the laws of stage 3 go by. Nothing here speaks of the program's text. lwAmong: whether a number is among such. -/
import Derived.Test.YtjcbeihoeanhaaaDoorUStF
import Derived.Test.YtjcbeihoeanhaaaDoorUPlA
import Derived.Test.YtjcbeihoeanhaaaDoorUOwn
set_option linter.unusedVariables false
set_option linter.unusedSimpArgs false
/-! StFB -/
namespace Go.Proofs.YtjcbeihoeanhaaaDoor
open Go.RowKit Go.ChangeShapes Go.WideShapes Go.ChangeAt Go.Joins
theorem cellsByte : Tryd.prog.cellsOf 5 = 1 := by kernel_rfl
theorem bytes_of_trod {H : Type} {enc : TypeId × Value → H} {W : World} {base : Nat} {spare : Nat → Bool} {held : Bool} {A : Option Addr} {n c : Nat} {d : DataW H} {p : List MemPlace}
  (h0 : DataW.Trod enc Tryd.prog W base spare held 22 (.slice A n c) d p) :
  ∃ zs, Bytes W A n zs ∧ n ≤ c ∧ c ≤ maxLen := by
 obtain ⟨fuel, h⟩ := h0
 rcases open_ints Tryd.underlying22 Tryd.underlying5 cellsByte h with ⟨hcs, _⟩ | ⟨a, len, cap, zs, hcs, _, hl, hm, hz, _, hcell, hwz⟩
 ·simp [Value.cells] at hcs
  obtain ⟨rfl, rfl, rfl⟩ := hcs
  exact ⟨[], ⟨rfl, by simp, fun h => absurd h (by omega)⟩, Nat.le_refl _, Nat.zero_le _⟩
 ·simp [Value.cells] at hcs
  obtain ⟨rfl, rfl, rfl⟩ := hcs
  have hle : n ≤ zs.length := by rw [hz]; split <;> omega
  refine ⟨zs.take n, ⟨by simp; omega, fun z hz => ?_, fun hn => ?_⟩, hl, hm⟩
  ·have := bounds_u8 (hwz z (List.mem_of_mem_take hz))
   omega
  ·obtain ⟨b, off, spot⟩ := a
   have hc := hcell 0 (by omega)
   have hspot : spot = none := by simpa [Addr.add] using World.cell?_spot hc
   subst hspot
   refine ⟨b, off, rfl, World.block_lt_of_cell? W _ (by simpa [Addr.add] using hc), fun j x hx => ?_⟩
   have hj : j < n := by
    have := (List.getElem?_eq_some_iff.1 hx).1
    simp at this
    omega
   have h1 := hcell j (by omega)
   rw [List.getElem?_take_of_lt hj] at hx
   rw [List.getD_eq_getElem?_getD, hx] at h1
   by_cases h0 : j = 0
   ·subst h0
    simpa [Addr.add] using h1
   ·simpa [Addr.add, h0] using h1
open Go.RowKit

theorem liveTo_pre (x : StL) {i n : Nat} (h : i ≤ n) : ∃ l, liveTo x n = liveTo x i ++ l := by
 induction n with
 | zero => exact ⟨[], by rw [show i = 0 by omega, List.append_nil]⟩
 | succ n ih =>
  rcases Nat.lt_or_ge n i with h1 | h1
  ·exact ⟨[], by rw [show i = n + 1 by omega, List.append_nil]⟩
  ·obtain ⟨l, hl⟩ := ih h1
   cases hv : x.live.getD n false with
   | true => exact ⟨l ++ [(n : Int) + 1], by rw [liveTo_yes hv, hl, List.append_assoc]⟩
   | false => exact ⟨l, by rw [liveTo_no hv, hl]⟩
theorem liveTo_at {x : StL} {i n : Nat} (h : i < n) (hv : x.live.getD i false = true) : (liveTo x i).length < (liveTo x n).length ∧ (liveTo x n).getD (liveTo x i).length 0 = (i : Int) + 1 := by
 obtain ⟨l, hl⟩ := liveTo_pre x (show i + 1 ≤ n from h)
 rw [liveTo_yes hv] at hl
 rw [hl]
 refine ⟨by simp only [List.length_append, List.length_singleton]; omega, ?_⟩
 rw [List.append_assoc, List.getD_eq_getElem?_getD, List.getElem?_append_right (Nat.le_refl _), Nat.sub_self]
 rfl
theorem liveL_ok {x : StL} (h : stB x = true) : liveL x = liveTo x x.sent.length := by rw [liveL, if_pos h]
theorem hasB_at {x : StL} (h : stB x = true) {i : Nat} (hi : i < x.sent.length) : hasB x (x.sent.getD i pk0) = x.live.getD i false := by
 have h1 := (stB_ok h).2.1 i hi
 have h2 : ((x.sent.getD i pk0).s - 1).toNat = i := by have := h1.2.1; omega
 unfold hasB
 rw [h2]
 cases hv : x.live.getD i false with
 | true => exact decide_eq_true ⟨h, by have := h1.2.1; omega, by have := h1.2.1; omega, rfl, rfl⟩
 | false => exact decide_eq_false fun h9 => by simp at h9
set_option maxHeartbeats 1000000
set_option maxRecDepth 100000

theorem lwa_yes {xs : List Int} {k : Nat} {n : Int} (hk : k < xs.length) (h : xs.getD k 0 = n) : n ∈ xs := by
 rw [List.getD_eq_getElem?_getD, List.getElem?_eq_getElem hk] at h
 subst h
 exact List.getElem_mem hk
theorem lwa_no {xs : List Int} {k : Nat} {n : Int} (hk : k < xs.length) (h : xs.getD k 0 ≠ n) (hn : n ∉ xs.take k) : n ∉ xs.take (k + 1) := by
 rw [List.take_add_one, List.getElem?_eq_getElem hk]
 rw [List.getD_eq_getElem?_getD, List.getElem?_eq_getElem hk] at h
 simp only [Option.toList_some, List.mem_append, List.mem_singleton, not_or]
 exact ⟨hn, fun e => h e.symm⟩
theorem lwAmong_any (A : Option Addr) (c : Nat) (xs : List Int) (n : Int) (w : World) (h : Ints w A xs.length xs) (hm : xs.length ≤ maxLen) :
  Calls Tryd.prog 18 #[.slice A xs.length c, .int .i64 n] w fun e w' => e = .returned (.bool (decide (n ∈ xs))) ∧ Keeps noBlk w w' := by
 have H := hH h
 clear h
 unfold maxLen at hm
 go_enter Tryd.func18, Tryd.ntmps18
 go_wp2
 go_loopw [5] (fun i wr => ∃ k : Nat, k ≤ xs.length ∧ i = .int .i64 k ∧ n ∉ xs.take k ∧ wr = w) (fun i _ => xs.length - (intOf i).toNat)
 case atStart => exact ⟨0, Nat.zero_le _, rfl, by simp, rfl⟩
 case round =>
  obtain ⟨k, hk, rfl, hn, rfl⟩ := hrel
  have HN := hH hn
  clear hn
  by_cases hlt : k < xs.length
  ·obtain ⟨b2, off2, rfl, e2, d2⟩ := H.out.at_ hlt
   have HY := hH (@lwa_yes xs k n hlt)
   have HO := hH (@lwa_no xs k n hlt)
   generalize xs.getD k 0 = v at d2 HY HO
   by_cases hv : v = n
   ·have e0 : (v == n) = true := by simp [hv]
    have HE := hH (HY.out hv)
    clear hv
    go_wp2
    go_ret
    exact ⟨by simp [HE.out], Keeps.refl _ _⟩
   ·have e0 : (v == n) = false := by simp [hv]
    have HE := hH (HO.out hv HN.out)
    clear hv
    go_wp2
    exact ⟨⟨k + 1, by omega, by go_num, HE.out, by first | rfl | trivial⟩, by simp [intOf]; omega⟩
  ·obtain rfl : k = xs.length := by omega
   have HE := hH (show n ∉ xs by have := HN.out; rwa [List.take_length] at this)
   go_wp2
   go_ret
   exact ⟨by simp [HE.out], Keeps.refl _ _⟩
end Go.Proofs.YtjcbeihoeanhaaaDoor
