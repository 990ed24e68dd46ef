/- impl.readFields: the numbers of seven words, or the error of packets. -/
import Derived.Test.YtjbllfnfnkghgaaDoorPkRF
import Derived.Lib.Split
import Derived.Lib.SplitLaws
import Derived.Deep.RegionHeld3
set_option linter.unusedVariables false
set_option linter.unusedSimpArgs false
namespace Go.Proofs.YtjbllfnfnkghgaaDoor
open Go.RowKit

def RetNo7 (w : World) (aE : Addr) (e : Ending) (w' : World) : Prop := e = .returned (.tuple #[.agg #[.int .i64 0, .int .i64 0, .int .i64 0, .int .i64 0, .int .i64 0, .int .i64 0, .int .i64 0], .iface 133 (.pointer (some aE))]) ∧ Keeps noBlk w w'
def RetYes7 (w : World) (a : Nat → List UInt8) (e : Ending) (w' : World) : Prop :=
  ∃ n0 n1 n2 n3 n4 n5 n6 : Int, cz (a 0) = some n0 ∧ cz (a 1) = some n1 ∧ cz (a 2) = some n2 ∧ cz (a 3) = some n3 ∧ cz (a 4) = some n4 ∧ cz (a 5) = some n5 ∧ cz (a 6) = some n6 ∧ e = .returned (.tuple #[.agg #[.int .i64 n0, .int .i64 n1, .int .i64 n2, .int .i64 n3, .int .i64 n4, .int .i64 n5, .int .i64 n6], .nilIface]) ∧ Keeps noBlk w w'
def RetRFs (w : World) (aE : Addr) (a : Nat → List UInt8) (e : Ending) (w' : World) : Prop := ((∃ j, j < 7 ∧ cz (a j) = none) ∧ RetNo7 w aE e w') ∨ RetYes7 w a e w'

set_option maxRecDepth 100000 in
set_option maxHeartbeats 1000000 in
theorem rfs_long (l : List UInt8) (h : (24 : Int) < (l.length : Int)) (aE : Addr) (w : World) (hL : Libs w aE) :
    Calls Tryd.prog 41 #[.string ⟨l.toArray⟩] w (RetNo7 w aE) := by
  have hR := Box.new w _ rfl 43 #[.int .i64 0, .int .i64 0, .int .i64 0, .int .i64 0, .int .i64 0, .int .i64 0, .int .i64 0]
  have r0 := hR.cell 0
  have r1 := hR.cell 1
  have r2 := hR.cell 2
  have r3 := hR.cell 3
  have r4 := hR.cell 4
  have r5 := hR.cell 5
  have r6 := hR.cell 6
  simp at r0 r1 r2 r3 r4 r5 r6
  have f0 := hR.frozen 0
  have f1 := hR.frozen 1
  have f2 := hR.frozen 2
  have f3 := hR.frozen 3
  have f4 := hR.frozen 4
  have f5 := hR.frozen 5
  have f6 := hR.frozen 6
  have hK : Keeps noBlk w (w.alloc (.cells #[.int .i64 0, .int .i64 0, .int .i64 0, .int .i64 0, .int .i64 0, .int .i64 0, .int .i64 0] 43)) := (Keeps.refl _ w).alloc _
  have hc := (hL.keeps hK).2.2.2.2.1
  have HK := Lib.hid hK
  clear hL hR hK
  go_enter Tryd.func41, Tryd.ntmps41
  go_wp2
  go_region
  all_goals (try go_wp2)
  all_goals refine bodyPost_ret (v := .tuple #[.agg #[.int .i64 0, .int .i64 0, .int .i64 0, .int .i64 0, .int .i64 0, .int .i64 0, .int .i64 0], .iface 133 (.pointer (some aE))]) (by simp [results, Tryd.results41, go_sem, r0, r1, r2, r3, r4, r5, r6]) rfl ⟨rfl, ?_⟩
  all_goals repeat (first | with_reducible exact HK.out | with_reducible refine Keeps.drew ?_ | with_reducible refine Keeps.setCell ?_ (.inl (Nat.le_refl _)) _)

def spl (l : List UInt8) : List (List UInt8) := Lib.split l [32]
def strsA (ws : List (List UInt8)) : Array Value := (ws.map fun x => Value.string ⟨x.toArray⟩).toArray
theorem split_any (l : List UInt8) (hl : l.length ≤ 24) (aE : Addr) (w : World) (hL : Libs w aE) :
    Calls Tryd.prog 48 #[.string ⟨l.toArray⟩, .string ⟨#[32]⟩] w fun e w' => e = .returned (.slice (some ⟨w.heap.size, 0, none⟩) (spl l).length (spl l).length) ∧ w' = w.alloc (.cells (strsA (spl l)) 9) := by
  obtain ⟨_, _, _, _, _, m, hm⟩ := hL
  have h := Tryd.strings_Split ⟨l.toArray⟩ ⟨#[32]⟩ m w (by simp [ByteArray.size]; omega) hm (by decide)
  have hd := Lib.splitB_data ⟨#[32]⟩ 0 (Lib.countB ⟨l.toArray⟩ ⟨#[32]⟩) ⟨l.toArray⟩
  have hn := Lib.splitB_all ⟨#[32]⟩ (by decide) 0 (Lib.countB ⟨l.toArray⟩ ⟨#[32]⟩) ⟨l.toArray⟩ rfl
  have e1 : spl l = (Lib.splitB ⟨#[32]⟩ 0 (Lib.countB ⟨l.toArray⟩ ⟨#[32]⟩) ⟨l.toArray⟩).map (·.data.toList) := hd.symm
  have e2 : (spl l).length = Lib.countB ⟨l.toArray⟩ ⟨#[32]⟩ + 1 := by rw [e1, List.length_map, hn]
  have e3 : strsA (spl l) = ((Lib.splitB ⟨#[32]⟩ 0 (Lib.countB ⟨l.toArray⟩ ⟨#[32]⟩) ⟨l.toArray⟩).map Value.string).toArray := by
    rw [strsA, e1, List.map_map]
    congr 1
  rw [e2, e3]
  exact h

set_option maxRecDepth 100000 in
set_option maxHeartbeats 1000000 in
theorem rfs_count (l : List UInt8) (hl : l.length ≤ 24) (h : (spl l).length ≠ 7) (aE : Addr) (w : World) (hL : Libs w aE) :
    Calls Tryd.prog 41 #[.string ⟨l.toArray⟩] w (RetNo7 w aE) := by
  have hK : Keeps noBlk w ((w.alloc (.cells #[.int .i64 0, .int .i64 0, .int .i64 0, .int .i64 0, .int .i64 0, .int .i64 0, .int .i64 0] 43)).alloc (.cells #[.int .i64 0, .int .i64 0, .int .i64 0, .int .i64 0, .int .i64 0, .int .i64 0, .int .i64 0] 43)) := ((Keeps.refl _ w).alloc _).alloc _
  have HS := Lib.hid (split_any l hl aE _ (hL.keeps hK))
  have hR0 := (Box.new w _ rfl 43 #[.int .i64 0, .int .i64 0, .int .i64 0, .int .i64 0, .int .i64 0, .int .i64 0, .int .i64 0]).alloc (.cells #[.int .i64 0, .int .i64 0, .int .i64 0, .int .i64 0, .int .i64 0, .int .i64 0, .int .i64 0] 43)
  have HR0 := Lib.hid hR0
  have HK := Lib.hid hK
  have HL := Lib.hid hL
  have hd : ((((spl l).length : Nat) : Int) != 7) = true := by simp; omega
  generalize hws : spl l = ws at HS hd
  have hl1 : ¬ (24 : Int) < (l.length : Int) := by omega
  clear h hws hL hK hR0
  go_enter Tryd.func41, Tryd.ntmps41
  go_wp2_with fail
  refine HS.out.mono ?_
  rintro e w1 ⟨rfl, hw1⟩
  have hk1 : Keeps noBlk w w1 := by rw [hw1]; exact HK.out.alloc _
  have hR : Box w1 w.heap.size 43 #[.int .i64 0, .int .i64 0, .int .i64 0, .int .i64 0, .int .i64 0, .int .i64 0, .int .i64 0] := by rw [hw1]; exact HR0.out.alloc _
  have hc := (HL.out.keeps hk1).2.2.2.2.1
  have n0 : 0 < w.heap.size := World.block_lt_of_cell? w _ HL.out.2.2.2.2.1
  have n1 : ¬ w.heap.size = 0 := by omega
  have n2 : ¬ 0 = w.heap.size := by omega
  have r0 := hR.cell 0
  have r1 := hR.cell 1
  have r2 := hR.cell 2
  have r3 := hR.cell 3
  have r4 := hR.cell 4
  have r5 := hR.cell 5
  have r6 := hR.cell 6
  simp at r0 r1 r2 r3 r4 r5 r6
  have f0 := hR.frozen 0
  have f1 := hR.frozen 1
  have f2 := hR.frozen 2
  have f3 := hR.frozen 3
  have f4 := hR.frozen 4
  have f5 := hR.frozen 5
  have f6 := hR.frozen 6
  have HK1 := Lib.hid hk1
  clear hk1 hR hw1
  go_wp2
  go_region
  all_goals (try go_wp2)
  all_goals refine bodyPost_ret (v := .tuple #[.agg #[.int .i64 0, .int .i64 0, .int .i64 0, .int .i64 0, .int .i64 0, .int .i64 0, .int .i64 0], .iface 133 (.pointer (some aE))]) (by simp [results, Tryd.results41, go_sem, r0, r1, r2, r3, r4, r5, r6]) rfl ⟨rfl, ?_⟩
  all_goals repeat (first | with_reducible exact HK1.out | with_reducible refine Keeps.drew ?_ | with_reducible refine Keeps.setCell ?_ (.inl (Nat.le_refl _)) _)

theorem zero7 (j : Nat) (h : j < 7) : (#[.int .i64 0, .int .i64 0, .int .i64 0, .int .i64 0, .int .i64 0, .int .i64 0, .int .i64 0] : Array Value)[j]? = some (.int .i64 0) := by
  obtain rfl | rfl | rfl | rfl | rfl | rfl | rfl : j = 0 ∨ j = 1 ∨ j = 2 ∨ j = 3 ∨ j = 4 ∨ j = 5 ∨ j = 6 := by omega
  all_goals rfl
theorem box7 {cs : Array Value} (h : cs.size = 7) {x0 x1 x2 x3 x4 x5 x6 : Value} (h0 : cs[0]? = some x0) (h1 : cs[1]? = some x1) (h2 : cs[2]? = some x2) (h3 : cs[3]? = some x3) (h4 : cs[4]? = some x4) (h5 : cs[5]? = some x5) (h6 : cs[6]? = some x6) : cs = #[x0, x1, x2, x3, x4, x5, x6] := by
  apply Array.ext_getElem?
  intro j
  by_cases hj : j < 7
  · obtain rfl | rfl | rfl | rfl | rfl | rfl | rfl : j = 0 ∨ j = 1 ∨ j = 2 ∨ j = 3 ∨ j = 4 ∨ j = 5 ∨ j = 6 := by omega
    · rw [h0]; rfl
    · rw [h1]; rfl
    · rw [h2]; rfl
    · rw [h3]; rfl
    · rw [h4]; rfl
    · rw [h5]; rfl
    · rw [h6]; rfl
  · rw [Array.getElem?_eq_none (by omega), Array.getElem?_eq_none (by simp; omega)]

set_option maxRecDepth 100000 in
set_option maxHeartbeats 2000000 in
theorem rfs_main (l : List UInt8) (hl : l.length ≤ 24) (ws : List (List UInt8)) (hws : spl l = ws) (hw : ∀ x ∈ ws, x.length ≤ 100) (h : ws.length = 7) (aE : Addr) (w : World) (hL : Libs w aE) :
    Calls Tryd.prog 41 #[.string ⟨l.toArray⟩] w (RetRFs w aE (fun j => ws.getD j [])) := by
  have hK : Keeps noBlk w ((w.alloc (.cells #[.int .i64 0, .int .i64 0, .int .i64 0, .int .i64 0, .int .i64 0, .int .i64 0, .int .i64 0] 43)).alloc (.cells #[.int .i64 0, .int .i64 0, .int .i64 0, .int .i64 0, .int .i64 0, .int .i64 0, .int .i64 0] 43)) := ((Keeps.refl _ w).alloc _).alloc _
  have hS := split_any l hl aE _ (hL.keeps hK)
  rw [hws, h] at hS
  have HS := Lib.hid hS
  have HR0 := Lib.hid ((Box.new w _ rfl 43 #[.int .i64 0, .int .i64 0, .int .i64 0, .int .i64 0, .int .i64 0, .int .i64 0, .int .i64 0]).alloc (.cells #[.int .i64 0, .int .i64 0, .int .i64 0, .int .i64 0, .int .i64 0, .int .i64 0, .int .i64 0] 43))
  have HF0 := Lib.hid (Box.new (w.alloc (.cells #[.int .i64 0, .int .i64 0, .int .i64 0, .int .i64 0, .int .i64 0, .int .i64 0, .int .i64 0] 43)) _ rfl 43 #[.int .i64 0, .int .i64 0, .int .i64 0, .int .i64 0, .int .i64 0, .int .i64 0, .int .i64 0])
  have HK := Lib.hid hK
  have HL := Lib.hid hL
  have HW := Lib.hid hw
  have HH := Lib.hid h
  have hl1 : ¬ (24 : Int) < (l.length : Int) := by omega
  clear h hws hL hK hS hw
  go_enter Tryd.func41, Tryd.ntmps41
  go_wp2_with fail
  refine HS.out.mono ?_
  rintro e w1 ⟨rfl, hw1⟩
  have hk1 : Keeps noBlk w w1 := by rw [hw1]; exact HK.out.alloc _
  have HR1 : Hid (Box w1 w.heap.size 43 #[.int .i64 0, .int .i64 0, .int .i64 0, .int .i64 0, .int .i64 0, .int .i64 0, .int .i64 0]) := Lib.hid (by rw [hw1]; exact HR0.out.alloc _)
  have HF1 : Hid (Box w1 (w.heap.size + 1) 43 #[.int .i64 0, .int .i64 0, .int .i64 0, .int .i64 0, .int .i64 0, .int .i64 0, .int .i64 0]) := Lib.hid (by rw [hw1]; have h9 := HF0.out.alloc (.cells (strsA ws) 9); simpa using h9)
  have HW1 : Hid (Box w1 (w.heap.size + 2) 9 (strsA ws)) := Lib.hid (by rw [hw1]; exact Box.new _ _ (by simp) _ _)
  have s1 : w1.heap.size = w.heap.size + 3 := by rw [hw1]; simp
  have HK1 := Lib.hid hk1
  have z1 : w.heap.size + 3 ≤ w1.heap.size := by omega
  clear hk1 hw1 HR0 HF0 HK HS s1
  go_wp2_with fail
  go_loopw [24] (fun i wr => ∃ n : Nat, n ≤ 7 ∧ i = .int .i64 n ∧ ∃ cs : Array Value, cs.size = 7 ∧ Box wr (w.heap.size + 1) 43 cs ∧ (∀ j, j < 7 → ∃ v, cs[j]? = some (Value.int .i64 v) ∧ (j < n → cz (ws.getD j []) = some v)) ∧ Box wr w.heap.size 43 #[.int .i64 0, .int .i64 0, .int .i64 0, .int .i64 0, .int .i64 0, .int .i64 0, .int .i64 0] ∧ Box wr (w.heap.size + 2) 9 (strsA ws) ∧ Keeps noBlk w wr ∧ w.heap.size + 3 ≤ wr.heap.size) (fun i _ => 7 - (intOf i).toNat)
  case atStart => exact ⟨0, by omega, rfl, #[.int .i64 0, .int .i64 0, .int .i64 0, .int .i64 0, .int .i64 0, .int .i64 0, .int .i64 0], rfl, HF1.out, fun j hj => ⟨0, zero7 j hj, fun h => absurd h (by omega)⟩, HR1.out, HW1.out, HK1.out, z1⟩
  case round =>
    obtain ⟨n, hn, rfl, cs, hcs, hF, hV, hR, hWd, hk, hz⟩ := hrel
    have HF := Lib.hid hF
    have HV := Lib.hid hV
    have HR := Lib.hid hR
    have HWd := Lib.hid hWd
    have HKr := Lib.hid hk
    have HCS := Lib.hid hcs
    clear hF hV hR hWd hk hcs
    by_cases hlt : n < 7
    · have hltI : (n : Int) < 7 := by omega
      have hgl : n < ws.length := by rw [HH.out]; exact hlt
      have hwc : wr.cell? ⟨w.heap.size + 2, n, none⟩ = some (.string ⟨(ws.getD n []).toArray⟩) := by
        rw [HWd.out.cell n, strsA, List.getElem?_toArray, List.getElem?_map, List.getD_eq_getElem?_getD, List.getElem?_eq_getElem hgl]
        rfl
      have hal : (ws.getD n []).length ≤ 100 := by
        rw [List.getD_eq_getElem?_getD, List.getElem?_eq_getElem hgl]
        exact HW.out _ (by simp)
      generalize hga : ws.getD n [] = x at hwc hal
      have HGA := Lib.hid hga
      clear hga hgl
      rcases hq : cz x with _ | v
      · have HRF := Lib.hid (rf_none x hal hq aE)
        have HQ := Lib.hid hq
        clear hq
        go_wp2_with fail
        refine (HRF.out _ (HL.out.keeps HKr.out)).mono ?_
        rintro e w2 ⟨rfl, hk2⟩
        have hR := HR.out.keeps hk2 (fun h => h)
        have r0 := hR.cell 0
        have r1 := hR.cell 1
        have r2 := hR.cell 2
        have r3 := hR.cell 3
        have r4 := hR.cell 4
        have r5 := hR.cell 5
        have r6 := hR.cell 6
        simp at r0 r1 r2 r3 r4 r5 r6
        have f0 := hR.frozen 0
        have f1 := hR.frozen 1
        have f2 := hR.frozen 2
        have f3 := hR.frozen 3
        have f4 := hR.frozen 4
        have f5 := hR.frozen 5
        have f6 := hR.frozen 6
        have HK2 := Lib.hid (HKr.out.trans hk2)
        clear hk2 hR
        go_wp2
        refine bodyPost_ret (v := .tuple #[.agg #[.int .i64 0, .int .i64 0, .int .i64 0, .int .i64 0, .int .i64 0, .int .i64 0, .int .i64 0], .iface 133 (.pointer (some aE))]) (by simp [results, Tryd.results41, go_sem, r0, r1, r2, r3, r4, r5, r6]) rfl (.inl ⟨⟨n, hlt, by show cz (ws.getD n []) = none; rw [HGA.out]; exact HQ.out⟩, rfl, ?_⟩)
        repeat (first | with_reducible exact HK2.out | with_reducible refine Keeps.drew ?_ | with_reducible refine Keeps.setCell ?_ (.inl (Nat.le_refl _)) _)
      · have HRF := Lib.hid (rf_some x hal v hq aE)
        have HQ := Lib.hid hq
        clear hq
        go_wp2_with fail
        refine (HRF.out _ (HL.out.keeps HKr.out)).mono ?_
        rintro e w2 ⟨rfl, hk2⟩
        have hF := HF.out.keeps hk2 (fun h => h)
        have hfc : ∃ c, w2.cell? ⟨w.heap.size + 1, n, none⟩ = some (.int .i64 c) := by
          obtain ⟨c, h9, _⟩ := HV.out n hlt
          exact ⟨c, by rw [hF.cell n]; exact h9⟩
        obtain ⟨c, hfc⟩ := hfc
        have hff := hF.frozen n
        have HF2 := Lib.hid hF
        have HR2 := Lib.hid (HR.out.keeps hk2 (fun h => h))
        have HWd2 := Lib.hid (HWd.out.keeps hk2 (fun h => h))
        have HK2 := Lib.hid (HKr.out.trans hk2)
        have z2 := hk2.size
        clear hk2 hF
        go_wp2
        refine ⟨⟨n + 1, by omega, by go_num, cs.setIfInBounds n (.int .i64 v), by simp [HCS.out], HF2.out.set_ n _, ?_, HR2.out.far (p := ⟨w.heap.size + 1, n, none⟩) (by dsimp only; omega) _, HWd2.out.far (p := ⟨w.heap.size + 1, n, none⟩) (by dsimp only; omega) _, HK2.out.setCell (p := ⟨w.heap.size + 1, n, none⟩) (.inl (by dsimp only; omega)) _, by simp [World.setCell]; omega⟩, by simp [intOf]; omega⟩
        intro j hj
        by_cases hjn : j = n
        · subst hjn
          exact ⟨v, by rw [Array.getElem?_setIfInBounds_self_of_lt (by rw [HCS.out]; exact hj)], fun _ => by rw [HGA.out]; exact HQ.out⟩
        · obtain ⟨v', g', q'⟩ := HV.out j hj
          exact ⟨v', by rw [Array.getElem?_setIfInBounds_ne (fun h => hjn h.symm)]; exact g', fun h => q' (by omega)⟩
    · obtain rfl : n = 7 := by omega
      have hV := HV.out
      obtain ⟨n0, g0, q0⟩ := hV 0 (by omega)
      obtain ⟨n1, g1, q1⟩ := hV 1 (by omega)
      obtain ⟨n2, g2, q2⟩ := hV 2 (by omega)
      obtain ⟨n3, g3, q3⟩ := hV 3 (by omega)
      obtain ⟨n4, g4, q4⟩ := hV 4 (by omega)
      obtain ⟨n5, g5, q5⟩ := hV 5 (by omega)
      obtain ⟨n6, g6, q6⟩ := hV 6 (by omega)
      have q0 := q0 (by omega)
      have q1 := q1 (by omega)
      have q2 := q2 (by omega)
      have q3 := q3 (by omega)
      have q4 := q4 (by omega)
      have q5 := q5 (by omega)
      have q6 := q6 (by omega)
      obtain rfl := box7 HCS.out g0 g1 g2 g3 g4 g5 g6
      have hF := HF.out
      have hR := HR.out
      have c0 := hF.cell 0
      have c1 := hF.cell 1
      have c2 := hF.cell 2
      have c3 := hF.cell 3
      have c4 := hF.cell 4
      have c5 := hF.cell 5
      have c6 := hF.cell 6
      simp at c0 c1 c2 c3 c4 c5 c6
      have r0 := hR.cell 0
      have r1 := hR.cell 1
      have r2 := hR.cell 2
      have r3 := hR.cell 3
      have r4 := hR.cell 4
      have r5 := hR.cell 5
      have r6 := hR.cell 6
      simp at r0 r1 r2 r3 r4 r5 r6
      have f0 := hR.frozen 0
      have f1 := hR.frozen 1
      have f2 := hR.frozen 2
      have f3 := hR.frozen 3
      have f4 := hR.frozen 4
      have f5 := hR.frozen 5
      have f6 := hR.frozen 6
      have HY := Lib.hid (⟨q0, q1, q2, q3, q4, q5, q6⟩ : cz (ws.getD 0 []) = some n0 ∧ cz (ws.getD 1 []) = some n1 ∧ cz (ws.getD 2 []) = some n2 ∧ cz (ws.getD 3 []) = some n3 ∧ cz (ws.getD 4 []) = some n4 ∧ cz (ws.getD 5 []) = some n5 ∧ cz (ws.getD 6 []) = some n6)
      clear hF hR hV g0 q0 g1 q1 g2 q2 g3 q3 g4 q4 g5 q5 g6 q6
      go_wp2
      refine bodyPost_ret (v := .tuple #[.agg #[.int .i64 n0, .int .i64 n1, .int .i64 n2, .int .i64 n3, .int .i64 n4, .int .i64 n5, .int .i64 n6], .nilIface]) (by simp [results, Tryd.results41, go_sem, r0, r1, r2, r3, r4, r5, r6]) rfl (.inr ⟨n0, n1, n2, n3, n4, n5, n6, HY.out.1, HY.out.2.1, HY.out.2.2.1, HY.out.2.2.2.1, HY.out.2.2.2.2.1, HY.out.2.2.2.2.2.1, HY.out.2.2.2.2.2.2, rfl, ?_⟩)
      repeat (first | with_reducible exact HKr.out | with_reducible refine Keeps.drew ?_ | with_reducible refine Keeps.setCell ?_ (.inl (Nat.le_refl _)) _)
end Go.Proofs.YtjbllfnfnkghgaaDoor
