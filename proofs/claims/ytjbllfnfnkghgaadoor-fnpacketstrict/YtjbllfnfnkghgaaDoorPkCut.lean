/- spec.l2Cut: a text cut at blanks. -/
import Derived.Test.YtjbllfnfnkghgaaDoorPkTh3
import Derived.Deep.RegionWith
import Derived.Deep.DrawnRows
set_option linter.unusedVariables false
set_option linter.unusedSimpArgs false
namespace Go.Proofs.YtjbllfnfnkghgaaDoor
open Go.RowKit
attribute [local go_sem ↓] Go.wp_at_zero Go.wp_at_succ

theorem ownsRow_set {w : World} {base n cap g : Nat} {e : TypeId} {xs : List Value} (h : w.ownsRow base e 1 (.slice (some ⟨g, 0, none⟩) n cap) n xs) (j : Nat) (_hj : j < n) (u : Value) :
    (w.setCell ⟨g, j, none⟩ u).ownsRow base e 1 (.slice (some ⟨g, 0, none⟩) n cap) n (xs.set j u) := by
  obtain ⟨hl, h2⟩ := h
  rcases h2 with ⟨h0, _⟩ | ⟨g', cap', cur, hv, hb, hg, hnc, hcm, hcs, htake⟩
  · cases h0
  · cases hv
    have hB : Box w g e cur := hg
    refine ⟨by simpa using hl, .inr ⟨g, cap, cur.setIfInBounds j u, rfl, hb, hB.set_ j u, hnc, hcm, by simpa using hcs, ?_⟩⟩
    rw [Array.toList_setIfInBounds, List.take_set, htake]
theorem ownsRow_one (w : World) (e : TypeId) (x : Value) : (w.alloc (.cells #[x] e)).ownsRow w.heap.size e 1 (.slice (some ⟨w.heap.size, 0, none⟩) 1 1) 1 [x] :=
  ⟨rfl, .inr ⟨w.heap.size, 1, #[x], rfl, Nat.le_refl _, heap_alloc_new w _, Nat.le_refl _, by decide, rfl, rfl⟩⟩

theorem conv_byte (c : UInt8) (W : World) (g : Nat) (hc : W.cell? ⟨g, 0, none⟩ = some (.int .u8 (c.toNat : Int))) :
    (convert 22 9 (.slice (some ⟨g, 0, none⟩) 1 1)).run Tryd.prog W = .ok (.string ⟨#[c]⟩) W := by
  have := run_convert_bytes_back (P := Tryd.prog) W 22 9 5 ⟨g, 0, none⟩ 1 [c] Tryd.underlying22 Tryd.underlying5 Tryd.underlying9 (fun j hj => by
    have : j = 0 := by simp at hj; omega
    subst this
    simpa [Addr.add] using hc)
  simpa using this
theorem cut_sp (a : List UInt8) : cutL (a ++ [32]) = cutL a ++ [[]] := by
  induction hn : a.length using Nat.strongRecOn generalizing a with
  | _ n ih =>
    rcases sp_or a with h | ⟨b, r, rfl, hb⟩
    · rw [cut_word a [] h, cut_last a h]
      rfl
    · rw [List.append_assoc, List.cons_append, cut_word b _ hb, cut_word b r hb, ih r.length (by rw [← hn]; simp; omega) r rfl]
      rfl
theorem cut_ch (a : List UInt8) (c : UInt8) (hc : c ≠ 32) : cutL (a ++ [c]) = (cutL a).set ((cutL a).length - 1) ((cutL a).getD ((cutL a).length - 1) [] ++ [c]) := by
  induction hn : a.length using Nat.strongRecOn generalizing a with
  | _ n ih =>
    rcases sp_or a with h | ⟨b, r, rfl, hb⟩
    · have h2 : NoSp (a ++ [c]) := fun x hx => by
        simp at hx
        rcases hx with hx | rfl
        · exact h x hx
        · exact hc
      rw [cut_last _ h2, cut_last a h]
      rfl
    · rw [List.append_assoc, List.cons_append, cut_word b _ hb, cut_word b r hb, ih r.length (by rw [← hn]; simp; omega) r rfl]
      have hne := cut_ne r
      have hp : 0 < (cutL r).length := List.length_pos_iff.2 hne
      obtain ⟨m, hm⟩ : ∃ m, (cutL r).length = m + 1 := ⟨(cutL r).length - 1, by omega⟩
      simp only [List.length_cons, hm, Nat.add_sub_cancel, List.set_cons_succ, List.getD_cons_succ]
theorem cut_count (a : List UInt8) : (cutL a).length ≤ a.length + 1 := by
  induction a with
  | nil => simp [cutL]
  | cons c r ih =>
    rw [cutL]
    split
    · simp; omega
    · split
      · simp
      · next h => rw [h] at ih; simp at ih ⊢; omega
theorem strs_set (ws : List (List UInt8)) (j : Nat) (x : List UInt8) : (strs ws).set j (.string ⟨x.toArray⟩) = strs (ws.set j x) := by
  simp [strs, List.map_set]

set_option maxRecDepth 100000 in
set_option maxHeartbeats 2000000 in
theorem l2Cut_any (l : List UInt8) (hl : l.length ≤ 24) (w : World) :
    Calls Tryd.prog 33 #[.string ⟨l.toArray⟩, .int .u8 32] w fun e w' => ∃ v, e = .returned v ∧ w'.ownsRow w.heap.size 9 1 v (cutL l).length (strs (cutL l)) ∧ Keeps noBlk w w' := by
  obtain ⟨i0, hi, hz0, hz1, hz2⟩ := info_parts infoStr
  have HI := Lib.hid hi
  have HZ0 := Lib.hid hz0
  have HZ1 := Lib.hid hz1
  have HZ2 := Lib.hid hz2
  clear hi hz0 hz1 hz2
  go_enter Tryd.func33, Tryd.ntmps33
  go_wp2
  go_loopw [5, 6] (fun v i wr => ∃ k : Nat, k ≤ l.length ∧ i = .int .i64 k ∧ wr.ownsRow w.heap.size 9 1 v (cutL (l.take k)).length (strs (cutL (l.take k))) ∧ Keeps noBlk w wr) (fun _ i _ => l.length - (intOf i).toNat)
  case atStart => exact ⟨0, Nat.zero_le _, rfl, ownsRow_one w 9 _, (Keeps.refl _ w).alloc _⟩
  case round =>
    obtain ⟨k, hk, rfl, hown, hkk⟩ := hrel
    have HO := Lib.hid hown
    have HK := Lib.hid hkk
    have sz := hkk.size
    clear hown hkk
    by_cases hlt : k < l.length
    · have hlI : (k : Int) < (l.length : Int) := by omega
      have hsz : k < (⟨l.toArray⟩ : ByteArray).size := by simpa [ByteArray.size] using hlt
      obtain ⟨c, hcb⟩ : ∃ c, (⟨l.toArray⟩ : ByteArray)[k]'hsz = c := ⟨_, rfl⟩
      have htk : l.take (k + 1) = l.take k ++ [c] := by
        rw [List.take_succ_eq_append_getElem hlt, ← hcb]
        rfl
      have HTK := Lib.hid htk
      clear htk
      have hcn := cut_count (l.take k)
      have hlk : (l.take k).length ≤ k := List.length_take_le _ _
      have hpos : 0 < (cutL (l.take k)).length := List.length_pos_iff.2 (cut_ne _)
      obtain ⟨ws, hws⟩ : ∃ ws, cutL (l.take k) = ws := ⟨_, rfl⟩
      rw [hws] at HO hcn hpos
      have HWS := Lib.hid hws
      clear hws
      obtain ⟨M, hM⟩ : ∃ M, ws.length = M + 1 := ⟨ws.length - 1, by omega⟩
      rw [hM] at HO hcn
      have HM := Lib.hid hM
      clear hM hpos
      have hM24 : M ≤ 24 := by omega
      obtain ⟨g, cap, rfl, hg0, hg1⟩ := HO.out.form (by omega)
      have hcap : M + 1 ≤ cap := by
        rcases HO.out.2 with ⟨h, _⟩ | ⟨g', cap', cur, h, _, _, hc, _⟩
        · cases h
        · cases h; exact hc
      clear hcn hlk
      by_cases hc : c = 32
      · subst hc
        go_wp2_with (at_builtin; refine wpList_append_own _ rfl _ _ 41 rfl w.heap.size 9 i0 (.string ⟨#[]⟩) 1 16 Tryd.underlying41 HI.out HZ0.out HZ1.out HZ2.out rfl (by decide) _ _ _ rfl (HO.out.alloc _) ⟨wr.heap.size, 0, none⟩ 1 1 [.string ⟨#[]⟩] rfl rfl ?qa ?qb ?qc ?qd ?qe ?_)
        case qa =>
          intro j y hj
          match j, hj with
          | 0, hj => simp at hj; subst hj; simp [Addr.add]
        case qb => intro y hy; simp at hy; subst hy; rfl
        case qc => unfold maxLen; omega
        case qd => omega
        case qe => simp; omega
        intro v1 w3 hown' hgrow _
        have e1 : cutL (l.take (k + 1)) = ws ++ [[]] := by rw [HTK.out, cut_sp, HWS.out]
        have HE := Lib.hid e1
        have HO3 := Lib.hid hown'
        have HK3 := Lib.hid ((HK.out.alloc _).then (Keeps.of_grown hgrow) (fun j hj hT => by have := (HO.out.lt j hT).1; omega))
        clear hown' hgrow e1
        go_wp2
        refine ⟨⟨k + 1, by omega, by go_num, ?_, HK3.out⟩, by simp [intOf]; omega⟩
        rw [HE.out, List.length_append, HM.out]
        have h9 := HO3.out
        rw [show ([Value.string ⟨#[]⟩] : List Value) = [Value.string ⟨([] : List UInt8).toArray⟩] from rfl, strs_snoc] at h9
        exact h9
      · have hcI : ((c.toNat : Int) == 32) = false := by
          simp
          intro h
          exact hc (UInt8.toNat_inj.1 (by have e : (32 : UInt8).toNat = 32 := rfl; omega))
        have hlast : wr.cell? ⟨g, M, none⟩ = some (.string ⟨(ws.getD M []).toArray⟩) := by
          have h9 := HO.out.cells (g := g) rfl M (.string ⟨(ws.getD M []).toArray⟩) (by
            have hMl : M < ws.length := by rw [HM.out]; omega
            rw [strs, List.getElem?_map, List.getD_eq_getElem?_getD, List.getElem?_eq_getElem hMl]
            rfl)
          by_cases h0 : M = 0
          · subst h0; simpa [Addr.add] using h9
          · simpa [Addr.add, h0] using h9
        have hcv : ∀ (W : World) (g : Nat), W.cell? ⟨g, 0, none⟩ = some (.int .u8 (c.toNat : Int)) → (convert 22 9 (.slice (some ⟨g, 0, none⟩) 1 1)).run Tryd.prog W = .ok (.string ⟨#[c]⟩) W := conv_byte c
        obtain ⟨last, hla⟩ : ∃ x, ws.getD M [] = x := ⟨_, rfl⟩
        rw [hla] at hlast
        have HLA := Lib.hid hla
        clear hla
        have hlc : (⟨last.toArray⟩ : ByteArray) ++ ⟨#[c]⟩ = ⟨(last ++ [c]).toArray⟩ := ByteArray.mk_append_mk last [c]
        have hln : last.length ≤ 24 := by
          have h9 := cut_len (l.take k) (ws.getD M []) (by
            rw [HWS.out]
            have hMl : M < ws.length := by rw [HM.out]; omega
            rw [List.getD_eq_getElem?_getD, List.getElem?_eq_getElem hMl]
            simp)
          rw [HLA.out] at h9
          have := List.length_take_le k l
          omega
        have hnn : ¬ 9223372036854775807 < last.length + 1 := by omega
        obtain ⟨x2, hx2⟩ : ∃ x, last ++ [c] = x := ⟨_, rfl⟩
        rw [hx2] at hlc
        have HX2 := Lib.hid hx2
        have e1 : cutL (l.take (k + 1)) = ws.set M x2 := by rw [HTK.out, cut_ch _ c hc, HWS.out, HM.out, Nat.add_sub_cancel, HLA.out, hx2]
        have HE := Lib.hid e1
        have hfz : wr.frozen? ⟨g, M, none⟩ = false := by
          rcases HO.out.2 with ⟨h, _⟩ | ⟨g', cap', cur, h, _, hg, _⟩
          · cases h
          · cases h
            exact Box.frozen (t := 9) (cs := cur) hg M
        have hI1 : (M : Int) < (M : Int) + 1 := by omega
        have hI0 : (0 : Int) ≤ (M : Int) := by omega
        have hw1 : IntKind.i64.wrap (M : Int) = (M : Int) := IntWalk.i64_in _ (by omega)
        have hw2 : IntKind.i64.wrap ((M : Int) + 1 - 1) = (M : Int) := by rw [IntWalk.i64_in _ (by omega)]; omega
        have hw3 : IntKind.i64.wrap (((M + 1 : Nat) : Int) - 1) = (M : Int) := by rw [IntWalk.i64_in _ (by omega)]; omega
        have hkI : (0 : Int) ≤ (k : Int) := by omega
        have hgw : ¬ g = wr.heap.size := by omega
        have hwg : ¬ wr.heap.size = g := by omega
        clear e1 hx2 hc
        go_wp2_with fail
        go_region_with (fail)
        all_goals go_wp2
        all_goals refine ⟨⟨k + 1, by omega, by go_num, ?_, ((HK.out.setCell (p := ⟨g, M, none⟩) (.inl hg0) _).alloc _).drew⟩, by simp [intOf]; omega⟩
        all_goals rw [HE.out, List.length_set, HM.out, ← strs_set]
        all_goals exact (ownsRow_set HO.out M (by omega) _).alloc _
    · have e : l.take k = l := List.take_of_length_le (by omega)
      rw [e] at HO
      clear e
      go_wp2
      go_ret
      exact ⟨_, rfl, HO.out, HK.out⟩
end Go.Proofs.YtjbllfnfnkghgaaDoor
