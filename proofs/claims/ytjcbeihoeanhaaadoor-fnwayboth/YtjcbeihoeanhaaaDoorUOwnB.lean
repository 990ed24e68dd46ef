/- Slices of ints of a call's own, as a result. Nothing here speaks of the program but its int type. StateLive of the model and of the program: the numbers of the packets that are not settled, in a slice of the call's own. -/
import Derived.Test.YtjcbeihoeanhaaaDoorUGh
import Derived.Test.YtjcbeihoeanhaaaDoorUHas
set_option maxRecDepth 100000
set_option maxHeartbeats 2000000
set_option linter.unusedVariables false
set_option linter.unusedSimpArgs false
/-! Own -/
namespace Go.Proofs.YtjcbeihoeanhaaaDoor
open Go.RowKit

theorem info_int' : (Tryd.prog.info? 3).map (fun i => (i.zero, i.size, i.bytes)) = some (some (.int .i64 0), 1, 8) := by kernel_rfl
theorem ownsRow_less {w : World} {base base' : Nat} {e : TypeId} {size : Nat} {v : Value} {n : Nat} {xs : List Value} (h : w.ownsRow base e size v n xs) (hb : base' ≤ base) : w.ownsRow base' e size v n xs := by
 obtain ⟨hl, h2⟩ := h
 rcases h2 with h0 | ⟨g, cap, cur, hv, h1, r⟩
 ·exact ⟨hl, .inl h0⟩
 ·exact ⟨hl, .inr ⟨g, cap, cur, hv, Nat.le_trans hb h1, r⟩⟩
def RetOwn (w : World) (xs : List Int) (e : Ending) (w' : World) : Prop :=
 ∃ v, e = .returned v ∧ w'.ownsRow w.heap.size 3 1 v xs.length (vIs xs) ∧ Keeps noBlk w w'

def liveTo (x : StL) : Nat → List Int
 | 0 => []
 | k + 1 => if x.live.getD k false = true then liveTo x k ++ [(k : Int) + 1] else liveTo x k
def liveL (x : StL) : List Int := if stB x = true then liveTo x x.sent.length else []
theorem liveTo_len (x : StL) (k : Nat) : (liveTo x k).length ≤ k := by
 induction k with
 | zero => simp [liveTo]
 | succ k ih =>
  unfold liveTo
  split
  ·simp; omega
  ·omega
theorem liveTo_yes {x : StL} {k : Nat} (h : x.live.getD k false = true) : liveTo x (k + 1) = liveTo x k ++ [(k : Int) + 1] := by rw [liveTo, if_pos h]
theorem liveTo_no {x : StL} {k : Nat} (h : x.live.getD k false = false) : liveTo x (k + 1) = liveTo x k := by rw [liveTo, if_neg (by rw [h]; decide)]

theorem fateAt_cell {w : World} {base : Nat} {v : Value} {x : StL} {k n cap : Nat} {A : Option Addr} (h : w.ownsRow base 59 1 (.slice A n cap) n (fatesL x n)) (hk : k < n) :
  ∃ g, A = some ⟨g, 0, none⟩ ∧ w.cell? ⟨g, 0 + k, none⟩ = some (fateAtL x k) := by
 obtain ⟨A', cap', e, h2⟩ := ownsRow_shape h
 cases e
 obtain ⟨g, rfl, hc⟩ := h2 (by omega); exact ⟨g, rfl, by rw [Nat.zero_add]; exact hc k _ (fatesL_at x n k hk)⟩
theorem meth_live' (v : Value) (w : World) : (Go.method 247 80 v "loop.example/hawser/impl.packet").run Tryd.prog w = .ok (129, v) w := by kernel_rfl
theorem fld_seq (a0 a1 a2 a3 a4 a5 a6 : Int) (w : World) : (Instr.field 29 (.agg #[.int .i64 a0, .int .i64 a1, .int .i64 a2, .int .i64 a3, .int .i64 a4, .int .i64 a5, .int .i64 a6]) 0).run Tryd.prog w = .ok (.int .i64 a0) w := by kernel_rfl
attribute [local go_sem] meth_live' fld_seq

theorem implLive_any (x : StL) (A1 A2 A3 A4 : Option Addr) (c1 c2 c3 c4 : Nat) (w : World) (hx : StAt w x A1 A2 A3 A4) (ht : Tabs w) :
  Calls Tryd.prog 19 #[stV x A1 A2 A3 A4 c1 c2 c3 c4] w (RetOwn w (liveL x)) := by
 obtain ⟨i0, hi, hz0, hz1, hz2⟩ := info_parts' info_int'; have HI := hH hi; have HZ0 := hH hz0; have HZ1 := hH hz1; have HZ2 := hH hz2; clear hi hz0 hz1 hz2; have HK0 := hH ((Keeps.refl noBlk w).alloc (.cells (stC x A1 A2 A3 A4 c1 c2 c3 c4) 27))
 rcases Bool.eq_false_or_eq_true (stB x) with ho | ho
 ·have HFO := hH (fatesOf_ok x A1 A2 A3 A4 c1 c2 c3 c4 _ (hx.kept HK0.out) (ht.keeps HK0.out) ho)
  have hst := stB_ok ho; have h8 := hst.2.1.small; have HSO := hH hst.2.1; have HLL := hH (show liveL x = liveTo x x.sent.length by rw [liveL, if_pos ho]); clear ho hst hx ht; unfold stV at HFO ⊢
  go_enter Tryd.func19, Tryd.ntmps19
  go_wp2_with fail; refine HFO.out.mono ?_; rintro e w1 ⟨v, base, rfl, hbase, hown, hk1⟩; have HK1 := hH (HK0.out.trans hk1); have HF1 := hH hown; have h1 := HK1.out.size; obtain ⟨A, cap, rfl, _⟩ := ownsRow_shape hown; clear hown hk1 hbase; go_wp2_with fail
  go_loopw [3, 9] (fun V i wr => ∃ k : Nat, k ≤ x.sent.length ∧ i = .int .i64 k ∧ wr.ownsRow w1.heap.size 3 1 V (liveTo x k).length (vIs (liveTo x k)) ∧ Keeps noBlk w1 wr) (fun _ i _ => x.sent.length - (intOf i).toNat)
  case atStart => exact ⟨0, Nat.zero_le _, rfl, World.ownsRow_nil _ _ _ _, Keeps.refl _ _⟩
  case round =>
   obtain ⟨k, hk, rfl, hown, hkp⟩ := hrel; have HO := hH hown; have HK := hH hkp; have sz := hkp.size; have hll := liveTo_len x k; clear hown hkp
   by_cases hlt : k < x.sent.length
   ·obtain ⟨g, rfl, d2⟩ := fateAt_cell (v := .nilIface) (ownsRow_keeps HF1.out HK.out (fun _ _ h => h)) hlt
    have hs := (HSO.out k hlt).2.1; unfold fateAtL at d2; have HY := hH (@liveTo_yes x k); have HN := hH (@liveTo_no x k); generalize x.live.getD k false = lv at d2 HY HN; generalize x.back.getD k false = bk at d2; generalize x.sent.getD k pk0 = p at d2 hs; rw [Nat.zero_add] at d2
    cases lv with
    | false =>
     have HSN := hH (fun W => settledNumber_any false bk p W)
     have hne : (setOf false bk == 1) = false := by cases bk <;> rfl
     clear hs; unfold fateV at d2 HSN; generalize fateT false bk = ft at d2 HSN; generalize setOf false bk = so at hne HSN; generalize p.val = pv at d2 HSN
     go_wp2_with ((go_at_call 46; refine (HSN.out _).mono ?_; rintro e w' ⟨rfl, rfl⟩))
     refine ⟨⟨k + 1, by omega, by go_num, ?_, HK.out⟩, by simp [intOf]; omega⟩; rw [HN.out (by simp)]; exact HO.out
    | true =>
     have HSN := hH (fun W => settled_live p.val W); have HPL := hH (fun W => packet_live p W); have d3 : wr.cell? ⟨g, k, none⟩ = some (.iface 80 p.val) := d2; clear d2; unfold Pk.val at d3 HSN HPL; obtain ⟨s, kd, f, t, m, u, v⟩ := p; dsimp only at d3 HSN HPL hs; subst hs; have HOL := hH HO.out.lt; have hzw : wr.heap.size ≤ wr.heap.size := Nat.le_refl _
     go_wp2_with ((go_at_call 46; refine (HSN.out _).mono ?_; rintro e w' ⟨rfl, rfl⟩))
     refine (HPL.out _).mono ?_; rintro e w2 ⟨rfl, hk2⟩; have HO2 := hH (ownsRow_keeps HO.out hk2 (fun _ _ h => h)); have HK2 := hH (HK.out.trans hk2); have sz2 := hk2.size; clear hk2
     go_wp2_with (at_builtin; refine wpList_append_own _ rfl _ _ 25 rfl w1.heap.size 3 i0 (.int .i64 0) 1 8 Tryd.underlying25 HI.out HZ0.out HZ1.out HZ2.out rfl (by decide) _ _ _ rfl (HO2.out.alloc _) ⟨w2.heap.size, 0, none⟩ 1 1 [.int .i64 ((k : Int) + 1)] rfl rfl ?qa ?qb ?qc ?qd ?qe ?_)
     case qa =>
      intro j y hj
      match j, hj with
      | 0, hj => simp at hj; subst hj; simp [Addr.add]
     case qb => first | rfl | (intro y hy; simp at hy; subst hy; rfl)
     case qc => unfold maxLen; omega
     case qd => omega
     case qe => first | omega | (simp; omega)
     intro v1 w3 hown' hgrow _; have HO3 := hH hown'; have HK3 := hH ((HK2.out.alloc _).then (Keeps.of_grown hgrow) (fun j hj hT => by have := (HO.out.lt j hT).1; omega)); clear hown' hgrow; go_wp2; refine ⟨⟨k + 1, by omega, by go_num, ?_, HK3.out⟩, by simp [intOf]; omega⟩; rw [HY.out (by simp), List.length_append, vIs_snoc]; exact HO3.out
   ·obtain rfl : k = x.sent.length := by omega
    go_wp2; go_ret; exact ⟨_, rfl, by rw [HLL.out]; exact ownsRow_less HO.out h1, HK1.out.trans HK.out⟩
 ·have HFO := hH (fatesOf_bad x A1 A2 A3 A4 c1 c2 c3 c4 _ (hx.kept HK0.out) (ht.keeps HK0.out) ho)
  have HLL := hH (show liveL x = [] by rw [liveL, if_neg (by rw [ho]; decide)]); clear ho hx ht; unfold stV at HFO ⊢
  go_enter Tryd.func19, Tryd.ntmps19
  go_wp2_with fail; refine HFO.out.mono ?_; rintro e w1 ⟨rfl, hk1⟩; have HK1 := hH (HK0.out.trans hk1); clear hk1; go_wp2_with fail
  go_loopw [3, 9] (fun V i wr => V = .slice none 0 0 ∧ i = .int .i64 0 ∧ wr = w1) (fun _ _ _ => 0)
  case atStart => exact ⟨rfl, rfl, rfl⟩
  case round =>
   obtain ⟨rfl, rfl, rfl⟩ := hrel; go_wp2; go_ret; refine ⟨_, rfl, ?_, HK1.out⟩; rw [HLL.out]; exact World.ownsRow_nil _ _ _ _
end Go.Proofs.YtjcbeihoeanhaaaDoor
