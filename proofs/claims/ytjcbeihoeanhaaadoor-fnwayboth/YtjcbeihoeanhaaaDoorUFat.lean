/- StateGot of the model and of the program. The fate of a packet: an interface value of one of three types; how it is told apart. fatesOf of the program: the fates of a state's packets, in a slice of the call's own. -/
import Derived.Test.YtjcbeihoeanhaaaDoorSS
import Derived.Deep.RegionLawGrows
import Derived.Deep.DrawnRows
set_option maxRecDepth 100000
set_option maxHeartbeats 2000000
set_option linter.unusedVariables false
set_option linter.unusedSimpArgs false
/-! SGot -/
namespace Go.Proofs.YtjcbeihoeanhaaaDoor
open Go.RowKit

theorem stB_ok {x : StL} (h : stB x = true) : StOk x := by simpa [stB] using h


theorem zero_live : (Tryd.prog.info? 80).map (fun i => i.zero) = some (some (.agg zC7)) := by kernel_rfl
theorem zero_done : (Tryd.prog.info? 81).map (fun i => i.zero) = some (some (.agg zC7)) := by kernel_rfl
theorem zero_back : (Tryd.prog.info? 82).map (fun i => i.zero) = some (some (.agg zC7)) := by kernel_rfl
theorem ta_live_yes (v : Value) (xT : TypeId) (w : World) : (Instr.typeAssert (.iface 80 v) xT 80 true).run Tryd.prog w = .ok (.tuple #[v, .bool true]) w := by
 simp [Instr.typeAssert, run_underlying Tryd.underlying80, go_sem, Result.andThen]
theorem ta_live_no (d : TypeId) (hd : d ≠ 80) (v : Value) (xT : TypeId) (w : World) : (Instr.typeAssert (.iface d v) xT 80 true).run Tryd.prog w = .ok (.tuple #[.agg zC7, .bool false]) w := by
 obtain ⟨i, hi, hz⟩ := Option.map_eq_some_iff.1 zero_live; simp [Instr.typeAssert, run_underlying Tryd.underlying80, go_sem, Result.andThen, hd, zeroValue, typeInfo, hi, hz]
theorem ta_live_nil (xT : TypeId) (w : World) : (Instr.typeAssert .nilIface xT 80 true).run Tryd.prog w = .ok (.tuple #[.agg zC7, .bool false]) w := by
 obtain ⟨i, hi, hz⟩ := Option.map_eq_some_iff.1 zero_live; simp [Instr.typeAssert, run_underlying Tryd.underlying80, go_sem, Result.andThen, zeroValue, typeInfo, hi, hz]
theorem ta_live_done (v : Value) (xT : TypeId) (w : World) : (Instr.typeAssert (.iface 81 v) xT 80 true).run Tryd.prog w = .ok (.tuple #[.agg zC7, .bool false]) w := ta_live_no 81 (by decide) v xT w
theorem ta_live_back (v : Value) (xT : TypeId) (w : World) : (Instr.typeAssert (.iface 82 v) xT 80 true).run Tryd.prog w = .ok (.tuple #[.agg zC7, .bool false]) w := ta_live_no 82 (by decide) v xT w
theorem ta_done_yes (v : Value) (xT : TypeId) (w : World) : (Instr.typeAssert (.iface 81 v) xT 81 true).run Tryd.prog w = .ok (.tuple #[v, .bool true]) w := by
 simp [Instr.typeAssert, run_underlying Tryd.underlying81, go_sem, Result.andThen]
theorem ta_done_no (d : TypeId) (hd : d ≠ 81) (v : Value) (xT : TypeId) (w : World) : (Instr.typeAssert (.iface d v) xT 81 true).run Tryd.prog w = .ok (.tuple #[.agg zC7, .bool false]) w := by
 obtain ⟨i, hi, hz⟩ := Option.map_eq_some_iff.1 zero_done; simp [Instr.typeAssert, run_underlying Tryd.underlying81, go_sem, Result.andThen, hd, zeroValue, typeInfo, hi, hz]
theorem ta_done_nil (xT : TypeId) (w : World) : (Instr.typeAssert .nilIface xT 81 true).run Tryd.prog w = .ok (.tuple #[.agg zC7, .bool false]) w := by
 obtain ⟨i, hi, hz⟩ := Option.map_eq_some_iff.1 zero_done; simp [Instr.typeAssert, run_underlying Tryd.underlying81, go_sem, Result.andThen, zeroValue, typeInfo, hi, hz]
theorem ta_done_live (v : Value) (xT : TypeId) (w : World) : (Instr.typeAssert (.iface 80 v) xT 81 true).run Tryd.prog w = .ok (.tuple #[.agg zC7, .bool false]) w := ta_done_no 80 (by decide) v xT w
theorem ta_done_back (v : Value) (xT : TypeId) (w : World) : (Instr.typeAssert (.iface 82 v) xT 81 true).run Tryd.prog w = .ok (.tuple #[.agg zC7, .bool false]) w := ta_done_no 82 (by decide) v xT w
theorem ta_back_yes (v : Value) (xT : TypeId) (w : World) : (Instr.typeAssert (.iface 82 v) xT 82 true).run Tryd.prog w = .ok (.tuple #[v, .bool true]) w := by
 simp [Instr.typeAssert, run_underlying Tryd.underlying82, go_sem, Result.andThen]
theorem ta_back_no (d : TypeId) (hd : d ≠ 82) (v : Value) (xT : TypeId) (w : World) : (Instr.typeAssert (.iface d v) xT 82 true).run Tryd.prog w = .ok (.tuple #[.agg zC7, .bool false]) w := by
 obtain ⟨i, hi, hz⟩ := Option.map_eq_some_iff.1 zero_back; simp [Instr.typeAssert, run_underlying Tryd.underlying82, go_sem, Result.andThen, hd, zeroValue, typeInfo, hi, hz]
theorem ta_back_nil (xT : TypeId) (w : World) : (Instr.typeAssert .nilIface xT 82 true).run Tryd.prog w = .ok (.tuple #[.agg zC7, .bool false]) w := by
 obtain ⟨i, hi, hz⟩ := Option.map_eq_some_iff.1 zero_back; simp [Instr.typeAssert, run_underlying Tryd.underlying82, go_sem, Result.andThen, zeroValue, typeInfo, hi, hz]
theorem ta_back_live (v : Value) (xT : TypeId) (w : World) : (Instr.typeAssert (.iface 80 v) xT 82 true).run Tryd.prog w = .ok (.tuple #[.agg zC7, .bool false]) w := ta_back_no 80 (by decide) v xT w
theorem ta_back_done (v : Value) (xT : TypeId) (w : World) : (Instr.typeAssert (.iface 81 v) xT 82 true).run Tryd.prog w = .ok (.tuple #[.agg zC7, .bool false]) w := ta_back_no 81 (by decide) v xT w
attribute [local go_sem] ta_live_yes ta_live_nil ta_live_done ta_live_back ta_done_yes ta_done_nil ta_done_live ta_done_back ta_back_yes ta_back_nil ta_back_live ta_back_done

def fateT (l b : Bool) : TypeId := match l, b with
 | true, _ => 80
 | false, true => 82
 | false, false => 81
def fateV (l b : Bool) (p : Pk) : Value := .iface (fateT l b) p.val
def setOf (l b : Bool) : Int := match l, b with
 | true, _ => 1
 | false, true => 3
 | false, false => 2
theorem fateOf_any (p : Pk) (l b : Bool) (w : World) :
  Calls Tryd.prog 61 #[p.val, .bool l, .bool b] w fun e w' => e = .returned (fateV l b p) ∧ Keeps noBlk w w' := by
 unfold Pk.val
 cases l with
 | true =>
  go_enter Tryd.func61, Tryd.ntmps61
  go_wp2; go_ret; exact ⟨rfl, (Keeps.refl _ _).alloc _⟩
 | false =>
  cases b with
  | true =>
   go_enter Tryd.func61, Tryd.ntmps61
   go_wp2; go_ret; exact ⟨rfl, (Keeps.refl _ _).alloc _⟩
  | false =>
   go_enter Tryd.func61, Tryd.ntmps61
   go_wp2; go_ret; exact ⟨rfl, (Keeps.refl _ _).alloc _⟩
theorem settled_live (v : Value) (w : World) : Calls Tryd.prog 46 #[.iface 80 v] w fun e w' => e = .returned (.int .i64 1) ∧ w = w' := by
 go_enter Tryd.func46, Tryd.ntmps46
 go_wp2; go_ret; exact ⟨rfl, rfl⟩
theorem settled_done (v : Value) (w : World) : Calls Tryd.prog 46 #[.iface 81 v] w fun e w' => e = .returned (.int .i64 2) ∧ w = w' := by
 go_enter Tryd.func46, Tryd.ntmps46
 go_wp2; go_ret; exact ⟨rfl, rfl⟩
theorem settled_back (v : Value) (w : World) : Calls Tryd.prog 46 #[.iface 82 v] w fun e w' => e = .returned (.int .i64 3) ∧ w = w' := by
 go_enter Tryd.func46, Tryd.ntmps46
 go_wp2; go_ret; exact ⟨rfl, rfl⟩
theorem settled_nil (w : World) : Calls Tryd.prog 46 #[.nilIface] w fun e w' => e = .returned (.int .i64 0) ∧ w = w' := by
 go_enter Tryd.func46, Tryd.ntmps46
 go_wp2; go_ret; exact ⟨rfl, rfl⟩
theorem settledNumber_any (l b : Bool) (p : Pk) (w : World) : Calls Tryd.prog 46 #[fateV l b p] w fun e w' => e = .returned (.int .i64 (setOf l b)) ∧ w = w' := by
 cases l with
 | true => exact settled_live _ _
 | false =>
  cases b with
  | true => exact settled_back _ _
  | false => exact settled_done _ _
end Go.Proofs.YtjcbeihoeanhaaaDoor

/-! SFates -/
namespace Go.Proofs.YtjcbeihoeanhaaaDoor
open Go.RowKit

theorem step_append_own {P : Program} {ops : Array Oper} {o : Oper} {a : Act} {w : World} {K : Act → World → Prop} {Q : Exit → Act → World → Prop} {E : Prop}
  (hg : o.guard = none) (s x : Operand) (t : TypeId) (hop : o.op = Op.call { callee := Callee.builtin Builtin.append, args := #[s, x], argTypes := #[t, t] })
  (base : Nat) (e : TypeId) (i : TypeInfo) (z : Value) (size bytes : Nat) (h1 : P.underlying t = some (.slice e)) (h2 : P.info? e = some i) (h3 : i.zero = some z) (h4 : i.size = size) (h5 : i.bytes = bytes) (h6 : z.cells.size = size) (h7 : 0 < size)
  (v : Value) (n : Nat) (xs : List Value) (hs : a.eval s = v) (hown : w.ownsRow base e size v n xs)
  (ad : Addr) (m c : Nat) (news : List Value) (hx : a.eval x = .slice (some ad) m c) (hn : news.length = m * size) (hc : ∀ j u, news[j]? = some u → w.cell? (ad.add j) = some u) (h1c : ∀ u ∈ news, u.oneCell' = true)
  (b1 : n + m ≤ maxLen) (b2 : (n + m) * bytes ≤ 140737488355328) (hb : base ≤ w.heap.size)
  (hK : ∀ v' w', w'.ownsRow base e size v' (n + m) (xs ++ news) → w.grownBy w' v.ownBlock → K (a.put o.dst v') w') :
  if Region.wanted o (yielded ops a.tmps) = true then Oper.wp P o a w K Q else E := by
 have hw : Region.wanted o (yielded ops a.tmps) = true := by simp [Region.wanted, hg]
 rw [if_pos hw]; obtain ⟨v', w', hrun, r1, r2, _⟩ := run_append_own (P := P) w base t o.type e i z size bytes h1 h2 h3 h4 h5 h6 h7 v n xs hown ad m c news hn hc h1c b1 b2 hb; unfold Oper.wp; simp [execOp, hop, resolve, invoke, builtin, hs, hx, hrun, Result.andThen]; exact hK v' w' r1 r2
theorem ownsRow_keeps {S : Nat → Prop} {w w' : World} {base n sz : Nat} {e : TypeId} {v : Value} {xs : List Value} (h : w.ownsRow base e sz v n xs) (hk : Keeps S w w') (hs : ∀ b, v.ownBlock = some b → ¬ S b) : w'.ownsRow base e sz v n xs := by
 obtain ⟨hl, h2⟩ := h
 rcases h2 with h0 | ⟨g', cap', cur, hv, hb, hg, r⟩
 ·exact ⟨hl, .inl h0⟩
 ·subst hv
  have hB : Box w g' e cur := hg; exact ⟨hl, .inr ⟨g', cap', cur, rfl, hb, hB.keeps hk (hs g' rfl), r⟩⟩
theorem info_fate : (Tryd.prog.info? 59).map (fun i => (i.zero, i.size, i.bytes)) = some (some .nilIface, 1, 16) := by kernel_rfl
theorem info_parts' {P : Program} {e : TypeId} {z : Value} {a b : Nat} (h : (P.info? e).map (fun i => (i.zero, i.size, i.bytes)) = some (some z, a, b)) : ∃ i, P.info? e = some i ∧ i.zero = some z ∧ i.size = a ∧ i.bytes = b := by
 obtain ⟨i, hi, hzz⟩ := Option.map_eq_some_iff.1 h; simp only [Prod.mk.injEq] at hzz; exact ⟨i, hi, hzz.1, hzz.2.1, hzz.2.2⟩
def fateAtL (x : StL) (i : Nat) : Value := fateV (x.live.getD i false) (x.back.getD i false) (x.sent.getD i pk0)
def fatesL (x : StL) : Nat → List Value
 | 0 => []
 | k + 1 => fatesL x k ++ [fateAtL x k]
theorem fatesL_len (x : StL) (k : Nat) : (fatesL x k).length = k := by
 induction k with
 | zero => rfl
 | succ k ih => simp [fatesL, ih]
theorem fatesL_at (x : StL) (k i : Nat) (h : i < k) : (fatesL x k)[i]? = some (fateAtL x i) := by
 induction k with
 | zero => omega
 | succ k ih =>
  rw [fatesL]
  rcases Nat.lt_or_ge i k with hi | hi
  ·rw [List.getElem?_append_left (by rw [fatesL_len]; exact hi)]
   exact ih hi
  ·obtain rfl : i = k := by omega
   rw [List.getElem?_append_right (by rw [fatesL_len]; exact hi), fatesL_len]; simp

theorem fatesOf_bad (x : StL) (A1 A2 A3 A4 : Option Addr) (c1 c2 c3 c4 : Nat) (w : World) (hx : StAt w x A1 A2 A3 A4) (ht : Tabs w) (hok : stB x = false) :
  Calls Tryd.prog 48 #[stV x A1 A2 A3 A4 c1 c2 c3 c4] w fun e w' => e = .returned (.slice none 0 0) ∧ Keeps noBlk w w' := by
 have HIM := hH (show Calls Tryd.prog 31 #[stV x A1 A2 A3 A4 c1 c2 c3 c4] (w.alloc (.cells #[.int .i64 x.way, .int .i64 x.ver, .int .i64 x.want, .slice A1 x.sent.length c1, .slice A2 x.live.length c2, .slice A3 x.back.length c3, .slice A4 x.got.length c4] 27)) (fun e w' => e = .returned (.bool false) ∧ Keeps noBlk (w.alloc (.cells #[.int .i64 x.way, .int .i64 x.ver, .int .i64 x.want, .slice A1 x.sent.length c1, .slice A2 x.live.length c2, .slice A3 x.back.length c3, .slice A4 x.got.length c4] 27)) w') from by rw [← hok]; exact implSt_any x A1 A2 A3 A4 c1 c2 c3 c4 _ (hx.alloc _) (ht.keeps ((Keeps.refl _ _).alloc _))); clear hx ht hok; unfold stV at HIM ⊢
 go_enter Tryd.func48, Tryd.ntmps48
 go_wp2_with fail; refine HIM.out.mono ?_; rintro e w1 ⟨rfl, hk1⟩; have HK1 := hH (((Keeps.refl noBlk w).alloc (.cells (stC x A1 A2 A3 A4 c1 c2 c3 c4) 27)).trans hk1); clear hk1; go_wp2; go_ret; exact ⟨rfl, HK1.out⟩

def RetFates (w : World) (x : StL) (e : Ending) (w' : World) : Prop :=
 ∃ v base, e = .returned v ∧ w.heap.size ≤ base ∧ w'.ownsRow base 59 1 v x.sent.length (fatesL x x.sent.length) ∧ Keeps noBlk w w'

theorem fatesOf_ok (x : StL) (A1 A2 A3 A4 : Option Addr) (c1 c2 c3 c4 : Nat) (w : World) (hx : StAt w x A1 A2 A3 A4) (ht : Tabs w) (hok : stB x = true) :
  Calls Tryd.prog 48 #[stV x A1 A2 A3 A4 c1 c2 c3 c4] w (RetFates w x) := by
 obtain ⟨i0, hi, hz0, hz1, hz2⟩ := info_parts' info_fate; have HI := hH hi; have HZ0 := hH hz0; have HZ1 := hH hz1; have HZ2 := hH hz2; clear hi hz0 hz1 hz2; have HX := hH hx; have HIM := hH (show Calls Tryd.prog 31 #[stV x A1 A2 A3 A4 c1 c2 c3 c4] (w.alloc (.cells #[.int .i64 x.way, .int .i64 x.ver, .int .i64 x.want, .slice A1 x.sent.length c1, .slice A2 x.live.length c2, .slice A3 x.back.length c3, .slice A4 x.got.length c4] 27)) (fun e w' => e = .returned (.bool true) ∧ Keeps noBlk (w.alloc (.cells #[.int .i64 x.way, .int .i64 x.ver, .int .i64 x.want, .slice A1 x.sent.length c1, .slice A2 x.live.length c2, .slice A3 x.back.length c3, .slice A4 x.got.length c4] 27)) w') from by rw [← hok]; exact implSt_any x A1 A2 A3 A4 c1 c2 c3 c4 _ (hx.alloc _) (ht.keeps ((Keeps.refl _ _).alloc _))); have hst := stB_ok hok; have h8 := hst.2.1.small; have HL2 := hH hst.2.2.1.1; have HL3 := hH hst.2.2.1.2.1; clear hx ht hok hst; have HB0 := hH (Box.new w _ rfl 27 (stC x A1 A2 A3 A4 c1 c2 c3 c4)); unfold stV at HIM ⊢
 go_enter Tryd.func48, Tryd.ntmps48
 go_wp2_with fail; refine HIM.out.mono ?_; rintro e w1 ⟨rfl, hk1⟩; have HK1 := hH (((Keeps.refl noBlk w).alloc (.cells (stC x A1 A2 A3 A4 c1 c2 c3 c4) 27)).trans hk1)
 have hb := HB0.out.keeps hk1 fun h => h
 have a3 := hb.cell 3; simp at a3; have HB1 := hH hb; have hgl := hb.lt; clear hb hk1; obtain ⟨g, hg⟩ : ∃ g, w.heap.size = g := ⟨_, rfl⟩; rw [hg] at HB1 a3 hgl ⊢; have HG := hH hg; clear hg; go_wp2_with fail
 go_loopw [3, 12] (fun V i wr => ∃ k : Nat, k ≤ x.sent.length ∧ i = .int .i64 k ∧ wr.ownsRow w1.heap.size 59 1 V k (fatesL x k) ∧ Keeps noBlk w1 wr) (fun _ i _ => x.sent.length - (intOf i).toNat)
 case atStart => exact ⟨0, Nat.zero_le _, rfl, World.ownsRow_nil _ _ _ _, Keeps.refl _ _⟩
 case round =>
  obtain ⟨k, hk, rfl, hown, hkp⟩ := hrel; have HO := hH hown; have HK := hH hkp; have sz := hkp.size; clear hown hkp
  by_cases hlt : k < x.sent.length
  ·have HXr := hH ((HX.out.kept HK1.out).kept HK.out)
   obtain ⟨b, off, rfl, hbl, q0, q1, q2, q3, q4, q5, q6⟩ := HXr.out.1.1.at_ hlt
   have hl2 : k < x.live.length := by rw [HL2.out]; exact hlt
   have hl3 : k < x.back.length := by rw [HL3.out]; exact hlt
   obtain ⟨b2, off2, rfl, e2, d2⟩ := HXr.out.1.2.1.at_ hl2; obtain ⟨b3, off3, rfl, e3, d3⟩ := HXr.out.1.2.2.1.at_ hl3; have l2 : b2 < w1.heap.size := (HX.out.kept HK1.out).1.2.1.lt ⟨by omega, _, rfl, rfl⟩; have l3 : b3 < w1.heap.size := (HX.out.kept HK1.out).1.2.2.1.lt ⟨by omega, _, rfl, rfl⟩; have HFL := hH (show fatesL x (k + 1) = fatesL x k ++ [fateV (x.live.getD k false) (x.back.getD k false) (x.sent.getD k pk0)] from rfl); generalize x.sent.getD k pk0 = p at q0 q1 q2 q3 q4 q5 q6 HFL; generalize x.live.getD k false = lv at d2 HFL; generalize x.back.getD k false = bk at d3 HFL; obtain ⟨s, kd, f, t, m, u, v⟩ := p; dsimp only at q0 q1 q2 q3 q4 q5 q6; have HFO := hH (fun W => (show Calls Tryd.prog 61 #[.agg #[.int .i64 s, .int .i64 kd, .int .i64 f, .int .i64 t, .int .i64 m, .int .i64 u, .int .i64 v], .bool lv, .bool bk] W (fun e w' => e = .returned (.iface (fateT lv bk) (.agg #[.int .i64 s, .int .i64 kd, .int .i64 f, .int .i64 t, .int .i64 m, .int .i64 u, .int .i64 v])) ∧ Keeps noBlk W w') from fateOf_any ⟨s, kd, f, t, m, u, v⟩ lv bk W)); have HFL := hH (show fatesL x (k + 1) = fatesL x k ++ [.iface (fateT lv bk) (.agg #[.int .i64 s, .int .i64 kd, .int .i64 f, .int .i64 t, .int .i64 m, .int .i64 u, .int .i64 v])] from HFL.out); generalize fateT lv bk = ft at HFO HFL; have HKW := hH (HK.out.alloc (.cells #[.int .i64 s, .int .i64 kd, .int .i64 f, .int .i64 t, .int .i64 m, .int .i64 u, .int .i64 v] 29)); have hbg := (HB1.out.keeps HKW.out fun h => h); have a4 := hbg.cell 4; have a5 := hbg.cell 5; have hbp := Box.new wr _ rfl 29 #[.int .i64 s, .int .i64 kd, .int .i64 f, .int .i64 t, .int .i64 m, .int .i64 u, .int .i64 v]; have p0 : (wr.alloc (.cells #[.int .i64 s, .int .i64 kd, .int .i64 f, .int .i64 t, .int .i64 m, .int .i64 u, .int .i64 v] 29)).cell? ⟨wr.heap.size, 0, none⟩ = some (.int .i64 s) := hbp.cell 0; have p1 : (wr.alloc (.cells #[.int .i64 s, .int .i64 kd, .int .i64 f, .int .i64 t, .int .i64 m, .int .i64 u, .int .i64 v] 29)).cell? ⟨wr.heap.size, 1, none⟩ = some (.int .i64 kd) := hbp.cell 1; have p2 : (wr.alloc (.cells #[.int .i64 s, .int .i64 kd, .int .i64 f, .int .i64 t, .int .i64 m, .int .i64 u, .int .i64 v] 29)).cell? ⟨wr.heap.size, 2, none⟩ = some (.int .i64 f) := hbp.cell 2; have p3 : (wr.alloc (.cells #[.int .i64 s, .int .i64 kd, .int .i64 f, .int .i64 t, .int .i64 m, .int .i64 u, .int .i64 v] 29)).cell? ⟨wr.heap.size, 3, none⟩ = some (.int .i64 t) := hbp.cell 3; have p4 : (wr.alloc (.cells #[.int .i64 s, .int .i64 kd, .int .i64 f, .int .i64 t, .int .i64 m, .int .i64 u, .int .i64 v] 29)).cell? ⟨wr.heap.size, 4, none⟩ = some (.int .i64 m) := hbp.cell 4; have p5 : (wr.alloc (.cells #[.int .i64 s, .int .i64 kd, .int .i64 f, .int .i64 t, .int .i64 m, .int .i64 u, .int .i64 v] 29)).cell? ⟨wr.heap.size, 5, none⟩ = some (.int .i64 u) := hbp.cell 5; have p6 : (wr.alloc (.cells #[.int .i64 s, .int .i64 kd, .int .i64 f, .int .i64 t, .int .i64 m, .int .i64 u, .int .i64 v] 29)).cell? ⟨wr.heap.size, 6, none⟩ = some (.int .i64 v) := hbp.cell 6; simp at a4 a5; have d2 := (((Keeps.refl noBlk wr).alloc (.cells #[.int .i64 s, .int .i64 kd, .int .i64 f, .int .i64 t, .int .i64 m, .int .i64 u, .int .i64 v] 29)).cell e2 (fun h => h)).trans d2; have d3 := (((Keeps.refl noBlk wr).alloc (.cells #[.int .i64 s, .int .i64 kd, .int .i64 f, .int .i64 t, .int .i64 m, .int .i64 u, .int .i64 v] 29)).cell e3 (fun h => h)).trans d3; have HOW := hH (ownsRow_keeps HO.out ((Keeps.refl noBlk wr).alloc (.cells #[.int .i64 s, .int .i64 kd, .int .i64 f, .int .i64 t, .int .i64 m, .int .i64 u, .int .i64 v] 29)) (fun _ _ h => h))
   have hol : ∀ z, u3.ownBlock = some z → w1.heap.size ≤ z ∧ z < wr.heap.size := fun z hz => by have := HO.out.lt z hz; omega
   clear hbg hbp hbl; go_wp2_with fail
   have hzh : wr.heap.size < (wr.alloc (.cells #[.int .i64 s, .int .i64 kd, .int .i64 f, .int .i64 t, .int .i64 m, .int .i64 u, .int .i64 v] 29)).heap.size := by simp
   obtain ⟨h, hh⟩ : ∃ h, wr.heap.size = h := ⟨_, rfl⟩; rw [hh] at p0 p1 p2 p3 p4 p5 p6; rw [hh] at hol; rw [hh] at hzh; rw [hh] at sz; rw [hh] at e2; rw [hh] at e3; rw [hh]; clear hh; generalize wr.alloc (.cells #[.int .i64 s, .int .i64 kd, .int .i64 f, .int .i64 t, .int .i64 m, .int .i64 u, .int .i64 v] 29) = W1 at HKW HOW a4 a5 p0 p1 p2 p3 p4 p5 p6 d2 d3 hzh
   have lg : g < W1.heap.size := by omega
   have lh : h < W1.heap.size := hzh
   have lb2 : b2 < W1.heap.size := by omega
   have lb3 : b3 < W1.heap.size := by omega
   have ng : ¬ (u3.ownBlock = some g) := fun e => by have := hol _ e; omega
   have nh : ¬ (u3.ownBlock = some h) := fun e => by have := hol _ e; omega
   have nb2 : ¬ (u3.ownBlock = some b2) := fun e => by have := hol _ e; omega
   have nb3 : ¬ (u3.ownBlock = some b3) := fun e => by have := hol _ e; omega
   go_region_held3 (fun w' => w'.cell? ⟨g, 4, none⟩ = some (.slice (some ⟨b2, off2, none⟩) x.live.length c2) ∧ w'.cell? ⟨g, 5, none⟩ = some (.slice (some ⟨b3, off3, none⟩) x.back.length c3) ∧ w'.cell? ⟨h, 0, none⟩ = some (.int .i64 s) ∧ w'.cell? ⟨h, 1, none⟩ = some (.int .i64 kd) ∧ w'.cell? ⟨h, 2, none⟩ = some (.int .i64 f) ∧ w'.cell? ⟨h, 3, none⟩ = some (.int .i64 t) ∧ w'.cell? ⟨h, 4, none⟩ = some (.int .i64 m) ∧ w'.cell? ⟨h, 5, none⟩ = some (.int .i64 u) ∧ w'.cell? ⟨h, 6, none⟩ = some (.int .i64 v) ∧ w'.cell? ⟨b2, off2 + k, none⟩ = some (.bool lv) ∧ w'.cell? ⟨b3, off3 + k, none⟩ = some (.bool bk))
    (((try dsimp only); (repeat' apply And.intro) <;> (first | with_reducible assumption | (with_reducible refine (World.cell?_alloc_lt _ _ _ (by dsimp only; omega)).trans ?_; with_reducible assumption) | (go_keep; done))))
    (first
     | (go_at_call 61; refine (HFO.out _).mono ?_; rintro e w2 ⟨rfl, hk2⟩; have hz2 := hk2.size; have a4 := (hk2.cell lg (fun h => h)).trans a4; have a5 := (hk2.cell lg (fun h => h)).trans a5; have p0 := (hk2.cell lh (fun h => h)).trans p0; have p1 := (hk2.cell lh (fun h => h)).trans p1; have p2 := (hk2.cell lh (fun h => h)).trans p2; have p3 := (hk2.cell lh (fun h => h)).trans p3; have p4 := (hk2.cell lh (fun h => h)).trans p4; have p5 := (hk2.cell lh (fun h => h)).trans p5; have p6 := (hk2.cell lh (fun h => h)).trans p6; have d2 := (hk2.cell lb2 (fun h => h)).trans d2; have d3 := (hk2.cell lb3 (fun h => h)).trans d3; have HK2 := hH hk2; clear hk2; have hz2' : W1.heap.size ≤ w2.heap.size := hz2)
     | (refine step_append_own (P := Tryd.prog) rfl _ _ 63 rfl w1.heap.size 59 i0 .nilIface 1 16 Tryd.underlying63 HI.out HZ0.out HZ1.out HZ2.out rfl (by decide) u3 k (fatesL x k) rfl (ownsRow_keeps HOW.out (((Keeps.refl noBlk W1).drewN 1).trans HK2.out |>.alloc _) (fun _ _ h => h)) ⟨w2.heap.size, 0, none⟩ 1 1 [.iface ft (.agg #[.int .i64 s, .int .i64 kd, .int .i64 f, .int .i64 t, .int .i64 m, .int .i64 u, .int .i64 v])] rfl rfl (by intro j y hj; match j, hj with | 0, hj => (simp at hj; subst hj; simp [Addr.add])) (by intro y hy; simp at hy; subst hy; rfl) (by unfold maxLen; omega) (by omega) (by simp; omega) ?_; intro v3 w3 hown3 hgr3; have hk3 := ((Keeps.refl (fun b => u3.ownBlock = some b) w2).alloc _).trans (Keeps.of_grown hgr3); have a4 := (hk3.cell (Nat.lt_of_lt_of_le lg hz2') ng).trans a4; have a5 := (hk3.cell (Nat.lt_of_lt_of_le lg hz2') ng).trans a5; have p0 := (hk3.cell (Nat.lt_of_lt_of_le lh hz2') nh).trans p0; have p1 := (hk3.cell (Nat.lt_of_lt_of_le lh hz2') nh).trans p1; have p2 := (hk3.cell (Nat.lt_of_lt_of_le lh hz2') nh).trans p2; have p3 := (hk3.cell (Nat.lt_of_lt_of_le lh hz2') nh).trans p3; have p4 := (hk3.cell (Nat.lt_of_lt_of_le lh hz2') nh).trans p4; have p5 := (hk3.cell (Nat.lt_of_lt_of_le lh hz2') nh).trans p5; have p6 := (hk3.cell (Nat.lt_of_lt_of_le lh hz2') nh).trans p6; have d2 := (hk3.cell (Nat.lt_of_lt_of_le lb2 hz2') nb2).trans d2; have d3 := (hk3.cell (Nat.lt_of_lt_of_le lb3 hz2') nb3).trans d3; have HO3 := hH hown3; have HK3 := hH hk3; clear hown3 hgr3 hk3))
   have HKF := hH (((HKW.out.drewN 1).trans HK2.out).then HK3.out (fun i hi hT => by have := hol i hT; omega)); go_wp2; refine ⟨⟨k + 1, by omega, by go_num, ?_, HKF.out⟩, by simp [intOf]; omega⟩; rw [HFL.out]; exact HO3.out
  ·obtain rfl : k = x.sent.length := by omega
   go_wp2; go_ret; exact ⟨_, _, rfl, by rw [HG.out]; omega, HO.out, HK1.out.trans HK.out⟩
end Go.Proofs.YtjcbeihoeanhaaaDoor
