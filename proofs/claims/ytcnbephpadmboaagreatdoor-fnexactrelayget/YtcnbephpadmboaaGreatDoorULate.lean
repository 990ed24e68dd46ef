/- l13Settle of the model: a packet of a chain is settled, and given back, or not. l13Late, l13Tell of the model. l13Tell of the model. l13Pay of the model: who gets a packet is paid. -/
import Derived.Test.YtcnbephpadmboaaGreatDoorUGMi
import Derived.Deep.RegionHeld3
set_option linter.unusedVariables false
set_option linter.unusedSimpArgs false
/-! GSettle -/
namespace Go.Proofs.YtcnbephpadmboaaGreatDoor
open Go.RowKit

/-- Row k of a list of bools is set: the row in memory. -/
theorem Rw.setB {G : Nat → Nat} {r : Nat} {w : World} {e : TypeId} {g c k : Nat} {xs : List Bool} (h : Rw G r w e 1 (.slice (some ⟨g, 0, none⟩) xs.length c) xs.length (vBs xs)) (hk : k < xs.length) (y : Bool) :
    Rw G r (w.setCell ⟨g, k, none⟩ (.bool y)) e 1 (.slice (some ⟨g, 0, none⟩) (xs.set k y).length c) (xs.set k y).length (vBs (xs.set k y)) := by
  refine ⟨?_, fun b hb => h.2 b (by simpa [Value.ownBlock] using hb)⟩
  obtain ⟨hl, h2⟩ := h.1
  rcases h2 with ⟨h0, _⟩ | ⟨g', cap', cur, hv, hb, hg, hc, hm, hs, ht⟩
  · cases h0
  · cases hv
    have hB : Box w g e cur := hg
    have hB2 := hB.set_ k (.bool y)
    refine ⟨by simp [vBs_length], .inr ⟨g, c, _, by rw [List.length_set], hb, hB2, by rw [List.length_set]; exact hc, hm, by simpa using hs, ?_⟩⟩
    rw [List.length_set]
    apply List.ext_getElem?
    intro j
    have hj0 : (cur.toList.take (xs.length * 1))[j]? = (vBs xs)[j]? := by rw [ht]
    rw [List.getElem?_take] at hj0 ⊢
    simp only [vBs, List.getElem?_map, List.getElem?_set, Array.toList_setIfInBounds, Nat.mul_one] at hj0 ⊢
    by_cases hjk : k = j
    · subst hjk
      have hks : k < cur.size := by omega
      simp [hk, hks]
    · rw [if_neg hjk, if_neg hjk]
      exact hj0
/-- The state's rows, one of them turned. -/
theorem Rw.at_ {G : Nat → Nat} {r : Nat} {w : World} {e : TypeId} {sz n c : Nat} {A : Option Addr} {xs : List Value} (h : Rw G r w e sz (.slice A n c) n xs) (hn : 0 < n) :
    ∃ g, A = some ⟨g, 0, none⟩ ∧ g < w.heap.size ∧ G g = r := by
  obtain ⟨_, h1, h2⟩ := owns_cells h.1
  cases A with
  | none => have := (h1 rfl).1; omega
  | some a =>
    obtain ⟨g, rfl, hg, _⟩ := h2 a rfl
    exact ⟨g, rfl, hg, h.2 g rfl⟩
end Go.Proofs.YtcnbephpadmboaaGreatDoor

/-! GLate -/
namespace Go.Proofs.YtcnbephpadmboaaGreatDoor
open Go.RowKit

/-- A state whose packets are ok, with as many fates. -/
structure StFit (x : StL) : Prop where
  n8 : x.sent.length ≤ 8
  live : x.live.length = x.sent.length
  back : x.back.length = x.sent.length
  got : x.got.length = 8
  pk : ∀ k, k < x.sent.length → kindB (x.sent.getD k pk0).k = true ∧ userB (x.sent.getD k pk0).f = true ∧ 0 ≤ (x.sent.getD k pk0).m ∧ (x.sent.getD k pk0).m ≤ 1000
def RetLate (G : Nat → Nat) (i : Nat) (w : World) (c : ChM) (o : Bool) (e : Ending) (w' : World) : Prop :=
  ∃ G' : Nat → Nat, e = .returned (.tuple #[c.val, .bool o]) ∧ (∀ b, b < w.heap.size → G' b = G b) ∧ ChR G' i w' c ∧ Keeps (Mt G i) w w'
theorem late_end {G G0 : Nat → Nat} {i : Nat} {w W : World} {c : ChM} {o : Bool} (hG : ∀ b, b < w.heap.size → G0 b = G b) (hC : ChR G0 i w c) (hk : Keeps noBlk w W) : RetLate G i w c o (.returned (.tuple #[c.val, .bool o])) W :=
  ⟨G0, rfl, hG, hC.kept hk, hk.more fun _ _ h => h.elim⟩
end Go.Proofs.YtcnbephpadmboaaGreatDoor

/-! GTell -/
namespace Go.Proofs.YtcnbephpadmboaaGreatDoor
open Go.RowKit

end Go.Proofs.YtcnbephpadmboaaGreatDoor

/-! GPay -/
namespace Go.Proofs.YtcnbephpadmboaaGreatDoor
open Go.RowKit

def payK (p : Pk) : Int := if p.k = 2 then 1 else 2
def payOk (b : BankL) (p : Pk) : Bool := !decide (p.t = 0) && decide (p.m ≤ room b (payK p))
def payB (b : BankL) (p : Pk) : BankL := if p.t = 0 then b else turnB b (payK p) p.t p.m
def payN (b : BankL) (p : Pk) : Int := if payOk b p = true then 1 else 2
def RetPay (G : Nat → Nat) (i : Nat) (w : World) (s : BkM) (b : BankL) (n : Int) (e : Ending) (w' : World) : Prop :=
  e = .returned (.tuple #[({ s with b := b } : BkM).val, .int .i64 n]) ∧ BkR G (rl i) w' { s with b := b } ∧ Keeps (MtB G i) w w'
theorem pay_end {G : Nat → Nat} {i : Nat} {w W : World} {s : BkM} {n : Int} (h : BkR G (rl i) w s) (hk : Keeps noBlk w W) : RetPay G i w s s.b n (.returned (.tuple #[s.val, .int .i64 n])) W :=
  ⟨rfl, h.keeps hk fun _ _ _ _ _ h => h, hk.more fun _ _ h => h.elim⟩
theorem pay_turn {G : Nat → Nat} {i : Nat} {w w1 W : World} {s : BkM} {b : BankL} {n : Int} (hG : ∀ b, w.heap.size ≤ b → G b = 0) (h : BkR G (rl i) w1 { s with b := b }) (hk : Keeps (MtB G i) w w1) (hk2 : Keeps (fun b => w.heap.size ≤ b) w1 W) :
    RetPay G i w s b n (.returned (.tuple #[({ s with b := b } : BkM).val, .int .i64 n])) W :=
  ⟨rfl, h.keeps hk2 fun b k _ _ e e' => by rw [hG b e'] at e; unfold rl at e; omega, hk.then hk2 fun b hb e => by omega⟩
set_option maxRecDepth 100000 in
set_option maxHeartbeats 4000000 in
theorem l13Pay_zero1 (G : Nat → Nat) (i : Nat) (s : BkM) (p : Pk) (w : World) (h : BkR G (rl i) w s) (hG : ∀ b, w.heap.size ≤ b → G b = 0) (hq : okB s.b = true) (hk : p.k = 2) (ht : p.t = 0) :
    Calls Tryz.prog 73 #[s.val, p.val] w (RetPay G i w s (s.b) (2)) := by
  have HB := Lib.hid h
  have HQ := Lib.hid hq
  have HG := Lib.hid hG
  clear h hq hG
  have HBB := Lib.hid (((Box.new w (w.heap.size) (by simp) 36 #[.slice s.A1 s.b.own.length s.c1, .slice s.A2 s.b.notes.length s.c2, .int .i64 s.b.locked]).alloc (.cells #[.int .i64 p.s, .int .i64 p.k, .int .i64 p.f, .int .i64 p.t, .int .i64 p.m, .int .i64 p.u, .int .i64 p.v] 47)).alloc (.cells #[.slice none 0 0, .slice none 0 0, .int .i64 0] 36))
  have HBP := Lib.hid ((Box.new (w.alloc (.cells #[.slice s.A1 s.b.own.length s.c1, .slice s.A2 s.b.notes.length s.c2, .int .i64 s.b.locked] 36)) (w.heap.size + 1) (by simp) 47 #[.int .i64 p.s, .int .i64 p.k, .int .i64 p.f, .int .i64 p.t, .int .i64 p.m, .int .i64 p.u, .int .i64 p.v]).alloc (.cells #[.slice none 0 0, .slice none 0 0, .int .i64 0] 36))
  have HBZ := Lib.hid (Box.new ((w.alloc (.cells #[.slice s.A1 s.b.own.length s.c1, .slice s.A2 s.b.notes.length s.c2, .int .i64 s.b.locked] 36)).alloc (.cells #[.int .i64 p.s, .int .i64 p.k, .int .i64 p.f, .int .i64 p.t, .int .i64 p.m, .int .i64 p.u, .int .i64 p.v] 47)) (w.heap.size + 1 + 1) (by simp) 36 #[.slice none 0 0, .slice none 0 0, .int .i64 0])
  have HK := Lib.hid ((((Keeps.refl (noBlk) w).alloc (.cells #[.slice s.A1 s.b.own.length s.c1, .slice s.A2 s.b.notes.length s.c2, .int .i64 s.b.locked] 36)).alloc (.cells #[.int .i64 p.s, .int .i64 p.k, .int .i64 p.f, .int .i64 p.t, .int .i64 p.m, .int .i64 p.u, .int .i64 p.v] 47)).alloc (.cells #[.slice none 0 0, .slice none 0 0, .int .i64 0] 36))
  have hsz : w.heap.size + 3 ≤ (((w.alloc (.cells #[.slice s.A1 s.b.own.length s.c1, .slice s.A2 s.b.notes.length s.c2, .int .i64 s.b.locked] 36)).alloc (.cells #[.int .i64 p.s, .int .i64 p.k, .int .i64 p.f, .int .i64 p.t, .int .i64 p.m, .int .i64 p.u, .int .i64 p.v] 47)).alloc (.cells #[.slice none 0 0, .slice none 0 0, .int .i64 0] 36)).heap.size := by simp
  have e1 : (p.k == 2) = true := by simpa using hk
  have e2 : (p.t == 0) = true := by simpa using ht
  clear hk ht
  unfold BkM.val Pk.val
  go_enter Tryz.func73, Tryz.ntmps73
  go_wp2
  refine bodyPost_ret (v := .tuple #[.agg #[.slice s.A1 s.b.own.length s.c1, .slice s.A2 s.b.notes.length s.c2, .int .i64 s.b.locked], .int .i64 2]) (by simp [results, Tryz.results73, go_sem, *]) rfl ?_
  exact pay_end HB.out ((((Keeps.refl _ _).alloc _).alloc _).alloc _)
set_option maxRecDepth 100000 in
set_option maxHeartbeats 4000000 in
theorem l13Pay_zero2 (G : Nat → Nat) (i : Nat) (s : BkM) (p : Pk) (w : World) (h : BkR G (rl i) w s) (hG : ∀ b, w.heap.size ≤ b → G b = 0) (hq : okB s.b = true) (hk : p.k ≠ 2) (ht : p.t = 0) :
    Calls Tryz.prog 73 #[s.val, p.val] w (RetPay G i w s (s.b) (2)) := by
  have HB := Lib.hid h
  have HQ := Lib.hid hq
  have HG := Lib.hid hG
  clear h hq hG
  have HBB := Lib.hid (((Box.new w (w.heap.size) (by simp) 36 #[.slice s.A1 s.b.own.length s.c1, .slice s.A2 s.b.notes.length s.c2, .int .i64 s.b.locked]).alloc (.cells #[.int .i64 p.s, .int .i64 p.k, .int .i64 p.f, .int .i64 p.t, .int .i64 p.m, .int .i64 p.u, .int .i64 p.v] 47)).alloc (.cells #[.slice none 0 0, .slice none 0 0, .int .i64 0] 36))
  have HBP := Lib.hid ((Box.new (w.alloc (.cells #[.slice s.A1 s.b.own.length s.c1, .slice s.A2 s.b.notes.length s.c2, .int .i64 s.b.locked] 36)) (w.heap.size + 1) (by simp) 47 #[.int .i64 p.s, .int .i64 p.k, .int .i64 p.f, .int .i64 p.t, .int .i64 p.m, .int .i64 p.u, .int .i64 p.v]).alloc (.cells #[.slice none 0 0, .slice none 0 0, .int .i64 0] 36))
  have HBZ := Lib.hid (Box.new ((w.alloc (.cells #[.slice s.A1 s.b.own.length s.c1, .slice s.A2 s.b.notes.length s.c2, .int .i64 s.b.locked] 36)).alloc (.cells #[.int .i64 p.s, .int .i64 p.k, .int .i64 p.f, .int .i64 p.t, .int .i64 p.m, .int .i64 p.u, .int .i64 p.v] 47)) (w.heap.size + 1 + 1) (by simp) 36 #[.slice none 0 0, .slice none 0 0, .int .i64 0])
  have HK := Lib.hid ((((Keeps.refl (noBlk) w).alloc (.cells #[.slice s.A1 s.b.own.length s.c1, .slice s.A2 s.b.notes.length s.c2, .int .i64 s.b.locked] 36)).alloc (.cells #[.int .i64 p.s, .int .i64 p.k, .int .i64 p.f, .int .i64 p.t, .int .i64 p.m, .int .i64 p.u, .int .i64 p.v] 47)).alloc (.cells #[.slice none 0 0, .slice none 0 0, .int .i64 0] 36))
  have hsz : w.heap.size + 3 ≤ (((w.alloc (.cells #[.slice s.A1 s.b.own.length s.c1, .slice s.A2 s.b.notes.length s.c2, .int .i64 s.b.locked] 36)).alloc (.cells #[.int .i64 p.s, .int .i64 p.k, .int .i64 p.f, .int .i64 p.t, .int .i64 p.m, .int .i64 p.u, .int .i64 p.v] 47)).alloc (.cells #[.slice none 0 0, .slice none 0 0, .int .i64 0] 36)).heap.size := by simp
  have e1 : (p.k == 2) = false := by simpa using hk
  have e2 : (p.t == 0) = true := by simpa using ht
  clear hk ht
  unfold BkM.val Pk.val
  go_enter Tryz.func73, Tryz.ntmps73
  go_wp2
  refine bodyPost_ret (v := .tuple #[.agg #[.slice s.A1 s.b.own.length s.c1, .slice s.A2 s.b.notes.length s.c2, .int .i64 s.b.locked], .int .i64 2]) (by simp [results, Tryz.results73, go_sem, *]) rfl ?_
  exact pay_end HB.out ((((Keeps.refl _ _).alloc _).alloc _).alloc _)
set_option maxRecDepth 100000 in
set_option maxHeartbeats 4000000 in
theorem l13Pay_yes1 (G : Nat → Nat) (i : Nat) (s : BkM) (p : Pk) (w : World) (h : BkR G (rl i) w s) (hG : ∀ b, w.heap.size ≤ b → G b = 0) (hq : okB s.b = true) (hk : p.k = 2) (ht : p.t ≠ 0) (hu : userB p.t = true) (hm0 : 0 ≤ p.m) (hm1 : p.m ≤ 1000) (hr : p.m ≤ room s.b 1) :
    Calls Tryz.prog 73 #[s.val, p.val] w (RetPay G i w s (turnB s.b 1 p.t p.m) (1)) := by
  have HB := Lib.hid h
  have HQ := Lib.hid hq
  have HG := Lib.hid hG
  clear h hq hG
  have HBB := Lib.hid (((Box.new w (w.heap.size) (by simp) 36 #[.slice s.A1 s.b.own.length s.c1, .slice s.A2 s.b.notes.length s.c2, .int .i64 s.b.locked]).alloc (.cells #[.int .i64 p.s, .int .i64 p.k, .int .i64 p.f, .int .i64 p.t, .int .i64 p.m, .int .i64 p.u, .int .i64 p.v] 47)).alloc (.cells #[.slice none 0 0, .slice none 0 0, .int .i64 0] 36))
  have HBP := Lib.hid ((Box.new (w.alloc (.cells #[.slice s.A1 s.b.own.length s.c1, .slice s.A2 s.b.notes.length s.c2, .int .i64 s.b.locked] 36)) (w.heap.size + 1) (by simp) 47 #[.int .i64 p.s, .int .i64 p.k, .int .i64 p.f, .int .i64 p.t, .int .i64 p.m, .int .i64 p.u, .int .i64 p.v]).alloc (.cells #[.slice none 0 0, .slice none 0 0, .int .i64 0] 36))
  have HBZ := Lib.hid (Box.new ((w.alloc (.cells #[.slice s.A1 s.b.own.length s.c1, .slice s.A2 s.b.notes.length s.c2, .int .i64 s.b.locked] 36)).alloc (.cells #[.int .i64 p.s, .int .i64 p.k, .int .i64 p.f, .int .i64 p.t, .int .i64 p.m, .int .i64 p.u, .int .i64 p.v] 47)) (w.heap.size + 1 + 1) (by simp) 36 #[.slice none 0 0, .slice none 0 0, .int .i64 0])
  have HK := Lib.hid ((((Keeps.refl (noBlk) w).alloc (.cells #[.slice s.A1 s.b.own.length s.c1, .slice s.A2 s.b.notes.length s.c2, .int .i64 s.b.locked] 36)).alloc (.cells #[.int .i64 p.s, .int .i64 p.k, .int .i64 p.f, .int .i64 p.t, .int .i64 p.m, .int .i64 p.u, .int .i64 p.v] 47)).alloc (.cells #[.slice none 0 0, .slice none 0 0, .int .i64 0] 36))
  have hsz : w.heap.size + 3 ≤ (((w.alloc (.cells #[.slice s.A1 s.b.own.length s.c1, .slice s.A2 s.b.notes.length s.c2, .int .i64 s.b.locked] 36)).alloc (.cells #[.int .i64 p.s, .int .i64 p.k, .int .i64 p.f, .int .i64 p.t, .int .i64 p.m, .int .i64 p.u, .int .i64 p.v] 47)).alloc (.cells #[.slice none 0 0, .slice none 0 0, .int .i64 0] 36)).heap.size := by simp
  have e1 : (p.k == 2) = true := by simpa using hk
  have e2 : (p.t == 0) = false := by simpa using ht
  clear hk ht
  have HTB := Lib.hid (l1Back_g G i s 1 p.t p.m _ (HB.out.keeps HK.out (fun _ _ _ _ _ h => h)) HQ.out (by decide) hu hm0 hm1)
  rw [decide_eq_true hr] at HTB
  clear hr
  generalize turnB s.b 1 p.t p.m = b' at HTB ⊢
  obtain ⟨own', notes', lk'⟩ := b'
  unfold RetBk at HTB
  unfold BkM.val at HTB ⊢
  unfold Pk.val
  dsimp only at HTB
  go_enter Tryz.func73, Tryz.ntmps73
  go_wp2_with fail
  refine HTB.out.mono ?_
  rintro e w1 ⟨rfl, hb1, hk1⟩
  have hbz := HBZ.out.keeps hk1 (fun e' => by rcases e' with e' | e' <;> (rw [HG.out _ (by omega)] at e'; unfold rl at e'; omega))
  have hbb := HBB.out.keeps hk1 (fun e' => by rcases e' with e' | e' <;> (rw [HG.out _ (by omega)] at e'; unfold rl at e'; omega))
  have z0 := hbz.cell 0
  have zf0 := hbz.frozen 0
  have b0 := hbb.cell 0
  have z1 := hbz.cell 1
  have zf1 := hbz.frozen 1
  have b1 := hbb.cell 1
  have z2 := hbz.cell 2
  have zf2 := hbz.frozen 2
  have b2 := hbb.cell 2
  simp at z0 b0 z1 b1 z2 b2
  have zz := hbz.lt
  have zb : w.heap.size < w1.heap.size := hbb.lt
  have HB1 := Lib.hid hb1
  have HK1 := Lib.hid ((HK.out.more (T := MtB G i) fun _ _ h => h.elim).trans hk1)
  clear hbz hbb hb1 hk1 HTB HBB HBZ HBP
  have : w.heap.size < w1.heap.size + 1 := by omega
  have : ¬ w.heap.size = w1.heap.size := by omega
  have : ¬ w1.heap.size = w.heap.size := by omega
  have : w.heap.size + 1 + 1 < w1.heap.size + 1 := by omega
  have : ¬ w.heap.size + 1 + 1 = w1.heap.size := by omega
  have : ¬ w1.heap.size = w.heap.size + 1 + 1 := by omega
  go_wp2
  refine bodyPost_ret (v := .tuple #[.agg #[.slice s.A1 own'.length s.c1, .slice s.A2 notes'.length s.c2, .int .i64 lk'], .int .i64 1]) (by simp [results, Tryz.results73, go_sem, *]) rfl ?_
  exact pay_turn HG.out HB1.out HK1.out ((((((Keeps.refl (fun b => w.heap.size ≤ b) w1)).setCell (p := ⟨w.heap.size + 1 + 1, 0, none⟩) (.inr (by dsimp only; omega)) _).setCell (p := ⟨w.heap.size + 1 + 1, 1, none⟩) (.inr (by dsimp only; omega)) _).setCell (p := ⟨w.heap.size + 1 + 1, 2, none⟩) (.inr (by dsimp only; omega)) _).alloc _)
set_option maxRecDepth 100000 in
set_option maxHeartbeats 4000000 in
theorem l13Pay_no1 (G : Nat → Nat) (i : Nat) (s : BkM) (p : Pk) (w : World) (h : BkR G (rl i) w s) (hG : ∀ b, w.heap.size ≤ b → G b = 0) (hq : okB s.b = true) (hk : p.k = 2) (ht : p.t ≠ 0) (hu : userB p.t = true) (hm0 : 0 ≤ p.m) (hm1 : p.m ≤ 1000) (hr : ¬ p.m ≤ room s.b 1) :
    Calls Tryz.prog 73 #[s.val, p.val] w (RetPay G i w s (s.b) (2)) := by
  have HB := Lib.hid h
  have HQ := Lib.hid hq
  have HG := Lib.hid hG
  clear h hq hG
  have HBB := Lib.hid (((Box.new w (w.heap.size) (by simp) 36 #[.slice s.A1 s.b.own.length s.c1, .slice s.A2 s.b.notes.length s.c2, .int .i64 s.b.locked]).alloc (.cells #[.int .i64 p.s, .int .i64 p.k, .int .i64 p.f, .int .i64 p.t, .int .i64 p.m, .int .i64 p.u, .int .i64 p.v] 47)).alloc (.cells #[.slice none 0 0, .slice none 0 0, .int .i64 0] 36))
  have HBP := Lib.hid ((Box.new (w.alloc (.cells #[.slice s.A1 s.b.own.length s.c1, .slice s.A2 s.b.notes.length s.c2, .int .i64 s.b.locked] 36)) (w.heap.size + 1) (by simp) 47 #[.int .i64 p.s, .int .i64 p.k, .int .i64 p.f, .int .i64 p.t, .int .i64 p.m, .int .i64 p.u, .int .i64 p.v]).alloc (.cells #[.slice none 0 0, .slice none 0 0, .int .i64 0] 36))
  have HBZ := Lib.hid (Box.new ((w.alloc (.cells #[.slice s.A1 s.b.own.length s.c1, .slice s.A2 s.b.notes.length s.c2, .int .i64 s.b.locked] 36)).alloc (.cells #[.int .i64 p.s, .int .i64 p.k, .int .i64 p.f, .int .i64 p.t, .int .i64 p.m, .int .i64 p.u, .int .i64 p.v] 47)) (w.heap.size + 1 + 1) (by simp) 36 #[.slice none 0 0, .slice none 0 0, .int .i64 0])
  have HK := Lib.hid ((((Keeps.refl (noBlk) w).alloc (.cells #[.slice s.A1 s.b.own.length s.c1, .slice s.A2 s.b.notes.length s.c2, .int .i64 s.b.locked] 36)).alloc (.cells #[.int .i64 p.s, .int .i64 p.k, .int .i64 p.f, .int .i64 p.t, .int .i64 p.m, .int .i64 p.u, .int .i64 p.v] 47)).alloc (.cells #[.slice none 0 0, .slice none 0 0, .int .i64 0] 36))
  have hsz : w.heap.size + 3 ≤ (((w.alloc (.cells #[.slice s.A1 s.b.own.length s.c1, .slice s.A2 s.b.notes.length s.c2, .int .i64 s.b.locked] 36)).alloc (.cells #[.int .i64 p.s, .int .i64 p.k, .int .i64 p.f, .int .i64 p.t, .int .i64 p.m, .int .i64 p.u, .int .i64 p.v] 47)).alloc (.cells #[.slice none 0 0, .slice none 0 0, .int .i64 0] 36)).heap.size := by simp
  have e1 : (p.k == 2) = true := by simpa using hk
  have e2 : (p.t == 0) = false := by simpa using ht
  clear hk ht
  have HTB := Lib.hid (l1Back_g G i s 1 p.t p.m _ (HB.out.keeps HK.out (fun _ _ _ _ _ h => h)) HQ.out (by decide) hu hm0 hm1)
  rw [decide_eq_false hr, show turnB s.b 1 p.t p.m = s.b by unfold turnB; rw [if_neg hr]] at HTB
  clear hr
  unfold RetBk at HTB
  unfold BkM.val at HTB ⊢
  unfold Pk.val
  dsimp only at HTB
  go_enter Tryz.func73, Tryz.ntmps73
  go_wp2_with fail
  refine HTB.out.mono ?_
  rintro e w1 ⟨rfl, hb1, hk1⟩
  have hbz := HBZ.out.keeps hk1 (fun e' => by rcases e' with e' | e' <;> (rw [HG.out _ (by omega)] at e'; unfold rl at e'; omega))
  have hbb := HBB.out.keeps hk1 (fun e' => by rcases e' with e' | e' <;> (rw [HG.out _ (by omega)] at e'; unfold rl at e'; omega))
  have z0 := hbz.cell 0
  have zf0 := hbz.frozen 0
  have b0 := hbb.cell 0
  have z1 := hbz.cell 1
  have zf1 := hbz.frozen 1
  have b1 := hbb.cell 1
  have z2 := hbz.cell 2
  have zf2 := hbz.frozen 2
  have b2 := hbb.cell 2
  simp at z0 b0 z1 b1 z2 b2
  have zz := hbz.lt
  have zb : w.heap.size < w1.heap.size := hbb.lt
  have HB1 := Lib.hid hb1
  have HK1 := Lib.hid ((HK.out.more (T := MtB G i) fun _ _ h => h.elim).trans hk1)
  clear hbz hbb hb1 hk1 HTB HBB HBZ HBP
  have : w.heap.size < w1.heap.size + 1 := by omega
  have : ¬ w.heap.size = w1.heap.size := by omega
  have : ¬ w1.heap.size = w.heap.size := by omega
  have : w.heap.size + 1 + 1 < w1.heap.size + 1 := by omega
  have : ¬ w.heap.size + 1 + 1 = w1.heap.size := by omega
  have : ¬ w1.heap.size = w.heap.size + 1 + 1 := by omega
  go_wp2
  refine bodyPost_ret (v := .tuple #[.agg #[.slice s.A1 s.b.own.length s.c1, .slice s.A2 s.b.notes.length s.c2, .int .i64 s.b.locked], .int .i64 2]) (by simp [results, Tryz.results73, go_sem, *]) rfl ?_
  exact pay_turn HG.out HB1.out HK1.out ((((((Keeps.refl (fun b => w.heap.size ≤ b) w1)).setCell (p := ⟨w.heap.size + 1 + 1, 0, none⟩) (.inr (by dsimp only; omega)) _).setCell (p := ⟨w.heap.size + 1 + 1, 1, none⟩) (.inr (by dsimp only; omega)) _).setCell (p := ⟨w.heap.size + 1 + 1, 2, none⟩) (.inr (by dsimp only; omega)) _).alloc _)
set_option maxRecDepth 100000 in
set_option maxHeartbeats 4000000 in
theorem l13Pay_yes2 (G : Nat → Nat) (i : Nat) (s : BkM) (p : Pk) (w : World) (h : BkR G (rl i) w s) (hG : ∀ b, w.heap.size ≤ b → G b = 0) (hq : okB s.b = true) (hk : p.k ≠ 2) (ht : p.t ≠ 0) (hu : userB p.t = true) (hm0 : 0 ≤ p.m) (hm1 : p.m ≤ 1000) (hr : p.m ≤ room s.b 2) :
    Calls Tryz.prog 73 #[s.val, p.val] w (RetPay G i w s (turnB s.b 2 p.t p.m) (1)) := by
  have HB := Lib.hid h
  have HQ := Lib.hid hq
  have HG := Lib.hid hG
  clear h hq hG
  have HBB := Lib.hid (((Box.new w (w.heap.size) (by simp) 36 #[.slice s.A1 s.b.own.length s.c1, .slice s.A2 s.b.notes.length s.c2, .int .i64 s.b.locked]).alloc (.cells #[.int .i64 p.s, .int .i64 p.k, .int .i64 p.f, .int .i64 p.t, .int .i64 p.m, .int .i64 p.u, .int .i64 p.v] 47)).alloc (.cells #[.slice none 0 0, .slice none 0 0, .int .i64 0] 36))
  have HBP := Lib.hid ((Box.new (w.alloc (.cells #[.slice s.A1 s.b.own.length s.c1, .slice s.A2 s.b.notes.length s.c2, .int .i64 s.b.locked] 36)) (w.heap.size + 1) (by simp) 47 #[.int .i64 p.s, .int .i64 p.k, .int .i64 p.f, .int .i64 p.t, .int .i64 p.m, .int .i64 p.u, .int .i64 p.v]).alloc (.cells #[.slice none 0 0, .slice none 0 0, .int .i64 0] 36))
  have HBZ := Lib.hid (Box.new ((w.alloc (.cells #[.slice s.A1 s.b.own.length s.c1, .slice s.A2 s.b.notes.length s.c2, .int .i64 s.b.locked] 36)).alloc (.cells #[.int .i64 p.s, .int .i64 p.k, .int .i64 p.f, .int .i64 p.t, .int .i64 p.m, .int .i64 p.u, .int .i64 p.v] 47)) (w.heap.size + 1 + 1) (by simp) 36 #[.slice none 0 0, .slice none 0 0, .int .i64 0])
  have HK := Lib.hid ((((Keeps.refl (noBlk) w).alloc (.cells #[.slice s.A1 s.b.own.length s.c1, .slice s.A2 s.b.notes.length s.c2, .int .i64 s.b.locked] 36)).alloc (.cells #[.int .i64 p.s, .int .i64 p.k, .int .i64 p.f, .int .i64 p.t, .int .i64 p.m, .int .i64 p.u, .int .i64 p.v] 47)).alloc (.cells #[.slice none 0 0, .slice none 0 0, .int .i64 0] 36))
  have hsz : w.heap.size + 3 ≤ (((w.alloc (.cells #[.slice s.A1 s.b.own.length s.c1, .slice s.A2 s.b.notes.length s.c2, .int .i64 s.b.locked] 36)).alloc (.cells #[.int .i64 p.s, .int .i64 p.k, .int .i64 p.f, .int .i64 p.t, .int .i64 p.m, .int .i64 p.u, .int .i64 p.v] 47)).alloc (.cells #[.slice none 0 0, .slice none 0 0, .int .i64 0] 36)).heap.size := by simp
  have e1 : (p.k == 2) = false := by simpa using hk
  have e2 : (p.t == 0) = false := by simpa using ht
  clear hk ht
  have HTB := Lib.hid (l1Back_g G i s 2 p.t p.m _ (HB.out.keeps HK.out (fun _ _ _ _ _ h => h)) HQ.out (by decide) hu hm0 hm1)
  rw [decide_eq_true hr] at HTB
  clear hr
  generalize turnB s.b 2 p.t p.m = b' at HTB ⊢
  obtain ⟨own', notes', lk'⟩ := b'
  unfold RetBk at HTB
  unfold BkM.val at HTB ⊢
  unfold Pk.val
  dsimp only at HTB
  go_enter Tryz.func73, Tryz.ntmps73
  go_wp2_with fail
  refine HTB.out.mono ?_
  rintro e w1 ⟨rfl, hb1, hk1⟩
  have hbz := HBZ.out.keeps hk1 (fun e' => by rcases e' with e' | e' <;> (rw [HG.out _ (by omega)] at e'; unfold rl at e'; omega))
  have hbb := HBB.out.keeps hk1 (fun e' => by rcases e' with e' | e' <;> (rw [HG.out _ (by omega)] at e'; unfold rl at e'; omega))
  have z0 := hbz.cell 0
  have zf0 := hbz.frozen 0
  have b0 := hbb.cell 0
  have z1 := hbz.cell 1
  have zf1 := hbz.frozen 1
  have b1 := hbb.cell 1
  have z2 := hbz.cell 2
  have zf2 := hbz.frozen 2
  have b2 := hbb.cell 2
  simp at z0 b0 z1 b1 z2 b2
  have zz := hbz.lt
  have zb : w.heap.size < w1.heap.size := hbb.lt
  have HB1 := Lib.hid hb1
  have HK1 := Lib.hid ((HK.out.more (T := MtB G i) fun _ _ h => h.elim).trans hk1)
  clear hbz hbb hb1 hk1 HTB HBB HBZ HBP
  have : w.heap.size < w1.heap.size + 1 := by omega
  have : ¬ w.heap.size = w1.heap.size := by omega
  have : ¬ w1.heap.size = w.heap.size := by omega
  have : w.heap.size + 1 + 1 < w1.heap.size + 1 := by omega
  have : ¬ w.heap.size + 1 + 1 = w1.heap.size := by omega
  have : ¬ w1.heap.size = w.heap.size + 1 + 1 := by omega
  go_wp2
  refine bodyPost_ret (v := .tuple #[.agg #[.slice s.A1 own'.length s.c1, .slice s.A2 notes'.length s.c2, .int .i64 lk'], .int .i64 1]) (by simp [results, Tryz.results73, go_sem, *]) rfl ?_
  exact pay_turn HG.out HB1.out HK1.out ((((((Keeps.refl (fun b => w.heap.size ≤ b) w1)).setCell (p := ⟨w.heap.size + 1 + 1, 0, none⟩) (.inr (by dsimp only; omega)) _).setCell (p := ⟨w.heap.size + 1 + 1, 1, none⟩) (.inr (by dsimp only; omega)) _).setCell (p := ⟨w.heap.size + 1 + 1, 2, none⟩) (.inr (by dsimp only; omega)) _).alloc _)
set_option maxRecDepth 100000 in
set_option maxHeartbeats 4000000 in
theorem l13Pay_no2 (G : Nat → Nat) (i : Nat) (s : BkM) (p : Pk) (w : World) (h : BkR G (rl i) w s) (hG : ∀ b, w.heap.size ≤ b → G b = 0) (hq : okB s.b = true) (hk : p.k ≠ 2) (ht : p.t ≠ 0) (hu : userB p.t = true) (hm0 : 0 ≤ p.m) (hm1 : p.m ≤ 1000) (hr : ¬ p.m ≤ room s.b 2) :
    Calls Tryz.prog 73 #[s.val, p.val] w (RetPay G i w s (s.b) (2)) := by
  have HB := Lib.hid h
  have HQ := Lib.hid hq
  have HG := Lib.hid hG
  clear h hq hG
  have HBB := Lib.hid (((Box.new w (w.heap.size) (by simp) 36 #[.slice s.A1 s.b.own.length s.c1, .slice s.A2 s.b.notes.length s.c2, .int .i64 s.b.locked]).alloc (.cells #[.int .i64 p.s, .int .i64 p.k, .int .i64 p.f, .int .i64 p.t, .int .i64 p.m, .int .i64 p.u, .int .i64 p.v] 47)).alloc (.cells #[.slice none 0 0, .slice none 0 0, .int .i64 0] 36))
  have HBP := Lib.hid ((Box.new (w.alloc (.cells #[.slice s.A1 s.b.own.length s.c1, .slice s.A2 s.b.notes.length s.c2, .int .i64 s.b.locked] 36)) (w.heap.size + 1) (by simp) 47 #[.int .i64 p.s, .int .i64 p.k, .int .i64 p.f, .int .i64 p.t, .int .i64 p.m, .int .i64 p.u, .int .i64 p.v]).alloc (.cells #[.slice none 0 0, .slice none 0 0, .int .i64 0] 36))
  have HBZ := Lib.hid (Box.new ((w.alloc (.cells #[.slice s.A1 s.b.own.length s.c1, .slice s.A2 s.b.notes.length s.c2, .int .i64 s.b.locked] 36)).alloc (.cells #[.int .i64 p.s, .int .i64 p.k, .int .i64 p.f, .int .i64 p.t, .int .i64 p.m, .int .i64 p.u, .int .i64 p.v] 47)) (w.heap.size + 1 + 1) (by simp) 36 #[.slice none 0 0, .slice none 0 0, .int .i64 0])
  have HK := Lib.hid ((((Keeps.refl (noBlk) w).alloc (.cells #[.slice s.A1 s.b.own.length s.c1, .slice s.A2 s.b.notes.length s.c2, .int .i64 s.b.locked] 36)).alloc (.cells #[.int .i64 p.s, .int .i64 p.k, .int .i64 p.f, .int .i64 p.t, .int .i64 p.m, .int .i64 p.u, .int .i64 p.v] 47)).alloc (.cells #[.slice none 0 0, .slice none 0 0, .int .i64 0] 36))
  have hsz : w.heap.size + 3 ≤ (((w.alloc (.cells #[.slice s.A1 s.b.own.length s.c1, .slice s.A2 s.b.notes.length s.c2, .int .i64 s.b.locked] 36)).alloc (.cells #[.int .i64 p.s, .int .i64 p.k, .int .i64 p.f, .int .i64 p.t, .int .i64 p.m, .int .i64 p.u, .int .i64 p.v] 47)).alloc (.cells #[.slice none 0 0, .slice none 0 0, .int .i64 0] 36)).heap.size := by simp
  have e1 : (p.k == 2) = false := by simpa using hk
  have e2 : (p.t == 0) = false := by simpa using ht
  clear hk ht
  have HTB := Lib.hid (l1Back_g G i s 2 p.t p.m _ (HB.out.keeps HK.out (fun _ _ _ _ _ h => h)) HQ.out (by decide) hu hm0 hm1)
  rw [decide_eq_false hr, show turnB s.b 2 p.t p.m = s.b by unfold turnB; rw [if_neg hr]] at HTB
  clear hr
  unfold RetBk at HTB
  unfold BkM.val at HTB ⊢
  unfold Pk.val
  dsimp only at HTB
  go_enter Tryz.func73, Tryz.ntmps73
  go_wp2_with fail
  refine HTB.out.mono ?_
  rintro e w1 ⟨rfl, hb1, hk1⟩
  have hbz := HBZ.out.keeps hk1 (fun e' => by rcases e' with e' | e' <;> (rw [HG.out _ (by omega)] at e'; unfold rl at e'; omega))
  have hbb := HBB.out.keeps hk1 (fun e' => by rcases e' with e' | e' <;> (rw [HG.out _ (by omega)] at e'; unfold rl at e'; omega))
  have z0 := hbz.cell 0
  have zf0 := hbz.frozen 0
  have b0 := hbb.cell 0
  have z1 := hbz.cell 1
  have zf1 := hbz.frozen 1
  have b1 := hbb.cell 1
  have z2 := hbz.cell 2
  have zf2 := hbz.frozen 2
  have b2 := hbb.cell 2
  simp at z0 b0 z1 b1 z2 b2
  have zz := hbz.lt
  have zb : w.heap.size < w1.heap.size := hbb.lt
  have HB1 := Lib.hid hb1
  have HK1 := Lib.hid ((HK.out.more (T := MtB G i) fun _ _ h => h.elim).trans hk1)
  clear hbz hbb hb1 hk1 HTB HBB HBZ HBP
  have : w.heap.size < w1.heap.size + 1 := by omega
  have : ¬ w.heap.size = w1.heap.size := by omega
  have : ¬ w1.heap.size = w.heap.size := by omega
  have : w.heap.size + 1 + 1 < w1.heap.size + 1 := by omega
  have : ¬ w.heap.size + 1 + 1 = w1.heap.size := by omega
  have : ¬ w1.heap.size = w.heap.size + 1 + 1 := by omega
  go_wp2
  refine bodyPost_ret (v := .tuple #[.agg #[.slice s.A1 s.b.own.length s.c1, .slice s.A2 s.b.notes.length s.c2, .int .i64 s.b.locked], .int .i64 2]) (by simp [results, Tryz.results73, go_sem, *]) rfl ?_
  exact pay_turn HG.out HB1.out HK1.out ((((((Keeps.refl (fun b => w.heap.size ≤ b) w1)).setCell (p := ⟨w.heap.size + 1 + 1, 0, none⟩) (.inr (by dsimp only; omega)) _).setCell (p := ⟨w.heap.size + 1 + 1, 1, none⟩) (.inr (by dsimp only; omega)) _).setCell (p := ⟨w.heap.size + 1 + 1, 2, none⟩) (.inr (by dsimp only; omega)) _).alloc _)
theorem l13Pay_any (G : Nat → Nat) (i : Nat) (s : BkM) (p : Pk) (w : World) (h : BkR G (rl i) w s) (hG : ∀ b, w.heap.size ≤ b → G b = 0) (hq : okB s.b = true) (hu : p.t = 0 ∨ userB p.t = true) (hm0 : 0 ≤ p.m) (hm1 : p.m ≤ 1000) :
    Calls Tryz.prog 73 #[s.val, p.val] w (RetPay G i w s (payB s.b p) (payN s.b p)) := by
  unfold payB payN payOk payK
  by_cases ht : p.t = 0
  · rw [if_pos ht, if_neg (by simp only [ht, decide_true]; simp)]
    by_cases hk : p.k = 2
    · exact l13Pay_zero1 G i s p w h hG hq hk ht
    · exact l13Pay_zero2 G i s p w h hG hq hk ht
  · have hu := hu.resolve_left ht
    rw [if_neg ht]
    by_cases hk : p.k = 2
    · rw [if_pos hk]
      by_cases hr : p.m ≤ room s.b 1
      · rw [if_pos (by simp only [ht, hr, decide_true, decide_false]; rfl)]
        exact l13Pay_yes1 G i s p w h hG hq hk ht hu hm0 hm1 hr
      · rw [if_neg (by simp only [hr, decide_false, Bool.and_false]; decide), show turnB s.b 1 p.t p.m = s.b by unfold turnB; rw [if_neg hr]]
        exact l13Pay_no1 G i s p w h hG hq hk ht hu hm0 hm1 hr
    · rw [if_neg hk]
      by_cases hr : p.m ≤ room s.b 2
      · rw [if_pos (by simp only [ht, hr, decide_true, decide_false]; rfl)]
        exact l13Pay_yes2 G i s p w h hG hq hk ht hu hm0 hm1 hr
      · rw [if_neg (by simp only [hr, decide_false, Bool.and_false]; decide), show turnB s.b 2 p.t p.m = s.b by unfold turnB; rw [if_neg hr]]
        exact l13Pay_no2 G i s p w h hG hq hk ht hu hm0 hm1 hr
end Go.Proofs.YtcnbephpadmboaaGreatDoor
