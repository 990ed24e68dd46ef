/- The program's packet() of a linked chain, and withSent(). -/
import Derived.Test.YtbgpclicflafaaaDoorCxA
import Derived.Test.YtbgpclicflafaaaDoorUSend
import Derived.Deep.Cut
set_option linter.unusedVariables false
set_option linter.unusedSimpArgs false
namespace Go.Proofs.YtbgpclicflafaaaDoor
open Go.RowKit

set_option maxRecDepth 100000 in
set_option maxHeartbeats 4000000 in
theorem lpacket_any (c : ChM) (P : Option Addr) (kd f t m u : Int) (w : World) (hn : c.st.x.sent.length ≤ 1000) :
    Calls Tryd.prog 81 #[lkV c P, .int .i64 kd, .int .i64 f, .int .i64 t, .int .i64 m, .int .i64 u] w fun e w' => e = .returned (Pk.val ⟨(c.st.x.sent.length : Int) + 1, kd, f, t, m, u, c.st.x.ver⟩) ∧ Keeps noBlk w w' := by
  have HBr := Lib.hid (Box.new (w.alloc (.cells #[.slice c.bk.A1 c.bk.b.own.length c.bk.c1, .slice c.bk.A2 c.bk.b.notes.length c.bk.c2, .int .i64 c.bk.b.locked, .int .i64 c.id, .int .i64 c.st.x.way, .int .i64 c.st.x.ver, .int .i64 c.st.x.want, .slice c.st.A1 c.st.x.sent.length c.st.c1, .slice c.st.A2 c.st.x.live.length c.st.c2, .slice c.st.A3 c.st.x.back.length c.st.c3, .slice c.st.A4 c.st.x.got.length c.st.c4, .pointer P, .slice c.kA c.knows.length c.kc] 93)) (w.heap.size + 1) (by simp) 58 #[.int .i64 0, .int .i64 0, .int .i64 0, .int .i64 0, .int .i64 0, .int .i64 0, .int .i64 0])
  have HK := Lib.hid (((Keeps.refl noBlk w).alloc (.cells #[.slice c.bk.A1 c.bk.b.own.length c.bk.c1, .slice c.bk.A2 c.bk.b.notes.length c.bk.c2, .int .i64 c.bk.b.locked, .int .i64 c.id, .int .i64 c.st.x.way, .int .i64 c.st.x.ver, .int .i64 c.st.x.want, .slice c.st.A1 c.st.x.sent.length c.st.c1, .slice c.st.A2 c.st.x.live.length c.st.c2, .slice c.st.A3 c.st.x.back.length c.st.c3, .slice c.st.A4 c.st.x.got.length c.st.c4, .pointer P, .slice c.kA c.knows.length c.kc] 93)).alloc (.cells #[.int .i64 0, .int .i64 0, .int .i64 0, .int .i64 0, .int .i64 0, .int .i64 0, .int .i64 0] 58))
  unfold lkV
  go_enter Tryd.func81, Tryd.ntmps81
  go_wp2
  have hbF := Box.new (w.alloc (.cells #[.slice c.bk.A1 c.bk.b.own.length c.bk.c1, .slice c.bk.A2 c.bk.b.notes.length c.bk.c2, .int .i64 c.bk.b.locked, .int .i64 c.id, .int .i64 c.st.x.way, .int .i64 c.st.x.ver, .int .i64 c.st.x.want, .slice c.st.A1 c.st.x.sent.length c.st.c1, .slice c.st.A2 c.st.x.live.length c.st.c2, .slice c.st.A3 c.st.x.back.length c.st.c3, .slice c.st.A4 c.st.x.got.length c.st.c4, .pointer P, .slice c.kA c.knows.length c.kc] 93)) (w.heap.size + 1) (by simp) 58 #[.int .i64 ((c.st.x.sent.length : Int) + 1), .int .i64 kd, .int .i64 f, .int .i64 t, .int .i64 m, .int .i64 u, .int .i64 c.st.x.ver]
  have s10 : ((w.alloc (.cells #[.slice c.bk.A1 c.bk.b.own.length c.bk.c1, .slice c.bk.A2 c.bk.b.notes.length c.bk.c2, .int .i64 c.bk.b.locked, .int .i64 c.id, .int .i64 c.st.x.way, .int .i64 c.st.x.ver, .int .i64 c.st.x.want, .slice c.st.A1 c.st.x.sent.length c.st.c1, .slice c.st.A2 c.st.x.live.length c.st.c2, .slice c.st.A3 c.st.x.back.length c.st.c3, .slice c.st.A4 c.st.x.got.length c.st.c4, .pointer P, .slice c.kA c.knows.length c.kc] 93)).alloc (.cells #[.int .i64 ((c.st.x.sent.length : Int) + 1), .int .i64 kd, .int .i64 f, .int .i64 t, .int .i64 m, .int .i64 u, .int .i64 c.st.x.ver] 58)).cell? ⟨w.heap.size + 1, 0, none⟩ = some (.int .i64 ((c.st.x.sent.length : Int) + 1)) := hbF.cell 0
  have s11 : ((w.alloc (.cells #[.slice c.bk.A1 c.bk.b.own.length c.bk.c1, .slice c.bk.A2 c.bk.b.notes.length c.bk.c2, .int .i64 c.bk.b.locked, .int .i64 c.id, .int .i64 c.st.x.way, .int .i64 c.st.x.ver, .int .i64 c.st.x.want, .slice c.st.A1 c.st.x.sent.length c.st.c1, .slice c.st.A2 c.st.x.live.length c.st.c2, .slice c.st.A3 c.st.x.back.length c.st.c3, .slice c.st.A4 c.st.x.got.length c.st.c4, .pointer P, .slice c.kA c.knows.length c.kc] 93)).alloc (.cells #[.int .i64 ((c.st.x.sent.length : Int) + 1), .int .i64 kd, .int .i64 f, .int .i64 t, .int .i64 m, .int .i64 u, .int .i64 c.st.x.ver] 58)).cell? ⟨w.heap.size + 1, 1, none⟩ = some (.int .i64 kd) := hbF.cell 1
  have s12 : ((w.alloc (.cells #[.slice c.bk.A1 c.bk.b.own.length c.bk.c1, .slice c.bk.A2 c.bk.b.notes.length c.bk.c2, .int .i64 c.bk.b.locked, .int .i64 c.id, .int .i64 c.st.x.way, .int .i64 c.st.x.ver, .int .i64 c.st.x.want, .slice c.st.A1 c.st.x.sent.length c.st.c1, .slice c.st.A2 c.st.x.live.length c.st.c2, .slice c.st.A3 c.st.x.back.length c.st.c3, .slice c.st.A4 c.st.x.got.length c.st.c4, .pointer P, .slice c.kA c.knows.length c.kc] 93)).alloc (.cells #[.int .i64 ((c.st.x.sent.length : Int) + 1), .int .i64 kd, .int .i64 f, .int .i64 t, .int .i64 m, .int .i64 u, .int .i64 c.st.x.ver] 58)).cell? ⟨w.heap.size + 1, 2, none⟩ = some (.int .i64 f) := hbF.cell 2
  have s13 : ((w.alloc (.cells #[.slice c.bk.A1 c.bk.b.own.length c.bk.c1, .slice c.bk.A2 c.bk.b.notes.length c.bk.c2, .int .i64 c.bk.b.locked, .int .i64 c.id, .int .i64 c.st.x.way, .int .i64 c.st.x.ver, .int .i64 c.st.x.want, .slice c.st.A1 c.st.x.sent.length c.st.c1, .slice c.st.A2 c.st.x.live.length c.st.c2, .slice c.st.A3 c.st.x.back.length c.st.c3, .slice c.st.A4 c.st.x.got.length c.st.c4, .pointer P, .slice c.kA c.knows.length c.kc] 93)).alloc (.cells #[.int .i64 ((c.st.x.sent.length : Int) + 1), .int .i64 kd, .int .i64 f, .int .i64 t, .int .i64 m, .int .i64 u, .int .i64 c.st.x.ver] 58)).cell? ⟨w.heap.size + 1, 3, none⟩ = some (.int .i64 t) := hbF.cell 3
  have s14 : ((w.alloc (.cells #[.slice c.bk.A1 c.bk.b.own.length c.bk.c1, .slice c.bk.A2 c.bk.b.notes.length c.bk.c2, .int .i64 c.bk.b.locked, .int .i64 c.id, .int .i64 c.st.x.way, .int .i64 c.st.x.ver, .int .i64 c.st.x.want, .slice c.st.A1 c.st.x.sent.length c.st.c1, .slice c.st.A2 c.st.x.live.length c.st.c2, .slice c.st.A3 c.st.x.back.length c.st.c3, .slice c.st.A4 c.st.x.got.length c.st.c4, .pointer P, .slice c.kA c.knows.length c.kc] 93)).alloc (.cells #[.int .i64 ((c.st.x.sent.length : Int) + 1), .int .i64 kd, .int .i64 f, .int .i64 t, .int .i64 m, .int .i64 u, .int .i64 c.st.x.ver] 58)).cell? ⟨w.heap.size + 1, 4, none⟩ = some (.int .i64 m) := hbF.cell 4
  have s15 : ((w.alloc (.cells #[.slice c.bk.A1 c.bk.b.own.length c.bk.c1, .slice c.bk.A2 c.bk.b.notes.length c.bk.c2, .int .i64 c.bk.b.locked, .int .i64 c.id, .int .i64 c.st.x.way, .int .i64 c.st.x.ver, .int .i64 c.st.x.want, .slice c.st.A1 c.st.x.sent.length c.st.c1, .slice c.st.A2 c.st.x.live.length c.st.c2, .slice c.st.A3 c.st.x.back.length c.st.c3, .slice c.st.A4 c.st.x.got.length c.st.c4, .pointer P, .slice c.kA c.knows.length c.kc] 93)).alloc (.cells #[.int .i64 ((c.st.x.sent.length : Int) + 1), .int .i64 kd, .int .i64 f, .int .i64 t, .int .i64 m, .int .i64 u, .int .i64 c.st.x.ver] 58)).cell? ⟨w.heap.size + 1, 5, none⟩ = some (.int .i64 u) := hbF.cell 5
  have s16 : ((w.alloc (.cells #[.slice c.bk.A1 c.bk.b.own.length c.bk.c1, .slice c.bk.A2 c.bk.b.notes.length c.bk.c2, .int .i64 c.bk.b.locked, .int .i64 c.id, .int .i64 c.st.x.way, .int .i64 c.st.x.ver, .int .i64 c.st.x.want, .slice c.st.A1 c.st.x.sent.length c.st.c1, .slice c.st.A2 c.st.x.live.length c.st.c2, .slice c.st.A3 c.st.x.back.length c.st.c3, .slice c.st.A4 c.st.x.got.length c.st.c4, .pointer P, .slice c.kA c.knows.length c.kc] 93)).alloc (.cells #[.int .i64 ((c.st.x.sent.length : Int) + 1), .int .i64 kd, .int .i64 f, .int .i64 t, .int .i64 m, .int .i64 u, .int .i64 c.st.x.ver] 58)).cell? ⟨w.heap.size + 1, 6, none⟩ = some (.int .i64 c.st.x.ver) := hbF.cell 6
  clear hbF HBr HK
  have kS : Keeps noBlk w ((w.alloc (.cells #[.slice c.bk.A1 c.bk.b.own.length c.bk.c1, .slice c.bk.A2 c.bk.b.notes.length c.bk.c2, .int .i64 c.bk.b.locked, .int .i64 c.id, .int .i64 c.st.x.way, .int .i64 c.st.x.ver, .int .i64 c.st.x.want, .slice c.st.A1 c.st.x.sent.length c.st.c1, .slice c.st.A2 c.st.x.live.length c.st.c2, .slice c.st.A3 c.st.x.back.length c.st.c3, .slice c.st.A4 c.st.x.got.length c.st.c4, .pointer P, .slice c.kA c.knows.length c.kc] 93)).alloc (.cells #[.int .i64 ((c.st.x.sent.length : Int) + 1), .int .i64 kd, .int .i64 f, .int .i64 t, .int .i64 m, .int .i64 u, .int .i64 c.st.x.ver] 58)) := ((Keeps.refl noBlk w).alloc (.cells #[.slice c.bk.A1 c.bk.b.own.length c.bk.c1, .slice c.bk.A2 c.bk.b.notes.length c.bk.c2, .int .i64 c.bk.b.locked, .int .i64 c.id, .int .i64 c.st.x.way, .int .i64 c.st.x.ver, .int .i64 c.st.x.want, .slice c.st.A1 c.st.x.sent.length c.st.c1, .slice c.st.A2 c.st.x.live.length c.st.c2, .slice c.st.A3 c.st.x.back.length c.st.c3, .slice c.st.A4 c.st.x.got.length c.st.c4, .pointer P, .slice c.kA c.knows.length c.kc] 93)).alloc (.cells #[.int .i64 ((c.st.x.sent.length : Int) + 1), .int .i64 kd, .int .i64 f, .int .i64 t, .int .i64 m, .int .i64 u, .int .i64 c.st.x.ver] 58)
  generalize ((w.alloc (.cells #[.slice c.bk.A1 c.bk.b.own.length c.bk.c1, .slice c.bk.A2 c.bk.b.notes.length c.bk.c2, .int .i64 c.bk.b.locked, .int .i64 c.id, .int .i64 c.st.x.way, .int .i64 c.st.x.ver, .int .i64 c.st.x.want, .slice c.st.A1 c.st.x.sent.length c.st.c1, .slice c.st.A2 c.st.x.live.length c.st.c2, .slice c.st.A3 c.st.x.back.length c.st.c3, .slice c.st.A4 c.st.x.got.length c.st.c4, .pointer P, .slice c.kA c.knows.length c.kc] 93)).alloc (.cells #[.int .i64 ((c.st.x.sent.length : Int) + 1), .int .i64 kd, .int .i64 f, .int .i64 t, .int .i64 m, .int .i64 u, .int .i64 c.st.x.ver] 58)) = WF at kS s10 s11 s12 s13 s14 s15 s16 ⊢
  refine bodyPost_ret (v := Pk.val ⟨(c.st.x.sent.length : Int) + 1, kd, f, t, m, u, c.st.x.ver⟩) (by simp [results, Tryd.results81, go_sem, Pk.val, s10, s11, s12, s13, s14, s15, s16]) rfl ?_
  exact ⟨rfl, kS⟩

/-- A state with one more packet. -/
def sentX (x : StL) (p : Pk) : StL := { x with sent := x.sent ++ [p], live := x.live ++ [true], back := x.back ++ [false] }
def RetSt1 (w : World) (x : StL) (e : Ending) (w' : World) : Prop := ∃ t : StM, e = .returned t.val ∧ t.x = x ∧ t.At w' ∧ (∀ b, t.bl b → w.heap.size ≤ b) ∧ Keeps noBlk w w'
/-- A row is left where a row of another role is made longer. -/
theorem rw_stay {G : Nat → Nat} {r r' : Nat} {W w' : World} {e : TypeId} {sz n : Nat} {v : Value} {xs : List Value} {u : Value} (h : Rw G r W e sz v n xs) (hu : ∀ g, u.ownBlock = some g → G g = r') (hr : r ≠ r') (hk : Keeps (fun b => u.ownBlock = some b) W w') : Rw (up G W.heap.size r') r w' e sz v n xs := by
  refine ⟨owns_keeps h.1 hk fun b hb hS => ?_, fun g hg => by rw [up_old (h.lt hg)]; exact h.2 g hg⟩
  have q1 := h.2 b hb
  have q2 := hu b hS
  exact hr (q1.symm.trans q2)
/-- .. and where a box is written. -/
theorem rw_box {G : Nat → Nat} {r : Nat} {W w' : World} {S : Nat → Prop} {e : TypeId} {sz n : Nat} {v : Value} {xs : List Value} (h : Rw G r W e sz v n xs) (hr : r ≠ 0) (hk : Keeps S W w') (hS : ∀ b, S b → G b = 0) : Rw G r w' e sz v n xs :=
  h.keeps hk fun b hb hs => by rw [hS b hs] at hb; exact hr hb.symm
theorem vBs_one (b : Bool) : ∀ u ∈ [Value.bool b], u.oneCell' = true := by
  intro u hu
  rw [List.mem_singleton.1 hu]
  rfl
set_option maxRecDepth 100000 in
set_option maxHeartbeats 8000000 in
theorem withSent_any (s : StM) (p : Pk) (w : World) (hx : s.At w) (h1 : s.x.sent.length ≤ 1000) (h2 : s.x.live.length ≤ 1000) (h3 : s.x.back.length ≤ 1000) (h4 : s.x.got.length ≤ 1000) :
    Calls Tryd.prog 127 #[s.val, p.val] w (RetSt1 w (sentX s.x p)) := by
  have FC := Lib.hid (fun W (hk : Keeps noBlk w W) => implCopy_any s.x s.A1 s.A2 s.A3 s.A4 s.c1 s.c2 s.c3 s.c4 W (hx.kept hk) (by omega) (by omega) (by omega) (by omega))
  unfold stV at FC
  clear hx
  have HBa := Lib.hid (((Box.new w _ rfl 37 #[.int .i64 s.x.way, .int .i64 s.x.ver, .int .i64 s.x.want, .slice s.A1 s.x.sent.length s.c1, .slice s.A2 s.x.live.length s.c2, .slice s.A3 s.x.back.length s.c3, .slice s.A4 s.x.got.length s.c4]).alloc (.cells #[.int .i64 p.s, .int .i64 p.k, .int .i64 p.f, .int .i64 p.t, .int .i64 p.m, .int .i64 p.u, .int .i64 p.v] 58)).alloc (.cells #[.int .i64 0, .int .i64 0, .int .i64 0, .slice none 0 0, .slice none 0 0, .slice none 0 0, .slice none 0 0] 37))
  have HBq := Lib.hid ((Box.new (w.alloc (.cells #[.int .i64 s.x.way, .int .i64 s.x.ver, .int .i64 s.x.want, .slice s.A1 s.x.sent.length s.c1, .slice s.A2 s.x.live.length s.c2, .slice s.A3 s.x.back.length s.c3, .slice s.A4 s.x.got.length s.c4] 37)) (w.heap.size + 1) (by simp) 58 #[.int .i64 p.s, .int .i64 p.k, .int .i64 p.f, .int .i64 p.t, .int .i64 p.m, .int .i64 p.u, .int .i64 p.v]).alloc (.cells #[.int .i64 0, .int .i64 0, .int .i64 0, .slice none 0 0, .slice none 0 0, .slice none 0 0, .slice none 0 0] 37))
  have HBr := Lib.hid (Box.new ((w.alloc (.cells #[.int .i64 s.x.way, .int .i64 s.x.ver, .int .i64 s.x.want, .slice s.A1 s.x.sent.length s.c1, .slice s.A2 s.x.live.length s.c2, .slice s.A3 s.x.back.length s.c3, .slice s.A4 s.x.got.length s.c4] 37)).alloc (.cells #[.int .i64 p.s, .int .i64 p.k, .int .i64 p.f, .int .i64 p.t, .int .i64 p.m, .int .i64 p.u, .int .i64 p.v] 58)) (w.heap.size + 1 + 1) (by simp) 37 #[.int .i64 0, .int .i64 0, .int .i64 0, .slice none 0 0, .slice none 0 0, .slice none 0 0, .slice none 0 0])
  have HK := Lib.hid ((((Keeps.refl noBlk w).alloc (.cells #[.int .i64 s.x.way, .int .i64 s.x.ver, .int .i64 s.x.want, .slice s.A1 s.x.sent.length s.c1, .slice s.A2 s.x.live.length s.c2, .slice s.A3 s.x.back.length s.c3, .slice s.A4 s.x.got.length s.c4] 37)).alloc (.cells #[.int .i64 p.s, .int .i64 p.k, .int .i64 p.f, .int .i64 p.t, .int .i64 p.m, .int .i64 p.u, .int .i64 p.v] 58)).alloc (.cells #[.int .i64 0, .int .i64 0, .int .i64 0, .slice none 0 0, .slice none 0 0, .slice none 0 0, .slice none 0 0] 37))
  unfold StM.val Pk.val
  go_enter Tryd.func127, Tryd.ntmps127
  go_wp2_with fail
  refine (FC.out _ HK.out).mono ?_
  rintro e w1 ⟨t, rfl, hx9, hk1, hg9, _⟩
  dsimp only [StM.val]
  obtain ⟨G, hG, hr9⟩ := hg9 (fun _ => 0) (fun k => k + 1)
  have HX := Lib.hid hx9
  have HG := Lib.hid (show ∀ b, b < w.heap.size + 3 → G b = 0 from fun b hb => hG b (by simp; omega))
  have R1 := Lib.hid hr9.1
  have R2 := Lib.hid hr9.2.1
  have R3 := Lib.hid hr9.2.2.1
  have R4 := Lib.hid hr9.2.2.2
  clear hg9 hx9 hG hr9
  have ha := HBa.out.keeps hk1 (fun h => h)
  clear HBa
  have HBa := Lib.hid ha
  clear ha
  have hq := HBq.out.keeps hk1 (fun h => h)
  clear HBq
  have HBq := Lib.hid hq
  clear hq
  have hr := HBr.out.keeps hk1 (fun h => h)
  clear HBr
  have HBr := Lib.hid hr
  clear hr
  have hr := HK.out.trans hk1
  clear HK
  have HK := Lib.hid hr
  clear hr
  have sz1 := hk1.size
  (try simp at sz1)
  clear hk1
  have hb := HBa.out
  have a0 := hb.cell 0
  have a1 := hb.cell 1
  have a2 := hb.cell 2
  have a3 := hb.cell 3
  have a4 := hb.cell 4
  have a5 := hb.cell 5
  have a6 := hb.cell 6
  simp at a0 a1 a2 a3 a4 a5 a6
  have za := hb.lt
  clear hb
  have hb := HBq.out
  have q0 := hb.cell 0
  have q1 := hb.cell 1
  have q2 := hb.cell 2
  have q3 := hb.cell 3
  have q4 := hb.cell 4
  have q5 := hb.cell 5
  have q6 := hb.cell 6
  simp at q0 q1 q2 q3 q4 q5 q6
  have zq := hb.lt
  clear hb
  have hb := HBa.out
  have af0 := hb.frozen 0
  have af1 := hb.frozen 1
  have af2 := hb.frozen 2
  have af3 := hb.frozen 3
  have af4 := hb.frozen 4
  have af5 := hb.frozen 5
  have af6 := hb.frozen 6
  clear hb
  have hl1 : t.x.sent.length ≤ 1000 := by rw [HX.out]; exact h1
  have hl2 : t.x.live.length ≤ 1000 := by rw [HX.out]; exact h2
  have hl3 : t.x.back.length ≤ 1000 := by rw [HX.out]; exact h3
  have kt : Keeps (fun b => b = w.heap.size) w1 (((((((w1.setCell ⟨w.heap.size, 0, none⟩ (.int .i64 t.x.way)).setCell ⟨w.heap.size, 1, none⟩ (.int .i64 t.x.ver)).setCell ⟨w.heap.size, 2, none⟩ (.int .i64 t.x.want)).setCell ⟨w.heap.size, 3, none⟩ (.slice t.A1 t.x.sent.length t.c1)).setCell ⟨w.heap.size, 4, none⟩ (.slice t.A2 t.x.live.length t.c2)).setCell ⟨w.heap.size, 5, none⟩ (.slice t.A3 t.x.back.length t.c3)).setCell ⟨w.heap.size, 6, none⟩ (.slice t.A4 t.x.got.length t.c4)) := ((((((((Keeps.refl (fun b => b = w.heap.size) w1).setCell (p := ⟨w.heap.size, 0, none⟩) (.inr rfl) (.int .i64 t.x.way)).setCell (p := ⟨w.heap.size, 1, none⟩) (.inr rfl) (.int .i64 t.x.ver)).setCell (p := ⟨w.heap.size, 2, none⟩) (.inr rfl) (.int .i64 t.x.want)).setCell (p := ⟨w.heap.size, 3, none⟩) (.inr rfl) (.slice t.A1 t.x.sent.length t.c1)).setCell (p := ⟨w.heap.size, 4, none⟩) (.inr rfl) (.slice t.A2 t.x.live.length t.c2)).setCell (p := ⟨w.heap.size, 5, none⟩) (.inr rfl) (.slice t.A3 t.x.back.length t.c3)).setCell (p := ⟨w.heap.size, 6, none⟩) (.inr rfl) (.slice t.A4 t.x.got.length t.c4))
  have hb := (((((((HBa.out.set_ 0 (.int .i64 t.x.way)).set_ 1 (.int .i64 t.x.ver)).set_ 2 (.int .i64 t.x.want)).set_ 3 (.slice t.A1 t.x.sent.length t.c1)).set_ 4 (.slice t.A2 t.x.live.length t.c2)).set_ 5 (.slice t.A3 t.x.back.length t.c3)).set_ 6 (.slice t.A4 t.x.got.length t.c4))
  simp only [List.setIfInBounds_toArray, List.set_cons_zero, List.set_cons_succ] at hb
  clear HBa
  have HBa := Lib.hid hb
  clear hb
  have hb := HBq.out.keeps kt fun h => by omega
  clear HBq
  have HBq := Lib.hid hb
  clear hb
  have hb := HBr.out.keeps kt fun h => by omega
  clear HBr
  have HBr := Lib.hid hb
  clear hb
  have hq := HK.out.then kt fun i hi h => by omega
  clear HK
  have HK := Lib.hid hq
  clear hq
  have hr := rw_box R1.out (by decide) kt fun b hb => HG.out b (by omega)
  clear R1
  have R1 := Lib.hid hr
  clear hr
  have hr := rw_box R2.out (by decide) kt fun b hb => HG.out b (by omega)
  clear R2
  have R2 := Lib.hid hr
  clear hr
  have hr := rw_box R3.out (by decide) kt fun b hb => HG.out b (by omega)
  clear R3
  have R3 := Lib.hid hr
  clear hr
  have hr := rw_box R4.out (by decide) kt fun b hb => HG.out b (by omega)
  clear R4
  have R4 := Lib.hid hr
  clear hr
  have zs : (((((((w1.setCell ⟨w.heap.size, 0, none⟩ (.int .i64 t.x.way)).setCell ⟨w.heap.size, 1, none⟩ (.int .i64 t.x.ver)).setCell ⟨w.heap.size, 2, none⟩ (.int .i64 t.x.want)).setCell ⟨w.heap.size, 3, none⟩ (.slice t.A1 t.x.sent.length t.c1)).setCell ⟨w.heap.size, 4, none⟩ (.slice t.A2 t.x.live.length t.c2)).setCell ⟨w.heap.size, 5, none⟩ (.slice t.A3 t.x.back.length t.c3)).setCell ⟨w.heap.size, 6, none⟩ (.slice t.A4 t.x.got.length t.c4)).heap.size = w1.heap.size := by simp [World.setCell]
  have ZS := Lib.hid zs
  clear zs
  clear kt
  go_upto_region 2 with fail
  clear a0 a1 a2 a3 a4 a5 a6 af0 af1 af2 af3 af4 af5 af6 za q0 q1 q2 q3 q4 q5 q6 zq
  generalize hV : (((((((w1.setCell ⟨w.heap.size, 0, none⟩ (.int .i64 t.x.way)).setCell ⟨w.heap.size, 1, none⟩ (.int .i64 t.x.ver)).setCell ⟨w.heap.size, 2, none⟩ (.int .i64 t.x.want)).setCell ⟨w.heap.size, 3, none⟩ (.slice t.A1 t.x.sent.length t.c1)).setCell ⟨w.heap.size, 4, none⟩ (.slice t.A2 t.x.live.length t.c2)).setCell ⟨w.heap.size, 5, none⟩ (.slice t.A3 t.x.back.length t.c3)).setCell ⟨w.heap.size, 6, none⟩ (.slice t.A4 t.x.got.length t.c4)) = V2 at *
  clear hV
  have hb := HBa.out
  have a3 := hb.cell 3
  simp at a3
  have za := hb.lt
  clear hb
  have hb := HBq.out
  have q0 := hb.cell 0
  have q1 := hb.cell 1
  have q2 := hb.cell 2
  have q3 := hb.cell 3
  have q4 := hb.cell 4
  have q5 := hb.cell 5
  have q6 := hb.cell 6
  simp at q0 q1 q2 q3 q4 q5 q6
  have zq := hb.lt
  clear hb
  have HO := Lib.hid R1.out.1
  go_wp2_with (at_builtin; refine wpList_app1 _ rfl _ _ 35 rfl 58 (.agg #[.int .i64 0, .int .i64 0, .int .i64 0, .int .i64 0, .int .i64 0, .int .i64 0, .int .i64 0]) 7 56 Tryd.underlying35 info_pk rfl (by decide) (by decide) (.slice t.A1 t.x.sent.length t.c1) t.x.sent.length (vPs t.x.sent) rfl HO.out _ (by first | rfl | simp) #[.int .i64 p.s, .int .i64 p.k, .int .i64 p.f, .int .i64 p.t, .int .i64 p.m, .int .i64 p.u, .int .i64 p.v] (p.cs) rfl rfl rfl ?qd ?qe ?_)
  case qd => first | exact one_pk | rfl
  case qe => omega
  intro B1 k1 w2 ho hk hf
  clear a3 za q0 q1 q2 q3 q4 q5 q6 zq
  have hro := R1.out.2
  have hz := hk.size
  have hz3 : w.heap.size + 3 ≤ w1.heap.size := by have := ZS.out; omega
  clear hz3
  have hb := HBa.out.keeps hk (fun h => by have q := hro _ h; rw [HG.out _ (by omega)] at q; omega)
  clear HBa
  have HBa := Lib.hid hb
  clear hb
  have hb := HBq.out.keeps hk (fun h => by have q := hro _ h; rw [HG.out _ (by omega)] at q; omega)
  clear HBq
  have HBq := Lib.hid hb
  clear hb
  have hb := HBr.out.keeps hk (fun h => by have q := hro _ h; rw [HG.out _ (by omega)] at q; omega)
  clear HBr
  have HBr := Lib.hid hb
  clear hb
  have hq := HK.out.then hk fun i hi h => by have q := hro i h; rw [HG.out i (by omega)] at q; omega
  clear HK
  have HK := Lib.hid hq
  clear hq
  have hgn : ∀ b, b < w.heap.size + 3 → up G _ 1 b = G b := fun b hb => up_old (show b < V2.heap.size by have := ZS.out; omega)
  have hr := rw_app R1.out ho hf
  have S1 := Lib.hid hr
  clear hr
  have hr := rw_stay R2.out hro (by decide) hk
  have S2 := Lib.hid hr
  clear hr
  have hr := rw_stay R3.out hro (by decide) hk
  have S3 := Lib.hid hr
  clear hr
  have hr := rw_stay R4.out hro (by decide) hk
  have S4 := Lib.hid hr
  clear hr
  clear R1 R2 R3 R4 HO ho hk hf hro
  have hg2 : ∀ b, b < w.heap.size + 3 → up G _ 1 b = 0 := fun b hb => (hgn b hb).trans (HG.out b hb)
  generalize up G _ 1 = G1 at S1 S2 S3 S4 hg2
  clear HG hgn
  have HG := Lib.hid hg2
  clear hg2
  have hrn : G1 = G1 := rfl
  clear hrn G
  obtain ⟨G, hGG⟩ : ∃ G, G = G1 := ⟨_, rfl⟩
  rw [← hGG] at S1 S2 S3 S4 HG
  clear hGG
  have R1 := S1
  clear S1
  have R2 := S2
  clear S2
  have R3 := S3
  clear S3
  have R4 := S4
  clear S4
  have hb := HBa.out
  have a0 := hb.cell 0
  have a1 := hb.cell 1
  have a2 := hb.cell 2
  have a3 := hb.cell 3
  have a4 := hb.cell 4
  have a5 := hb.cell 5
  have a6 := hb.cell 6
  simp at a0 a1 a2 a3 a4 a5 a6
  have za := hb.lt
  have af0 := hb.frozen 0
  have af1 := hb.frozen 1
  have af2 := hb.frozen 2
  have af3 := hb.frozen 3
  have af4 := hb.frozen 4
  have af5 := hb.frozen 5
  have af6 := hb.frozen 6
  clear hb
  have hzw : w.heap.size + 3 ≤ w2.heap.size := by have := ZS.out; omega
  clear hz ZS
  have kt : Keeps (fun b => b = w.heap.size) w2 (w2.setCell ⟨w.heap.size, 3, none⟩ (.slice B1 (t.x.sent.length + 1) k1)) := ((Keeps.refl (fun b => b = w.heap.size) w2).setCell (p := ⟨w.heap.size, 3, none⟩) (.inr rfl) (.slice B1 (t.x.sent.length + 1) k1))
  have hb := (HBa.out.set_ 3 (.slice B1 (t.x.sent.length + 1) k1))
  simp only [List.setIfInBounds_toArray, List.set_cons_zero, List.set_cons_succ] at hb
  clear HBa
  have HBa := Lib.hid hb
  clear hb
  have hb := HBq.out.keeps kt fun h => by omega
  clear HBq
  have HBq := Lib.hid hb
  clear hb
  have hb := HBr.out.keeps kt fun h => by omega
  clear HBr
  have HBr := Lib.hid hb
  clear hb
  have hq := HK.out.then kt fun i hi h => by omega
  clear HK
  have HK := Lib.hid hq
  clear hq
  have hr := rw_box R1.out (by decide) kt fun b hb => HG.out b (by omega)
  clear R1
  have R1 := Lib.hid hr
  clear hr
  have hr := rw_box R2.out (by decide) kt fun b hb => HG.out b (by omega)
  clear R2
  have R2 := Lib.hid hr
  clear hr
  have hr := rw_box R3.out (by decide) kt fun b hb => HG.out b (by omega)
  clear R3
  have R3 := Lib.hid hr
  clear hr
  have hr := rw_box R4.out (by decide) kt fun b hb => HG.out b (by omega)
  clear R4
  have R4 := Lib.hid hr
  clear hr
  have zs : (w2.setCell ⟨w.heap.size, 3, none⟩ (.slice B1 (t.x.sent.length + 1) k1)).heap.size = w2.heap.size := by simp [World.setCell]
  have ZS := Lib.hid zs
  clear zs
  clear kt
  go_upto_region 3 with fail
  clear a0 a1 a2 a3 a4 a5 a6 af0 af1 af2 af3 af4 af5 af6 za
  generalize hV : (w2.setCell ⟨w.heap.size, 3, none⟩ (.slice B1 (t.x.sent.length + 1) k1)) = V3 at *
  clear hV
  have hb := HBa.out
  have a4 := hb.cell 4
  simp at a4
  have za := hb.lt
  clear hb
  have HO := Lib.hid R2.out.1
  go_wp2_with (at_builtin; refine wpList_app1 _ rfl _ _ 26 rfl 4 (.bool false) 1 1 Tryd.underlying26 info_bool rfl (by decide) (by decide) (.slice t.A2 t.x.live.length t.c2) t.x.live.length (vBs t.x.live) rfl HO.out _ (by first | rfl | simp) #[.bool true] ([.bool true]) rfl rfl rfl ?qd ?qe ?_)
  case qd => first | exact vBs_one true | rfl
  case qe => omega
  intro B2 k2 w3 ho hk hf
  clear a4 za
  have hro := R2.out.2
  have hz := hk.size
  have hz3 : w.heap.size + 3 ≤ w2.heap.size := by have := ZS.out; omega
  clear hz3
  have hb := HBa.out.keeps hk (fun h => by have q := hro _ h; rw [HG.out _ (by omega)] at q; omega)
  clear HBa
  have HBa := Lib.hid hb
  clear hb
  have hb := HBq.out.keeps hk (fun h => by have q := hro _ h; rw [HG.out _ (by omega)] at q; omega)
  clear HBq
  have HBq := Lib.hid hb
  clear hb
  have hb := HBr.out.keeps hk (fun h => by have q := hro _ h; rw [HG.out _ (by omega)] at q; omega)
  clear HBr
  have HBr := Lib.hid hb
  clear hb
  have hq := HK.out.then hk fun i hi h => by have q := hro i h; rw [HG.out i (by omega)] at q; omega
  clear HK
  have HK := Lib.hid hq
  clear hq
  have hgn : ∀ b, b < w.heap.size + 3 → up G _ 2 b = G b := fun b hb => up_old (show b < V3.heap.size by have := ZS.out; omega)
  have hr := rw_stay R1.out hro (by decide) hk
  have S1 := Lib.hid hr
  clear hr
  have hr := rw_app R2.out ho hf
  have S2 := Lib.hid hr
  clear hr
  have hr := rw_stay R3.out hro (by decide) hk
  have S3 := Lib.hid hr
  clear hr
  have hr := rw_stay R4.out hro (by decide) hk
  have S4 := Lib.hid hr
  clear hr
  clear R1 R2 R3 R4 HO ho hk hf hro
  have hg2 : ∀ b, b < w.heap.size + 3 → up G _ 2 b = 0 := fun b hb => (hgn b hb).trans (HG.out b hb)
  generalize up G _ 2 = G2 at S1 S2 S3 S4 hg2
  clear HG hgn
  have HG := Lib.hid hg2
  clear hg2
  have hrn : G2 = G2 := rfl
  clear hrn G
  obtain ⟨G, hGG⟩ : ∃ G, G = G2 := ⟨_, rfl⟩
  rw [← hGG] at S1 S2 S3 S4 HG
  clear hGG
  have R1 := S1
  clear S1
  have R2 := S2
  clear S2
  have R3 := S3
  clear S3
  have R4 := S4
  clear S4
  have hb := HBa.out
  have a0 := hb.cell 0
  have a1 := hb.cell 1
  have a2 := hb.cell 2
  have a3 := hb.cell 3
  have a4 := hb.cell 4
  have a5 := hb.cell 5
  have a6 := hb.cell 6
  simp at a0 a1 a2 a3 a4 a5 a6
  have za := hb.lt
  have af0 := hb.frozen 0
  have af1 := hb.frozen 1
  have af2 := hb.frozen 2
  have af3 := hb.frozen 3
  have af4 := hb.frozen 4
  have af5 := hb.frozen 5
  have af6 := hb.frozen 6
  clear hb
  have hzw : w.heap.size + 3 ≤ w3.heap.size := by have := ZS.out; omega
  clear hz ZS
  have kt : Keeps (fun b => b = w.heap.size) w3 (w3.setCell ⟨w.heap.size, 4, none⟩ (.slice B2 (t.x.live.length + 1) k2)) := ((Keeps.refl (fun b => b = w.heap.size) w3).setCell (p := ⟨w.heap.size, 4, none⟩) (.inr rfl) (.slice B2 (t.x.live.length + 1) k2))
  have hb := (HBa.out.set_ 4 (.slice B2 (t.x.live.length + 1) k2))
  simp only [List.setIfInBounds_toArray, List.set_cons_zero, List.set_cons_succ] at hb
  clear HBa
  have HBa := Lib.hid hb
  clear hb
  have hb := HBq.out.keeps kt fun h => by omega
  clear HBq
  have HBq := Lib.hid hb
  clear hb
  have hb := HBr.out.keeps kt fun h => by omega
  clear HBr
  have HBr := Lib.hid hb
  clear hb
  have hq := HK.out.then kt fun i hi h => by omega
  clear HK
  have HK := Lib.hid hq
  clear hq
  have hr := rw_box R1.out (by decide) kt fun b hb => HG.out b (by omega)
  clear R1
  have R1 := Lib.hid hr
  clear hr
  have hr := rw_box R2.out (by decide) kt fun b hb => HG.out b (by omega)
  clear R2
  have R2 := Lib.hid hr
  clear hr
  have hr := rw_box R3.out (by decide) kt fun b hb => HG.out b (by omega)
  clear R3
  have R3 := Lib.hid hr
  clear hr
  have hr := rw_box R4.out (by decide) kt fun b hb => HG.out b (by omega)
  clear R4
  have R4 := Lib.hid hr
  clear hr
  have zs : (w3.setCell ⟨w.heap.size, 4, none⟩ (.slice B2 (t.x.live.length + 1) k2)).heap.size = w3.heap.size := by simp [World.setCell]
  have ZS := Lib.hid zs
  clear zs
  clear kt
  go_upto_region 4 with fail
  clear a0 a1 a2 a3 a4 a5 a6 af0 af1 af2 af3 af4 af5 af6 za
  generalize hV : (w3.setCell ⟨w.heap.size, 4, none⟩ (.slice B2 (t.x.live.length + 1) k2)) = V4 at *
  clear hV
  have hb := HBa.out
  have a5 := hb.cell 5
  simp at a5
  have za := hb.lt
  clear hb
  have HO := Lib.hid R3.out.1
  go_wp2_with (at_builtin; refine wpList_app1 _ rfl _ _ 26 rfl 4 (.bool false) 1 1 Tryd.underlying26 info_bool rfl (by decide) (by decide) (.slice t.A3 t.x.back.length t.c3) t.x.back.length (vBs t.x.back) rfl HO.out _ (by first | rfl | simp) #[.bool false] ([.bool false]) rfl rfl rfl ?qd ?qe ?_)
  case qd => first | exact vBs_one false | rfl
  case qe => omega
  intro B3 k3 w4 ho hk hf
  clear a5 za
  have hro := R3.out.2
  have hz := hk.size
  have hz3 : w.heap.size + 3 ≤ w3.heap.size := by have := ZS.out; omega
  clear hz3
  have hb := HBa.out.keeps hk (fun h => by have q := hro _ h; rw [HG.out _ (by omega)] at q; omega)
  clear HBa
  have HBa := Lib.hid hb
  clear hb
  have hb := HBq.out.keeps hk (fun h => by have q := hro _ h; rw [HG.out _ (by omega)] at q; omega)
  clear HBq
  have HBq := Lib.hid hb
  clear hb
  have hb := HBr.out.keeps hk (fun h => by have q := hro _ h; rw [HG.out _ (by omega)] at q; omega)
  clear HBr
  have HBr := Lib.hid hb
  clear hb
  have hq := HK.out.then hk fun i hi h => by have q := hro i h; rw [HG.out i (by omega)] at q; omega
  clear HK
  have HK := Lib.hid hq
  clear hq
  have hgn : ∀ b, b < w.heap.size + 3 → up G _ 3 b = G b := fun b hb => up_old (show b < V4.heap.size by have := ZS.out; omega)
  have hr := rw_stay R1.out hro (by decide) hk
  have S1 := Lib.hid hr
  clear hr
  have hr := rw_stay R2.out hro (by decide) hk
  have S2 := Lib.hid hr
  clear hr
  have hr := rw_app R3.out ho hf
  have S3 := Lib.hid hr
  clear hr
  have hr := rw_stay R4.out hro (by decide) hk
  have S4 := Lib.hid hr
  clear hr
  clear R1 R2 R3 R4 HO ho hk hf hro
  have hg2 : ∀ b, b < w.heap.size + 3 → up G _ 3 b = 0 := fun b hb => (hgn b hb).trans (HG.out b hb)
  generalize up G _ 3 = G3 at S1 S2 S3 S4 hg2
  clear HG hgn
  have HG := Lib.hid hg2
  clear hg2
  have hrn : G3 = G3 := rfl
  clear hrn G
  obtain ⟨G, hGG⟩ : ∃ G, G = G3 := ⟨_, rfl⟩
  rw [← hGG] at S1 S2 S3 S4 HG
  clear hGG
  have R1 := S1
  clear S1
  have R2 := S2
  clear S2
  have R3 := S3
  clear S3
  have R4 := S4
  clear S4
  have hb := HBa.out
  have a0 := hb.cell 0
  have a1 := hb.cell 1
  have a2 := hb.cell 2
  have a3 := hb.cell 3
  have a4 := hb.cell 4
  have a5 := hb.cell 5
  have a6 := hb.cell 6
  simp at a0 a1 a2 a3 a4 a5 a6
  have za := hb.lt
  have af0 := hb.frozen 0
  have af1 := hb.frozen 1
  have af2 := hb.frozen 2
  have af3 := hb.frozen 3
  have af4 := hb.frozen 4
  have af5 := hb.frozen 5
  have af6 := hb.frozen 6
  clear hb
  have hzw : w.heap.size + 3 ≤ w4.heap.size := by have := ZS.out; omega
  clear hz ZS
  have kt : Keeps (fun b => b = w.heap.size) w4 (w4.setCell ⟨w.heap.size, 5, none⟩ (.slice B3 (t.x.back.length + 1) k3)) := ((Keeps.refl (fun b => b = w.heap.size) w4).setCell (p := ⟨w.heap.size, 5, none⟩) (.inr rfl) (.slice B3 (t.x.back.length + 1) k3))
  have hb := (HBa.out.set_ 5 (.slice B3 (t.x.back.length + 1) k3))
  simp only [List.setIfInBounds_toArray, List.set_cons_zero, List.set_cons_succ] at hb
  clear HBa
  have HBa := Lib.hid hb
  clear hb
  have hb := HBq.out.keeps kt fun h => by omega
  clear HBq
  have HBq := Lib.hid hb
  clear hb
  have hb := HBr.out.keeps kt fun h => by omega
  clear HBr
  have HBr := Lib.hid hb
  clear hb
  have hq := HK.out.then kt fun i hi h => by omega
  clear HK
  have HK := Lib.hid hq
  clear hq
  have hr := rw_box R1.out (by decide) kt fun b hb => HG.out b (by omega)
  clear R1
  have R1 := Lib.hid hr
  clear hr
  have hr := rw_box R2.out (by decide) kt fun b hb => HG.out b (by omega)
  clear R2
  have R2 := Lib.hid hr
  clear hr
  have hr := rw_box R3.out (by decide) kt fun b hb => HG.out b (by omega)
  clear R3
  have R3 := Lib.hid hr
  clear hr
  have hr := rw_box R4.out (by decide) kt fun b hb => HG.out b (by omega)
  clear R4
  have R4 := Lib.hid hr
  clear hr
  have zs : (w4.setCell ⟨w.heap.size, 5, none⟩ (.slice B3 (t.x.back.length + 1) k3)).heap.size = w4.heap.size := by simp [World.setCell]
  have ZS := Lib.hid zs
  clear zs
  clear kt
  go_upto_region 5 with fail
  clear a0 a1 a2 a3 a4 a5 a6 af0 af1 af2 af3 af4 af5 af6 za
  generalize hV : (w4.setCell ⟨w.heap.size, 5, none⟩ (.slice B3 (t.x.back.length + 1) k3)) = V5 at *
  clear hV
  have hb := HBa.out
  have a0 := hb.cell 0
  have a1 := hb.cell 1
  have a2 := hb.cell 2
  have a3 := hb.cell 3
  have a4 := hb.cell 4
  have a5 := hb.cell 5
  have a6 := hb.cell 6
  simp at a0 a1 a2 a3 a4 a5 a6
  have za := hb.lt
  clear hb
  have hb := HBr.out
  have r0 := hb.cell 0
  have r1 := hb.cell 1
  have r2 := hb.cell 2
  have r3 := hb.cell 3
  have r4 := hb.cell 4
  have r5 := hb.cell 5
  have r6 := hb.cell 6
  simp at r0 r1 r2 r3 r4 r5 r6
  have rf0 := hb.frozen 0
  have rf1 := hb.frozen 1
  have rf2 := hb.frozen 2
  have rf3 := hb.frozen 3
  have rf4 := hb.frozen 4
  have rf5 := hb.frozen 5
  have rf6 := hb.frozen 6
  clear hb
  go_wp2
  have hbF := (((((((HBr.out.set_ 0 (.int .i64 t.x.way)).set_ 1 (.int .i64 t.x.ver)).set_ 2 (.int .i64 t.x.want)).set_ 3 (.slice B1 (t.x.sent.length + 1) k1)).set_ 4 (.slice B2 (t.x.live.length + 1) k2)).set_ 5 (.slice B3 (t.x.back.length + 1) k3)).set_ 6 (.slice t.A4 t.x.got.length t.c4))
  simp only [List.setIfInBounds_toArray, List.set_cons_zero, List.set_cons_succ] at hbF
  have s10 := hbF.cell 0
  have s11 := hbF.cell 1
  have s12 := hbF.cell 2
  have s13 := hbF.cell 3
  have s14 := hbF.cell 4
  have s15 := hbF.cell 5
  have s16 := hbF.cell 6
  simp at s10 s11 s12 s13 s14 s15 s16
  clear hbF
  have kS : Keeps (fun b => b = w.heap.size + 1 + 1) V5 (((((((V5.setCell ⟨w.heap.size + 1 + 1, 0, none⟩ (.int .i64 t.x.way)).setCell ⟨w.heap.size + 1 + 1, 1, none⟩ (.int .i64 t.x.ver)).setCell ⟨w.heap.size + 1 + 1, 2, none⟩ (.int .i64 t.x.want)).setCell ⟨w.heap.size + 1 + 1, 3, none⟩ (.slice B1 (t.x.sent.length + 1) k1)).setCell ⟨w.heap.size + 1 + 1, 4, none⟩ (.slice B2 (t.x.live.length + 1) k2)).setCell ⟨w.heap.size + 1 + 1, 5, none⟩ (.slice B3 (t.x.back.length + 1) k3)).setCell ⟨w.heap.size + 1 + 1, 6, none⟩ (.slice t.A4 t.x.got.length t.c4)) := ((((((((Keeps.refl (fun b => b = w.heap.size + 1 + 1) V5).setCell (p := ⟨w.heap.size + 1 + 1, 0, none⟩) (.inr rfl) (.int .i64 t.x.way)).setCell (p := ⟨w.heap.size + 1 + 1, 1, none⟩) (.inr rfl) (.int .i64 t.x.ver)).setCell (p := ⟨w.heap.size + 1 + 1, 2, none⟩) (.inr rfl) (.int .i64 t.x.want)).setCell (p := ⟨w.heap.size + 1 + 1, 3, none⟩) (.inr rfl) (.slice B1 (t.x.sent.length + 1) k1)).setCell (p := ⟨w.heap.size + 1 + 1, 4, none⟩) (.inr rfl) (.slice B2 (t.x.live.length + 1) k2)).setCell (p := ⟨w.heap.size + 1 + 1, 5, none⟩) (.inr rfl) (.slice B3 (t.x.back.length + 1) k3)).setCell (p := ⟨w.heap.size + 1 + 1, 6, none⟩) (.inr rfl) (.slice t.A4 t.x.got.length t.c4))
  generalize (((((((V5.setCell ⟨w.heap.size + 1 + 1, 0, none⟩ (.int .i64 t.x.way)).setCell ⟨w.heap.size + 1 + 1, 1, none⟩ (.int .i64 t.x.ver)).setCell ⟨w.heap.size + 1 + 1, 2, none⟩ (.int .i64 t.x.want)).setCell ⟨w.heap.size + 1 + 1, 3, none⟩ (.slice B1 (t.x.sent.length + 1) k1)).setCell ⟨w.heap.size + 1 + 1, 4, none⟩ (.slice B2 (t.x.live.length + 1) k2)).setCell ⟨w.heap.size + 1 + 1, 5, none⟩ (.slice B3 (t.x.back.length + 1) k3)).setCell ⟨w.heap.size + 1 + 1, 6, none⟩ (.slice t.A4 t.x.got.length t.c4)) = WF at kS s10 s11 s12 s13 s14 s15 s16 ⊢
  refine bodyPost_ret (v := (⟨sentX t.x p, B1, B2, B3, t.A4, k1, k2, k3, t.c4⟩ : StM).val) (by simp [results, Tryd.results127, go_sem, StM.val, sentX, s10, s11, s12, s13, s14, s15, s16]) rfl ?_
  have E1 := rw_box R1.out (by decide) kS fun b hb => HG.out b (by omega)
  have E2 := rw_box R2.out (by decide) kS fun b hb => HG.out b (by omega)
  have E3 := rw_box R3.out (by decide) kS fun b hb => HG.out b (by omega)
  have E4 := rw_box R4.out (by decide) kS fun b hb => HG.out b (by omega)
  refine ⟨⟨sentX t.x p, B1, B2, B3, t.A4, k1, k2, k3, t.c4⟩, rfl, by rw [HX.out], ?_, ?_, HK.out.then kS fun i hi h => by omega⟩
  all_goals have e1 : (sentX t.x p).sent.length = t.x.sent.length + 1 := by simp [sentX]
  all_goals have e2 : (sentX t.x p).live.length = t.x.live.length + 1 := by simp [sentX]
  all_goals have e3 : (sentX t.x p).back.length = t.x.back.length + 1 := by simp [sentX]
  · have c1 := E1.1
    have c2 := E2.1
    have c3 := E3.1
    have c4 := E4.1
    rw [← vPs_snoc, ← e1] at c1
    rw [← vBs_snoc, ← e2] at c2
    rw [← vBs_snoc, ← e3] at c3
    exact ⟨⟨owns_pks (xs := (sentX t.x p).sent) c1, owns_bools (xs := (sentX t.x p).live) c2, owns_bools (xs := (sentX t.x p).back) c3, owns_ints (xs := (sentX t.x p).got) c4⟩, (owns_cells c1).1, (owns_cells c2).1, (owns_cells c3).1, (owns_cells c4).1⟩
  · intro b hb
    have low : ∀ r, r ≠ 0 → G b = r → w.heap.size ≤ b := fun r hr hg => by
      rcases Nat.lt_or_ge b w.heap.size with hl | hl
      · rw [HG.out b (by omega)] at hg
        exact absurd hg.symm hr
      · exact hl
    unfold StM.bl stBlk at hb
    dsimp only at hb
    rw [e1, e2, e3] at hb
    rcases hb with hb | hb | hb | hb
    · exact low 1 (by decide) (E1.2 b (blk_own hb))
    · exact low 2 (by decide) (E2.2 b (blk_own hb))
    · exact low 3 (by decide) (E3.2 b (blk_own hb))
    · exact low 4 (by decide) (E4.2 b (blk_own hb))
end Go.Proofs.YtbgpclicflafaaaDoor
