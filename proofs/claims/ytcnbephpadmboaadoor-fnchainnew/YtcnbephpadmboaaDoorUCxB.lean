/- The program's linked list of heights: count, then, blocksOf, at. The program's linked chain; ChainNext. -/
import Derived.Test.YtcnbephpadmboaaDoorUCxM
import Derived.Deep.RegionHeld3
import Derived.Test.YtcnbephpadmboaaDoorCxO
import Derived.Test.YtcnbephpadmboaaDoorCxP
set_option linter.unusedVariables false
set_option linter.unusedSimpArgs false
/-! CxB -/
namespace Go.Proofs.YtcnbephpadmboaaDoor
open Go.RowKit

/-- The pointer P leads to the states rs, the last one first; all of it lies from block lo on. -/
def Lk (w : World) (lo : Nat) : Option Addr → List StM → Prop
  | P, [] => P = none
  | P, s :: rest => ∃ g Q, P = some ⟨g, 0, none⟩ ∧ lo ≤ g ∧ Box w g 109 #[.int .i64 ((rest.length : Int) + 1), .int .i64 s.x.way, .int .i64 s.x.ver, .int .i64 s.x.want, .slice s.A1 s.x.sent.length s.c1, .slice s.A2 s.x.live.length s.c2, .slice s.A3 s.x.back.length s.c3, .slice s.A4 s.x.got.length s.c4, .pointer Q] ∧ Lk w lo Q rest
theorem Lk.keeps {S : Nat → Prop} {lo : Nat} {w w' : World} (hk : Keeps S w w') (hS : ∀ b, S b → b < lo ∨ w.heap.size ≤ b) : ∀ {rs : List StM} {P : Option Addr}, Lk w lo P rs → Lk w' lo P rs
  | [], _, h => h
  | _ :: _, _, ⟨g, q, e, hl, hb, hr⟩ => ⟨g, q, e, hl, hb.keeps hk fun h => by have := hS g h; have := hb.lt; omega, Lk.keeps hk hS hr⟩
theorem Lk.kept {lo : Nat} {w w' : World} {rs : List StM} {P : Option Addr} (h : Lk w lo P rs) (hk : Keeps noBlk w w') : Lk w' lo P rs := Lk.keeps hk (fun _ h => h.elim) h
theorem Lk.less {lo lo' : Nat} {w : World} (hl : lo' ≤ lo) : ∀ {rs : List StM} {P : Option Addr}, Lk w lo P rs → Lk w lo' P rs
  | [], _, h => h
  | _ :: _, _, ⟨g, q, e, h1, hb, hr⟩ => ⟨g, q, e, Nat.le_trans hl h1, hb, Lk.less hl hr⟩
/-- How long it is, by the number of its first block. -/
def lkN (w : World) (v : Value) : Nat := match v with
  | .pointer (some a) => (match w.cell? a with
    | some (.int _ n) => n.toNat
    | _ => 0)
  | _ => 0
theorem Lk.num {w : World} {lo : Nat} {rs : List StM} {P : Option Addr} (h : Lk w lo P rs) : lkN w (.pointer P) = rs.length := by
  match rs, h with
  | [], h =>
    obtain rfl : P = none := h
    rfl
  | s :: rest, ⟨g, q, e, _, hb, _⟩ =>
    subst e
    have b0 := hb.cell 0
    simp at b0
    simp only [lkN, b0, List.length_cons]
    omega

set_option maxHeartbeats 1000000 in
theorem count_any (P : Option Addr) (rs : List StM) (lo : Nat) (w : World) (h : Lk w lo P rs) :
    Calls Tryd.prog 57 #[.pointer P] w fun e w' => e = .returned (.int .i64 (rs.length : Int)) ∧ w = w' := by
  match rs, h with
  | [], h =>
    obtain rfl : P = none := h
    go_enter Tryd.func57, Tryd.ntmps57
    go_wp2
    go_ret
    exact ⟨rfl, rfl⟩
  | s :: rest, ⟨g, q, e, _, hb, _⟩ =>
    subst e
    have b0 := hb.cell 0
    simp at b0
    clear hb
    go_enter Tryd.func57, Tryd.ntmps57
    go_wp2
    go_ret
    exact ⟨by first | rfl | (simp; done), rfl⟩
def RetLk (w : World) (lo : Nat) (rs : List StM) (e : Ending) (w' : World) : Prop := ∃ P, e = .returned (.pointer P) ∧ Lk w' lo P rs ∧ Keeps noBlk w w'
set_option maxRecDepth 100000 in
set_option maxHeartbeats 2000000 in
theorem then_any (P : Option Addr) (rs : List StM) (s : StM) (lo : Nat) (w : World) (h : Lk w lo P rs) (hlo : lo ≤ w.heap.size) (hn : rs.length ≤ 1000000) :
    Calls Tryd.prog 59 #[.pointer P, s.val] w (RetLk w lo (s :: rs)) := by
  have HC := Lib.hid (fun W (hk : Keeps noBlk w W) => count_any P rs lo W (h.kept hk))
  have HL := Lib.hid h
  have hb := Box.new w _ rfl 27 #[.int .i64 s.x.way, .int .i64 s.x.ver, .int .i64 s.x.want, .slice s.A1 s.x.sent.length s.c1, .slice s.A2 s.x.live.length s.c2, .slice s.A3 s.x.back.length s.c3, .slice s.A4 s.x.got.length s.c4]
  have HK := Lib.hid ((Keeps.refl noBlk w).alloc (.cells #[.int .i64 s.x.way, .int .i64 s.x.ver, .int .i64 s.x.want, .slice s.A1 s.x.sent.length s.c1, .slice s.A2 s.x.live.length s.c2, .slice s.A3 s.x.back.length s.c3, .slice s.A4 s.x.got.length s.c4] 27))
  have b0 := hb.cell 0
  have b1 := hb.cell 1
  have b2 := hb.cell 2
  have b3 := hb.cell 3
  have b4 := hb.cell 4
  have b5 := hb.cell 5
  have b6 := hb.cell 6
  simp at b0 b1 b2 b3 b4 b5 b6
  have hwr : IntKind.i64.wrap ((rs.length : Int) + 1) = (rs.length : Int) + 1 := IntWalk.i64_in _ (by omega)
  have HLO : Hid (lo ≤ w.heap.size + 1) := Lib.hid (by omega)
  clear h hb hlo
  unfold StM.val
  go_enter Tryd.func59, Tryd.ntmps59
  go_wp2_with fail
  go_region_held3 (fun w' => w'.cell? ⟨w.heap.size, 0, none⟩ = some (.int .i64 s.x.way) ∧ w'.cell? ⟨w.heap.size, 1, none⟩ = some (.int .i64 s.x.ver) ∧ w'.cell? ⟨w.heap.size, 2, none⟩ = some (.int .i64 s.x.want) ∧ w'.cell? ⟨w.heap.size, 3, none⟩ = some (.slice s.A1 s.x.sent.length s.c1) ∧ w'.cell? ⟨w.heap.size, 4, none⟩ = some (.slice s.A2 s.x.live.length s.c2) ∧ w'.cell? ⟨w.heap.size, 5, none⟩ = some (.slice s.A3 s.x.back.length s.c3) ∧ w'.cell? ⟨w.heap.size, 6, none⟩ = some (.slice s.A4 s.x.got.length s.c4))
    (((try dsimp only); (repeat' apply And.intro) <;> (first | with_reducible assumption | (go_keep; done))))
    (first | (go_at_call 57; refine (HC.out _ (HK.out.drewN 1)).mono ?_; rintro e w1 ⟨rfl, rfl⟩))
  go_wp2
  go_ret
  have hk := ((HK.out.drewN 1).alloc (.cells #[.int .i64 ((rs.length : Int) + 1), .int .i64 s.x.way, .int .i64 s.x.ver, .int .i64 s.x.want, .slice s.A1 s.x.sent.length s.c1, .slice s.A2 s.x.live.length s.c2, .slice s.A3 s.x.back.length s.c3, .slice s.A4 s.x.got.length s.c4, .pointer P] 109))
  exact ⟨_, rfl, ⟨_, _, rfl, HLO.out, Box.new _ _ (by first | rfl | simp | (simp [World.drewN]; done)) _ _, HL.out.kept hk⟩, hk⟩
set_option maxRecDepth 100000 in
set_option maxHeartbeats 2000000 in
theorem blocksOf_any (A : Option Addr) (c : Nat) (l : List StM) (w : World) (ha : Pas w A l.length l) (hn : l.length ≤ 1000000) :
    Calls Tryd.prog 77 #[.slice A l.length c] w (RetLk w w.heap.size l.reverse) := by
  have HA := Lib.hid ha
  clear ha
  go_enter Tryd.func77, Tryd.ntmps77
  go_wp2
  go_loopw [3, 8] (fun p i wr => ∃ (k : Nat) (P : Option Addr), k ≤ l.length ∧ i = .int .i64 k ∧ p = .pointer P ∧ Lk wr w.heap.size P (l.take k).reverse ∧ Keeps noBlk w wr) (fun _ i _ => l.length - (intOf i).toNat)
  case atStart => exact ⟨0, none, Nat.zero_le _, rfl, rfl, by simp [Lk], Keeps.refl _ _⟩
  case round =>
    obtain ⟨k, P, hk, rfl, rfl, hlk, hkp⟩ := hrel
    by_cases hlt : k < l.length
    · obtain ⟨b1, o1, rfl, _, q0, q1, q2, q3, q4, q5, q6⟩ := (HA.out.kept hkp).at_ hlt
      have HLT := Lib.hid hlt
      have HTK : Hid ((l.take (k + 1)).reverse = (l.getD k stm0) :: (l.take k).reverse) := Lib.hid (by
        rw [List.take_add_one, getD_some stm0 hlt]
        simp)
      have hln : (l.take k).reverse.length ≤ 1000000 := by simp; omega
      generalize (l.take k).reverse = rs at *
      generalize l.getD k stm0 = s at *
      have hal := Lib.hid ((Keeps.refl noBlk wr).alloc (.cells #[.int .i64 s.x.way, .int .i64 s.x.ver, .int .i64 s.x.want, .slice s.A1 s.x.sent.length s.c1, .slice s.A2 s.x.live.length s.c2, .slice s.A3 s.x.back.length s.c3, .slice s.A4 s.x.got.length s.c4] 27))
      have F := Lib.hid (fun W (hk : Keeps noBlk wr W) => then_any P rs s w.heap.size W (hlk.kept hk) (Nat.le_trans hkp.size hk.size) hln)
      unfold StM.val at F
      have HK := Lib.hid hkp
      clear hkp hlk hln
      go_wp2_with fail
      refine (F.out _ hal.out).mono ?_
      rintro e w1 ⟨p1, rfl, hl1, hk1⟩
      have HL1 := Lib.hid hl1
      have HK1 := Lib.hid (HK.out.trans (hal.out.trans hk1))
      clear hl1 hk1 q0 q1 q2 q3 q4 q5 q6
      go_wp2
      go_roundw
      case rel => exact ⟨k + 1, p1, HLT.out, by go_num, rfl, by rw [HTK.out]; exact HL1.out, HK1.out⟩
      case measure => have := HLT.out; simp [intOf]; omega
    · have HL1 : Hid (Lk wr w.heap.size P l.reverse) := Lib.hid (by
        have := hlk
        rw [List.take_of_length_le (by omega)] at this
        exact this)
      have HK := Lib.hid hkp
      clear hlk hkp
      go_wp2
      go_ret
      exact ⟨P, rfl, HL1.out, HK.out⟩
/-- What a height's number leads to: the states up to it, the last one first. -/
def upto (rs : List StM) (h : Int) : List StM := if 1 ≤ h ∧ h ≤ rs.length then rs.drop (rs.length - h.toNat) else []
theorem upto_hit (s : StM) (rest : List StM) : upto (s :: rest) ((rest.length : Int) + 1) = s :: rest := by
  unfold upto
  rw [if_pos (by simp; omega)]
  have : (s :: rest).length - ((rest.length : Int) + 1).toNat = 0 := by simp
  rw [this]
  rfl
theorem upto_miss (s : StM) (rest : List StM) (h : Int) (hne : ((rest.length : Int) + 1) ≠ h) : upto (s :: rest) h = upto rest h := by
  unfold upto
  by_cases hc : 1 ≤ h ∧ h ≤ rest.length
  · rw [if_pos hc, if_pos (by simp; omega)]
    have : (s :: rest).length - h.toNat = (rest.length - h.toNat) + 1 := by simp; omega
    rw [this, List.drop_succ_cons]
  · rw [if_neg hc, if_neg (by simp; omega)]
end Go.Proofs.YtcnbephpadmboaaDoor

/-! CxI -/
namespace Go.Proofs.YtcnbephpadmboaaDoor
open Go.RowKit

/-- A chain with its heights linked. -/
def lkV (c : ChM) (P : Option Addr) : Value := .agg #[.slice c.bk.A1 c.bk.b.own.length c.bk.c1, .slice c.bk.A2 c.bk.b.notes.length c.bk.c2, .int .i64 c.bk.b.locked, .int .i64 c.id, .int .i64 c.st.x.way, .int .i64 c.st.x.ver, .int .i64 c.st.x.want, .slice c.st.A1 c.st.x.sent.length c.st.c1, .slice c.st.A2 c.st.x.live.length c.st.c2, .slice c.st.A3 c.st.x.back.length c.st.c3, .slice c.st.A4 c.st.x.got.length c.st.c4, .pointer P, .slice c.kA c.knows.length c.kc]
def lk0 : Value := .agg #[.slice none 0 0, .slice none 0 0, .int .i64 0, .int .i64 0, .int .i64 0, .int .i64 0, .int .i64 0, .slice none 0 0, .slice none 0 0, .slice none 0 0, .slice none 0 0, .pointer none, .slice none 0 0]
def RetLink (w : World) (c : ChM) (e : Ending) (w' : World) : Prop := ∃ P, e = .returned (.tuple #[lkV c P, .bool true]) ∧ Lk w' w.heap.size P c.past.reverse ∧ Keeps noBlk w w'
set_option maxRecDepth 100000 in
set_option maxHeartbeats 4000000 in
theorem link_no (c : ChM) (w : World) (h : ChAt w c) (ht : Tabs w) (hb : ckB c = false) :
    Calls Tryd.prog 55 #[c.val] w fun e w' => e = .returned (.tuple #[lk0, .bool false]) ∧ Keeps noBlk w w' := by
  have F := Lib.hid (fun W (hk : Keeps noBlk w W) => (show Calls Tryd.prog 38 #[c.val] W (fun e w' => e = .returned (.bool false) ∧ Keeps noBlk W w') from by rw [← hb]; exact implChOk_any c W (h.kept hk) (ht.keeps hk)))
  clear h ht hb
  have HBa := Lib.hid ((Box.new w _ rfl 47 #[.int .i64 c.id, .slice c.bk.A1 c.bk.b.own.length c.bk.c1, .slice c.bk.A2 c.bk.b.notes.length c.bk.c2, .int .i64 c.bk.b.locked, .int .i64 c.st.x.way, .int .i64 c.st.x.ver, .int .i64 c.st.x.want, .slice c.st.A1 c.st.x.sent.length c.st.c1, .slice c.st.A2 c.st.x.live.length c.st.c2, .slice c.st.A3 c.st.x.back.length c.st.c3, .slice c.st.A4 c.st.x.got.length c.st.c4, .slice c.pA c.past.length c.pc, .slice c.kA c.knows.length c.kc]).alloc (.cells #[.slice none 0 0, .slice none 0 0, .int .i64 0, .int .i64 0, .int .i64 0, .int .i64 0, .int .i64 0, .slice none 0 0, .slice none 0 0, .slice none 0 0, .slice none 0 0, .pointer none, .slice none 0 0] 78))
  have HBr := Lib.hid (Box.new (w.alloc (.cells #[.int .i64 c.id, .slice c.bk.A1 c.bk.b.own.length c.bk.c1, .slice c.bk.A2 c.bk.b.notes.length c.bk.c2, .int .i64 c.bk.b.locked, .int .i64 c.st.x.way, .int .i64 c.st.x.ver, .int .i64 c.st.x.want, .slice c.st.A1 c.st.x.sent.length c.st.c1, .slice c.st.A2 c.st.x.live.length c.st.c2, .slice c.st.A3 c.st.x.back.length c.st.c3, .slice c.st.A4 c.st.x.got.length c.st.c4, .slice c.pA c.past.length c.pc, .slice c.kA c.knows.length c.kc] 47)) (w.heap.size + 1) (by simp) 78 #[.slice none 0 0, .slice none 0 0, .int .i64 0, .int .i64 0, .int .i64 0, .int .i64 0, .int .i64 0, .slice none 0 0, .slice none 0 0, .slice none 0 0, .slice none 0 0, .pointer none, .slice none 0 0])
  have HK := Lib.hid (((Keeps.refl noBlk w).alloc (.cells #[.int .i64 c.id, .slice c.bk.A1 c.bk.b.own.length c.bk.c1, .slice c.bk.A2 c.bk.b.notes.length c.bk.c2, .int .i64 c.bk.b.locked, .int .i64 c.st.x.way, .int .i64 c.st.x.ver, .int .i64 c.st.x.want, .slice c.st.A1 c.st.x.sent.length c.st.c1, .slice c.st.A2 c.st.x.live.length c.st.c2, .slice c.st.A3 c.st.x.back.length c.st.c3, .slice c.st.A4 c.st.x.got.length c.st.c4, .slice c.pA c.past.length c.pc, .slice c.kA c.knows.length c.kc] 47)).alloc (.cells #[.slice none 0 0, .slice none 0 0, .int .i64 0, .int .i64 0, .int .i64 0, .int .i64 0, .int .i64 0, .slice none 0 0, .slice none 0 0, .slice none 0 0, .slice none 0 0, .pointer none, .slice none 0 0] 78))
  unfold ChM.val
  unfold ChM.val at F
  go_enter Tryd.func55, Tryd.ntmps55
  go_wp2_with fail
  refine (F.out _ HK.out).mono ?_
  rintro e w1 ⟨rfl, hk1⟩
  have ha := HBa.out.keeps hk1 (fun h => h)
  clear HBa
  have HBa := Lib.hid ha
  clear ha
  have hr := HBr.out.keeps hk1 (fun h => h)
  clear HBr
  have HBr := Lib.hid hr
  clear hr
  have hr := HK.out.trans hk1
  clear HK
  have HK := Lib.hid hr
  clear hr
  have sz1 := hk1.size
  (try simp at sz1)
  clear hk1
  have hb := HBr.out
  have r0 := hb.cell 0
  have r1 := hb.cell 1
  have r2 := hb.cell 2
  have r3 := hb.cell 3
  have r4 := hb.cell 4
  have r5 := hb.cell 5
  have r6 := hb.cell 6
  have r7 := hb.cell 7
  have r8 := hb.cell 8
  have r9 := hb.cell 9
  have r10 := hb.cell 10
  have r11 := hb.cell 11
  have r12 := hb.cell 12
  simp at r0 r1 r2 r3 r4 r5 r6 r7 r8 r9 r10 r11 r12
  have zr := hb.lt
  clear hb
  have hb := HBr.out
  have rf0 := hb.frozen 0
  have rf1 := hb.frozen 1
  have rf2 := hb.frozen 2
  have rf3 := hb.frozen 3
  have rf4 := hb.frozen 4
  have rf5 := hb.frozen 5
  have rf6 := hb.frozen 6
  have rf7 := hb.frozen 7
  have rf8 := hb.frozen 8
  have rf9 := hb.frozen 9
  have rf10 := hb.frozen 10
  have rf11 := hb.frozen 11
  have rf12 := hb.frozen 12
  clear hb
  go_wp2
  refine bodyPost_ret (v := .tuple #[lk0, .bool false]) (by simp [results, Tryd.results55, go_sem, lk0, r0, r1, r2, r3, r4, r5, r6, r7, r8, r9, r10, r11, r12]) rfl ?_
  exact ⟨rfl, HK.out.then ((((((((((((((Keeps.refl (fun b => b = w.heap.size + 1) w1).setCell (p := ⟨w.heap.size + 1, 0, none⟩) (.inr rfl) (.slice none 0 0)).setCell (p := ⟨w.heap.size + 1, 1, none⟩) (.inr rfl) (.slice none 0 0)).setCell (p := ⟨w.heap.size + 1, 2, none⟩) (.inr rfl) (.int .i64 0)).setCell (p := ⟨w.heap.size + 1, 3, none⟩) (.inr rfl) (.int .i64 0)).setCell (p := ⟨w.heap.size + 1, 4, none⟩) (.inr rfl) (.int .i64 0)).setCell (p := ⟨w.heap.size + 1, 5, none⟩) (.inr rfl) (.int .i64 0)).setCell (p := ⟨w.heap.size + 1, 6, none⟩) (.inr rfl) (.int .i64 0)).setCell (p := ⟨w.heap.size + 1, 7, none⟩) (.inr rfl) (.slice none 0 0)).setCell (p := ⟨w.heap.size + 1, 8, none⟩) (.inr rfl) (.slice none 0 0)).setCell (p := ⟨w.heap.size + 1, 9, none⟩) (.inr rfl) (.slice none 0 0)).setCell (p := ⟨w.heap.size + 1, 10, none⟩) (.inr rfl) (.slice none 0 0)).setCell (p := ⟨w.heap.size + 1, 11, none⟩) (.inr rfl) (.pointer none)).setCell (p := ⟨w.heap.size + 1, 12, none⟩) (.inr rfl) (.slice none 0 0)) fun i hi h => by omega⟩
set_option maxRecDepth 100000 in
set_option maxHeartbeats 4000000 in
theorem link_yes (c : ChM) (w : World) (h : ChAt w c) (ht : Tabs w) (hb : ckB c = true) : Calls Tryd.prog 55 #[c.val] w (RetLink w c) := by
  have F := Lib.hid (fun W (hk : Keeps noBlk w W) => (show Calls Tryd.prog 38 #[c.val] W (fun e w' => e = .returned (.bool true) ∧ Keeps noBlk W w') from by rw [← hb]; exact implChOk_any c W (h.kept hk) (ht.keeps hk)))
  have h9 : c.past.length ≤ 1000000 := by have := (of_decide_eq_true hb).2.2.2.1; omega
  have FB := Lib.hid (fun W (hk : Keeps noBlk w W) => blocksOf_any c.pA c.pc c.past W (h.kept hk).row h9)
  clear h ht hb h9
  have HBa := Lib.hid ((Box.new w _ rfl 47 #[.int .i64 c.id, .slice c.bk.A1 c.bk.b.own.length c.bk.c1, .slice c.bk.A2 c.bk.b.notes.length c.bk.c2, .int .i64 c.bk.b.locked, .int .i64 c.st.x.way, .int .i64 c.st.x.ver, .int .i64 c.st.x.want, .slice c.st.A1 c.st.x.sent.length c.st.c1, .slice c.st.A2 c.st.x.live.length c.st.c2, .slice c.st.A3 c.st.x.back.length c.st.c3, .slice c.st.A4 c.st.x.got.length c.st.c4, .slice c.pA c.past.length c.pc, .slice c.kA c.knows.length c.kc]).alloc (.cells #[.slice none 0 0, .slice none 0 0, .int .i64 0, .int .i64 0, .int .i64 0, .int .i64 0, .int .i64 0, .slice none 0 0, .slice none 0 0, .slice none 0 0, .slice none 0 0, .pointer none, .slice none 0 0] 78))
  have HBr := Lib.hid (Box.new (w.alloc (.cells #[.int .i64 c.id, .slice c.bk.A1 c.bk.b.own.length c.bk.c1, .slice c.bk.A2 c.bk.b.notes.length c.bk.c2, .int .i64 c.bk.b.locked, .int .i64 c.st.x.way, .int .i64 c.st.x.ver, .int .i64 c.st.x.want, .slice c.st.A1 c.st.x.sent.length c.st.c1, .slice c.st.A2 c.st.x.live.length c.st.c2, .slice c.st.A3 c.st.x.back.length c.st.c3, .slice c.st.A4 c.st.x.got.length c.st.c4, .slice c.pA c.past.length c.pc, .slice c.kA c.knows.length c.kc] 47)) (w.heap.size + 1) (by simp) 78 #[.slice none 0 0, .slice none 0 0, .int .i64 0, .int .i64 0, .int .i64 0, .int .i64 0, .int .i64 0, .slice none 0 0, .slice none 0 0, .slice none 0 0, .slice none 0 0, .pointer none, .slice none 0 0])
  have HK := Lib.hid (((Keeps.refl noBlk w).alloc (.cells #[.int .i64 c.id, .slice c.bk.A1 c.bk.b.own.length c.bk.c1, .slice c.bk.A2 c.bk.b.notes.length c.bk.c2, .int .i64 c.bk.b.locked, .int .i64 c.st.x.way, .int .i64 c.st.x.ver, .int .i64 c.st.x.want, .slice c.st.A1 c.st.x.sent.length c.st.c1, .slice c.st.A2 c.st.x.live.length c.st.c2, .slice c.st.A3 c.st.x.back.length c.st.c3, .slice c.st.A4 c.st.x.got.length c.st.c4, .slice c.pA c.past.length c.pc, .slice c.kA c.knows.length c.kc] 47)).alloc (.cells #[.slice none 0 0, .slice none 0 0, .int .i64 0, .int .i64 0, .int .i64 0, .int .i64 0, .int .i64 0, .slice none 0 0, .slice none 0 0, .slice none 0 0, .slice none 0 0, .pointer none, .slice none 0 0] 78))
  unfold ChM.val
  unfold ChM.val at F
  go_enter Tryd.func55, Tryd.ntmps55
  go_wp2_with fail
  refine (F.out _ HK.out).mono ?_
  rintro e w1 ⟨rfl, hk1⟩
  have ha := HBa.out.keeps hk1 (fun h => h)
  clear HBa
  have HBa := Lib.hid ha
  clear ha
  have hr := HBr.out.keeps hk1 (fun h => h)
  clear HBr
  have HBr := Lib.hid hr
  clear hr
  have hr := HK.out.trans hk1
  clear HK
  have HK := Lib.hid hr
  clear hr
  have sz1 := hk1.size
  (try simp at sz1)
  clear hk1
  have hb := HBa.out
  have a0 := hb.cell 0
  have a1 := hb.cell 1
  have a2 := hb.cell 2
  have a3 := hb.cell 3
  have a4 := hb.cell 4
  have a5 := hb.cell 5
  have a6 := hb.cell 6
  have a7 := hb.cell 7
  have a8 := hb.cell 8
  have a9 := hb.cell 9
  have a10 := hb.cell 10
  have a11 := hb.cell 11
  have a12 := hb.cell 12
  simp at a0 a1 a2 a3 a4 a5 a6 a7 a8 a9 a10 a11 a12
  have za := hb.lt
  clear hb
  have hb := HBr.out
  have r0 := hb.cell 0
  have r1 := hb.cell 1
  have r2 := hb.cell 2
  have r3 := hb.cell 3
  have r4 := hb.cell 4
  have r5 := hb.cell 5
  have r6 := hb.cell 6
  have r7 := hb.cell 7
  have r8 := hb.cell 8
  have r9 := hb.cell 9
  have r10 := hb.cell 10
  have r11 := hb.cell 11
  have r12 := hb.cell 12
  simp at r0 r1 r2 r3 r4 r5 r6 r7 r8 r9 r10 r11 r12
  have zr := hb.lt
  clear hb
  have hb := HBr.out
  have rf0 := hb.frozen 0
  have rf1 := hb.frozen 1
  have rf2 := hb.frozen 2
  have rf3 := hb.frozen 3
  have rf4 := hb.frozen 4
  have rf5 := hb.frozen 5
  have rf6 := hb.frozen 6
  have rf7 := hb.frozen 7
  have rf8 := hb.frozen 8
  have rf9 := hb.frozen 9
  have rf10 := hb.frozen 10
  have rf11 := hb.frozen 11
  have rf12 := hb.frozen 12
  clear hb
  go_wp2_with fail
  go_region_held3 (fun w' => w'.cell? ⟨w.heap.size, 0, none⟩ = some (.int .i64 c.id) ∧ w'.cell? ⟨w.heap.size, 1, none⟩ = some (.slice c.bk.A1 c.bk.b.own.length c.bk.c1) ∧ w'.cell? ⟨w.heap.size, 2, none⟩ = some (.slice c.bk.A2 c.bk.b.notes.length c.bk.c2) ∧ w'.cell? ⟨w.heap.size, 3, none⟩ = some (.int .i64 c.bk.b.locked) ∧ w'.cell? ⟨w.heap.size, 4, none⟩ = some (.int .i64 c.st.x.way) ∧ w'.cell? ⟨w.heap.size, 5, none⟩ = some (.int .i64 c.st.x.ver) ∧ w'.cell? ⟨w.heap.size, 6, none⟩ = some (.int .i64 c.st.x.want) ∧ w'.cell? ⟨w.heap.size, 7, none⟩ = some (.slice c.st.A1 c.st.x.sent.length c.st.c1) ∧ w'.cell? ⟨w.heap.size, 8, none⟩ = some (.slice c.st.A2 c.st.x.live.length c.st.c2) ∧ w'.cell? ⟨w.heap.size, 9, none⟩ = some (.slice c.st.A3 c.st.x.back.length c.st.c3) ∧ w'.cell? ⟨w.heap.size, 10, none⟩ = some (.slice c.st.A4 c.st.x.got.length c.st.c4) ∧ w'.cell? ⟨w.heap.size, 11, none⟩ = some (.slice c.pA c.past.length c.pc) ∧ w'.cell? ⟨w.heap.size, 12, none⟩ = some (.slice c.kA c.knows.length c.kc))
    (((try dsimp only); (repeat' apply And.intro) <;> (first | with_reducible assumption | (go_keep; done))))
    (first | (clear rf0 rf1 rf2 rf3 rf4 rf5 rf6 rf7 rf8 rf9 rf10 rf11 rf12; go_at_call 77; refine (FB.out _ (HK.out.drewN 1)).mono ?_; rintro e w2 ⟨P, rfl, hl9, hk2⟩; have hq := ((Keeps.refl noBlk w1).drewN 1).trans hk2; clear hk2; have hk2 := hq; clear hq; have HLK := Lib.hid hl9; clear hl9; clear a0 a1 a2 a3 a4 a5 a6 a7 a8 a9 a10 a11 a12 r0 r1 r2 r3 r4 r5 r6 r7 r8 r9 r10 r11 r12 za zr; have ha := HBa.out.keeps hk2 (fun h => h); clear HBa; have HBa := Lib.hid ha; clear ha; have hr := HBr.out.keeps hk2 (fun h => h); clear HBr; have HBr := Lib.hid hr; clear hr; have hr := HK.out.trans hk2; clear HK; have HK := Lib.hid hr; clear hr; have sz2 := hk2.size; (try simp at sz2); clear hk2; have hb := HBa.out; have a0 := hb.cell 0; have a1 := hb.cell 1; have a2 := hb.cell 2; have a3 := hb.cell 3; have a4 := hb.cell 4; have a5 := hb.cell 5; have a6 := hb.cell 6; have a7 := hb.cell 7; have a8 := hb.cell 8; have a9 := hb.cell 9; have a10 := hb.cell 10; have a11 := hb.cell 11; have a12 := hb.cell 12; simp at a0 a1 a2 a3 a4 a5 a6 a7 a8 a9 a10 a11 a12; have za := hb.lt; clear hb; have hb := HBr.out; have r0 := hb.cell 0; have r1 := hb.cell 1; have r2 := hb.cell 2; have r3 := hb.cell 3; have r4 := hb.cell 4; have r5 := hb.cell 5; have r6 := hb.cell 6; have r7 := hb.cell 7; have r8 := hb.cell 8; have r9 := hb.cell 9; have r10 := hb.cell 10; have r11 := hb.cell 11; have r12 := hb.cell 12; simp at r0 r1 r2 r3 r4 r5 r6 r7 r8 r9 r10 r11 r12; have zr := hb.lt; clear hb; have hb := HBr.out; have rf0 := hb.frozen 0; have rf1 := hb.frozen 1; have rf2 := hb.frozen 2; have rf3 := hb.frozen 3; have rf4 := hb.frozen 4; have rf5 := hb.frozen 5; have rf6 := hb.frozen 6; have rf7 := hb.frozen 7; have rf8 := hb.frozen 8; have rf9 := hb.frozen 9; have rf10 := hb.frozen 10; have rf11 := hb.frozen 11; have rf12 := hb.frozen 12; clear hb))
  go_wp2
  refine bodyPost_ret (v := .tuple #[lkV c P, .bool true]) (by simp [results, Tryd.results55, go_sem, lkV, r0, r1, r2, r3, r4, r5, r6, r7, r8, r9, r10, r11, r12]) rfl ?_
  have kS := ((((((((((((((Keeps.refl (fun b => b = w.heap.size + 1) w2).setCell (p := ⟨w.heap.size + 1, 0, none⟩) (.inr rfl) (.slice c.bk.A1 c.bk.b.own.length c.bk.c1)).setCell (p := ⟨w.heap.size + 1, 1, none⟩) (.inr rfl) (.slice c.bk.A2 c.bk.b.notes.length c.bk.c2)).setCell (p := ⟨w.heap.size + 1, 2, none⟩) (.inr rfl) (.int .i64 c.bk.b.locked)).setCell (p := ⟨w.heap.size + 1, 3, none⟩) (.inr rfl) (.int .i64 c.id)).setCell (p := ⟨w.heap.size + 1, 4, none⟩) (.inr rfl) (.int .i64 c.st.x.way)).setCell (p := ⟨w.heap.size + 1, 5, none⟩) (.inr rfl) (.int .i64 c.st.x.ver)).setCell (p := ⟨w.heap.size + 1, 6, none⟩) (.inr rfl) (.int .i64 c.st.x.want)).setCell (p := ⟨w.heap.size + 1, 7, none⟩) (.inr rfl) (.slice c.st.A1 c.st.x.sent.length c.st.c1)).setCell (p := ⟨w.heap.size + 1, 8, none⟩) (.inr rfl) (.slice c.st.A2 c.st.x.live.length c.st.c2)).setCell (p := ⟨w.heap.size + 1, 9, none⟩) (.inr rfl) (.slice c.st.A3 c.st.x.back.length c.st.c3)).setCell (p := ⟨w.heap.size + 1, 10, none⟩) (.inr rfl) (.slice c.st.A4 c.st.x.got.length c.st.c4)).setCell (p := ⟨w.heap.size + 1, 11, none⟩) (.inr rfl) (.pointer P)).setCell (p := ⟨w.heap.size + 1, 12, none⟩) (.inr rfl) (.slice c.kA c.knows.length c.kc))
  have hlo : w.heap.size + 1 < w1.heap.size := by have := sz1; (try simp at this); omega
  exact ⟨P, rfl, Lk.less (by first | omega | (simp; omega)) (Lk.keeps kS (fun b hb => by first | omega | (simp; omega)) HLK.out), HK.out.then kS fun i hi h => by omega⟩
end Go.Proofs.YtcnbephpadmboaaDoor
