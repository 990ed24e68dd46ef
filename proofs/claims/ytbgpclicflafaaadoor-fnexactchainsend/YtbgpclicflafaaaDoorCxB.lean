/- The program's linked list of heights: count, then, blocksOf, at. -/
import Derived.Test.YtbgpclicflafaaaDoorCxM
import Derived.Deep.RegionHeld3
set_option linter.unusedVariables false
set_option linter.unusedSimpArgs false
namespace Go.Proofs.YtbgpclicflafaaaDoor
open Go.RowKit

/-- The pointer P leads to the states rs, the last one first; all of it lies from block lo on. -/
def Lk (w : World) (lo : Nat) : Option Addr → List StM → Prop
  | P, [] => P = none
  | P, s :: rest => ∃ g Q, P = some ⟨g, 0, none⟩ ∧ lo ≤ g ∧ Box w g 106 #[.int .i64 ((rest.length : Int) + 1), .int .i64 s.x.way, .int .i64 s.x.ver, .int .i64 s.x.want, .slice s.A1 s.x.sent.length s.c1, .slice s.A2 s.x.live.length s.c2, .slice s.A3 s.x.back.length s.c3, .slice s.A4 s.x.got.length s.c4, .pointer Q] ∧ Lk w lo Q rest
theorem Lk.keeps {S : Nat → Prop} {lo : Nat} {w w' : World} (hk : Keeps S w w') (hS : ∀ b, S b → b < lo ∨ w.heap.size ≤ b) : ∀ {rs : List StM} {P : Option Addr}, Lk w lo P rs → Lk w' lo P rs
  | [], _, h => h
  | _ :: _, _, ⟨g, q, e, hl, hb, hr⟩ => ⟨g, q, e, hl, hb.keeps hk fun h => by have := hS g h; have := hb.lt; omega, Lk.keeps hk hS hr⟩
theorem Lk.kept {lo : Nat} {w w' : World} {rs : List StM} {P : Option Addr} (h : Lk w lo P rs) (hk : Keeps noBlk w w') : Lk w' lo P rs := Lk.keeps hk (fun _ h => h.elim) h
theorem Lk.less {lo lo' : Nat} {w : World} (hl : lo' ≤ lo) : ∀ {rs : List StM} {P : Option Addr}, Lk w lo P rs → Lk w lo' P rs
  | [], _, h => h
  | _ :: _, _, ⟨g, q, e, h1, hb, hr⟩ => ⟨g, q, e, Nat.le_trans hl h1, hb, Lk.less hl hr⟩
/-- How long it is, by the number of its first block. -/
def lkN (w : World) (v : Value) : Nat := match v with
  | .pointer (some a) => (match w.cell? a with
    | some (.int _ n) => n.toNat
    | _ => 0)
  | _ => 0
theorem Lk.num {w : World} {lo : Nat} {rs : List StM} {P : Option Addr} (h : Lk w lo P rs) : lkN w (.pointer P) = rs.length := by
  match rs, h with
  | [], h =>
    obtain rfl : P = none := h
    rfl
  | s :: rest, ⟨g, q, e, _, hb, _⟩ =>
    subst e
    have b0 := hb.cell 0
    simp at b0
    simp only [lkN, b0, List.length_cons]
    omega

set_option maxHeartbeats 1000000 in
theorem count_any (P : Option Addr) (rs : List StM) (lo : Nat) (w : World) (h : Lk w lo P rs) :
    Calls Tryd.prog 71 #[.pointer P] w fun e w' => e = .returned (.int .i64 (rs.length : Int)) ∧ w = w' := by
  match rs, h with
  | [], h =>
    obtain rfl : P = none := h
    go_enter Tryd.func71, Tryd.ntmps71
    go_wp2
    go_ret
    exact ⟨rfl, rfl⟩
  | s :: rest, ⟨g, q, e, _, hb, _⟩ =>
    subst e
    have b0 := hb.cell 0
    simp at b0
    clear hb
    go_enter Tryd.func71, Tryd.ntmps71
    go_wp2
    go_ret
    exact ⟨by first | rfl | (simp; done), rfl⟩
def RetLk (w : World) (lo : Nat) (rs : List StM) (e : Ending) (w' : World) : Prop := ∃ P, e = .returned (.pointer P) ∧ Lk w' lo P rs ∧ Keeps noBlk w w'
set_option maxRecDepth 100000 in
set_option maxHeartbeats 2000000 in
theorem then_any (P : Option Addr) (rs : List StM) (s : StM) (lo : Nat) (w : World) (h : Lk w lo P rs) (hlo : lo ≤ w.heap.size) (hn : rs.length ≤ 1000000) :
    Calls Tryd.prog 72 #[.pointer P, s.val] w (RetLk w lo (s :: rs)) := by
  have HC := Lib.hid (fun W (hk : Keeps noBlk w W) => count_any P rs lo W (h.kept hk))
  have HL := Lib.hid h
  have hb := Box.new w _ rfl 37 #[.int .i64 s.x.way, .int .i64 s.x.ver, .int .i64 s.x.want, .slice s.A1 s.x.sent.length s.c1, .slice s.A2 s.x.live.length s.c2, .slice s.A3 s.x.back.length s.c3, .slice s.A4 s.x.got.length s.c4]
  have HK := Lib.hid ((Keeps.refl noBlk w).alloc (.cells #[.int .i64 s.x.way, .int .i64 s.x.ver, .int .i64 s.x.want, .slice s.A1 s.x.sent.length s.c1, .slice s.A2 s.x.live.length s.c2, .slice s.A3 s.x.back.length s.c3, .slice s.A4 s.x.got.length s.c4] 37))
  have b0 := hb.cell 0
  have b1 := hb.cell 1
  have b2 := hb.cell 2
  have b3 := hb.cell 3
  have b4 := hb.cell 4
  have b5 := hb.cell 5
  have b6 := hb.cell 6
  simp at b0 b1 b2 b3 b4 b5 b6
  have hwr : IntKind.i64.wrap ((rs.length : Int) + 1) = (rs.length : Int) + 1 := IntWalk.i64_in _ (by omega)
  have HLO : Hid (lo ≤ w.heap.size + 1) := Lib.hid (by omega)
  clear h hb hlo
  unfold StM.val
  go_enter Tryd.func72, Tryd.ntmps72
  go_wp2_with fail
  go_region_held3 (fun w' => w'.cell? ⟨w.heap.size, 0, none⟩ = some (.int .i64 s.x.way) ∧ w'.cell? ⟨w.heap.size, 1, none⟩ = some (.int .i64 s.x.ver) ∧ w'.cell? ⟨w.heap.size, 2, none⟩ = some (.int .i64 s.x.want) ∧ w'.cell? ⟨w.heap.size, 3, none⟩ = some (.slice s.A1 s.x.sent.length s.c1) ∧ w'.cell? ⟨w.heap.size, 4, none⟩ = some (.slice s.A2 s.x.live.length s.c2) ∧ w'.cell? ⟨w.heap.size, 5, none⟩ = some (.slice s.A3 s.x.back.length s.c3) ∧ w'.cell? ⟨w.heap.size, 6, none⟩ = some (.slice s.A4 s.x.got.length s.c4))
    (((try dsimp only); (repeat' apply And.intro) <;> (first | with_reducible assumption | (go_keep; done))))
    (first | (go_at_call 71; refine (HC.out _ (HK.out.drewN 1)).mono ?_; rintro e w1 ⟨rfl, rfl⟩))
  go_wp2
  go_ret
  have hk := ((HK.out.drewN 1).alloc (.cells #[.int .i64 ((rs.length : Int) + 1), .int .i64 s.x.way, .int .i64 s.x.ver, .int .i64 s.x.want, .slice s.A1 s.x.sent.length s.c1, .slice s.A2 s.x.live.length s.c2, .slice s.A3 s.x.back.length s.c3, .slice s.A4 s.x.got.length s.c4, .pointer P] 106))
  exact ⟨_, rfl, ⟨_, _, rfl, HLO.out, Box.new _ _ (by first | rfl | simp | (simp [World.drewN]; done)) _ _, HL.out.kept hk⟩, hk⟩
set_option maxRecDepth 100000 in
set_option maxHeartbeats 2000000 in
theorem blocksOf_any (A : Option Addr) (c : Nat) (l : List StM) (w : World) (ha : Pas w A l.length l) (hn : l.length ≤ 1000000) :
    Calls Tryd.prog 121 #[.slice A l.length c] w (RetLk w w.heap.size l.reverse) := by
  have HA := Lib.hid ha
  clear ha
  go_enter Tryd.func121, Tryd.ntmps121
  go_wp2
  go_loopw [3, 8] (fun p i wr => ∃ (k : Nat) (P : Option Addr), k ≤ l.length ∧ i = .int .i64 k ∧ p = .pointer P ∧ Lk wr w.heap.size P (l.take k).reverse ∧ Keeps noBlk w wr) (fun _ i _ => l.length - (intOf i).toNat)
  case atStart => exact ⟨0, none, Nat.zero_le _, rfl, rfl, by simp [Lk], Keeps.refl _ _⟩
  case round =>
    obtain ⟨k, P, hk, rfl, rfl, hlk, hkp⟩ := hrel
    by_cases hlt : k < l.length
    · obtain ⟨b1, o1, rfl, _, q0, q1, q2, q3, q4, q5, q6⟩ := (HA.out.kept hkp).at_ hlt
      have HLT := Lib.hid hlt
      have HTK : Hid ((l.take (k + 1)).reverse = (l.getD k stm0) :: (l.take k).reverse) := Lib.hid (by
        rw [List.take_add_one, getD_some stm0 hlt]
        simp)
      have hln : (l.take k).reverse.length ≤ 1000000 := by simp; omega
      generalize (l.take k).reverse = rs at *
      generalize l.getD k stm0 = s at *
      have hal := Lib.hid ((Keeps.refl noBlk wr).alloc (.cells #[.int .i64 s.x.way, .int .i64 s.x.ver, .int .i64 s.x.want, .slice s.A1 s.x.sent.length s.c1, .slice s.A2 s.x.live.length s.c2, .slice s.A3 s.x.back.length s.c3, .slice s.A4 s.x.got.length s.c4] 37))
      have F := Lib.hid (fun W (hk : Keeps noBlk wr W) => then_any P rs s w.heap.size W (hlk.kept hk) (Nat.le_trans hkp.size hk.size) hln)
      unfold StM.val at F
      have HK := Lib.hid hkp
      clear hkp hlk hln
      go_wp2_with fail
      refine (F.out _ hal.out).mono ?_
      rintro e w1 ⟨p1, rfl, hl1, hk1⟩
      have HL1 := Lib.hid hl1
      have HK1 := Lib.hid (HK.out.trans (hal.out.trans hk1))
      clear hl1 hk1 q0 q1 q2 q3 q4 q5 q6
      go_wp2
      go_roundw
      case rel => exact ⟨k + 1, p1, HLT.out, by go_num, rfl, by rw [HTK.out]; exact HL1.out, HK1.out⟩
      case measure => have := HLT.out; simp [intOf]; omega
    · have HL1 : Hid (Lk wr w.heap.size P l.reverse) := Lib.hid (by
        have := hlk
        rw [List.take_of_length_le (by omega)] at this
        exact this)
      have HK := Lib.hid hkp
      clear hlk hkp
      go_wp2
      go_ret
      exact ⟨P, rfl, HL1.out, HK.out⟩
/-- What a height's number leads to: the states up to it, the last one first. -/
def upto (rs : List StM) (h : Int) : List StM := if 1 ≤ h ∧ h ≤ rs.length then rs.drop (rs.length - h.toNat) else []
theorem upto_hit (s : StM) (rest : List StM) : upto (s :: rest) ((rest.length : Int) + 1) = s :: rest := by
  unfold upto
  rw [if_pos (by simp; omega)]
  have : (s :: rest).length - ((rest.length : Int) + 1).toNat = 0 := by simp
  rw [this]
  rfl
theorem upto_miss (s : StM) (rest : List StM) (h : Int) (hne : ((rest.length : Int) + 1) ≠ h) : upto (s :: rest) h = upto rest h := by
  unfold upto
  by_cases hc : 1 ≤ h ∧ h ≤ rest.length
  · rw [if_pos hc, if_pos (by simp; omega)]
    have : (s :: rest).length - h.toNat = (rest.length - h.toNat) + 1 := by simp; omega
    rw [this, List.drop_succ_cons]
  · rw [if_neg hc, if_neg (by simp; omega)]
set_option maxRecDepth 100000 in
set_option maxHeartbeats 2000000 in
theorem at_any (P : Option Addr) (rs : List StM) (n : Int) (lo : Nat) (w : World) (h : Lk w lo P rs) :
    Calls Tryd.prog 84 #[.pointer P, .int .i64 n] w fun e w' => ∃ Q, e = .returned (.pointer Q) ∧ Lk w lo Q (upto rs n) ∧ w = w' := by
  have HL := Lib.hid h
  clear h
  go_enter Tryd.func84, Tryd.ntmps84
  go_wp2
  go_loopw [0] (fun q wr => ∃ (ts : List StM) (Q : Option Addr), q = .pointer Q ∧ Lk w lo Q ts ∧ upto ts n = upto rs n ∧ wr = w) (fun q wr => lkN wr q)
  case atStart => exact ⟨rs, P, rfl, HL.out, rfl, rfl⟩
  case round =>
    obtain ⟨ts, Q, rfl, hl, hu, rfl⟩ := hrel
    match ts, hl, hu with
    | [], hl, hu =>
      have HU := Lib.hid hu
      obtain rfl : Q = none := hl
      clear hl hu
      go_wp2
      go_ret
      refine ⟨none, rfl, ?_, rfl⟩
      rw [← HU.out]
      unfold upto
      rw [if_neg (by simp; omega)]
      rfl
    | s :: rest, hl, hu =>
      have HU := Lib.hid hu
      have HLL := Lib.hid hl
      have HN := Lib.hid hl.num
      obtain ⟨g, R, rfl, _, hb, hr⟩ := hl
      have b0 := hb.cell 0
      have b8 := hb.cell 8
      simp at b0 b8
      have HR := Lib.hid hr
      have HN2 := Lib.hid hr.num
      clear hb hr hu
      generalize hm : (rest.length : Int) + 1 = m at b0
      by_cases hmn : m = n
      · have hd : (m != n) = false := by simpa using hmn
        have HE : Hid (upto rs n = s :: rest) := Lib.hid (by rw [← HU.out, ← hmn, ← hm]; exact upto_hit s rest)
        clear hm hmn
        go_wp2
        go_ret
        exact ⟨_, rfl, by rw [HE.out]; exact HLL.out, rfl⟩
      · have hd : (m != n) = true := by simpa using hmn
        have HE : Hid (upto rest n = upto rs n) := Lib.hid (by rw [← HU.out]; exact (upto_miss s rest n (by rw [hm]; exact hmn)).symm)
        clear hm hmn
        go_wp2
        go_roundw
        case rel => exact ⟨rest, R, rfl, HR.out, HE.out, by trivial⟩
        case measure => rw [HN.out, HN2.out]; simp
end Go.Proofs.YtbgpclicflafaaaDoor
