/- toChain of the laws: a chain anew, of the call's own. -/
import Derived.Test.YtcnbephpadmboaaGreatDoorUCxS
import Derived.Test.YtcnbephpadmboaaGreatDoorCxH
set_option linter.unusedVariables false
set_option linter.unusedSimpArgs false
namespace Go.Proofs.YtcnbephpadmboaaGreatDoor
open Go.RowKit

/-- A row of ints of the call's own between two sizes of the memory. -/
structure RowB (w : World) (lo hi : Nat) (A : Option Addr) (n : Nat) (xs : List Int) : Prop where
  row : Row w lo A n xs
  lt : ∀ b, blk A n b → b < hi
theorem RowB.mk' {w : World} {lo : Nat} {A : Option Addr} {n : Nat} {xs : List Int} (h : Row w lo A n xs) : RowB w lo w.heap.size A n xs := ⟨h, fun _ hb => h.lt hb⟩
theorem RowB.keeps {w w' : World} {S : Nat → Prop} {lo hi : Nat} {A : Option Addr} {n : Nat} {xs : List Int} (h : RowB w lo hi A n xs) (hk : Keeps S w w') (hs : ∀ b, S b → b < lo) : RowB w' lo hi A n xs := ⟨h.row.keeps hk fun b hb hS => by have := h.row.ge hb; have := hs b hS; omega, h.lt⟩
theorem RowB.kept {w w' : World} {lo hi : Nat} {A : Option Addr} {n : Nat} {xs : List Int} (h : RowB w lo hi A n xs) (hk : Keeps noBlk w w') : RowB w' lo hi A n xs := h.keeps hk fun _ h => h.elim
structure StB (w : World) (lo hi : Nat) (s : StM) : Prop where
  own : s.Own w lo
  lt : ∀ b, s.bl b → b < hi
theorem StB.mk' {w : World} {lo : Nat} {s : StM} (h : s.Own w lo) : StB w lo w.heap.size s := ⟨h, fun _ hb => h.lt hb⟩
theorem StB.keeps {w w' : World} {S : Nat → Prop} {lo hi : Nat} {s : StM} (h : StB w lo hi s) (hk : Keeps S w w') (hs : ∀ b, S b → b < lo) : StB w' lo hi s := ⟨h.own.keeps hk fun b hb hS => by have := h.own.ge hb; have := hs b hS; omega, h.lt⟩
theorem StB.kept {w w' : World} {lo hi : Nat} {s : StM} (h : StB w lo hi s) (hk : Keeps noBlk w w') : StB w' lo hi s := h.keeps hk fun _ h => h.elim
structure PaB (w : World) (lo hi : Nat) (A : Option Addr) (n : Nat) (us : List StM) : Prop where
  row : SRow w lo A n us
  gh : ∀ G : Nat → Nat, ∃ G' : Nat → Nat, (∀ b, b < lo → G' b = G b) ∧ (∀ b, blk A n b → G' b = 3) ∧ (∀ i, i < n → SOwn G' 10 w lo us i)
  lt : ∀ b, blk A n b → b < hi
  lts : ∀ i, i < n → ∀ b, (us.getD i stm0).bl b → b < hi
theorem PaB.mk' {w : World} {lo : Nat} {A : Option Addr} {n : Nat} {us : List StM} (h : SRow w lo A n us) (hG : ∀ G : Nat → Nat, ∃ G' : Nat → Nat, (∀ b, b < lo → G' b = G b) ∧ (∀ b, blk A n b → G' b = 3) ∧ (∀ i, i < n → SOwn G' 10 w lo us i)) : PaB w lo w.heap.size A n us :=
  ⟨h, hG, fun _ hb => h.lt hb, fun i hi b hb => by
    obtain ⟨G', _, _, h3⟩ := hG fun _ => 0
    exact (h3 i hi).1.lt hb⟩
theorem PaB.keeps {w w' : World} {S : Nat → Prop} {lo hi : Nat} {A : Option Addr} {n : Nat} {us : List StM} (h : PaB w lo hi A n us) (hk : Keeps S w w') (hs : ∀ b, S b → b < lo) : PaB w' lo hi A n us :=
  ⟨h.row.keeps hk fun b hb hS => by have := h.row.ge hb; have := hs b hS; omega, fun G => by
    obtain ⟨G', h1, h2, h3⟩ := h.gh G
    exact ⟨G', h1, h2, fun i hi => ⟨(h3 i hi).1.keeps hk fun b hb hS => by have := (h3 i hi).1.ge hb; have := hs b hS; omega, (h3 i hi).2⟩⟩, h.lt, h.lts⟩
theorem PaB.kept {w w' : World} {lo hi : Nat} {A : Option Addr} {n : Nat} {us : List StM} (h : PaB w lo hi A n us) (hk : Keeps noBlk w w') : PaB w' lo hi A n us := h.keeps hk fun _ h => h.elim
/-- The call hands back (among f) a chain of its own that holds what c holds. -/
def RetC (f : Value → Value) (w : World) (c : ChM) (e : Ending) (w' : World) : Prop := ∃ (d : ChM) (G : Nat → Nat), e = .returned (f d.val) ∧ SameC c d ∧ ChOwn G w' w.heap.size d ∧ Keeps noBlk w w'
/-- A chain's rows, made one behind the other in whatever order of the groups (each between two sizes), are of roles of their own. -/
theorem own_of {w : World} {lo : Nat} (d : ChM) {l1 h1 l2 h2 l3 h3 l4 h4 l5 h5 : Nat} (Ro : RowB w l1 h1 d.bk.A1 d.bk.b.own.length d.bk.b.own) (Rn : RowB w l2 h2 d.bk.A2 d.bk.b.notes.length d.bk.b.notes)
    (Rs : StB w l3 h3 d.st) (Rp : PaB w l4 h4 d.pA d.past.length d.past) (Rk : RowB w l5 h5 d.kA d.knows.length d.knows) (dis : ∀ b, blk d.bk.A1 d.bk.b.own.length b → ¬ blk d.bk.A2 d.bk.b.notes.length b)
    (e13 : h1 ≤ l3 ∨ h3 ≤ l1) (e14 : h1 ≤ l4 ∨ h4 ≤ l1) (e15 : h1 ≤ l5 ∨ h5 ≤ l1) (e23 : h2 ≤ l3 ∨ h3 ≤ l2) (e24 : h2 ≤ l4 ∨ h4 ≤ l2) (e25 : h2 ≤ l5 ∨ h5 ≤ l2) (e34 : h3 ≤ l4 ∨ h4 ≤ l3) (e35 : h3 ≤ l5 ∨ h5 ≤ l3) (e45 : h4 ≤ l5 ∨ h5 ≤ l4)
    (o1 : lo ≤ l1) (o2 : lo ≤ l2) (o3 : lo ≤ l3) (o4 : lo ≤ l4) (o5 : lo ≤ l5)
    (m1 : d.bk.b.own.length ≤ maxLen) (m2 : d.bk.b.notes.length ≤ maxLen) (m3 : d.past.length ≤ maxLen) (m4 : d.knows.length ≤ maxLen) (m5 : d.st.Len) (m6 : ∀ i, i < d.past.length → (d.past.getD i stm0).Len) : ∃ G, ChOwn G w lo d := by
  classical
  obtain ⟨G', g1, g2, g3⟩ := Rp.gh fun _ => 0
  refine ⟨fun b => if blk d.bk.A1 d.bk.b.own.length b then 0 else if blk d.bk.A2 d.bk.b.notes.length b then 1 else if d.st.bl b then 2 else if blk d.kA d.knows.length b then 4 else G' b, ?_⟩
  have n1 : ∀ b, (blk d.pA d.past.length b ∨ ∃ i, i < d.past.length ∧ (d.past.getD i stm0).bl b) → ¬ blk d.bk.A1 d.bk.b.own.length b ∧ ¬ blk d.bk.A2 d.bk.b.notes.length b ∧ ¬ d.st.bl b ∧ ¬ blk d.kA d.knows.length b := by
    intro b hb
    have hb2 : l4 ≤ b ∧ b < h4 := by
      rcases hb with hb | ⟨i, hi, hb⟩
      · exact ⟨Rp.row.ge hb, Rp.lt b hb⟩
      · exact ⟨(g3 i hi).1.ge hb, Rp.lts i hi b hb⟩
    refine ⟨fun h => ?_, fun h => ?_, fun h => ?_, fun h => ?_⟩
    · have := Ro.row.ge h; have := Ro.lt b h; omega
    · have := Rn.row.ge h; have := Rn.lt b h; omega
    · have := Rs.own.ge h; have := Rs.lt b h; omega
    · have := Rk.row.ge h; have := Rk.lt b h; omega
  refine ⟨Ro.row.less o1, fun b hb => if_pos hb, Rn.row.less o2, fun b hb => ?_, Rs.own.less o3, fun b hb => ?_, Rp.row.less o4, fun b hb => ?_, fun i hi => ⟨(g3 i hi).1.less o4, fun b hb => ?_⟩, Rk.row.less o5, fun b hb => ?_, m1, m2, m3, m4, m5, m6⟩
  · (try dsimp only)
    rw [if_neg (fun h => dis b h hb), if_pos hb]
  · (try dsimp only)
    have a1 : ¬ blk d.bk.A1 d.bk.b.own.length b := fun h => by have := Ro.row.ge h; have := Ro.lt b h; have := Rs.own.ge hb; have := Rs.lt b hb; omega
    have a2 : ¬ blk d.bk.A2 d.bk.b.notes.length b := fun h => by have := Rn.row.ge h; have := Rn.lt b h; have := Rs.own.ge hb; have := Rs.lt b hb; omega
    rw [if_neg a1, if_neg a2, if_pos hb]
  · (try dsimp only)
    obtain ⟨q1, q2, q3, q4⟩ := n1 b (.inl hb)
    rw [if_neg q1, if_neg q2, if_neg q3, if_neg q4, g2 b hb]
  · (try dsimp only)
    obtain ⟨q1, q2, q3, q4⟩ := n1 b (.inr ⟨i, hi, hb⟩)
    rw [if_neg q1, if_neg q2, if_neg q3, if_neg q4, (g3 i hi).2 b hb]
  · (try dsimp only)
    have a1 : ¬ blk d.bk.A1 d.bk.b.own.length b := fun h => by have := Ro.row.ge h; have := Ro.lt b h; have := Rk.row.ge hb; have := Rk.lt b hb; omega
    have a2 : ¬ blk d.bk.A2 d.bk.b.notes.length b := fun h => by have := Rn.row.ge h; have := Rn.lt b h; have := Rk.row.ge hb; have := Rk.lt b hb; omega
    have a3 : ¬ d.st.bl b := fun h => by have := Rs.own.ge h; have := Rs.lt b h; have := Rk.row.ge hb; have := Rk.lt b hb; omega
    rw [if_neg a1, if_neg a2, if_neg a3, if_pos hb]
/-- All lists of a chain are short. -/
structure Short (c : ChM) : Prop where
  own : c.bk.b.own.length ≤ 1048576
  notes : c.bk.b.notes.length ≤ 1048576
  st : c.st.x.sent.length ≤ 1048576 ∧ c.st.x.live.length ≤ 1048576 ∧ c.st.x.back.length ≤ 1048576 ∧ c.st.x.got.length ≤ 1048576
  past : c.past.length ≤ 1048576
  pasts : ∀ s ∈ c.past, s.x.sent.length ≤ 1048576 ∧ s.x.live.length ≤ 1048576 ∧ s.x.back.length ≤ 1048576 ∧ s.x.got.length ≤ 1048576
  knows : c.knows.length ≤ 1048576
set_option maxRecDepth 100000 in
set_option maxHeartbeats 4000000 in
theorem toChain_any (c : ChM) (w : World) (h : ChAt w c) (hs : Short c) : Calls Tryz.prog 10 #[c.val] w (RetC (fun v => v) w c) := by
  have F1 := Lib.hid (fun W (hk : Keeps noBlk w W) => toBank_any c.bk.A1 c.bk.A2 c.bk.b.own.length c.bk.b.notes.length c.bk.c1 c.bk.c2 c.bk.b.locked c.bk.b.own c.bk.b.notes W (h.kept hk).own (h.kept hk).notes hs.own hs.notes)
  have F2 := Lib.hid (fun W (hk : Keeps noBlk w W) => toState_any c.st.x c.st.A1 c.st.A2 c.st.A3 c.st.A4 c.st.c1 c.st.c2 c.st.c3 c.st.c4 W (h.kept hk).st hs.st.1 hs.st.2.1 hs.st.2.2.1 hs.st.2.2.2)
  have F3 := Lib.hid (fun W (hk : Keeps noBlk w W) => toStateS_any c.pA c.pc c.past W (h.kept hk).row (h.kept hk).past hs.past hs.pasts)
  have F4 := Lib.hid (fun W (hk : Keeps noBlk w W) => toIntS_any c.kA c.knows.length c.kc c.knows W ((h.kept hk).knows) hs.knows)
  have LEN : Hid (c.st.Len ∧ ∀ i, i < c.past.length → (c.past.getD i stm0).Len) := Lib.hid ⟨⟨h.st.2.1, h.st.2.2.1, h.st.2.2.2.1, h.st.2.2.2.2⟩, fun i hi => by
    have := h.past _ (getD_mem' stm0 hi)
    exact ⟨this.2.1, this.2.2.1, this.2.2.2.1, this.2.2.2.2⟩⟩
  have MM := Lib.hid (And.intro h.m1 (And.intro h.m2 (And.intro h.m3 h.m4)))
  obtain ⟨C, hC⟩ : ∃ C, c = C := ⟨c, rfl⟩
  have HC := Lib.hid hC
  clear hC h hs
  rw [show RetC (fun v => v) w c = RetC (fun v => v) w C by rw [HC.out]]
  obtain ⟨id, ⟨⟨own, notes, lk⟩, a1, a2, e1, e2⟩, ⟨x, A1, A2, A3, A4, c1, c2, c3, c4⟩, past, pA, pc, knows, kA, kc⟩ := c
  dsimp only at F1 F2 F3 F4 LEN MM
  unfold stV at F2
  unfold ChM.val
  dsimp only
  have HA := Lib.hid (((Box.new w _ rfl 31 #[.int .i64 id, .slice a1 own.length e1, .slice a2 notes.length e2, .int .i64 lk, .int .i64 x.way, .int .i64 x.ver, .int .i64 x.want, .slice A1 x.sent.length c1, .slice A2 x.live.length c2, .slice A3 x.back.length c3, .slice A4 x.got.length c4, .slice pA past.length pc, .slice kA knows.length kc]).alloc (.cells #[.int .i64 0, .slice none 0 0, .slice none 0 0, .int .i64 0, .int .i64 0, .int .i64 0, .int .i64 0, .slice none 0 0, .slice none 0 0, .slice none 0 0, .slice none 0 0, .slice none 0 0, .slice none 0 0] 42)).alloc (.cells #[.int .i64 id, .slice none 0 0, .slice none 0 0, .int .i64 0, .int .i64 0, .int .i64 0, .int .i64 0, .slice none 0 0, .slice none 0 0, .slice none 0 0, .slice none 0 0, .slice none 0 0, .slice none 0 0] 42))
  have HR := Lib.hid ((Box.new (w.alloc (.cells #[.int .i64 id, .slice a1 own.length e1, .slice a2 notes.length e2, .int .i64 lk, .int .i64 x.way, .int .i64 x.ver, .int .i64 x.want, .slice A1 x.sent.length c1, .slice A2 x.live.length c2, .slice A3 x.back.length c3, .slice A4 x.got.length c4, .slice pA past.length pc, .slice kA knows.length kc] 31)) (w.heap.size + 1) (by simp) 42 #[.int .i64 0, .slice none 0 0, .slice none 0 0, .int .i64 0, .int .i64 0, .int .i64 0, .int .i64 0, .slice none 0 0, .slice none 0 0, .slice none 0 0, .slice none 0 0, .slice none 0 0, .slice none 0 0]).alloc (.cells #[.int .i64 id, .slice none 0 0, .slice none 0 0, .int .i64 0, .int .i64 0, .int .i64 0, .int .i64 0, .slice none 0 0, .slice none 0 0, .slice none 0 0, .slice none 0 0, .slice none 0 0, .slice none 0 0] 42))
  have HO := Lib.hid (Box.new ((w.alloc (.cells #[.int .i64 id, .slice a1 own.length e1, .slice a2 notes.length e2, .int .i64 lk, .int .i64 x.way, .int .i64 x.ver, .int .i64 x.want, .slice A1 x.sent.length c1, .slice A2 x.live.length c2, .slice A3 x.back.length c3, .slice A4 x.got.length c4, .slice pA past.length pc, .slice kA knows.length kc] 31)).alloc (.cells #[.int .i64 0, .slice none 0 0, .slice none 0 0, .int .i64 0, .int .i64 0, .int .i64 0, .int .i64 0, .slice none 0 0, .slice none 0 0, .slice none 0 0, .slice none 0 0, .slice none 0 0, .slice none 0 0] 42)) (w.heap.size + 1 + 1) (by simp) 42 #[.int .i64 id, .slice none 0 0, .slice none 0 0, .int .i64 0, .int .i64 0, .int .i64 0, .int .i64 0, .slice none 0 0, .slice none 0 0, .slice none 0 0, .slice none 0 0, .slice none 0 0, .slice none 0 0])
  have HK := Lib.hid ((((Keeps.refl noBlk w).alloc (.cells #[.int .i64 id, .slice a1 own.length e1, .slice a2 notes.length e2, .int .i64 lk, .int .i64 x.way, .int .i64 x.ver, .int .i64 x.want, .slice A1 x.sent.length c1, .slice A2 x.live.length c2, .slice A3 x.back.length c3, .slice A4 x.got.length c4, .slice pA past.length pc, .slice kA knows.length kc] 31)).alloc (.cells #[.int .i64 0, .slice none 0 0, .slice none 0 0, .int .i64 0, .int .i64 0, .int .i64 0, .int .i64 0, .slice none 0 0, .slice none 0 0, .slice none 0 0, .slice none 0 0, .slice none 0 0, .slice none 0 0] 42)).alloc (.cells #[.int .i64 id, .slice none 0 0, .slice none 0 0, .int .i64 0, .int .i64 0, .int .i64 0, .int .i64 0, .slice none 0 0, .slice none 0 0, .slice none 0 0, .slice none 0 0, .slice none 0 0, .slice none 0 0] 42))
  go_enter Tryz.func10, Tryz.ntmps10
  go_wp2_with fail
  have hsz : w.heap.size + 2 < (((w.alloc (.cells #[.int .i64 id, .slice a1 own.length e1, .slice a2 notes.length e2, .int .i64 lk, .int .i64 x.way, .int .i64 x.ver, .int .i64 x.want, .slice A1 x.sent.length c1, .slice A2 x.live.length c2, .slice A3 x.back.length c3, .slice A4 x.got.length c4, .slice pA past.length pc, .slice kA knows.length kc] 31)).alloc (.cells #[.int .i64 0, .slice none 0 0, .slice none 0 0, .int .i64 0, .int .i64 0, .int .i64 0, .int .i64 0, .slice none 0 0, .slice none 0 0, .slice none 0 0, .slice none 0 0, .slice none 0 0, .slice none 0 0] 42)).alloc (.cells #[.int .i64 id, .slice none 0 0, .slice none 0 0, .int .i64 0, .int .i64 0, .int .i64 0, .int .i64 0, .slice none 0 0, .slice none 0 0, .slice none 0 0, .slice none 0 0, .slice none 0 0, .slice none 0 0] 42)).heap.size := by simp
  generalize hW : (((w.alloc (.cells #[.int .i64 id, .slice a1 own.length e1, .slice a2 notes.length e2, .int .i64 lk, .int .i64 x.way, .int .i64 x.ver, .int .i64 x.want, .slice A1 x.sent.length c1, .slice A2 x.live.length c2, .slice A3 x.back.length c3, .slice A4 x.got.length c4, .slice pA past.length pc, .slice kA knows.length kc] 31)).alloc (.cells #[.int .i64 0, .slice none 0 0, .slice none 0 0, .int .i64 0, .int .i64 0, .int .i64 0, .int .i64 0, .slice none 0 0, .slice none 0 0, .slice none 0 0, .slice none 0 0, .slice none 0 0, .slice none 0 0] 42)).alloc (.cells #[.int .i64 id, .slice none 0 0, .slice none 0 0, .int .i64 0, .int .i64 0, .int .i64 0, .int .i64 0, .slice none 0 0, .slice none 0 0, .slice none 0 0, .slice none 0 0, .slice none 0 0, .slice none 0 0] 42)) = W0 at HA HR HO HK hsz
  clear hW
  refine (F1.out _ HK.out).mono ?_
  rintro e w1 ⟨b1, b2, rfl, hro, hrn, hdis, hk⟩
  have hs1 := hk.size
  have hzz : w.heap.size + 2 < w1.heap.size := Nat.lt_of_lt_of_le hsz hk.size
  have hA := HA.out.keeps hk fun h => h
  have hR := HR.out.keeps hk fun h => h
  have hO := HO.out.keeps hk fun h => h
  clear HA HR HO
  have hkk := HK.out.trans hk
  clear HK
  have HK := Lib.hid hkk
  clear hkk
  clear hk
  have Ro := Lib.hid (RowB.mk' hro)
  have Rn := Lib.hid (RowB.mk' hrn)
  have DIS := Lib.hid hdis
  clear hro hrn hdis
  have a0 := hA.cell 0
  have a1 := hA.cell 1
  have a2 := hA.cell 2
  have a3 := hA.cell 3
  have a4 := hA.cell 4
  have a5 := hA.cell 5
  have a6 := hA.cell 6
  have a7 := hA.cell 7
  have a8 := hA.cell 8
  have a9 := hA.cell 9
  have a10 := hA.cell 10
  have a11 := hA.cell 11
  have a12 := hA.cell 12
  have o0 := hO.cell 0
  have o1 := hO.cell 1
  have o2 := hO.cell 2
  have o3 := hO.cell 3
  have o4 := hO.cell 4
  have o5 := hO.cell 5
  have o6 := hO.cell 6
  have o7 := hO.cell 7
  have o8 := hO.cell 8
  have o9 := hO.cell 9
  have o10 := hO.cell 10
  have o11 := hO.cell 11
  have o12 := hO.cell 12
  have f1 := hO.frozen 1
  have f2 := hO.frozen 2
  have f3 := hO.frozen 3
  simp at a0 a1 a2 a3 a4 a5 a6 a7 a8 a9 a10 a11 a12 o0 o1 o2 o3 o4 o5 o6 o7 o8 o9 o10 o11 o12
  have kS := Lib.hid ((((Keeps.refl (fun b => b = w.heap.size + 1 + 1) w1).setCell (p := ⟨w.heap.size + 1 + 1, 1, none⟩) (.inr rfl) (.slice b1 own.length own.length)).setCell (p := ⟨w.heap.size + 1 + 1, 2, none⟩) (.inr rfl) (.slice b2 notes.length notes.length)).setCell (p := ⟨w.heap.size + 1 + 1, 3, none⟩) (.inr rfl) (.int .i64 lk))
  have ho := (((hO.set_ 1 (.slice b1 own.length own.length)).set_ 2 (.slice b2 notes.length notes.length)).set_ 3 (.int .i64 lk))
  simp only [List.setIfInBounds_toArray, List.set_cons_zero, List.set_cons_succ] at ho
  have HO := Lib.hid ho
  have HA := Lib.hid (hA.keeps kS.out fun h => by omega)
  have HR := Lib.hid (hR.keeps kS.out fun h => by omega)
  clear hA hR hO ho
  have hkk := HK.out.then kS.out fun i hi h => by omega
  clear HK
  have HK := Lib.hid hkk
  clear hkk
  have hr := Ro.out.keeps kS.out (by simp; omega)
  clear Ro
  have Ro := Lib.hid hr
  clear hr
  have hr := Rn.out.keeps kS.out (by simp; omega)
  clear Rn
  have Rn := Lib.hid hr
  clear hr
  go_wp2_with fail
  have hsz : w.heap.size + 2 < (((w1.setCell ⟨w.heap.size + 1 + 1, 1, none⟩ (.slice b1 own.length own.length)).setCell ⟨w.heap.size + 1 + 1, 2, none⟩ (.slice b2 notes.length notes.length)).setCell ⟨w.heap.size + 1 + 1, 3, none⟩ (.int .i64 lk)).heap.size := by simpa [World.setCell] using hzz
  have hE1 : w1.heap.size = (((w1.setCell ⟨w.heap.size + 1 + 1, 1, none⟩ (.slice b1 own.length own.length)).setCell ⟨w.heap.size + 1 + 1, 2, none⟩ (.slice b2 notes.length notes.length)).setCell ⟨w.heap.size + 1 + 1, 3, none⟩ (.int .i64 lk)).heap.size := by simp [World.setCell]
  clear hzz kS a0 a1 a2 a3 a4 a5 a6 a7 a8 a9 a10 a11 a12 o0 o1 o2 o3 o4 o5 o6 o7 o8 o9 o10 o11 o12 f1 f2 f3
  generalize hW : (((w1.setCell ⟨w.heap.size + 1 + 1, 1, none⟩ (.slice b1 own.length own.length)).setCell ⟨w.heap.size + 1 + 1, 2, none⟩ (.slice b2 notes.length notes.length)).setCell ⟨w.heap.size + 1 + 1, 3, none⟩ (.int .i64 lk)) = W1 at HA HR HO HK hsz hE1 Ro Rn
  clear hW
  refine (F2.out _ HK.out).mono ?_
  rintro e w2 ⟨B1, B2, B3, B4, rfl, hst, hk⟩
  unfold stV
  have hs2 := hk.size
  have hzz : w.heap.size + 2 < w2.heap.size := Nat.lt_of_lt_of_le hsz hk.size
  have hA := HA.out.keeps hk fun h => h
  have hR := HR.out.keeps hk fun h => h
  have hO := HO.out.keeps hk fun h => h
  clear HA HR HO
  have hkk := HK.out.trans hk
  clear HK
  have HK := Lib.hid hkk
  clear hkk
  have hr := Ro.out.kept hk
  clear Ro
  have Ro := Lib.hid hr
  clear hr
  have hr := Rn.out.kept hk
  clear Rn
  have Rn := Lib.hid hr
  clear hr
  clear hk
  have Rs := Lib.hid (StB.mk' (s := ⟨x, B1, B2, B3, B4, x.sent.length, x.live.length, x.back.length, x.got.length⟩) hst)
  clear hst
  have a0 := hA.cell 0
  have a1 := hA.cell 1
  have a2 := hA.cell 2
  have a3 := hA.cell 3
  have a4 := hA.cell 4
  have a5 := hA.cell 5
  have a6 := hA.cell 6
  have a7 := hA.cell 7
  have a8 := hA.cell 8
  have a9 := hA.cell 9
  have a10 := hA.cell 10
  have a11 := hA.cell 11
  have a12 := hA.cell 12
  have o0 := hO.cell 0
  have o1 := hO.cell 1
  have o2 := hO.cell 2
  have o3 := hO.cell 3
  have o4 := hO.cell 4
  have o5 := hO.cell 5
  have o6 := hO.cell 6
  have o7 := hO.cell 7
  have o8 := hO.cell 8
  have o9 := hO.cell 9
  have o10 := hO.cell 10
  have o11 := hO.cell 11
  have o12 := hO.cell 12
  have f4 := hO.frozen 4
  have f5 := hO.frozen 5
  have f6 := hO.frozen 6
  have f7 := hO.frozen 7
  have f8 := hO.frozen 8
  have f9 := hO.frozen 9
  have f10 := hO.frozen 10
  simp at a0 a1 a2 a3 a4 a5 a6 a7 a8 a9 a10 a11 a12 o0 o1 o2 o3 o4 o5 o6 o7 o8 o9 o10 o11 o12
  have kS := Lib.hid ((((((((Keeps.refl (fun b => b = w.heap.size + 1 + 1) w2).setCell (p := ⟨w.heap.size + 1 + 1, 4, none⟩) (.inr rfl) (.int .i64 x.way)).setCell (p := ⟨w.heap.size + 1 + 1, 5, none⟩) (.inr rfl) (.int .i64 x.ver)).setCell (p := ⟨w.heap.size + 1 + 1, 6, none⟩) (.inr rfl) (.int .i64 x.want)).setCell (p := ⟨w.heap.size + 1 + 1, 7, none⟩) (.inr rfl) (.slice B1 x.sent.length x.sent.length)).setCell (p := ⟨w.heap.size + 1 + 1, 8, none⟩) (.inr rfl) (.slice B2 x.live.length x.live.length)).setCell (p := ⟨w.heap.size + 1 + 1, 9, none⟩) (.inr rfl) (.slice B3 x.back.length x.back.length)).setCell (p := ⟨w.heap.size + 1 + 1, 10, none⟩) (.inr rfl) (.slice B4 x.got.length x.got.length))
  have ho := (((((((hO.set_ 4 (.int .i64 x.way)).set_ 5 (.int .i64 x.ver)).set_ 6 (.int .i64 x.want)).set_ 7 (.slice B1 x.sent.length x.sent.length)).set_ 8 (.slice B2 x.live.length x.live.length)).set_ 9 (.slice B3 x.back.length x.back.length)).set_ 10 (.slice B4 x.got.length x.got.length))
  simp only [List.setIfInBounds_toArray, List.set_cons_zero, List.set_cons_succ] at ho
  have HO := Lib.hid ho
  have HA := Lib.hid (hA.keeps kS.out fun h => by omega)
  have HR := Lib.hid (hR.keeps kS.out fun h => by omega)
  clear hA hR hO ho
  have hkk := HK.out.then kS.out fun i hi h => by omega
  clear HK
  have HK := Lib.hid hkk
  clear hkk
  have hr := Ro.out.keeps kS.out (by simp; omega)
  clear Ro
  have Ro := Lib.hid hr
  clear hr
  have hr := Rn.out.keeps kS.out (by simp; omega)
  clear Rn
  have Rn := Lib.hid hr
  clear hr
  have hr := Rs.out.keeps kS.out (by simp; omega)
  clear Rs
  have Rs := Lib.hid hr
  clear hr
  go_wp2_with fail
  have hsz : w.heap.size + 2 < (((((((w2.setCell ⟨w.heap.size + 1 + 1, 4, none⟩ (.int .i64 x.way)).setCell ⟨w.heap.size + 1 + 1, 5, none⟩ (.int .i64 x.ver)).setCell ⟨w.heap.size + 1 + 1, 6, none⟩ (.int .i64 x.want)).setCell ⟨w.heap.size + 1 + 1, 7, none⟩ (.slice B1 x.sent.length x.sent.length)).setCell ⟨w.heap.size + 1 + 1, 8, none⟩ (.slice B2 x.live.length x.live.length)).setCell ⟨w.heap.size + 1 + 1, 9, none⟩ (.slice B3 x.back.length x.back.length)).setCell ⟨w.heap.size + 1 + 1, 10, none⟩ (.slice B4 x.got.length x.got.length)).heap.size := by simpa [World.setCell] using hzz
  have hE2 : w2.heap.size = (((((((w2.setCell ⟨w.heap.size + 1 + 1, 4, none⟩ (.int .i64 x.way)).setCell ⟨w.heap.size + 1 + 1, 5, none⟩ (.int .i64 x.ver)).setCell ⟨w.heap.size + 1 + 1, 6, none⟩ (.int .i64 x.want)).setCell ⟨w.heap.size + 1 + 1, 7, none⟩ (.slice B1 x.sent.length x.sent.length)).setCell ⟨w.heap.size + 1 + 1, 8, none⟩ (.slice B2 x.live.length x.live.length)).setCell ⟨w.heap.size + 1 + 1, 9, none⟩ (.slice B3 x.back.length x.back.length)).setCell ⟨w.heap.size + 1 + 1, 10, none⟩ (.slice B4 x.got.length x.got.length)).heap.size := by simp [World.setCell]
  clear hzz kS a0 a1 a2 a3 a4 a5 a6 a7 a8 a9 a10 a11 a12 o0 o1 o2 o3 o4 o5 o6 o7 o8 o9 o10 o11 o12 f4 f5 f6 f7 f8 f9 f10
  generalize hW : (((((((w2.setCell ⟨w.heap.size + 1 + 1, 4, none⟩ (.int .i64 x.way)).setCell ⟨w.heap.size + 1 + 1, 5, none⟩ (.int .i64 x.ver)).setCell ⟨w.heap.size + 1 + 1, 6, none⟩ (.int .i64 x.want)).setCell ⟨w.heap.size + 1 + 1, 7, none⟩ (.slice B1 x.sent.length x.sent.length)).setCell ⟨w.heap.size + 1 + 1, 8, none⟩ (.slice B2 x.live.length x.live.length)).setCell ⟨w.heap.size + 1 + 1, 9, none⟩ (.slice B3 x.back.length x.back.length)).setCell ⟨w.heap.size + 1 + 1, 10, none⟩ (.slice B4 x.got.length x.got.length)) = W2 at HA HR HO HK hsz hE2 Ro Rn Rs
  clear hW
  refine (F3.out _ HK.out).mono ?_
  rintro e w3 ⟨qA, us, rfl, hul, hrow, hsame, hk, hG⟩
  have hs3 := hk.size
  have hzz : w.heap.size + 2 < w3.heap.size := Nat.lt_of_lt_of_le hsz hk.size
  have hA := HA.out.keeps hk fun h => h
  have hR := HR.out.keeps hk fun h => h
  have hO := HO.out.keeps hk fun h => h
  clear HA HR HO
  have hkk := HK.out.trans hk
  clear HK
  have HK := Lib.hid hkk
  clear hkk
  have hr := Ro.out.kept hk
  clear Ro
  have Ro := Lib.hid hr
  clear hr
  have hr := Rn.out.kept hk
  clear Rn
  have Rn := Lib.hid hr
  clear hr
  have hr := Rs.out.kept hk
  clear Rs
  have Rs := Lib.hid hr
  clear hr
  clear hk
  have Rp := Lib.hid (PaB.mk' hrow hG)
  have SM := Lib.hid hsame
  clear hrow hG hsame
  have HUL := Lib.hid hul
  clear hul
  have a0 := hA.cell 0
  have a1 := hA.cell 1
  have a2 := hA.cell 2
  have a3 := hA.cell 3
  have a4 := hA.cell 4
  have a5 := hA.cell 5
  have a6 := hA.cell 6
  have a7 := hA.cell 7
  have a8 := hA.cell 8
  have a9 := hA.cell 9
  have a10 := hA.cell 10
  have a11 := hA.cell 11
  have a12 := hA.cell 12
  have o0 := hO.cell 0
  have o1 := hO.cell 1
  have o2 := hO.cell 2
  have o3 := hO.cell 3
  have o4 := hO.cell 4
  have o5 := hO.cell 5
  have o6 := hO.cell 6
  have o7 := hO.cell 7
  have o8 := hO.cell 8
  have o9 := hO.cell 9
  have o10 := hO.cell 10
  have o11 := hO.cell 11
  have o12 := hO.cell 12
  have f11 := hO.frozen 11
  simp at a0 a1 a2 a3 a4 a5 a6 a7 a8 a9 a10 a11 a12 o0 o1 o2 o3 o4 o5 o6 o7 o8 o9 o10 o11 o12
  have kS := Lib.hid ((Keeps.refl (fun b => b = w.heap.size + 1 + 1) w3).setCell (p := ⟨w.heap.size + 1 + 1, 11, none⟩) (.inr rfl) (.slice qA past.length past.length))
  have ho := (hO.set_ 11 (.slice qA past.length past.length))
  simp only [List.setIfInBounds_toArray, List.set_cons_zero, List.set_cons_succ] at ho
  have HO := Lib.hid ho
  have HA := Lib.hid (hA.keeps kS.out fun h => by omega)
  have HR := Lib.hid (hR.keeps kS.out fun h => by omega)
  clear hA hR hO ho
  have hkk := HK.out.then kS.out fun i hi h => by omega
  clear HK
  have HK := Lib.hid hkk
  clear hkk
  have hr := Ro.out.keeps kS.out (by simp; omega)
  clear Ro
  have Ro := Lib.hid hr
  clear hr
  have hr := Rn.out.keeps kS.out (by simp; omega)
  clear Rn
  have Rn := Lib.hid hr
  clear hr
  have hr := Rs.out.keeps kS.out (by simp; omega)
  clear Rs
  have Rs := Lib.hid hr
  clear hr
  have hr := Rp.out.keeps kS.out (by simp; omega)
  clear Rp
  have Rp := Lib.hid hr
  clear hr
  go_wp2_with fail
  have hsz : w.heap.size + 2 < (w3.setCell ⟨w.heap.size + 1 + 1, 11, none⟩ (.slice qA past.length past.length)).heap.size := by simpa [World.setCell] using hzz
  have hE3 : w3.heap.size = (w3.setCell ⟨w.heap.size + 1 + 1, 11, none⟩ (.slice qA past.length past.length)).heap.size := by simp [World.setCell]
  clear hzz kS a0 a1 a2 a3 a4 a5 a6 a7 a8 a9 a10 a11 a12 o0 o1 o2 o3 o4 o5 o6 o7 o8 o9 o10 o11 o12 f11
  generalize hW : (w3.setCell ⟨w.heap.size + 1 + 1, 11, none⟩ (.slice qA past.length past.length)) = W3 at HA HR HO HK hsz hE3 Ro Rn Rs Rp
  clear hW
  refine (F4.out _ HK.out).mono ?_
  rintro e w4 ⟨kB, rfl, hkn, hk⟩
  have hs4 := hk.size
  have hzz : w.heap.size + 2 < w4.heap.size := Nat.lt_of_lt_of_le hsz hk.size
  have hA := HA.out.keeps hk fun h => h
  have hR := HR.out.keeps hk fun h => h
  have hO := HO.out.keeps hk fun h => h
  clear HA HR HO
  have hkk := HK.out.trans hk
  clear HK
  have HK := Lib.hid hkk
  clear hkk
  have hr := Ro.out.kept hk
  clear Ro
  have Ro := Lib.hid hr
  clear hr
  have hr := Rn.out.kept hk
  clear Rn
  have Rn := Lib.hid hr
  clear hr
  have hr := Rs.out.kept hk
  clear Rs
  have Rs := Lib.hid hr
  clear hr
  have hr := Rp.out.kept hk
  clear Rp
  have Rp := Lib.hid hr
  clear hr
  clear hk
  have Rk := Lib.hid (RowB.mk' hkn)
  clear hkn
  have a0 := hA.cell 0
  have a1 := hA.cell 1
  have a2 := hA.cell 2
  have a3 := hA.cell 3
  have a4 := hA.cell 4
  have a5 := hA.cell 5
  have a6 := hA.cell 6
  have a7 := hA.cell 7
  have a8 := hA.cell 8
  have a9 := hA.cell 9
  have a10 := hA.cell 10
  have a11 := hA.cell 11
  have a12 := hA.cell 12
  have o0 := hO.cell 0
  have o1 := hO.cell 1
  have o2 := hO.cell 2
  have o3 := hO.cell 3
  have o4 := hO.cell 4
  have o5 := hO.cell 5
  have o6 := hO.cell 6
  have o7 := hO.cell 7
  have o8 := hO.cell 8
  have o9 := hO.cell 9
  have o10 := hO.cell 10
  have o11 := hO.cell 11
  have o12 := hO.cell 12
  have f12 := hO.frozen 12
  have r0 := hR.cell 0
  have r1 := hR.cell 1
  have r2 := hR.cell 2
  have r3 := hR.cell 3
  have r4 := hR.cell 4
  have r5 := hR.cell 5
  have r6 := hR.cell 6
  have r7 := hR.cell 7
  have r8 := hR.cell 8
  have r9 := hR.cell 9
  have r10 := hR.cell 10
  have r11 := hR.cell 11
  have r12 := hR.cell 12
  have g0 := hR.frozen 0
  have g1 := hR.frozen 1
  have g2 := hR.frozen 2
  have g3 := hR.frozen 3
  have g4 := hR.frozen 4
  have g5 := hR.frozen 5
  have g6 := hR.frozen 6
  have g7 := hR.frozen 7
  have g8 := hR.frozen 8
  have g9 := hR.frozen 9
  have g10 := hR.frozen 10
  have g11 := hR.frozen 11
  have g12 := hR.frozen 12
  simp at a0 a1 a2 a3 a4 a5 a6 a7 a8 a9 a10 a11 a12 o0 o1 o2 o3 o4 o5 o6 o7 o8 o9 o10 o11 o12 r0 r1 r2 r3 r4 r5 r6 r7 r8 r9 r10 r11 r12
  clear hA hR hO
  go_wp2
  have hU := HUL.out
  refine bodyPost_ret (v := (⟨id, ⟨⟨own, notes, lk⟩, b1, b2, own.length, notes.length⟩, ⟨x, B1, B2, B3, B4, x.sent.length, x.live.length, x.back.length, x.got.length⟩, us, qA, past.length, knows, kB, knows.length⟩ : ChM).val) (by simp [results, Tryz.results10, go_sem, ChM.val, hU, r0, r1, r2, r3, r4, r5, r6, r7, r8, r9, r10, r11, r12]) rfl ?_
  have kS : Keeps (two (w.heap.size + 1) (w.heap.size + 1 + 1)) w4 ((((((((((((((w4.setCell ⟨w.heap.size + 1 + 1, 12, none⟩ (.slice kB knows.length knows.length)).setCell ⟨w.heap.size + 1, 0, none⟩ (.int .i64 id)).setCell ⟨w.heap.size + 1, 1, none⟩ (.slice b1 own.length own.length)).setCell ⟨w.heap.size + 1, 2, none⟩ (.slice b2 notes.length notes.length)).setCell ⟨w.heap.size + 1, 3, none⟩ (.int .i64 lk)).setCell ⟨w.heap.size + 1, 4, none⟩ (.int .i64 x.way)).setCell ⟨w.heap.size + 1, 5, none⟩ (.int .i64 x.ver)).setCell ⟨w.heap.size + 1, 6, none⟩ (.int .i64 x.want)).setCell ⟨w.heap.size + 1, 7, none⟩ (.slice B1 x.sent.length x.sent.length)).setCell ⟨w.heap.size + 1, 8, none⟩ (.slice B2 x.live.length x.live.length)).setCell ⟨w.heap.size + 1, 9, none⟩ (.slice B3 x.back.length x.back.length)).setCell ⟨w.heap.size + 1, 10, none⟩ (.slice B4 x.got.length x.got.length)).setCell ⟨w.heap.size + 1, 11, none⟩ (.slice qA past.length past.length)).setCell ⟨w.heap.size + 1, 12, none⟩ (.slice kB knows.length knows.length)) := ((((((((((((((((Keeps.refl (two (w.heap.size + 1) (w.heap.size + 1 + 1)) w4)).setB _ _).setA _ _).setA _ _).setA _ _).setA _ _).setA _ _).setA _ _).setA _ _).setA _ _).setA _ _).setA _ _).setA _ _).setA _ _).setA _ _)
  have hlt : ∀ b, two (w.heap.size + 1) (w.heap.size + 1 + 1) b → b < w.heap.size + 2 + 1 := fun b hb => by rcases hb with h | h <;> omega
  obtain ⟨G, hO⟩ := own_of (lo := w.heap.size) (⟨id, ⟨⟨own, notes, lk⟩, b1, b2, own.length, notes.length⟩, ⟨x, B1, B2, B3, B4, x.sent.length, x.live.length, x.back.length, x.got.length⟩, us, qA, past.length, knows, kB, knows.length⟩ : ChM) (Ro.out.keeps kS fun b hb => by have := hlt b hb; omega) (Rn.out.keeps kS fun b hb => by have := hlt b hb; omega) (Rs.out.keeps kS fun b hb => by have := hlt b hb; omega)
    (by have := Rp.out.keeps kS (fun b hb => by have := hlt b hb; omega); dsimp only; rw [HUL.out]; exact this) (Rk.out.keeps kS fun b hb => by have := hlt b hb; omega) DIS.out
    (by omega) (by omega) (by omega) (by omega) (by omega) (by omega) (by omega) (by omega) (by omega) (by omega) (by omega) (by omega) (by omega) (by omega)
    MM.out.1 MM.out.2.1 (by dsimp only; rw [HUL.out]; exact MM.out.2.2.1) MM.out.2.2.2 LEN.out.1 (fun i hi => by
      dsimp only at hi ⊢
      rw [HUL.out] at hi
      have := LEN.out.2 i hi
      unfold StM.Len at this ⊢
      rw [← SM.out.2 i hi]
      exact this)
  refine ⟨(⟨id, ⟨⟨own, notes, lk⟩, b1, b2, own.length, notes.length⟩, ⟨x, B1, B2, B3, B4, x.sent.length, x.live.length, x.back.length, x.got.length⟩, us, qA, past.length, knows, kB, knows.length⟩ : ChM), G, rfl, ?_, hO, HK.out.then kS fun i hi h => by rcases h with h | h <;> omega⟩
  rw [← HC.out]
  exact ⟨rfl, rfl, rfl, SM.out, rfl⟩
end Go.Proofs.YtcnbephpadmboaaGreatDoor
