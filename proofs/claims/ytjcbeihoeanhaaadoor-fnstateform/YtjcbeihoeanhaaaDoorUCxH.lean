/- A chain of the call's own; heldStateS, markChain, heldChain of the laws. toChain of the laws: a chain anew, of the call's own. -/
import Derived.Test.YtjcbeihoeanhaaaDoorUCxS
set_option linter.unusedVariables false
set_option linter.unusedSimpArgs false
/-! CxH -/
namespace Go.Proofs.YtjcbeihoeanhaaaDoor
open Go.RowKit

structure ChOwn (G : Nat → Nat) (w : World) (lo : Nat) (c : ChM) : Prop where
  own : Row w lo c.bk.A1 c.bk.b.own.length c.bk.b.own
  gown : ∀ b, blk c.bk.A1 c.bk.b.own.length b → G b = 0
  notes : Row w lo c.bk.A2 c.bk.b.notes.length c.bk.b.notes
  gnotes : ∀ b, blk c.bk.A2 c.bk.b.notes.length b → G b = 1
  st : c.st.Own w lo
  gst : ∀ b, c.st.bl b → G b = 2
  row : SRow w lo c.pA c.past.length c.past
  grow : ∀ b, blk c.pA c.past.length b → G b = 3
  past : ∀ i, i < c.past.length → SOwn G 10 w lo c.past i
  knows : Row w lo c.kA c.knows.length c.knows
  gknows : ∀ b, blk c.kA c.knows.length b → G b = 4
  m1 : c.bk.b.own.length ≤ maxLen
  m2 : c.bk.b.notes.length ≤ maxLen
  m3 : c.past.length ≤ maxLen
  m4 : c.knows.length ≤ maxLen
  m5 : c.st.Len
  m6 : ∀ i, i < c.past.length → (c.past.getD i stm0).Len
theorem ChOwn.at_ {G : Nat → Nat} {w : World} {lo : Nat} {c : ChM} (h : ChOwn G w lo c) : ChAt w c :=
  ⟨h.own.1, h.notes.1, h.st.at_ h.m5, h.row.1, fun s hs => by
    obtain ⟨i, hi, rfl⟩ := List.getElem_of_mem hs
    have e : c.past.getD i stm0 = c.past[i] := by rw [List.getD_eq_getElem?_getD, List.getElem?_eq_getElem hi]; rfl
    rw [← e]
    exact (h.past i hi).1.at_ (h.m6 i hi), h.knows.1, h.m1, h.m2, h.m3, h.m4⟩
theorem ChOwn.kept {G : Nat → Nat} {w w' : World} {lo : Nat} {c : ChM} (h : ChOwn G w lo c) (hk : Keeps noBlk w w') : ChOwn G w' lo c :=
  ⟨h.own.keeps hk fun _ _ h => h, h.gown, h.notes.keeps hk fun _ _ h => h, h.gnotes, h.st.kept hk, h.gst, h.row.kept hk, h.grow, fun i hi => (h.past i hi).kept hk, h.knows.keeps hk fun _ _ h => h, h.gknows, h.m1, h.m2, h.m3, h.m4, h.m5, h.m6⟩
def chBlk (c : ChM) (b : Nat) : Prop := blk c.bk.A1 c.bk.b.own.length b ∨ blk c.bk.A2 c.bk.b.notes.length b ∨ c.st.bl b ∨ pasBlk c.pA c.past b ∨ blk c.kA c.knows.length b
theorem ChOwn.ge {G : Nat → Nat} {w : World} {lo : Nat} {c : ChM} (h : ChOwn G w lo c) {b : Nat} (hb : chBlk c b) : lo ≤ b := by
  rcases hb with hb | hb | hb | (hb | ⟨i, hi, hb⟩) | hb
  · exact h.own.ge hb
  · exact h.notes.ge hb
  · exact h.st.ge hb
  · exact h.row.ge hb
  · exact (h.past i hi).1.ge hb
  · exact h.knows.ge hb
theorem ChOwn.lt {G : Nat → Nat} {w : World} {lo : Nat} {c : ChM} (h : ChOwn G w lo c) {b : Nat} (hb : chBlk c b) : b < w.heap.size := by
  rcases hb with hb | hb | hb | (hb | ⟨i, hi, hb⟩) | hb
  · exact h.own.lt hb
  · exact h.notes.lt hb
  · exact h.st.lt hb
  · exact h.row.lt hb
  · exact (h.past i hi).1.lt hb
  · exact h.knows.lt hb
theorem ChAt.keeps {S : Nat → Prop} {w w' : World} {c : ChM} (h : ChAt w c) (hk : Keeps S w w') (hs : ∀ b, chBlk c b → ¬ S b) : ChAt w' c :=
  ⟨h.own.keeps hk fun b hb => hs b (.inl hb), h.notes.keeps hk fun b hb => hs b (.inr (.inl hb)), h.st.keeps hk fun b hb => hs b (.inr (.inr (.inl hb))), h.row.keeps hk fun b hb => hs b (.inr (.inr (.inr (.inl (.inl hb))))), fun s hsm => by
    obtain ⟨i, hi, rfl⟩ := List.getElem_of_mem hsm
    have e : c.past.getD i stm0 = c.past[i] := by rw [List.getD_eq_getElem?_getD, List.getElem?_eq_getElem hi]; rfl
    exact (h.past _ hsm).keeps hk fun b hb => hs b (.inr (.inr (.inr (.inl (.inr ⟨i, hi, by rw [e]; exact hb⟩))))), h.knows.keeps hk fun b hb => hs b (.inr (.inr (.inr (.inr hb)))), h.m1, h.m2, h.m3, h.m4⟩
theorem ChOwn.keeps {S : Nat → Prop} {G : Nat → Nat} {w w' : World} {lo : Nat} {c : ChM} (h : ChOwn G w lo c) (hk : Keeps S w w') (hs : ∀ b, chBlk c b → ¬ S b) : ChOwn G w' lo c :=
  ⟨h.own.keeps hk fun b hb => hs b (.inl hb), h.gown, h.notes.keeps hk fun b hb => hs b (.inr (.inl hb)), h.gnotes, h.st.keeps hk fun b hb => hs b (.inr (.inr (.inl hb))), h.gst, h.row.keeps hk fun b hb => hs b (.inr (.inr (.inr (.inl (.inl hb))))), h.grow,
    fun i hi => ⟨(h.past i hi).1.keeps hk fun b hb => hs b (.inr (.inr (.inr (.inl (.inr ⟨i, hi, hb⟩))))), (h.past i hi).2⟩, h.knows.keeps hk fun b hb => hs b (.inr (.inr (.inr (.inr hb)))), h.gknows, h.m1, h.m2, h.m3, h.m4, h.m5, h.m6⟩
def chN (c : ChM) : Int := (c.bk.b.own.length : Int) + c.bk.b.notes.length + stN c.st.x + paN c.past c.past.length + c.knows.length
def chMark (c : ChM) (k : Int) : ChM :=
  { c with bk := { c.bk with b := { c.bk.b with own := iota k c.bk.b.own.length, notes := iota (k + c.bk.b.own.length) c.bk.b.notes.length } }, st := { c.st with x := stMark c.st.x (k + c.bk.b.own.length + c.bk.b.notes.length) },
           past := pastMark c.past (k + c.bk.b.own.length + c.bk.b.notes.length + stN c.st.x), knows := iota (k + c.bk.b.own.length + c.bk.b.notes.length + stN c.st.x + paN c.past c.past.length) c.knows.length }
def RetChMark (G : Nat → Nat) (lo : Nat) (w : World) (c : ChM) (k : Int) (e : Ending) (w' : World) : Prop := e = .returned (.int .i64 (k + chN c)) ∧ ChOwn G w' lo (chMark c k) ∧ Keeps (chBlk c) w w'

theorem iota_blk {A : Option Addr} {k : Int} {n b : Nat} : blk A (iota k n).length b ↔ blk A n b := by rw [iota_length]

structure RowB (w : World) (lo hi : Nat) (A : Option Addr) (n : Nat) (xs : List Int) : Prop where
 row : Row w lo A n xs
 lt : ∀ b, blk A n b → b < hi
theorem RowB.mk' {w : World} {lo : Nat} {A : Option Addr} {n : Nat} {xs : List Int} (h : Row w lo A n xs) : RowB w lo w.heap.size A n xs := ⟨h, fun _ hb => h.lt hb⟩
theorem RowB.keeps {w w' : World} {S : Nat → Prop} {lo hi : Nat} {A : Option Addr} {n : Nat} {xs : List Int} (h : RowB w lo hi A n xs) (hk : Keeps S w w') (hs : ∀ b, S b → b < lo) : RowB w' lo hi A n xs := ⟨h.row.keeps hk fun b hb hS => by have := h.row.ge hb; have := hs b hS; omega, h.lt⟩
theorem RowB.kept {w w' : World} {lo hi : Nat} {A : Option Addr} {n : Nat} {xs : List Int} (h : RowB w lo hi A n xs) (hk : Keeps noBlk w w') : RowB w' lo hi A n xs := h.keeps hk fun _ h => h.elim
structure StB (w : World) (lo hi : Nat) (s : StM) : Prop where
 own : s.Own w lo
 lt : ∀ b, s.bl b → b < hi
theorem StB.mk' {w : World} {lo : Nat} {s : StM} (h : s.Own w lo) : StB w lo w.heap.size s := ⟨h, fun _ hb => h.lt hb⟩
theorem StB.keeps {w w' : World} {S : Nat → Prop} {lo hi : Nat} {s : StM} (h : StB w lo hi s) (hk : Keeps S w w') (hs : ∀ b, S b → b < lo) : StB w' lo hi s := ⟨h.own.keeps hk fun b hb hS => by have := h.own.ge hb; have := hs b hS; omega, h.lt⟩
theorem StB.kept {w w' : World} {lo hi : Nat} {s : StM} (h : StB w lo hi s) (hk : Keeps noBlk w w') : StB w' lo hi s := h.keeps hk fun _ h => h.elim
structure PaB (w : World) (lo hi : Nat) (A : Option Addr) (n : Nat) (us : List StM) : Prop where
 row : SRow w lo A n us
 gh : ∀ G : Nat → Nat, ∃ G' : Nat → Nat, (∀ b, b < lo → G' b = G b) ∧ (∀ b, blk A n b → G' b = 3) ∧ (∀ i, i < n → SOwn G' 10 w lo us i)
 lt : ∀ b, blk A n b → b < hi
 lts : ∀ i, i < n → ∀ b, (us.getD i stm0).bl b → b < hi
theorem PaB.mk' {w : World} {lo : Nat} {A : Option Addr} {n : Nat} {us : List StM} (h : SRow w lo A n us) (hG : ∀ G : Nat → Nat, ∃ G' : Nat → Nat, (∀ b, b < lo → G' b = G b) ∧ (∀ b, blk A n b → G' b = 3) ∧ (∀ i, i < n → SOwn G' 10 w lo us i)) : PaB w lo w.heap.size A n us :=
 ⟨h, hG, fun _ hb => h.lt hb, fun i hi b hb => by
  obtain ⟨G', _, _, h3⟩ := hG fun _ => 0
  exact (h3 i hi).1.lt hb⟩
theorem PaB.keeps {w w' : World} {S : Nat → Prop} {lo hi : Nat} {A : Option Addr} {n : Nat} {us : List StM} (h : PaB w lo hi A n us) (hk : Keeps S w w') (hs : ∀ b, S b → b < lo) : PaB w' lo hi A n us :=
 ⟨h.row.keeps hk fun b hb hS => by have := h.row.ge hb; have := hs b hS; omega, fun G => by
  obtain ⟨G', h1, h2, h3⟩ := h.gh G
  exact ⟨G', h1, h2, fun i hi => ⟨(h3 i hi).1.keeps hk fun b hb hS => by have := (h3 i hi).1.ge hb; have := hs b hS; omega, (h3 i hi).2⟩⟩, h.lt, h.lts⟩
theorem PaB.kept {w w' : World} {lo hi : Nat} {A : Option Addr} {n : Nat} {us : List StM} (h : PaB w lo hi A n us) (hk : Keeps noBlk w w') : PaB w' lo hi A n us := h.keeps hk fun _ h => h.elim
def RetC (f : Value → Value) (w : World) (c : ChM) (e : Ending) (w' : World) : Prop := ∃ (d : ChM) (G : Nat → Nat), e = .returned (f d.val) ∧ SameC c d ∧ ChOwn G w' w.heap.size d ∧ Keeps noBlk w w'
theorem own_of {w : World} {lo : Nat} (d : ChM) {l1 h1 l2 h2 l3 h3 l4 h4 l5 h5 : Nat} (Ro : RowB w l1 h1 d.bk.A1 d.bk.b.own.length d.bk.b.own) (Rn : RowB w l2 h2 d.bk.A2 d.bk.b.notes.length d.bk.b.notes)
  (Rs : StB w l3 h3 d.st) (Rp : PaB w l4 h4 d.pA d.past.length d.past) (Rk : RowB w l5 h5 d.kA d.knows.length d.knows) (dis : ∀ b, blk d.bk.A1 d.bk.b.own.length b → ¬ blk d.bk.A2 d.bk.b.notes.length b)
  (e13 : h1 ≤ l3 ∨ h3 ≤ l1) (e14 : h1 ≤ l4 ∨ h4 ≤ l1) (e15 : h1 ≤ l5 ∨ h5 ≤ l1) (e23 : h2 ≤ l3 ∨ h3 ≤ l2) (e24 : h2 ≤ l4 ∨ h4 ≤ l2) (e25 : h2 ≤ l5 ∨ h5 ≤ l2) (e34 : h3 ≤ l4 ∨ h4 ≤ l3) (e35 : h3 ≤ l5 ∨ h5 ≤ l3) (e45 : h4 ≤ l5 ∨ h5 ≤ l4)
  (o1 : lo ≤ l1) (o2 : lo ≤ l2) (o3 : lo ≤ l3) (o4 : lo ≤ l4) (o5 : lo ≤ l5)
  (m1 : d.bk.b.own.length ≤ maxLen) (m2 : d.bk.b.notes.length ≤ maxLen) (m3 : d.past.length ≤ maxLen) (m4 : d.knows.length ≤ maxLen) (m5 : d.st.Len) (m6 : ∀ i, i < d.past.length → (d.past.getD i stm0).Len) : ∃ G, ChOwn G w lo d := by
 classical
 obtain ⟨G', g1, g2, g3⟩ := Rp.gh fun _ => 0
 refine ⟨fun b => if blk d.bk.A1 d.bk.b.own.length b then 0 else if blk d.bk.A2 d.bk.b.notes.length b then 1 else if d.st.bl b then 2 else if blk d.kA d.knows.length b then 4 else G' b, ?_⟩
 have n1 : ∀ b, (blk d.pA d.past.length b ∨ ∃ i, i < d.past.length ∧ (d.past.getD i stm0).bl b) → ¬ blk d.bk.A1 d.bk.b.own.length b ∧ ¬ blk d.bk.A2 d.bk.b.notes.length b ∧ ¬ d.st.bl b ∧ ¬ blk d.kA d.knows.length b := by
  intro b hb
  have hb2 : l4 ≤ b ∧ b < h4 := by
   rcases hb with hb | ⟨i, hi, hb⟩
   ·exact ⟨Rp.row.ge hb, Rp.lt b hb⟩
   ·exact ⟨(g3 i hi).1.ge hb, Rp.lts i hi b hb⟩
  refine ⟨fun h => ?_, fun h => ?_, fun h => ?_, fun h => ?_⟩
  ·have := Ro.row.ge h; have := Ro.lt b h; omega
  ·have := Rn.row.ge h; have := Rn.lt b h; omega
  ·have := Rs.own.ge h; have := Rs.lt b h; omega
  ·have := Rk.row.ge h; have := Rk.lt b h; omega
 refine ⟨Ro.row.less o1, fun b hb => if_pos hb, Rn.row.less o2, fun b hb => ?_, Rs.own.less o3, fun b hb => ?_, Rp.row.less o4, fun b hb => ?_, fun i hi => ⟨(g3 i hi).1.less o4, fun b hb => ?_⟩, Rk.row.less o5, fun b hb => ?_, m1, m2, m3, m4, m5, m6⟩
 ·(try dsimp only)
  rw [if_neg (fun h => dis b h hb), if_pos hb]
 ·(try dsimp only)
  have a1 : ¬ blk d.bk.A1 d.bk.b.own.length b := fun h => by have := Ro.row.ge h; have := Ro.lt b h; have := Rs.own.ge hb; have := Rs.lt b hb; omega
  have a2 : ¬ blk d.bk.A2 d.bk.b.notes.length b := fun h => by have := Rn.row.ge h; have := Rn.lt b h; have := Rs.own.ge hb; have := Rs.lt b hb; omega
  rw [if_neg a1, if_neg a2, if_pos hb]
 ·(try dsimp only)
  obtain ⟨q1, q2, q3, q4⟩ := n1 b (.inl hb)
  rw [if_neg q1, if_neg q2, if_neg q3, if_neg q4, g2 b hb]
 ·(try dsimp only)
  obtain ⟨q1, q2, q3, q4⟩ := n1 b (.inr ⟨i, hi, hb⟩)
  rw [if_neg q1, if_neg q2, if_neg q3, if_neg q4, (g3 i hi).2 b hb]
 ·(try dsimp only)
  have a1 : ¬ blk d.bk.A1 d.bk.b.own.length b := fun h => by have := Ro.row.ge h; have := Ro.lt b h; have := Rk.row.ge hb; have := Rk.lt b hb; omega
  have a2 : ¬ blk d.bk.A2 d.bk.b.notes.length b := fun h => by have := Rn.row.ge h; have := Rn.lt b h; have := Rk.row.ge hb; have := Rk.lt b hb; omega
  have a3 : ¬ d.st.bl b := fun h => by have := Rs.own.ge h; have := Rs.lt b h; have := Rk.row.ge hb; have := Rk.lt b hb; omega
  rw [if_neg a1, if_neg a2, if_neg a3, if_pos hb]
structure Short (c : ChM) : Prop where
 own : c.bk.b.own.length ≤ 1048576
 notes : c.bk.b.notes.length ≤ 1048576
 st : c.st.x.sent.length ≤ 1048576 ∧ c.st.x.live.length ≤ 1048576 ∧ c.st.x.back.length ≤ 1048576 ∧ c.st.x.got.length ≤ 1048576
 past : c.past.length ≤ 1048576
 pasts : ∀ s ∈ c.past, s.x.sent.length ≤ 1048576 ∧ s.x.live.length ≤ 1048576 ∧ s.x.back.length ≤ 1048576 ∧ s.x.got.length ≤ 1048576
 knows : c.knows.length ≤ 1048576
end Go.Proofs.YtjcbeihoeanhaaaDoor
