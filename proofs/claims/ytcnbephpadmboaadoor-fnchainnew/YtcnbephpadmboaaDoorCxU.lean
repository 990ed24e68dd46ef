/- toChain of the laws: a chain anew, of the call's own. -/
import Derived.Test.YtcnbephpadmboaaDoorUCxS
import Derived.Test.YtcnbephpadmboaaDoorCxH
set_option linter.unusedVariables false
set_option linter.unusedSimpArgs false
namespace Go.Proofs.YtcnbephpadmboaaDoor
open Go.RowKit

/-- A row of ints of the call's own between two sizes of the memory. -/
structure RowB (w : World) (lo hi : Nat) (A : Option Addr) (n : Nat) (xs : List Int) : Prop where
  row : Row w lo A n xs
  lt : ∀ b, blk A n b → b < hi
theorem RowB.mk' {w : World} {lo : Nat} {A : Option Addr} {n : Nat} {xs : List Int} (h : Row w lo A n xs) : RowB w lo w.heap.size A n xs := ⟨h, fun _ hb => h.lt hb⟩
theorem RowB.keeps {w w' : World} {S : Nat → Prop} {lo hi : Nat} {A : Option Addr} {n : Nat} {xs : List Int} (h : RowB w lo hi A n xs) (hk : Keeps S w w') (hs : ∀ b, S b → b < lo) : RowB w' lo hi A n xs := ⟨h.row.keeps hk fun b hb hS => by have := h.row.ge hb; have := hs b hS; omega, h.lt⟩
theorem RowB.kept {w w' : World} {lo hi : Nat} {A : Option Addr} {n : Nat} {xs : List Int} (h : RowB w lo hi A n xs) (hk : Keeps noBlk w w') : RowB w' lo hi A n xs := h.keeps hk fun _ h => h.elim
structure StB (w : World) (lo hi : Nat) (s : StM) : Prop where
  own : s.Own w lo
  lt : ∀ b, s.bl b → b < hi
theorem StB.mk' {w : World} {lo : Nat} {s : StM} (h : s.Own w lo) : StB w lo w.heap.size s := ⟨h, fun _ hb => h.lt hb⟩
theorem StB.keeps {w w' : World} {S : Nat → Prop} {lo hi : Nat} {s : StM} (h : StB w lo hi s) (hk : Keeps S w w') (hs : ∀ b, S b → b < lo) : StB w' lo hi s := ⟨h.own.keeps hk fun b hb hS => by have := h.own.ge hb; have := hs b hS; omega, h.lt⟩
theorem StB.kept {w w' : World} {lo hi : Nat} {s : StM} (h : StB w lo hi s) (hk : Keeps noBlk w w') : StB w' lo hi s := h.keeps hk fun _ h => h.elim
structure PaB (w : World) (lo hi : Nat) (A : Option Addr) (n : Nat) (us : List StM) : Prop where
  row : SRow w lo A n us
  gh : ∀ G : Nat → Nat, ∃ G' : Nat → Nat, (∀ b, b < lo → G' b = G b) ∧ (∀ b, blk A n b → G' b = 3) ∧ (∀ i, i < n → SOwn G' 10 w lo us i)
  lt : ∀ b, blk A n b → b < hi
  lts : ∀ i, i < n → ∀ b, (us.getD i stm0).bl b → b < hi
theorem PaB.mk' {w : World} {lo : Nat} {A : Option Addr} {n : Nat} {us : List StM} (h : SRow w lo A n us) (hG : ∀ G : Nat → Nat, ∃ G' : Nat → Nat, (∀ b, b < lo → G' b = G b) ∧ (∀ b, blk A n b → G' b = 3) ∧ (∀ i, i < n → SOwn G' 10 w lo us i)) : PaB w lo w.heap.size A n us :=
  ⟨h, hG, fun _ hb => h.lt hb, fun i hi b hb => by
    obtain ⟨G', _, _, h3⟩ := hG fun _ => 0
    exact (h3 i hi).1.lt hb⟩
theorem PaB.keeps {w w' : World} {S : Nat → Prop} {lo hi : Nat} {A : Option Addr} {n : Nat} {us : List StM} (h : PaB w lo hi A n us) (hk : Keeps S w w') (hs : ∀ b, S b → b < lo) : PaB w' lo hi A n us :=
  ⟨h.row.keeps hk fun b hb hS => by have := h.row.ge hb; have := hs b hS; omega, fun G => by
    obtain ⟨G', h1, h2, h3⟩ := h.gh G
    exact ⟨G', h1, h2, fun i hi => ⟨(h3 i hi).1.keeps hk fun b hb hS => by have := (h3 i hi).1.ge hb; have := hs b hS; omega, (h3 i hi).2⟩⟩, h.lt, h.lts⟩
theorem PaB.kept {w w' : World} {lo hi : Nat} {A : Option Addr} {n : Nat} {us : List StM} (h : PaB w lo hi A n us) (hk : Keeps noBlk w w') : PaB w' lo hi A n us := h.keeps hk fun _ h => h.elim
/-- The call hands back (among f) a chain of its own that holds what c holds. -/
def RetC (f : Value → Value) (w : World) (c : ChM) (e : Ending) (w' : World) : Prop := ∃ (d : ChM) (G : Nat → Nat), e = .returned (f d.val) ∧ SameC c d ∧ ChOwn G w' w.heap.size d ∧ Keeps noBlk w w'
/-- A chain's rows, made one behind the other in whatever order of the groups (each between two sizes), are of roles of their own. -/
theorem own_of {w : World} {lo : Nat} (d : ChM) {l1 h1 l2 h2 l3 h3 l4 h4 l5 h5 : Nat} (Ro : RowB w l1 h1 d.bk.A1 d.bk.b.own.length d.bk.b.own) (Rn : RowB w l2 h2 d.bk.A2 d.bk.b.notes.length d.bk.b.notes)
    (Rs : StB w l3 h3 d.st) (Rp : PaB w l4 h4 d.pA d.past.length d.past) (Rk : RowB w l5 h5 d.kA d.knows.length d.knows) (dis : ∀ b, blk d.bk.A1 d.bk.b.own.length b → ¬ blk d.bk.A2 d.bk.b.notes.length b)
    (e13 : h1 ≤ l3 ∨ h3 ≤ l1) (e14 : h1 ≤ l4 ∨ h4 ≤ l1) (e15 : h1 ≤ l5 ∨ h5 ≤ l1) (e23 : h2 ≤ l3 ∨ h3 ≤ l2) (e24 : h2 ≤ l4 ∨ h4 ≤ l2) (e25 : h2 ≤ l5 ∨ h5 ≤ l2) (e34 : h3 ≤ l4 ∨ h4 ≤ l3) (e35 : h3 ≤ l5 ∨ h5 ≤ l3) (e45 : h4 ≤ l5 ∨ h5 ≤ l4)
    (o1 : lo ≤ l1) (o2 : lo ≤ l2) (o3 : lo ≤ l3) (o4 : lo ≤ l4) (o5 : lo ≤ l5)
    (m1 : d.bk.b.own.length ≤ maxLen) (m2 : d.bk.b.notes.length ≤ maxLen) (m3 : d.past.length ≤ maxLen) (m4 : d.knows.length ≤ maxLen) (m5 : d.st.Len) (m6 : ∀ i, i < d.past.length → (d.past.getD i stm0).Len) : ∃ G, ChOwn G w lo d := by
  classical
  obtain ⟨G', g1, g2, g3⟩ := Rp.gh fun _ => 0
  refine ⟨fun b => if blk d.bk.A1 d.bk.b.own.length b then 0 else if blk d.bk.A2 d.bk.b.notes.length b then 1 else if d.st.bl b then 2 else if blk d.kA d.knows.length b then 4 else G' b, ?_⟩
  have n1 : ∀ b, (blk d.pA d.past.length b ∨ ∃ i, i < d.past.length ∧ (d.past.getD i stm0).bl b) → ¬ blk d.bk.A1 d.bk.b.own.length b ∧ ¬ blk d.bk.A2 d.bk.b.notes.length b ∧ ¬ d.st.bl b ∧ ¬ blk d.kA d.knows.length b := by
    intro b hb
    have hb2 : l4 ≤ b ∧ b < h4 := by
      rcases hb with hb | ⟨i, hi, hb⟩
      · exact ⟨Rp.row.ge hb, Rp.lt b hb⟩
      · exact ⟨(g3 i hi).1.ge hb, Rp.lts i hi b hb⟩
    refine ⟨fun h => ?_, fun h => ?_, fun h => ?_, fun h => ?_⟩
    · have := Ro.row.ge h; have := Ro.lt b h; omega
    · have := Rn.row.ge h; have := Rn.lt b h; omega
    · have := Rs.own.ge h; have := Rs.lt b h; omega
    · have := Rk.row.ge h; have := Rk.lt b h; omega
  refine ⟨Ro.row.less o1, fun b hb => if_pos hb, Rn.row.less o2, fun b hb => ?_, Rs.own.less o3, fun b hb => ?_, Rp.row.less o4, fun b hb => ?_, fun i hi => ⟨(g3 i hi).1.less o4, fun b hb => ?_⟩, Rk.row.less o5, fun b hb => ?_, m1, m2, m3, m4, m5, m6⟩
  · (try dsimp only)
    rw [if_neg (fun h => dis b h hb), if_pos hb]
  · (try dsimp only)
    have a1 : ¬ blk d.bk.A1 d.bk.b.own.length b := fun h => by have := Ro.row.ge h; have := Ro.lt b h; have := Rs.own.ge hb; have := Rs.lt b hb; omega
    have a2 : ¬ blk d.bk.A2 d.bk.b.notes.length b := fun h => by have := Rn.row.ge h; have := Rn.lt b h; have := Rs.own.ge hb; have := Rs.lt b hb; omega
    rw [if_neg a1, if_neg a2, if_pos hb]
  · (try dsimp only)
    obtain ⟨q1, q2, q3, q4⟩ := n1 b (.inl hb)
    rw [if_neg q1, if_neg q2, if_neg q3, if_neg q4, g2 b hb]
  · (try dsimp only)
    obtain ⟨q1, q2, q3, q4⟩ := n1 b (.inr ⟨i, hi, hb⟩)
    rw [if_neg q1, if_neg q2, if_neg q3, if_neg q4, (g3 i hi).2 b hb]
  · (try dsimp only)
    have a1 : ¬ blk d.bk.A1 d.bk.b.own.length b := fun h => by have := Ro.row.ge h; have := Ro.lt b h; have := Rk.row.ge hb; have := Rk.lt b hb; omega
    have a2 : ¬ blk d.bk.A2 d.bk.b.notes.length b := fun h => by have := Rn.row.ge h; have := Rn.lt b h; have := Rk.row.ge hb; have := Rk.lt b hb; omega
    have a3 : ¬ d.st.bl b := fun h => by have := Rs.own.ge h; have := Rs.lt b h; have := Rk.row.ge hb; have := Rk.lt b hb; omega
    rw [if_neg a1, if_neg a2, if_neg a3, if_pos hb]
/-- All lists of a chain are short. -/
structure Short (c : ChM) : Prop where
  own : c.bk.b.own.length ≤ 1048576
  notes : c.bk.b.notes.length ≤ 1048576
  st : c.st.x.sent.length ≤ 1048576 ∧ c.st.x.live.length ≤ 1048576 ∧ c.st.x.back.length ≤ 1048576 ∧ c.st.x.got.length ≤ 1048576
  past : c.past.length ≤ 1048576
  pasts : ∀ s ∈ c.past, s.x.sent.length ≤ 1048576 ∧ s.x.live.length ≤ 1048576 ∧ s.x.back.length ≤ 1048576 ∧ s.x.got.length ≤ 1048576
  knows : c.knows.length ≤ 1048576
end Go.Proofs.YtcnbephpadmboaaDoor
