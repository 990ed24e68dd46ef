/- spec.l12Copy: a chain anew. -/
import Derived.Test.YtjcbeihoeanhaaaDoorUCxOB
import Derived.Test.YtjcbeihoeanhaaaDoorUCxHB
import Derived.Test.YtjcbeihoeanhaaaDoorUSend
set_option maxRecDepth 100000
set_option maxHeartbeats 8000000
set_option linter.unusedVariables false
set_option linter.unusedSimpArgs false
namespace Go.Proofs.YtjcbeihoeanhaaaDoor
open Go.RowKit

theorem stB_lenW {x : StL} (h : stB x = true) : x.sent.length ≤ 8 ∧ x.live.length ≤ 8 ∧ x.back.length ≤ 8 ∧ x.got.length ≤ 8 := by
 have k := of_decide_eq_true h; have h1 := k.2.1.small; have h2 := k.2.2.1.1; have h3 := k.2.2.1.2.1; have h4 := k.2.2.2.1
 omega
theorem kn_ge' {l : List Int} (h : KnOk l) (i : Nat) (hi : i < l.length) : (i : Int) + 1 ≤ l.getD i 0 := by
 induction i with
 | zero => have := (h 0 hi).1.1; omega
 | succ i ih => have h1 := ih (by omega); have h2 := (h (i + 1) hi).2 (by omega); simp only [Nat.add_sub_cancel] at h2; omega
theorem kn_len' {l : List Int} (h : KnOk l) : l.length ≤ 90 := by
 rcases Nat.lt_or_ge 90 l.length with hl | hl
 ·have h1 := kn_ge' h 90 hl
  have h2 := (h 90 hl).1.2
  omega
 ·exact hl
theorem owns_pas {w : World} {e : TypeId} {A : Option Addr} {c : Nat} {l : List StM} (h : w.ownsRow 0 e 7 (.slice A l.length c) l.length (vSs l)) : Pas w A l.length l := by
 obtain ⟨_, h1, h2⟩ := owns_cells h; refine ⟨rfl, fun hn => ?_⟩
 cases A with
 | none => have := (h1 rfl).1; omega
 | some a =>
  obtain ⟨g, rfl, hg, hc, _⟩ := h2 a rfl; refine ⟨g, 0, rfl, hg, fun j s hs i cc hi => hc _ _ ?_⟩; have hi7 : i < 7 := (List.getElem?_eq_some_iff.1 hi).1; unfold vSs; rw [flat_at 7 _ stcs_length l j i hi7, hs]; exact hi
theorem ChR.at_ {G : Nat → Nat} {i : Nat} {w : World} {c : ChM} (h : ChR G i w c) (m1 : c.bk.b.own.length ≤ maxLen) (m2 : c.bk.b.notes.length ≤ maxLen) : ChAt w c :=
 ⟨h.1.1.1.1, h.1.2.1.1, h.2.1.at_, owns_pas h.2.2.1.1, fun s hs => (h.2.2.2.1 s hs).at_, owns_ints h.2.2.2.2.1, m1, m2, (owns_cells h.2.2.1.1).1, (owns_cells h.2.2.2.2.1).1⟩
def RetCp (w : World) (c : ChM) (e : Ending) (w' : World) : Prop := ∃ d : ChM, e = .returned d.val ∧ SameC c d ∧ Keeps noBlk w w' ∧ ∃ G : Nat → Nat, (∀ b, b < w.heap.size → G b = 0) ∧ ChR G 0 w' d
theorem past_step {G : Nat → Nat} {wr w1 w2 : World} {A A' : Option Addr} {k cp c' lo : Nat} {us : List StM} (t : StM) (h0 : ∀ b, b < lo → G b = 0) (hlo : lo ≤ wr.heap.size) (hr : Rw G (rl 0 6) wr 27 7 (.slice A k cp) k (vSs us)) (hs : ∀ s ∈ us, StR G im wr s)
  (hk1 : Keeps noBlk wr w1) (hg : ∀ G ρ : Nat → Nat, ∃ G' : Nat → Nat, (∀ b, b < wr.heap.size → G' b = G b) ∧ StR G' ρ w1 t) (ho : w2.ownsRow 0 27 7 (.slice A' (k + 1) c') (k + 1) (vSs us ++ t.cs))
  (hk2 : Keeps (fun b => (Value.slice A k cp).ownBlock = some b) w1 w2) (hf : ∀ g, (Value.slice A' (k + 1) c').ownBlock = some g → (Value.slice A k cp).ownBlock = some g ∨ w1.heap.size ≤ g) :
  ∃ G' : Nat → Nat, (∀ b, b < lo → G' b = 0) ∧ Rw G' (rl 0 6) w2 27 7 (.slice A' (k + 1) c') (k + 1) (vSs (us ++ [t])) ∧ (∀ s ∈ us ++ [t], StR G' im w2 s) ∧ ∀ b, (Value.slice A k cp).ownBlock = some b → lo ≤ b := by
 obtain ⟨G1, e1, ht⟩ := hg G im
 have hblk : ∀ b, (Value.slice A k cp).ownBlock = some b → G b = rl 0 6 ∧ b < wr.heap.size := fun b hb => ⟨hr.2 b hb, hr.lt hb⟩
 have hs1 := hk1.size
 have keepS : ∀ s, StR (up G1 w1.heap.size (rl 0 6)) im w1 s → StR (up G1 w1.heap.size (rl 0 6)) im w2 s := fun s h => h.keeps hk2 fun b _ _ hb hS => by
  have q := hblk b hS; rw [up_old (Nat.lt_of_lt_of_le q.2 hs1), e1 b q.2, q.1] at hb; exact rl_ne_im hb
 refine ⟨up G1 w1.heap.size (rl 0 6), fun b hb => ?_, ⟨by rw [vSs_snoc]; exact ho, fun g hg' => ?_⟩, fun s hsm => ?_, fun b hb => ?_⟩
 ·rw [up_old (by omega), e1 b (by omega), h0 b hb]
 ·rcases hf g hg' with h | h
  ·have q := hblk g h
   rw [up_old (Nat.lt_of_lt_of_le q.2 hs1), e1 g q.2, q.1]
  ·exact up_new h
 ·refine keepS s ?_
  rcases List.mem_append.1 hsm with h | h
  ·exact (((hs s h).ext e1).kept hk1).ext fun b hb => up_old hb
  ·rw [List.mem_singleton.1 h]
   exact ht.ext fun b hb => up_old hb
 ·rcases Nat.lt_or_ge b lo with h | h
  ·have q := (hblk b hb).1
   rw [h0 b h] at q; unfold rl at q
   omega
  ·exact h
theorem copy_end {G : Nat → Nat} {wr w2 w4 : World} {lo l1 h1 l2 : Nat} {S : Nat → Prop} (c : ChM) {us : List StM} {A kB x1 x2 : Option Addr} {cp kc y1 y2 : Nat} {t : StM}
  (hG0 : ∀ b, b < lo → G b = 0) (hlo : lo ≤ wr.heap.size) (hrw : Rw G (rl 0 6) wr 27 7 (.slice A us.length cp) us.length (vSs us)) (hst : ∀ s ∈ us, StR G im wr s) (kr4 : Keeps S wr w4) (k24 : Keeps S w2 w4)
  (hS : ∀ b, S b → b < lo ∨ (wr.heap.size ≤ b ∧ ¬ (l1 ≤ b ∧ b < h1) ∧ ¬ (l2 ≤ b ∧ b < w2.heap.size)))
  (ro : RowB w2 l1 h1 x1 c.bk.b.own.length c.bk.b.own) (rn : RowB w2 l1 h1 x2 c.bk.b.notes.length c.bk.b.notes) (dis : ∀ b, blk x1 c.bk.b.own.length b → ¬ blk x2 c.bk.b.notes.length b) (e1 : wr.heap.size ≤ l1) (e2 : h1 ≤ l2) (e3 : wr.heap.size ≤ l2)
  (hg : ∀ G ρ : Nat → Nat, ∃ G' : Nat → Nat, (∀ b, b < l2 → G' b = G b) ∧ StR G' ρ w2 t) (hk : w4.ownsRow 0 3 1 (.slice kB c.knows.length kc) c.knows.length (vIs c.knows))
  (hkb : ∀ g, (Value.slice kB c.knows.length kc).ownBlock = some g → wr.heap.size ≤ g ∧ ¬ (l1 ≤ g ∧ g < h1) ∧ ¬ (l2 ≤ g ∧ g < w2.heap.size)) :
  ∃ G' : Nat → Nat, (∀ b, b < lo → G' b = 0) ∧ ChR G' 0 w4 ⟨c.id, ⟨c.bk.b, x1, x2, y1, y2⟩, t, us, A, cp, c.knows, kB, kc⟩ := by
 classical
 obtain ⟨G1, g1, g2⟩ := hg G (rl 0); obtain ⟨Gf, f1, f2⟩ := hg (fun _ => 0) (fun _ => 1)
 let G' : Nat → Nat := fun b => if blk x1 c.bk.b.own.length b then rl 0 4 else if blk x2 c.bk.b.notes.length b then rl 0 5 else if (Value.slice kB c.knows.length kc).ownBlock = some b then 1 else G1 b
 have old : ∀ b, b < wr.heap.size → G' b = G b := fun b hb => by
  have n1 : ¬ blk x1 c.bk.b.own.length b := fun h => by have := ro.row.ge h; omega
  have n2 : ¬ blk x2 c.bk.b.notes.length b := fun h => by have := rn.row.ge h; omega
  have n3 : ¬ (Value.slice kB c.knows.length kc).ownBlock = some b := fun h => by have := (hkb b h).1; omega
  show (if _ then _ else _) = _
  rw [if_neg n1, if_neg n2, if_neg n3, g1 b (by omega)]
 have tnew : ∀ b, l2 ≤ b → b < w2.heap.size → G' b = G1 b := fun b h1' h2' => by
  have n1 : ¬ blk x1 c.bk.b.own.length b := fun h => by have := ro.lt b h; omega
  have n2 : ¬ blk x2 c.bk.b.notes.length b := fun h => by have := rn.lt b h; omega
  have n3 : ¬ (Value.slice kB c.knows.length kc).ownBlock = some b := fun h => (hkb b h).2.2 ⟨h1', h2'⟩
  show (if _ then _ else _) = _
  rw [if_neg n1, if_neg n2, if_neg n3]
 -- a row of the state: fresh, and kept
 have trow : ∀ {r r' : Nat} {e : TypeId} {sz n : Nat} {v : Value} {xs : List Value}, Rw G1 r w2 e sz v n xs → Rw Gf 1 w2 e sz v n xs → Rw G' r w4 e sz v n xs := fun {r r' e sz n v xs} h hf => by
  have fr : ∀ g, v.ownBlock = some g → l2 ≤ g ∧ g < w2.heap.size := fun g hg' => by
   refine ⟨?_, h.lt hg'⟩
   rcases Nat.lt_or_ge g l2 with hl | hl
   ·have := hf.2 g hg'
    rw [f1 g hl] at this
    cases this
   ·exact hl
  refine ⟨owns_keeps h.1 k24 fun b hb hSb => ?_, fun g hg' => ?_⟩
  ·have q := fr b hb
   rcases hS b hSb with h' | h'
   ·omega
   ·exact h'.2.2 q
  ·have q := fr g hg'
   rw [tnew g q.1 q.2]; exact h.2 g hg'
 -- an old row
 have orow : ∀ {r : Nat} {e : TypeId} {sz n : Nat} {v : Value} {xs : List Value}, r ≠ 0 → Rw G r wr e sz v n xs → Rw G' r w4 e sz v n xs := fun {r e sz n v xs} hr h => by
  refine ⟨owns_keeps h.1 kr4 fun b hb hSb => ?_, fun g hg' => by rw [old g (h.lt hg')]; exact h.2 g hg'⟩; have q1 := h.lt hb; have q2 := h.2 b hb
  rcases hS b hSb with h' | h'
  ·rw [hG0 b h'] at q2
   exact hr q2.symm
  ·omega
 have brow : ∀ {x : Option Addr} {xs : List Int}, RowB w2 l1 h1 x xs.length xs → Row w4 0 x xs.length xs := fun {x xs} h => (h.row.keeps k24 fun b hb hSb => by
  have q1 := h.row.ge hb; have q2 := h.lt b hb
  rcases hS b hSb with h' | h'
  ·omega
  ·exact h'.2.1 ⟨q1, q2⟩).less (Nat.zero_le _)
 refine ⟨G', fun b hb => by rw [old b (by omega)]; exact hG0 b hb, ⟨⟨brow ro, fun b hb => if_pos hb⟩, ⟨brow rn, fun b hb => ?_⟩⟩, ⟨trow (r' := 0) g2.1 f2.1, trow (r' := 0) g2.2.1 f2.2.1, trow (r' := 0) g2.2.2.1 f2.2.2.1, trow (r' := 0) g2.2.2.2 f2.2.2.2⟩, orow (by unfold rl; omega) hrw,
  fun s hs => ⟨orow (by unfold im; omega) (hst s hs).1, orow (by unfold im; omega) (hst s hs).2.1, orow (by unfold im; omega) (hst s hs).2.2.1, orow (by unfold im; omega) (hst s hs).2.2.2⟩, hk, fun g hg' => ?_⟩
 ·show (if _ then _ else _) = _
  rw [if_neg fun h => dis b h hb, if_pos hb]
 ·have q := hkb g hg'
  have n1 : ¬ blk x1 c.bk.b.own.length g := fun h => q.2.1 ⟨ro.row.ge h, ro.lt g h⟩
  have n2 : ¬ blk x2 c.bk.b.notes.length g := fun h => q.2.1 ⟨rn.row.ge h, rn.lt g h⟩
  show (if _ then _ else _) = _
  rw [if_neg n1, if_neg n2, if_pos hg']
theorem copy_fin {G : Nat → Nat} {w wr w2 w3 w4 : World} {l1 h1 l2 l3 : Nat} {V : Value} (c : ChM) {us : List StM} {A kB x1 x2 : Option Addr} {cp kc y1 y2 : Nat} {t : StM}
  (HKW : Keeps noBlk w wr) (k2 : Keeps noBlk wr w2) (k3 : Keeps (fun b => V.ownBlock = some b) w2 w3) (kS : Keeps (fun b => b = w.heap.size + 1) w3 w4) (hsz : w.heap.size + 3 ≤ wr.heap.size) (hG0 : ∀ b, b < w.heap.size + 2 → G b = 0) (hul : us.length = c.past.length)
  (hrw : Rw G (rl 0 6) wr 27 7 (.slice A c.past.length cp) c.past.length (vSs us)) (hst : ∀ s ∈ us, StR G im wr s) (hsame : SameS c.past us) (hx : t.x = c.st.x)
  (ro : RowB w2 l1 h1 x1 c.bk.b.own.length c.bk.b.own) (rn : RowB w2 l1 h1 x2 c.bk.b.notes.length c.bk.b.notes) (dis : ∀ b, blk x1 c.bk.b.own.length b → ¬ blk x2 c.bk.b.notes.length b) (e1 : wr.heap.size ≤ l1) (e2 : h1 ≤ l2) (e3 : wr.heap.size ≤ l2) (e4 : w2.heap.size ≤ l3) (e5 : h1 ≤ w2.heap.size)
  (hg : ∀ G ρ : Nat → Nat, ∃ G' : Nat → Nat, (∀ b, b < l2 → G' b = G b) ∧ StR G' ρ w2 t) (hk : w3.ownsRow 0 3 1 (.slice kB c.knows.length kc) c.knows.length (vIs c.knows))
  (hf : ∀ g, (Value.slice kB c.knows.length kc).ownBlock = some g → V.ownBlock = some g ∨ l3 ≤ g) (hV : ∀ b, V.ownBlock = some b → wr.heap.size ≤ b ∧ ¬ (l1 ≤ b ∧ b < h1) ∧ ¬ (l2 ≤ b ∧ b < w2.heap.size)) :
  RetCp w c (.returned (⟨c.id, ⟨c.bk.b, x1, x2, y1, y2⟩, t, us, A, cp, c.knows, kB, kc⟩ : ChM).val) w4 := by
 have k24 : Keeps (fun b => b = w.heap.size + 1 ∨ V.ownBlock = some b) w2 w4 := (k3.more (T := fun b => b = w.heap.size + 1 ∨ V.ownBlock = some b) fun _ _ h => .inr h).trans (kS.more fun _ _ h => .inl h); have kr4 : Keeps (fun b => b = w.heap.size + 1 ∨ V.ownBlock = some b) wr w4 := (k2.more fun _ _ h => h.elim).trans k24
 have hkb : ∀ g, (Value.slice kB c.knows.length kc).ownBlock = some g → wr.heap.size ≤ g ∧ ¬ (l1 ≤ g ∧ g < h1) ∧ ¬ (l2 ≤ g ∧ g < w2.heap.size) := fun g hg' => by
  rcases hf g hg' with h | h
  ·exact hV g h
  ·have := k2.size
   exact ⟨by omega, by omega, by omega⟩
 obtain ⟨G', q1, q2⟩ := copy_end (y1 := y1) (y2 := y2) c hG0 (by omega) (by rw [hul]; exact hrw) hst kr4 k24 (fun b hb => by
  rcases hb with h | h
  ·exact .inl (by omega)
  ·exact .inr (hV b h)) ro rn dis e1 e2 e3 hg (owns_keeps hk kS fun b hb h => by have := (hkb b hb).1; omega) hkb
 exact ⟨_, rfl, ⟨rfl, rfl, hx.symm, hsame, rfl⟩, HKW.then kr4 fun i hi h => by
  rcases h with h | h
  ·omega
  ·have := (hV i h).1; have := HKW.size; omega, G', fun b hb => q1 b (by omega), q2⟩
theorem l12Copy_any (c : ChM) (w : World) (h : ChAt w c) (hb : ckB c = true) : Calls Tryd.prog 96 #[c.val] w (RetCp w c) := by
 obtain ⟨_, kb, ks, kn, kp, kk⟩ := of_decide_eq_true hb
 have e1 : c.bk.b.own.length = 3 ∧ c.bk.b.notes.length = 3 := by
  unfold okB at kb; simp only [Bool.and_eq_true] at kb; exact ⟨(parts_small kb.1.1.1.1).2, (parts_small kb.1.1.1.2).2⟩
 have e2 := stB_lenW ks; have HR := hH h.row; have HP := hH h.past; have F1 := hH (fun W (hk : Keeps noBlk w W) => l1Copy_any c.bk.A1 c.bk.A2 c.bk.b.own.length c.bk.b.notes.length c.bk.c1 c.bk.c2 c.bk.b.locked c.bk.b.own c.bk.b.notes W (h.kept hk).own (h.kept hk).notes (by omega) (by omega) (by omega) (by omega)); have F2 := hH (fun W (hk : Keeps noBlk w W) => l3Copy_any c.st.x c.st.A1 c.st.A2 c.st.A3 c.st.A4 c.st.c1 c.st.c2 c.st.c3 c.st.c4 W (h.kept hk).st (by omega) (by omega) (by omega) (by omega)); have I4 := hH (fun W (hk : Keeps noBlk w W) => (h.kept hk).knows); have F3 := hH (fun j (hj : j < c.past.length) W (hk : Keeps noBlk w W) => l3Copy_any (c.past.getD j stm0).x (c.past.getD j stm0).A1 (c.past.getD j stm0).A2 (c.past.getD j stm0).A3 (c.past.getD j stm0).A4 (c.past.getD j stm0).c1 (c.past.getD j stm0).c2 (c.past.getD j stm0).c3 (c.past.getD j stm0).c4 W ((h.past _ (getD_mem' stm0 hj)).kept hk) (by have := stB_lenW (kp j hj); omega) (by have := stB_lenW (kp j hj); omega) (by have := stB_lenW (kp j hj); omega) (by have := stB_lenW (kp j hj); omega)); have m4 := h.m4; have LB : Hid (c.bk.b.own.length = 3 ∧ c.bk.b.notes.length = 3) := hH e1; have hkn9 : c.knows.length ≤ 90 := kn_len' kk; clear h hb kb ks kp kk e1 e2; unfold stV at F2 F3; have HBa := hH (((Box.new w _ rfl 94 (chC c)).alloc (.cells zC13 94)).alloc (.cells #[] 27)); have HBr := hH ((Box.new (w.alloc (.cells (chC c) 94)) (w.heap.size + 1) (by simp) 94 zC13).alloc (.cells #[] 27)); have HK := hH ((((Keeps.refl noBlk w).alloc (.cells (chC c) 94)).alloc (.cells zC13 94)).alloc (.cells #[] 27)); have hlit := owns_lit0 ((w.alloc (.cells (chC c) 94)).alloc (.cells zC13 94)) (w.heap.size + 1 + 1) (by simp) 27 7
 have hsz0 : w.heap.size + 3 = (((w.alloc (.cells (chC c) 94)).alloc (.cells zC13 94)).alloc (.cells #[] 27)).heap.size := by simp
 unfold ChM.val
 go_enter Tryd.func96, Tryd.ntmps96
 go_wp2; generalize ((w.alloc (.cells (chC c) 94)).alloc (.cells zC13 94)).alloc (.cells #[] 27) = w0 at *
 go_loopw [3, 4] (fun v i wr => ∃ (k : Nat) (A : Option Addr) (cp : Nat) (us : List StM) (G : Nat → Nat), k ≤ c.past.length ∧ i = .int .i64 k ∧ v = .slice A k cp ∧ us.length = k ∧ (∀ j, j < k → (c.past.getD j stm0).x = (us.getD j stm0).x) ∧ (∀ b, b < w.heap.size + 2 → G b = 0) ∧ Rw G (rl 0 6) wr 27 7 (.slice A k cp) k (vSs us) ∧ (∀ s ∈ us, StR G im wr s) ∧ Keeps (fun b => b = w.heap.size + 1 + 1) w0 wr) (fun _ i _ => c.past.length - (intOf i).toNat)
 case atStart => exact ⟨0, _, _, [], up (fun _ => 0) (w.heap.size + 2) (rl 0 6), Nat.zero_le _, rfl, rfl, rfl, fun j hj => absurd hj (Nat.not_lt_zero _), fun b hb => up_old hb, ⟨hlit, fun g hg => up_new (by simp [Value.ownBlock] at hg; omega)⟩, by simp, Keeps.refl _ _⟩
 case round =>
  obtain ⟨k, A, cp, us, G, hk, rfl, rfl, hul, hsm, hG0, hrw, hst, hkp⟩ := hrel; have hb := HBa.out.keeps hkp (fun h => by omega); have HBA := hH hb; have HBR := hH (HBr.out.keeps hkp (fun h => by omega)); obtain ⟨a0, a1, a2, a3, a4, a5, a6, a7, a8, a9, a10, a11, a12⟩ := hb.cells13; have za := hb.lt; have HKW := hH (HK.out.then hkp fun i hi h => by omega); have HKP := hH hkp
  have hszr : w.heap.size + 3 ≤ wr.heap.size := by have := hkp.size; omega
  clear hb hkp
  by_cases hlt : k < c.past.length
  ·obtain ⟨b1, o1, hpA, _, q0, q1, q2, q3, q4, q5, q6⟩ := (HR.out.kept HKW.out).at_ hlt
   rw [hpA] at a11; clear hpA; have HF := hH (F3.out k hlt); generalize hp : c.past.getD k stm0 = s at *; have HLT := hH hlt; have HUL := hH hul; have HSM := hH hsm; have HG0 := hH hG0; have HRW := hH hrw; have HST := hH hst; have HPS := hH hp; clear hul hsm hG0 hrw hst hp; go_wp2_with fail; clear q0 q1 q2 q3 q4 q5 q6; refine (HF.out _ HKW.out).mono ?_; rintro e w1 ⟨t, rfl, hx9, hk9, hg9⟩; dsimp only [StM.val]; have HX := hH hx9; have HK9 := hH hk9; have HGG := hH hg9; have HOW := hH (owns_keeps HRW.out.1 hk9 fun _ _ h => h); have hsz1 := hk9.size; clear hx9 hk9 hg9 HF a0 a1 a2 a3 a4 a5 a6 a7 a8 a9 a10 a11 a12 za
   go_wp2_with (at_builtin; refine wpList_app1 _ rfl _ _ 92 rfl 27 (.agg zCS) 7 120 Tryd.underlying92 info_stG rfl (by decide) (by decide) (.slice A k cp) k (vSs us) rfl HOW.out _ rfl (smC t) t.cs rfl rfl rfl ?qd ?qe ?_)
   case qd => exact one_st
   case qe => have := HLT.out; omega
   intro A' c' w2 ho hk2 hf; obtain ⟨G', p1, p2, p3, p4⟩ := past_step t HG0.out (by omega) HRW.out HST.out HK9.out HGG.out ho hk2 hf; have HRES : Hid (∃ (G' : Nat → Nat), (∀ b, b < w.heap.size + 2 → G' b = 0) ∧ Rw G' (rl 0 6) w2 27 7 (.slice A' (k + 1) c') (k + 1) (vSs (us ++ [t])) ∧ (∀ s ∈ us ++ [t], StR G' im w2 s)) := hH ⟨G', p1, p2, p3⟩; have HK2 := hH (HKP.out.then ((Keeps.refl noBlk wr).trans HK9.out |>.more (T := fun b => b = w.heap.size + 1 + 1 ∨ w0.heap.size ≤ b) (fun _ _ h => h.elim)) fun i hi h => by rcases h with h | h; exact h; omega); have HK3 := hH (HK2.out.then hk2 fun i hi h => by have q := p4 i h; omega); clear ho hk2 hf p1 p2 p3 p4 HK2; go_wp2
   go_roundw
   case measure => have := HLT.out; simp [intOf]; omega
   case rel =>
    obtain ⟨G2, r1, r2, r3⟩ := HRES.out; refine ⟨k + 1, A', c', us ++ [t], G2, HLT.out, by go_num, rfl, by rw [List.length_append, HUL.out]; rfl, ?_, r1, r2, r3, HK3.out⟩; intro j hj
    rcases Nat.lt_or_ge j k with hl | hl
    ·rw [HSM.out j hl]
     congr 1
     rw [List.getD_eq_getElem?_getD, List.getD_eq_getElem?_getD, List.getElem?_append_left (by rw [HUL.out]; exact hl)]
    ·obtain rfl : j = k := by omega
     rw [HPS.out, ← HX.out]
     congr 1
     rw [List.getD_eq_getElem?_getD, List.getElem?_append_right (by rw [HUL.out]; exact Nat.le_refl _), HUL.out]; simp
  ·obtain he : k = c.past.length := by omega
   subst he; have HSAME : Hid (SameS c.past us) := hH ⟨hul.symm, hsm⟩; have HUL := hH hul; have HG0 := hH hG0; have HRW := hH hrw; have HST := hH hst; clear hul hsm hG0 hrw hst hlt hk; go_wp2_with fail
   go_region_held3 (fun w' => w'.cell? ⟨w.heap.size, 0, none⟩ = some (.int .i64 c.id) ∧ w'.cell? ⟨w.heap.size, 1, none⟩ = some (.slice c.bk.A1 c.bk.b.own.length c.bk.c1) ∧ w'.cell? ⟨w.heap.size, 2, none⟩ = some (.slice c.bk.A2 c.bk.b.notes.length c.bk.c2) ∧ w'.cell? ⟨w.heap.size, 3, none⟩ = some (.int .i64 c.bk.b.locked) ∧ w'.cell? ⟨w.heap.size, 4, none⟩ = some (.int .i64 c.st.x.way) ∧ w'.cell? ⟨w.heap.size, 5, none⟩ = some (.int .i64 c.st.x.ver) ∧ w'.cell? ⟨w.heap.size, 6, none⟩ = some (.int .i64 c.st.x.want) ∧ w'.cell? ⟨w.heap.size, 7, none⟩ = some (.slice c.st.A1 c.st.x.sent.length c.st.c1) ∧ w'.cell? ⟨w.heap.size, 8, none⟩ = some (.slice c.st.A2 c.st.x.live.length c.st.c2) ∧ w'.cell? ⟨w.heap.size, 9, none⟩ = some (.slice c.st.A3 c.st.x.back.length c.st.c3) ∧ w'.cell? ⟨w.heap.size, 10, none⟩ = some (.slice c.st.A4 c.st.x.got.length c.st.c4) ∧ w'.cell? ⟨w.heap.size, 11, none⟩ = some (.slice c.pA c.past.length c.pc) ∧ w'.cell? ⟨w.heap.size, 12, none⟩ = some (.slice c.kA c.knows.length c.kc))
    (((try dsimp only); (repeat' apply And.intro) <;> (first | with_reducible assumption | (go_keep; done))))
    (first | (go_at_call 104; refine (F1.out _ (by repeat (first | with_reducible exact HKW.out | with_reducible refine Keeps.alloc ?_ _ | with_reducible refine Keeps.drewN ?_ _ | with_reducible refine Keeps.drew ?_))).mono ?_; rintro e w1 ⟨v9, rfl, ⟨x1, n1, y1, x2, n2, y2, rfl, hro, hrn, hdis, _, _, _, _⟩, hk9⟩; obtain rfl : c.bk.b.own.length = n1 := hro.1.1; obtain rfl : c.bk.b.notes.length = n2 := hrn.1.1; have hk1 : Keeps noBlk wr w1 := Keeps.trans (by repeat (first | with_reducible exact Keeps.refl noBlk wr | with_reducible refine Keeps.alloc ?_ _ | with_reducible refine Keeps.drewN ?_ _ | with_reducible refine Keeps.drew ?_)) hk9; (first | (have LIT := hH (owns_keeps (owns_lit0 _ _ rfl 3 1) hk9 (fun _ _ h => h))) | (have LIT := hH (owns_keeps (owns_lit0 _ _ rfl 3 1) (((Keeps.refl noBlk _).drewN 1).trans hk9) (fun _ _ h => h))) | skip); have HK9A := hH hk9; have RO := hH (RowB.mk' hro); have RN := hH (RowB.mk' hrn); have DIS := hH hdis; clear hro hrn hdis hk9; have s1 := hk1.size; clear a0 a1 a2 a3 a4 a5 a6 a7 a8 a9 a10 a11 a12 za; have hb := HBA.out.keeps hk1 (fun h => h); obtain ⟨a0, a1, a2, a3, a4, a5, a6, a7, a8, a9, a10, a11, a12⟩ := hb.cells13; have za := hb.lt; clear hb; have HK1 := hH hk1; clear hk1) | (go_at_call 99; refine (F2.out _ (by repeat (first | with_reducible exact HKW.out.trans HK1.out | with_reducible refine Keeps.alloc ?_ _ | with_reducible refine Keeps.drewN ?_ _ | with_reducible refine Keeps.drew ?_))).mono ?_; rintro e w2 ⟨t, rfl, hx9, hk9, hg9⟩; dsimp only [StM.val]; have hk2 : Keeps noBlk w1 w2 := Keeps.trans (by repeat (first | with_reducible exact Keeps.refl noBlk w1 | with_reducible refine Keeps.alloc ?_ _ | with_reducible refine Keeps.drewN ?_ _ | with_reducible refine Keeps.drew ?_)) hk9; (first | (have LIT2 := hH (owns_keeps LIT.out hk2 (fun _ _ h => h))) | (have LIT2 := hH (owns_keeps (owns_lit0 _ _ rfl 3 1) hk9 (fun _ _ h => h))) | skip); have HX := hH hx9; have HGG := hH hg9; clear hx9 hg9 hk9; have RO2 := hH (RO.out.kept hk2); have RN2 := hH (RN.out.kept hk2); have s2 := hk2.size; clear a0 a1 a2 a3 a4 a5 a6 a7 a8 a9 a10 a11 a12 za; have hb := HBA.out.keeps (HK1.out.trans hk2) (fun h => h); obtain ⟨a0, a1, a2, a3, a4, a5, a6, a7, a8, a9, a10, a11, a12⟩ := hb.cells13; have za := hb.lt; clear hb; have HK2 := hH hk2; clear hk2) | (refine step_app rfl (.tmp 31) (.tmp 33) 25 rfl 3 (.int .i64 0) 1 8 Tryd.underlying25 info_int3 rfl (by decide) (.slice (some ⟨_, 0, none⟩) 0 0) 0 [] rfl (by first | exact LIT2.out | exact owns_lit0 _ _ rfl _ _) c.kA c.knows.length c.kc (vIs c.knows) rfl (ints_none (I4.out _ (Keeps.refl noBlk w))) (by rw [vIs_length]; omega) (ints_news (I4.out _ (by repeat (first | with_reducible exact (HKW.out.trans HK1.out).trans HK2.out | with_reducible refine Keeps.alloc ?_ _ | with_reducible refine Keeps.drewN ?_ _ | with_reducible refine Keeps.drew ?_)))) one_ints (by unfold maxLen; omega) (by omega) ?_; intro v' w3 ho hgr hf; rw [Nat.zero_add, List.nil_append] at ho; obtain ⟨kB, kd, rfl⟩ := (show Rw (fun _ => 0) 0 w3 3 1 v' _ _ from ⟨ho, fun _ _ => rfl⟩).shape; have hk3 := grown_keeps hgr; have hk3' := Keeps.trans (((by repeat (first | with_reducible exact Keeps.refl noBlk w2 | with_reducible refine Keeps.alloc ?_ _ | with_reducible refine Keeps.drewN ?_ _ | with_reducible refine Keeps.drew ?_)) : Keeps noBlk w2 _).more fun _ _ h => h.elim) hk3; clear a0 a1 a2 a3 a4 a5 a6 a7 a8 a9 a10 a11 a12 za; have hb := HBA.out.keeps (HK1.out.trans HK2.out) (fun h => h); have hb := hb.keeps hk3' (fun h => by simp [Value.ownBlock] at h; omega); obtain ⟨a0, a1, a2, a3, a4, a5, a6, a7, a8, a9, a10, a11, a12⟩ := hb.cells13; have za := hb.lt; clear hb; have hb := HBR.out.keeps (HK1.out.trans HK2.out) (fun h => h); have hb := hb.keeps hk3' (fun h => by simp [Value.ownBlock] at h; omega); obtain ⟨r0, r1, r2, r3, r4, r5, r6, r7, r8, r9, r10, r11, r12⟩ := hb.cells13; obtain ⟨rf0, rf1, rf2, rf3, rf4, rf5, rf6, rf7, rf8, rf9, rf10, rf11, rf12⟩ := hb.fz13; have zr := hb.lt; clear hb; have HO3 := hH ho; have HF3 := hH hf; have HK3 := hH hk3'; have s3 := hk3'.size; clear ho hf hgr hk3 hk3'))
   all_goals
    go_wp2; have hU := HUL.out; refine bodyPost_ret (v := (⟨c.id, ⟨c.bk.b, x1, x2, y1, y2⟩, t, us, A, cp, c.knows, kB, kd⟩ : ChM).val) (by simp [results, Tryd.results96, go_sem, ChM.val, hU, r0, r1, r2, r3, r4, r5, r6, r7, r8, r9, r10, r11, r12]) rfl ?_; have kS := ((((((((((((((Keeps.refl (fun b => b = w.heap.size + 1) w3).setCell (p := ⟨w.heap.size + 1, 0, none⟩) (.inr rfl) (.int .i64 c.id)).setCell (p := ⟨w.heap.size + 1, 1, none⟩) (.inr rfl) (.slice x1 c.bk.b.own.length y1)).setCell (p := ⟨w.heap.size + 1, 2, none⟩) (.inr rfl) (.slice x2 c.bk.b.notes.length y2)).setCell (p := ⟨w.heap.size + 1, 3, none⟩) (.inr rfl) (.int .i64 c.bk.b.locked)).setCell (p := ⟨w.heap.size + 1, 4, none⟩) (.inr rfl) (.int .i64 t.x.way)).setCell (p := ⟨w.heap.size + 1, 5, none⟩) (.inr rfl) (.int .i64 t.x.ver)).setCell (p := ⟨w.heap.size + 1, 6, none⟩) (.inr rfl) (.int .i64 t.x.want)).setCell (p := ⟨w.heap.size + 1, 7, none⟩) (.inr rfl) (.slice t.A1 t.x.sent.length t.c1)).setCell (p := ⟨w.heap.size + 1, 8, none⟩) (.inr rfl) (.slice t.A2 t.x.live.length t.c2)).setCell (p := ⟨w.heap.size + 1, 9, none⟩) (.inr rfl) (.slice t.A3 t.x.back.length t.c3)).setCell (p := ⟨w.heap.size + 1, 10, none⟩) (.inr rfl) (.slice t.A4 t.x.got.length t.c4)).setCell (p := ⟨w.heap.size + 1, 11, none⟩) (.inr rfl) (.slice A c.past.length cp)).setCell (p := ⟨w.heap.size + 1, 12, none⟩) (.inr rfl) (.slice kB c.knows.length kd))
    exact copy_fin c HKW.out (HK1.out.trans HK2.out) HK3.out kS hszr HG0.out HUL.out HRW.out HST.out HSAME.out HX.out RO2.out RN2.out DIS.out (by first | omega | (simp <;> omega)) (by first | omega | (simp <;> omega)) (by first | omega | (simp <;> omega)) (show w2.heap.size ≤ _ from by first | omega | (simp <;> omega)) s2 HGG.out HO3.out HF3.out (fun b hb => by
     have s9 := HK9A.out.size
     (try simp at s9)
     simp [Value.ownBlock] at hb
     refine ⟨?_, ?_, ?_⟩ <;> first | omega | (simp <;> omega))
end Go.Proofs.YtjcbeihoeanhaaaDoor
