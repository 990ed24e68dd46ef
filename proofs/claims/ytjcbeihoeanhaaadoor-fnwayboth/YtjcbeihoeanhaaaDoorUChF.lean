/- What happens on a chain leaves it ok. Nothing here speaks of the program's text. No condition. l21Chain of the model: whatever happens on a chain, it is ok. -/
import Derived.Test.YtjcbeihoeanhaaaDoorPure
import Derived.Test.YtjcbeihoeanhaaaDoorUChX
import Derived.Test.YtjcbeihoeanhaaaDoorGChS
import Derived.Test.YtjcbeihoeanhaaaDoorGChM
import Derived.Test.YtjcbeihoeanhaaaDoorGChN
set_option linter.unusedVariables false
set_option linter.unusedSimpArgs false
/-! GChF -/
namespace Go.Proofs.YtjcbeihoeanhaaaDoor
open Go.RowKit

def Nxt (c c' : ChM) : Prop := ChOk c' ∧ c'.knows.length ≤ c.knows.length + 1 ∧ c'.id = c.id
theorem Nxt.same {c : ChM} (h : ChOk c) : Nxt c c := ⟨h, Nat.le_succ _, rfl⟩
theorem nxt_block {c c' : ChM} (h : ChOk c) (hb : blockP c c') : Nxt c c' := by
 unfold blockP at hb
 split at hb
 ·rename_i hl
  obtain ⟨s, A, k, hs, rfl⟩ := hb; refine ⟨⟨h.bank, h.st, fun t ht => ?_, by simp; omega, h.kn⟩, Nat.le_succ _, rfl⟩
  rcases List.mem_append.1 ht with ht | ht
  ·exact h.past t ht
  ·obtain rfl := List.mem_singleton.1 ht
   rw [hs]; exact h.st
 ·rw [hb]
  exact Nxt.same h
theorem two_filters (xs : List Int) (h : Int) : (below xs h).length + (over xs h).length ≤ xs.length := by
 induction xs with
 | nil => simp [below, over]
 | cons a xs ih =>
  unfold below over at *; simp only [List.filter_cons]
  by_cases h1 : a < h
  ·have h2 : ¬ h < a := by omega
   simp only [h1, h2, decide_true, decide_false, if_true, List.length_cons]; simp
   omega
  ·by_cases h2 : h < a
   ·simp only [h1, h2, decide_true, decide_false, List.length_cons]
    simp
    omega
   ·simp only [h1, h2, decide_false, List.length_cons]
    simp
    omega
theorem nxt_know {c c' : ChM} {n : Nat} {h : Int} (oc : ChOk c) (hk : knowP c n h c') : Nxt c c' := by
 obtain ⟨A, k, rfl⟩ := hk; refine ⟨⟨oc.bank, oc.st, oc.past, oc.pl, ?_⟩, ?_, rfl⟩
 ·intro v hv
  dsimp only at hv; unfold knowL at hv
  split at hv
  ·rename_i hc
   rcases List.mem_append.1 hv with hv | hv
   ·rcases List.mem_append.1 hv with hv | hv
    ·exact oc.kn v (List.mem_filter.1 hv).1
    ·obtain rfl := List.mem_singleton.1 hv
     exact hc.1
   ·exact oc.kn v (List.mem_filter.1 hv).1
  ·exact oc.kn v hv
 ·dsimp only
  unfold knowL
  split
  ·have := two_filters c.knows h
   simp only [List.length_append, List.length_singleton]
   omega
  ·omega
theorem nxt_send {c c' : ChM} {p : Pk} {m : Int} {o : Bool} (h : ChOk c) (hs : p.s = (c.st.x.sent.length : Int) + 1) (hv : p.v = c.st.x.ver) (hp : sendP c p c' m o) : Nxt c c' := by
 rcases hp with ⟨hb, _, _, A1, A2, A3, k1, k2, k3, rfl⟩ | ⟨_, _, _, rfl⟩
 ·simp only [sendB, Bool.and_eq_true, decide_eq_true_eq] at hb
  have pp := pkB_parts hb.1.2; refine ⟨⟨?_, stB_send h.st hb.1.2 hs hv, h.past, h.pl, h.kn⟩, Nat.le_succ _, rfl⟩; exact turnA_ok h.bank (by simp only [kindB, Bool.and_eq_true, decide_eq_true_eq]; omega) (by simp only [userB, Bool.and_eq_true, decide_eq_true_eq]; omega) (by omega)
 ·exact Nxt.same h
theorem nxt_bank {c c' : ChM} (h : ChOk c) (hb : ∃ b A1 A2 k1 k2, okB b = true ∧ c' = { c with bk := ⟨b, A1, A2, k1, k2⟩ }) : Nxt c c' := by
 obtain ⟨b, A1, A2, k1, k2, hb, rfl⟩ := hb; exact ⟨⟨hb, h.st, h.past, h.pl, h.kn⟩, Nat.le_succ _, rfl⟩
theorem nxt_step {c : ChM} {y : StL} (k : Int) (h : ChOk c) (hy : stB y = true) : Nxt c (stepCh c y k) := by
 unfold stepCh
 split
 ·rename_i hm
  exact ⟨⟨h.bank, stB_step h.st hy hm, h.past, h.pl, h.kn⟩, Nat.le_succ _, rfl⟩
 ·exact Nxt.same h
theorem nxt_settle {c : ChM} {k : Nat} (b : Bool) (h : ChOk c) (hk : k < c.st.x.sent.length) : Nxt c (settleCh c k b) := by
 have f := (fit_of_ok h.st).pk k hk; refine ⟨⟨?_, ?_, h.past, h.pl, h.kn⟩, Nat.le_succ _, rfl⟩
 ·unfold settleCh
  dsimp only
  split
  ·exact turnB_ok h.bank f.1 f.2.1 f.2.2.1
  ·exact h.bank
 ·exact stB_settle k b h.st
theorem mine_lt {x : StL} {q : Int} (h : mineB x q = true) : (q - 1).toNat < x.sent.length := by
 simp only [mineB, decide_eq_true_eq] at h
 omega
theorem nxt_tell {c : ChM} {y : StL} (q : Int) (h : ChOk c) : Nxt c (tellCh c y q) := by
 unfold tellCh
 split
 ·rename_i hm
  simp only [tellB, Bool.and_eq_true] at hm; exact nxt_settle _ h (mine_lt hm.1)
 ·exact Nxt.same h
theorem nxt_late {c : ChM} {y : StL} (t q : Int) (h : ChOk c) : Nxt c (lateCh c y t q) := by
 unfold lateCh
 split
 ·rename_i hm
  simp only [lateB, Bool.and_eq_true] at hm; exact nxt_settle _ h (mine_lt hm.1.1)
 ·exact Nxt.same h
theorem nxt_get {c : ChM} {y : StL} {p : Pk} (h : ChOk c) (hp : p.ok = true) : Nxt c (getTo c y p) := by
 unfold getTo
 split
 ·have pp := pkB_parts hp
  refine ⟨⟨?_, stB_gotS _ _ ?_ h.st, h.past, h.pl, h.kn⟩, Nat.le_succ _, rfl⟩
  ·unfold getCh
   dsimp only; unfold payB
   split
   ·exact h.bank
   ·exact turnB_ok h.bank (by unfold payK; split <;> decide) (by simp only [userB, Bool.and_eq_true, decide_eq_true_eq]; omega) (by omega)
  ·unfold payN
   split
   ·exact .inl rfl
   ·exact .inr rfl
 ·exact Nxt.same h
theorem nxt_relay {c d : ChM} (e : Ev) (oc : ChOk c) (od : ChOk d) : Nxt c (relayCh c d e) := by
 unfold relayCh
 split
 ·split
  ·rename_i y hy
   have hyo := od.past y (List.mem_of_getElem? hy); unfold relayTo
   split
   ·split
    ·rename_i hp
     exact nxt_get oc hp
    ·exact Nxt.same oc
   ·split
    ·exact nxt_tell _ oc
    ·split
     ·exact nxt_late _ _ oc
     ·split
      ·exact nxt_step _ oc hyo
      ·exact Nxt.same oc
  ·exact Nxt.same oc
 ·exact Nxt.same oc
theorem newS_ok : stB newS = true := by decide

theorem RetCh.mono {G : Nat → Nat} {i : Nat} {w w' : World} {P Q : ChM → Prop} {e : Ending} (h : RetCh G i w P e w') (hp : ∀ c, P c → Q c) : RetCh G i w Q e w' := by
 obtain ⟨G', c, he, hP, r⟩ := h; exact ⟨G', c, he, hp c hP, r⟩
theorem locked_le {b : BankL} (h : okB b = true) : b.locked ≤ 9223372036854775807 := by
 obtain ⟨h1, _, _, h4, _⟩ := okB_parts h
 have : 0 ≤ sumL b.own := by
  obtain ⟨own, notes, lk⟩ := b; have hl := (okB_len h).1
  match own, hl with
  | [x, y, z], _ =>
   simp [partsB, inB, sumL] at h1 ⊢
   omega
 omega
theorem l21Chain_any (G : Nat → Nat) (i j : Nat) (c d : ChM) (e : Ev) (w : World) (hc : ChR G i w c) (hd : ChR G j w d) (hkl : c.knows.length ≤ 1000) (oc : ChOk c) (od : ChOk d) :
  Calls Tryd.prog 84 #[c.val, d.val, e.val] w (RetCh G i w (Nxt c)) := by
 obtain ⟨kd, ch, h, n, p⟩ := e
 by_cases k1 : kd = 1
 ·subst k1
  exact (l21Chain_block G i j c d ch h n p w hc hd hkl oc od).mono fun _ _ r => r.mono fun _ q => nxt_block oc q
 by_cases k2 : kd = 2
 ·subst k2
  exact (l21Chain_know G i j c d ch h n p w hc hd hkl oc od).mono fun _ _ r => r.mono fun _ q => nxt_know oc q
 by_cases k3 : kd = 3
 ·subst k3
  exact (l21Chain_send G i j c d ch h n p w hc hd hkl oc od).mono fun _ _ r => r.mono fun _ ⟨_, _, q⟩ => nxt_send oc rfl rfl q
 by_cases k8 : kd = 8
 ·subst k8
  cases hm : moveOk c.bk.b p.k p.f p.t p.m with
  | true => exact (l21Chain_move G i j c d ch h n p w hc hd hkl oc od (locked_le oc.bank) hm (move_ok hm)).mono fun _ _ r => r.mono fun _ q => nxt_bank oc q
  | false => exact (l21Chain_stay G i j c d ch h n p w hc hd hkl oc od (locked_le oc.bank) hm).mono fun _ _ r => r.mono fun _ q => by rw [q]; exact Nxt.same oc
 by_cases k7 : kd = 7
 ·subst k7
  by_cases n1 : n = 1
  ·subst n1
   exact (l21Chain_step1 G i j c d ch h p w hc oc).mono fun _ _ r => r.mono fun _ q => by rw [q]; exact nxt_step _ oc newS_ok
  ·by_cases n5 : n = 5
   ·subst n5
    exact (l21Chain_step5 G i j c d ch h p w hc oc).mono fun _ _ r => r.mono fun _ q => by rw [q]; exact nxt_step _ oc newS_ok
   ·exact (l21Chain_relay7 G i j c d ch h n p w hc hd hkl oc od n1 n5).mono fun _ _ r => r.mono fun _ q => by rw [q]; exact nxt_relay _ oc od
 ·exact (l21Chain_relay G i j c d ch h n p w hc hd hkl oc od kd k1 k2 k3 k8 k7).mono fun _ _ r => r.mono fun _ q => by rw [q]; exact nxt_relay _ oc od
end Go.Proofs.YtjcbeihoeanhaaaDoor
