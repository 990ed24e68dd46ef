/- A chain of the call's own; heldStateS, markChain, heldChain of the laws. -/
import Derived.Test.YtcnbephpadmboaaGreatDoorUCxM
set_option linter.unusedVariables false
set_option linter.unusedSimpArgs false
namespace Go.Proofs.YtcnbephpadmboaaGreatDoor
open Go.RowKit

set_option maxRecDepth 100000 in
set_option maxHeartbeats 4000000 in
theorem heldStateS_any (A : Option Addr) (c : Nat) (k : Int) (ps : List StM) (w : World) (ha : Pas w A ps.length (pastMark ps k)) (hs : ∀ i, i < ps.length → ((pastMark ps k).getD i stm0).At w) (hk0 : 0 ≤ k) (hk : k + paN ps ps.length ≤ 1000000000) :
    Calls Tryz.prog 57 #[.slice A ps.length c, .int .i64 k] w fun e w' => e = .returned (.int .i64 (k + paN ps ps.length)) ∧ w = w' := by
  have hln : (ps.length : Int) ≤ 1000000000 := by have := paN_len ps ps.length; omega
  have hle := Lib.hid (fun j (h : j ≤ ps.length) => paN_mono ps h)
  have hnn := Lib.hid (paN_nn ps)
  have HA := Lib.hid ha
  have HS := Lib.hid hs
  clear ha hs
  go_enter Tryz.func57, Tryz.ntmps57
  go_wp2
  go_loopw [1, 5] (fun kk i wr => ∃ j : Nat, j ≤ ps.length ∧ i = .int .i64 j ∧ kk = .int .i64 (k + paN ps j) ∧ wr = w) (fun _ i _ => ps.length - (intOf i).toNat)
  case atStart => exact ⟨0, Nat.zero_le _, rfl, by simp [paN], rfl⟩
  case round =>
    obtain ⟨j, hj, rfl, rfl, rfl⟩ := hrel
    by_cases hlt : j < ps.length
    · obtain ⟨b1, o1, rfl, _, z0, z1, z2, z3, z4, z5, z6⟩ := HA.out.at_ hlt
      have hat := HS.out j hlt
      rw [pastMark_getD ps k hlt] at z0 z1 z2 z3 z4 z5 z6 hat
      have hst : Hid (paN ps (j + 1) = paN ps j + 3 + stNi (ps.getD j stm0).x) := Lib.hid rfl
      have h1 := hle.out (j + 1) hlt
      have h2 := hnn.out j
      rw [hst.out] at h1
      generalize ps.getD j stm0 = p at z0 z1 z2 z3 z4 z5 z6 hst h1 hat
      obtain ⟨x, A1, A2, A3, A4, c1, c2, c3, c4⟩ := p
      simp only [smk, stMark, pmarks_length, bmarks_length, iota_length, StM.At] at z0 z1 z2 z3 z4 z5 z6 hat
      generalize hK : k + paN ps j = K at z0 z1 z2 z3 z4 z5 z6 hat
      have hK0 : 0 ≤ K := by omega
      have hK1 : K + 3 + 7 * (x.sent.length : Int) + x.live.length + x.back.length + x.got.length ≤ 1000000000 := by
        unfold stNi at h1
        dsimp only at h1
        omega
      have HKK := Lib.hid hK
      have HLT := Lib.hid hlt
      clear hK h1 h2
      obtain ⟨⟨g1, g2, g3, g4⟩, _⟩ := hat
      simp only [pmarks_length, bmarks_length, iota_length] at g1 g2 g3 g4
      have H1 := Lib.hid g1
      have H2 := Lib.hid g2
      have H3 := Lib.hid g3
      have H4 := Lib.hid g4
      clear g1 g2 g3 g4
      have n0 : (K != K) = false := by simp
      have n1 : (K + 1 != K + 1) = false := by simp
      have n2 : (K + 1 + 1 != K + 1 + 1) = false := by simp
      have m1 : ¬ K + 1 + 1 + 1 + 7 * (x.sent.length : Int) < 0 := by omega
      have m2 : ¬ K + 1 + 1 + 1 + 7 * (x.sent.length : Int) + (x.live.length : Int) < 0 := by omega
      have m3 : ¬ K + 1 + 1 + 1 + 7 * (x.sent.length : Int) + (x.live.length : Int) + (x.back.length : Int) < 0 := by omega
      have m4 : ¬ K + 1 + 1 + 1 + 7 * (x.sent.length : Int) + (x.live.length : Int) + (x.back.length : Int) + (x.got.length : Int) < 0 := by omega
      go_wp2_with fail
      refine (heldPacketS_any A1 x.sent.length _ _ _ H1.out (by omega) (by omega)).mono ?_
      rintro e w1 ⟨rfl, rfl⟩
      go_wp2_with fail
      refine (heldBoolS_any A2 x.live.length _ _ _ H2.out (by omega) (by omega)).mono ?_
      rintro e w2 ⟨rfl, rfl⟩
      go_wp2_with fail
      refine (heldBoolS_any A3 x.back.length _ _ _ H3.out (by omega) (by omega)).mono ?_
      rintro e w3 ⟨rfl, rfl⟩
      go_wp2_with fail
      refine (heldIntS_any A4 x.got.length _ _ _ H4.out (by omega) (by omega)).mono ?_
      rintro e w4 ⟨rfl, rfl⟩
      go_wp2
      go_roundw
      case rel =>
        refine ⟨j + 1, HLT.out, by go_num, ?_, by trivial⟩
        rw [hst.out, ← HKK.out]
        unfold stNi
        congr 1
        (try dsimp only)
        omega
      case measure => have := HLT.out; simp [intOf]; omega
    · obtain he : j = ps.length := by omega
      have hh : Hid (k + paN ps j = k + paN ps ps.length) := Lib.hid (by rw [he])
      clear he
      go_wp2
      go_ret
      exact ⟨by first | (rw [hh.out]; done) | (rw [hh.out]; rfl), rfl⟩

/-- A chain of the call's own: each row lies in blocks of a role of its own. -/
structure ChOwn (G : Nat → Nat) (w : World) (lo : Nat) (c : ChM) : Prop where
  own : Row w lo c.bk.A1 c.bk.b.own.length c.bk.b.own
  gown : ∀ b, blk c.bk.A1 c.bk.b.own.length b → G b = 0
  notes : Row w lo c.bk.A2 c.bk.b.notes.length c.bk.b.notes
  gnotes : ∀ b, blk c.bk.A2 c.bk.b.notes.length b → G b = 1
  st : c.st.Own w lo
  gst : ∀ b, c.st.bl b → G b = 2
  row : SRow w lo c.pA c.past.length c.past
  grow : ∀ b, blk c.pA c.past.length b → G b = 3
  past : ∀ i, i < c.past.length → SOwn G 10 w lo c.past i
  knows : Row w lo c.kA c.knows.length c.knows
  gknows : ∀ b, blk c.kA c.knows.length b → G b = 4
  m1 : c.bk.b.own.length ≤ maxLen
  m2 : c.bk.b.notes.length ≤ maxLen
  m3 : c.past.length ≤ maxLen
  m4 : c.knows.length ≤ maxLen
  m5 : c.st.Len
  m6 : ∀ i, i < c.past.length → (c.past.getD i stm0).Len
theorem ChOwn.at_ {G : Nat → Nat} {w : World} {lo : Nat} {c : ChM} (h : ChOwn G w lo c) : ChAt w c :=
  ⟨h.own.1, h.notes.1, h.st.at_ h.m5, h.row.1, fun s hs => by
    obtain ⟨i, hi, rfl⟩ := List.getElem_of_mem hs
    have e : c.past.getD i stm0 = c.past[i] := by rw [List.getD_eq_getElem?_getD, List.getElem?_eq_getElem hi]; rfl
    rw [← e]
    exact (h.past i hi).1.at_ (h.m6 i hi), h.knows.1, h.m1, h.m2, h.m3, h.m4⟩
theorem ChOwn.kept {G : Nat → Nat} {w w' : World} {lo : Nat} {c : ChM} (h : ChOwn G w lo c) (hk : Keeps noBlk w w') : ChOwn G w' lo c :=
  ⟨h.own.keeps hk fun _ _ h => h, h.gown, h.notes.keeps hk fun _ _ h => h, h.gnotes, h.st.kept hk, h.gst, h.row.kept hk, h.grow, fun i hi => (h.past i hi).kept hk, h.knows.keeps hk fun _ _ h => h, h.gknows, h.m1, h.m2, h.m3, h.m4, h.m5, h.m6⟩
/-- The blocks of a chain. -/
def chBlk (c : ChM) (b : Nat) : Prop := blk c.bk.A1 c.bk.b.own.length b ∨ blk c.bk.A2 c.bk.b.notes.length b ∨ c.st.bl b ∨ pasBlk c.pA c.past b ∨ blk c.kA c.knows.length b
theorem ChOwn.ge {G : Nat → Nat} {w : World} {lo : Nat} {c : ChM} (h : ChOwn G w lo c) {b : Nat} (hb : chBlk c b) : lo ≤ b := by
  rcases hb with hb | hb | hb | (hb | ⟨i, hi, hb⟩) | hb
  · exact h.own.ge hb
  · exact h.notes.ge hb
  · exact h.st.ge hb
  · exact h.row.ge hb
  · exact (h.past i hi).1.ge hb
  · exact h.knows.ge hb
theorem ChOwn.lt {G : Nat → Nat} {w : World} {lo : Nat} {c : ChM} (h : ChOwn G w lo c) {b : Nat} (hb : chBlk c b) : b < w.heap.size := by
  rcases hb with hb | hb | hb | (hb | ⟨i, hi, hb⟩) | hb
  · exact h.own.lt hb
  · exact h.notes.lt hb
  · exact h.st.lt hb
  · exact h.row.lt hb
  · exact (h.past i hi).1.lt hb
  · exact h.knows.lt hb
/-- A chain is left as it was where others are written. -/
theorem ChAt.keeps {S : Nat → Prop} {w w' : World} {c : ChM} (h : ChAt w c) (hk : Keeps S w w') (hs : ∀ b, chBlk c b → ¬ S b) : ChAt w' c :=
  ⟨h.own.keeps hk fun b hb => hs b (.inl hb), h.notes.keeps hk fun b hb => hs b (.inr (.inl hb)), h.st.keeps hk fun b hb => hs b (.inr (.inr (.inl hb))), h.row.keeps hk fun b hb => hs b (.inr (.inr (.inr (.inl (.inl hb))))), fun s hsm => by
    obtain ⟨i, hi, rfl⟩ := List.getElem_of_mem hsm
    have e : c.past.getD i stm0 = c.past[i] := by rw [List.getD_eq_getElem?_getD, List.getElem?_eq_getElem hi]; rfl
    exact (h.past _ hsm).keeps hk fun b hb => hs b (.inr (.inr (.inr (.inl (.inr ⟨i, hi, by rw [e]; exact hb⟩))))), h.knows.keeps hk fun b hb => hs b (.inr (.inr (.inr (.inr hb)))), h.m1, h.m2, h.m3, h.m4⟩
theorem ChOwn.keeps {S : Nat → Prop} {G : Nat → Nat} {w w' : World} {lo : Nat} {c : ChM} (h : ChOwn G w lo c) (hk : Keeps S w w') (hs : ∀ b, chBlk c b → ¬ S b) : ChOwn G w' lo c :=
  ⟨h.own.keeps hk fun b hb => hs b (.inl hb), h.gown, h.notes.keeps hk fun b hb => hs b (.inr (.inl hb)), h.gnotes, h.st.keeps hk fun b hb => hs b (.inr (.inr (.inl hb))), h.gst, h.row.keeps hk fun b hb => hs b (.inr (.inr (.inr (.inl (.inl hb))))), h.grow,
    fun i hi => ⟨(h.past i hi).1.keeps hk fun b hb => hs b (.inr (.inr (.inr (.inl (.inr ⟨i, hi, hb⟩))))), (h.past i hi).2⟩, h.knows.keeps hk fun b hb => hs b (.inr (.inr (.inr (.inr hb)))), h.gknows, h.m1, h.m2, h.m3, h.m4, h.m5, h.m6⟩
def chN (c : ChM) : Int := (c.bk.b.own.length : Int) + c.bk.b.notes.length + stN c.st.x + paN c.past c.past.length + c.knows.length
/-- A chain all of whose memory is marked from k on. -/
def chMark (c : ChM) (k : Int) : ChM :=
  { c with bk := { c.bk with b := { c.bk.b with own := iota k c.bk.b.own.length, notes := iota (k + c.bk.b.own.length) c.bk.b.notes.length } }, st := { c.st with x := stMark c.st.x (k + c.bk.b.own.length + c.bk.b.notes.length) },
           past := pastMark c.past (k + c.bk.b.own.length + c.bk.b.notes.length + stN c.st.x), knows := iota (k + c.bk.b.own.length + c.bk.b.notes.length + stN c.st.x + paN c.past c.past.length) c.knows.length }
def RetChMark (G : Nat → Nat) (lo : Nat) (w : World) (c : ChM) (k : Int) (e : Ending) (w' : World) : Prop := e = .returned (.int .i64 (k + chN c)) ∧ ChOwn G w' lo (chMark c k) ∧ Keeps (chBlk c) w w'

set_option maxRecDepth 100000 in
set_option maxHeartbeats 4000000 in
theorem markChain_any (c : ChM) (G : Nat → Nat) (lo : Nat) (k : Int) (w : World) (h : ChOwn G w lo c) (hk0 : 0 ≤ k) (hk : k + chN c ≤ 1000000000) :
    Calls Tryz.prog 16 #[c.val, .int .i64 k] w (RetChMark G lo w c k) := by
  have E := Lib.hid (And.intro h.gown (And.intro h.gnotes (And.intro h.gst (And.intro h.grow h.gknows))))
  have E2 := Lib.hid (fun i (hi : i < c.past.length) => (h.past i hi).2)
  have MM := Lib.hid (And.intro h.m1 (And.intro h.m2 (And.intro h.m3 (And.intro h.m4 (And.intro h.m5 h.m6)))))
  have NBK : Hid (¬ chBlk c w.heap.size) := Lib.hid fun hb => Nat.lt_irrefl _ (h.lt hb)
  have H := Lib.hid h
  have hp0 := paN_nn c.past c.past.length
  have hN : k + c.bk.b.own.length + c.bk.b.notes.length + stN c.st.x + paN c.past c.past.length + c.knows.length ≤ 1000000000 := by unfold chN at hk; omega
  have ms := Lib.hid (fun W (hx : c.st.Own W lo) => markState_any c.st.x c.st.A1 c.st.A2 c.st.A3 c.st.A4 c.st.c1 c.st.c2 c.st.c3 c.st.c4 lo (k + c.bk.b.own.length + c.bk.b.notes.length) W hx (by omega) (by omega))
  have mp := Lib.hid (fun W (hr : SRow W lo c.pA c.past.length c.past) (hs : ∀ i, i < c.past.length → SOwn G 10 W lo c.past i) => markStateS_any c.pA c.pc lo G (k + c.bk.b.own.length + c.bk.b.notes.length + stN c.st.x) c.past W hr H.out.grow hs (by omega) (by omega))
  have hC : Hid (chN c = c.bk.b.own.length + c.bk.b.notes.length + stN c.st.x + paN c.past c.past.length + c.knows.length) := Lib.hid rfl
  clear h hk
  obtain ⟨C, hCC⟩ : ∃ C, c = C := ⟨c, rfl⟩
  have HCC := Lib.hid hCC
  clear hCC
  have NBC : Hid (¬ chBlk C w.heap.size) := Lib.hid (by rw [← HCC.out]; exact NBK.out)
  rw [show RetChMark G lo w c k = RetChMark G lo w C k by rw [HCC.out]]
  unfold RetChMark
  have HCE : Hid (k + chN C = k + c.bk.b.own.length + c.bk.b.notes.length + stN c.st.x + paN c.past c.past.length + c.knows.length) := Lib.hid (by rw [← HCC.out, hC.out]; omega)
  have HFIN : Hid (∀ W, Row W lo c.bk.A1 c.bk.b.own.length (iota k c.bk.b.own.length) → Row W lo c.bk.A2 c.bk.b.notes.length (iota (k + c.bk.b.own.length) c.bk.b.notes.length) → StOwn W lo (stMark c.st.x (k + c.bk.b.own.length + c.bk.b.notes.length)) c.st.A1 c.st.A2 c.st.A3 c.st.A4 →
      SRow W lo c.pA c.past.length (pastMark c.past (k + c.bk.b.own.length + c.bk.b.notes.length + stN c.st.x)) → (∀ i, i < c.past.length → SOwn G 10 W lo (pastMark c.past (k + c.bk.b.own.length + c.bk.b.notes.length + stN c.st.x)) i) →
      Row W lo c.kA c.knows.length (iota (k + c.bk.b.own.length + c.bk.b.notes.length + stN c.st.x + paN c.past c.past.length) c.knows.length) → ChOwn G W lo (chMark C k)) := Lib.hid (by
    intro W r1 r2 r3 r4 r5 r6
    rw [← HCC.out]
    refine ⟨?_, ?_, ?_, ?_, r3, ?_, ?_, ?_, ?_, ?_, ?_, ?_, ?_, ?_, ?_, ?_, ?_⟩ <;> simp only [chMark, iota_length, pastMark_length]
    · exact r1
    · exact E.out.1
    · exact r2
    · exact E.out.2.1
    · intro b hb
      refine E.out.2.2.1 b ?_
      simpa only [StM.bl, stBlk, stMark, pmarks_length, bmarks_length, iota_length] using hb
    · exact r4
    · exact E.out.2.2.2.1
    · exact r5
    · exact r6
    · exact E.out.2.2.2.2
    · exact MM.out.1
    · exact MM.out.2.1
    · exact MM.out.2.2.1
    · exact MM.out.2.2.2.1
    · have := MM.out.2.2.2.2.1
      simpa only [StM.Len, stMark, pmarks_length, bmarks_length, iota_length] using this
    · intro i hi
      rw [pastMark_getD _ _ hi]
      exact smk_len (MM.out.2.2.2.2.2 i hi))
  have SB : Hid ((∀ b, blk c.bk.A1 c.bk.b.own.length b → chBlk C b) ∧ (∀ b, blk c.bk.A2 c.bk.b.notes.length b → chBlk C b) ∧ (∀ b, stBlk c.st.x c.st.A1 c.st.A2 c.st.A3 c.st.A4 b → chBlk C b) ∧ (∀ b, pasBlk c.pA c.past b → chBlk C b) ∧ ∀ b, blk c.kA c.knows.length b → chBlk C b) := Lib.hid (by
    rw [← HCC.out]
    exact ⟨fun b h => .inl h, fun b h => .inr (.inl h), fun b h => .inr (.inr (.inl h)), fun b h => .inr (.inr (.inr (.inl h))), fun b h => .inr (.inr (.inr (.inr h)))⟩)
  have EM : Hid (∀ b, stBlk (stMark c.st.x (k + c.bk.b.own.length + c.bk.b.notes.length)) c.st.A1 c.st.A2 c.st.A3 c.st.A4 b → G b = 2) := Lib.hid (by
    intro b hb
    refine E.out.2.2.1 b ?_
    simpa only [StM.bl, stBlk, stMark, pmarks_length, bmarks_length, iota_length] using hb)
  clear MM hC HCC
  obtain ⟨id, ⟨⟨own, notes, lk⟩, a1, a2, e1, e2⟩, ⟨x, A1, A2, A3, A4, c1, c2, c3, c4⟩, past, pA, pc, knows, kA, kc⟩ := c
  dsimp only at *
  dsimp only [StM.bl] at E
  unfold ChM.val
  dsimp only
  unfold stV at ms
  have HBa := Lib.hid (Box.new w _ rfl 42 #[.int .i64 id, .slice a1 own.length e1, .slice a2 notes.length e2, .int .i64 lk, .int .i64 x.way, .int .i64 x.ver, .int .i64 x.want, .slice A1 x.sent.length c1, .slice A2 x.live.length c2, .slice A3 x.back.length c3, .slice A4 x.got.length c4, .slice pA past.length pc, .slice kA knows.length kc])
  have HK := Lib.hid ((Keeps.refl (chBlk C) w).alloc (.cells #[.int .i64 id, .slice a1 own.length e1, .slice a2 notes.length e2, .int .i64 lk, .int .i64 x.way, .int .i64 x.ver, .int .i64 x.want, .slice A1 x.sent.length c1, .slice A2 x.live.length c2, .slice A3 x.back.length c3, .slice A4 x.got.length c4, .slice pA past.length pc, .slice kA knows.length kc] 42))
  have h := H.out.kept ((Keeps.refl noBlk w).alloc (.cells #[.int .i64 id, .slice a1 own.length e1, .slice a2 notes.length e2, .int .i64 lk, .int .i64 x.way, .int .i64 x.ver, .int .i64 x.want, .slice A1 x.sent.length c1, .slice A2 x.live.length c2, .slice A3 x.back.length c3, .slice A4 x.got.length c4, .slice pA past.length pc, .slice kA knows.length kc] 42))
  clear H
  have Ho := Lib.hid h.own
  have Hn := Lib.hid h.notes
  have Hs := Lib.hid h.st
  have Hr := Lib.hid h.row
  have Hp := Lib.hid h.past
  have Hw := Lib.hid h.knows
  clear h
  dsimp only [StM.Own] at Ho Hn Hs Hr Hp Hw
  go_enter Tryz.func16, Tryz.ntmps16
  go_wp2_with fail
  refine (markBank_any a1 a2 own.length notes.length _ _ lo _ k own notes _ Ho.out Hn.out (fun b h1 h2 => by have := E.out.1 b h1; have := E.out.2.1 b h2; omega) (by omega) (by omega)).mono ?_
  rintro e w1 ⟨rfl, ho, hn, hk1⟩
  clear Ho
  clear Hn
  have ha := HBa.out.keeps hk1 (fun h => NBC.out (by rcases h with h | h; exact SB.out.1 _ h; exact SB.out.2.1 _ h))
  clear HBa
  have HBa := Lib.hid ha
  clear ha
  have hr := (Hs.out).keeps hk1 (fun b hb h => by have r1 := E.out.2.2.1 b hb; rcases h with h | h; (have r2 := E.out.1 b h; omega); (have r2 := E.out.2.1 b h; omega))
  clear Hs
  have Hs := Lib.hid hr
  clear hr
  have hr := (Hr.out).keeps hk1 (fun b hb h => by have r1 := E.out.2.2.2.1 b hb; rcases h with h | h; (have r2 := E.out.1 b h; omega); (have r2 := E.out.2.1 b h; omega))
  clear Hr
  have Hr := Lib.hid hr
  clear hr
  have hr := (fun i hi => ((Hp.out) i hi).keeps hk1 (fun b hb h => by have r1 := hb; rcases h with h | h; (have r2 := E.out.1 b h; omega); (have r2 := E.out.2.1 b h; omega)))
  clear Hp
  have Hp := Lib.hid hr
  clear hr
  have hr := (Hw.out).keeps hk1 (fun b hb h => by have r1 := E.out.2.2.2.2 b hb; rcases h with h | h; (have r2 := E.out.1 b h; omega); (have r2 := E.out.2.1 b h; omega))
  clear Hw
  have Hw := Lib.hid hr
  clear hr
  have hr := HK.out.then hk1 (fun i hi h => by rcases h with h | h; exact SB.out.1 _ h; exact SB.out.2.1 _ h)
  clear HK
  have HK := Lib.hid hr
  clear hr
  clear hk1
  have Ho := Lib.hid ho
  have Hn := Lib.hid hn
  clear ho hn
  have hb := HBa.out
  have a0 := hb.cell 0
  have a1 := hb.cell 1
  have a2 := hb.cell 2
  have a3 := hb.cell 3
  have a4 := hb.cell 4
  have a5 := hb.cell 5
  have a6 := hb.cell 6
  have a7 := hb.cell 7
  have a8 := hb.cell 8
  have a9 := hb.cell 9
  have a10 := hb.cell 10
  have a11 := hb.cell 11
  have a12 := hb.cell 12
  simp at a0 a1 a2 a3 a4 a5 a6 a7 a8 a9 a10 a11 a12
  have za := hb.lt
  clear hb
  go_wp2_with fail
  refine (ms.out _ Hs.out).mono ?_
  rintro e w2 ⟨rfl, hs, hk2⟩
  clear Hs
  clear a0 a1 a2 a3 a4 a5 a6 a7 a8 a9 a10 a11 a12 za
  have ha := HBa.out.keeps hk2 (fun h => NBC.out (SB.out.2.2.1 _ h))
  clear HBa
  have HBa := Lib.hid ha
  clear ha
  have hr := (Hr.out).keeps hk2 (fun b hb h => by have r1 := E.out.2.2.2.1 b hb; have r2 := E.out.2.2.1 b h; omega)
  clear Hr
  have Hr := Lib.hid hr
  clear hr
  have hr := (fun i hi => ((Hp.out) i hi).keeps hk2 (fun b hb h => by have r1 := hb; have r2 := E.out.2.2.1 b h; omega))
  clear Hp
  have Hp := Lib.hid hr
  clear hr
  have hr := (Hw.out).keeps hk2 (fun b hb h => by have r1 := E.out.2.2.2.2 b hb; have r2 := E.out.2.2.1 b h; omega)
  clear Hw
  have Hw := Lib.hid hr
  clear hr
  have hr := (Ho.out).keeps hk2 (fun b hb h => by have r1 := E.out.1 b hb; have r2 := E.out.2.2.1 b h; omega)
  clear Ho
  have Ho := Lib.hid hr
  clear hr
  have hr := (Hn.out).keeps hk2 (fun b hb h => by have r1 := E.out.2.1 b hb; have r2 := E.out.2.2.1 b h; omega)
  clear Hn
  have Hn := Lib.hid hr
  clear hr
  have hr := HK.out.then hk2 (fun i hi h => SB.out.2.2.1 _ h)
  clear HK
  have HK := Lib.hid hr
  clear hr
  clear hk2
  have Hs := Lib.hid hs
  clear hs
  have hb := HBa.out
  have a0 := hb.cell 0
  have a1 := hb.cell 1
  have a2 := hb.cell 2
  have a3 := hb.cell 3
  have a4 := hb.cell 4
  have a5 := hb.cell 5
  have a6 := hb.cell 6
  have a7 := hb.cell 7
  have a8 := hb.cell 8
  have a9 := hb.cell 9
  have a10 := hb.cell 10
  have a11 := hb.cell 11
  have a12 := hb.cell 12
  simp at a0 a1 a2 a3 a4 a5 a6 a7 a8 a9 a10 a11 a12
  have za := hb.lt
  clear hb
  go_wp2_with fail
  refine (mp.out _ Hr.out Hp.out).mono ?_
  rintro e w3 ⟨rfl, hr, hp, hk3⟩
  clear Hr
  clear Hp
  clear a0 a1 a2 a3 a4 a5 a6 a7 a8 a9 a10 a11 a12 za
  have ha := HBa.out.keeps hk3 (fun h => NBC.out (SB.out.2.2.2.1 _ h))
  clear HBa
  have HBa := Lib.hid ha
  clear ha
  have hr := (Hw.out).keeps hk3 (fun b hb h => by have r1 := E.out.2.2.2.2 b hb; rcases h with h | h; (have r2 := E.out.2.2.2.1 b h; omega); (obtain ⟨i, hi, h⟩ := h; have r2 := E2.out i hi b h; omega))
  clear Hw
  have Hw := Lib.hid hr
  clear hr
  have hr := (Ho.out).keeps hk3 (fun b hb h => by have r1 := E.out.1 b hb; rcases h with h | h; (have r2 := E.out.2.2.2.1 b h; omega); (obtain ⟨i, hi, h⟩ := h; have r2 := E2.out i hi b h; omega))
  clear Ho
  have Ho := Lib.hid hr
  clear hr
  have hr := (Hn.out).keeps hk3 (fun b hb h => by have r1 := E.out.2.1 b hb; rcases h with h | h; (have r2 := E.out.2.2.2.1 b h; omega); (obtain ⟨i, hi, h⟩ := h; have r2 := E2.out i hi b h; omega))
  clear Hn
  have Hn := Lib.hid hr
  clear hr
  have hr := (Hs.out).keeps hk3 (fun b hb h => by have r1 := EM.out b hb; rcases h with h | h; (have r2 := E.out.2.2.2.1 b h; omega); (obtain ⟨i, hi, h⟩ := h; have r2 := E2.out i hi b h; omega))
  clear Hs
  have Hs := Lib.hid hr
  clear hr
  have hr := HK.out.then hk3 (fun i hi h => SB.out.2.2.2.1 _ h)
  clear HK
  have HK := Lib.hid hr
  clear hr
  clear hk3
  have Hr := Lib.hid hr
  have Hp := Lib.hid hp
  clear hr hp
  have hb := HBa.out
  have a0 := hb.cell 0
  have a1 := hb.cell 1
  have a2 := hb.cell 2
  have a3 := hb.cell 3
  have a4 := hb.cell 4
  have a5 := hb.cell 5
  have a6 := hb.cell 6
  have a7 := hb.cell 7
  have a8 := hb.cell 8
  have a9 := hb.cell 9
  have a10 := hb.cell 10
  have a11 := hb.cell 11
  have a12 := hb.cell 12
  simp at a0 a1 a2 a3 a4 a5 a6 a7 a8 a9 a10 a11 a12
  have za := hb.lt
  clear hb
  go_wp2_with fail
  refine (markIntS_any kA knows.length _ lo _ knows _ Hw.out (by omega) (by omega)).mono ?_
  rintro e w4 ⟨rfl, hw, hk4⟩
  clear Hw
  clear a0 a1 a2 a3 a4 a5 a6 a7 a8 a9 a10 a11 a12 za
  have ha := HBa.out.keeps hk4 (fun h => NBC.out (SB.out.2.2.2.2 _ h))
  clear HBa
  have HBa := Lib.hid ha
  clear ha
  have hr := (Ho.out).keeps hk4 (fun b hb h => by have r1 := E.out.1 b hb; have r2 := E.out.2.2.2.2 b h; omega)
  clear Ho
  have Ho := Lib.hid hr
  clear hr
  have hr := (Hn.out).keeps hk4 (fun b hb h => by have r1 := E.out.2.1 b hb; have r2 := E.out.2.2.2.2 b h; omega)
  clear Hn
  have Hn := Lib.hid hr
  clear hr
  have hr := (Hs.out).keeps hk4 (fun b hb h => by have r1 := EM.out b hb; have r2 := E.out.2.2.2.2 b h; omega)
  clear Hs
  have Hs := Lib.hid hr
  clear hr
  have hr := (Hr.out).keeps hk4 (fun b hb h => by have r1 := E.out.2.2.2.1 b hb; have r2 := E.out.2.2.2.2 b h; omega)
  clear Hr
  have Hr := Lib.hid hr
  clear hr
  have hr := (fun i hi => ((Hp.out) i hi).keeps hk4 (fun b hb h => by have r1 := hb; have r2 := E.out.2.2.2.2 b h; omega))
  clear Hp
  have Hp := Lib.hid hr
  clear hr
  have hr := HK.out.then hk4 (fun i hi h => SB.out.2.2.2.2 _ h)
  clear HK
  have HK := Lib.hid hr
  clear hr
  clear hk4
  have Hw := Lib.hid hw
  clear hw
  go_wp2
  go_ret
  exact ⟨by first | (rw [HCE.out]; done) | (rw [HCE.out]; rfl), HFIN.out _ Ho.out Hn.out Hs.out Hr.out Hp.out Hw.out, HK.out⟩

set_option maxRecDepth 100000 in
set_option maxHeartbeats 4000000 in
theorem heldChain_any (c : ChM) (k : Int) (w : World) (h : ChAt w (chMark c k)) (hk0 : 0 ≤ k) (hk : k + chN c ≤ 1000000000) :
    Calls Tryz.prog 18 #[c.val, .int .i64 k] w fun e w' => e = .returned (.int .i64 (k + chN c)) ∧ Keeps noBlk w w' := by
  have hp0 := paN_nn c.past c.past.length
  have hN : k + c.bk.b.own.length + c.bk.b.notes.length + stN c.st.x + paN c.past c.past.length + c.knows.length ≤ 1000000000 := by unfold chN at hk; omega
  have HCE : Hid (k + chN c = k + c.bk.b.own.length + c.bk.b.notes.length + stN c.st.x + paN c.past c.past.length + c.knows.length) := Lib.hid (by unfold chN; omega)
  have F1 := Lib.hid (fun W (hw : Keeps noBlk w W) => heldBank_any c.bk.A1 c.bk.A2 c.bk.b.own.length c.bk.b.notes.length c.bk.c1 c.bk.c2 c.bk.b.locked k W (by have := (h.kept hw).own; simp only [chMark, iota_length] at this; exact this) (by have := (h.kept hw).notes; simp only [chMark, iota_length] at this; exact this) hk0 (by omega))
  have F2 := Lib.hid (fun W (hw : Keeps noBlk w W) => heldState_any c.st.x c.st.A1 c.st.A2 c.st.A3 c.st.A4 c.st.c1 c.st.c2 c.st.c3 c.st.c4 (k + c.bk.b.own.length + c.bk.b.notes.length) W (h.kept hw).st (by omega) (by omega))
  have F3 := Lib.hid (fun W (hw : Keeps noBlk w W) => heldStateS_any c.pA c.pc (k + c.bk.b.own.length + c.bk.b.notes.length + stN c.st.x) c.past W (by have := (h.kept hw).row; simp only [chMark, pastMark_length] at this; exact this) (fun i hi => (h.kept hw).past _ (getD_mem' stm0 (by simp only [chMark, pastMark_length]; exact hi))) (by omega) (by omega))
  have F4 := Lib.hid (fun W (hw : Keeps noBlk w W) => heldIntS_any c.kA c.knows.length c.kc (k + c.bk.b.own.length + c.bk.b.notes.length + stN c.st.x + paN c.past c.past.length) W (by have := (h.kept hw).knows; simp only [chMark, iota_length] at this; exact this) (by omega) (by omega))
  clear h hk
  have g1 : ¬ k + (c.bk.b.own.length : Int) + (c.bk.b.notes.length : Int) < 0 := by omega
  have g2 : ¬ k + (c.bk.b.own.length : Int) + (c.bk.b.notes.length : Int) + (stN c.st.x : Int) < 0 := by omega
  have g3 : ¬ k + (c.bk.b.own.length : Int) + (c.bk.b.notes.length : Int) + (stN c.st.x : Int) + paN c.past c.past.length < 0 := by omega
  have g4 : ¬ k + (c.bk.b.own.length : Int) + (c.bk.b.notes.length : Int) + (stN c.st.x : Int) + paN c.past c.past.length + (c.knows.length : Int) < 0 := by omega
  generalize k + chN c = R at HCE
  obtain ⟨id, ⟨⟨own, notes, lk⟩, a1, a2, e1, e2⟩, ⟨x, A1, A2, A3, A4, c1, c2, c3, c4⟩, past, pA, pc, knows, kA, kc⟩ := c
  dsimp only at *
  unfold ChM.val
  dsimp only
  unfold stV at F2
  have HBa := Lib.hid (Box.new w _ rfl 42 #[.int .i64 id, .slice a1 own.length e1, .slice a2 notes.length e2, .int .i64 lk, .int .i64 x.way, .int .i64 x.ver, .int .i64 x.want, .slice A1 x.sent.length c1, .slice A2 x.live.length c2, .slice A3 x.back.length c3, .slice A4 x.got.length c4, .slice pA past.length pc, .slice kA knows.length kc])
  have HK := Lib.hid ((Keeps.refl noBlk w).alloc (.cells #[.int .i64 id, .slice a1 own.length e1, .slice a2 notes.length e2, .int .i64 lk, .int .i64 x.way, .int .i64 x.ver, .int .i64 x.want, .slice A1 x.sent.length c1, .slice A2 x.live.length c2, .slice A3 x.back.length c3, .slice A4 x.got.length c4, .slice pA past.length pc, .slice kA knows.length kc] 42))
  go_enter Tryz.func18, Tryz.ntmps18
  go_wp2_with fail
  refine (F1.out _ HK.out).mono ?_
  rintro e w1 ⟨rfl, hk1⟩
  have ha := HBa.out.keeps hk1 (fun h => h)
  clear HBa
  have HBa := Lib.hid ha
  clear ha
  have hr := HK.out.trans hk1
  clear HK
  have HK := Lib.hid hr
  clear hr
  have sz1 := hk1.size
  (try simp at sz1)
  clear hk1
  have hb := HBa.out
  have a0 := hb.cell 0
  have a1 := hb.cell 1
  have a2 := hb.cell 2
  have a3 := hb.cell 3
  have a4 := hb.cell 4
  have a5 := hb.cell 5
  have a6 := hb.cell 6
  have a7 := hb.cell 7
  have a8 := hb.cell 8
  have a9 := hb.cell 9
  have a10 := hb.cell 10
  have a11 := hb.cell 11
  have a12 := hb.cell 12
  simp at a0 a1 a2 a3 a4 a5 a6 a7 a8 a9 a10 a11 a12
  have za := hb.lt
  clear hb
  go_wp2_with fail
  refine (F2.out _ HK.out).mono ?_
  rintro e w2 ⟨rfl, hk2⟩
  clear a0 a1 a2 a3 a4 a5 a6 a7 a8 a9 a10 a11 a12 za
  have ha := HBa.out.keeps hk2 (fun h => h)
  clear HBa
  have HBa := Lib.hid ha
  clear ha
  have hr := HK.out.trans hk2
  clear HK
  have HK := Lib.hid hr
  clear hr
  have sz2 := hk2.size
  (try simp at sz2)
  clear hk2
  have hb := HBa.out
  have a0 := hb.cell 0
  have a1 := hb.cell 1
  have a2 := hb.cell 2
  have a3 := hb.cell 3
  have a4 := hb.cell 4
  have a5 := hb.cell 5
  have a6 := hb.cell 6
  have a7 := hb.cell 7
  have a8 := hb.cell 8
  have a9 := hb.cell 9
  have a10 := hb.cell 10
  have a11 := hb.cell 11
  have a12 := hb.cell 12
  simp at a0 a1 a2 a3 a4 a5 a6 a7 a8 a9 a10 a11 a12
  have za := hb.lt
  clear hb
  go_wp2_with fail
  refine (F3.out _ HK.out).mono ?_
  rintro e w3 ⟨rfl, rfl⟩
  have hk3 := Keeps.refl noBlk w2
  clear a0 a1 a2 a3 a4 a5 a6 a7 a8 a9 a10 a11 a12 za
  have ha := HBa.out.keeps hk3 (fun h => h)
  clear HBa
  have HBa := Lib.hid ha
  clear ha
  have hr := HK.out.trans hk3
  clear HK
  have HK := Lib.hid hr
  clear hr
  have sz3 := hk3.size
  (try simp at sz3)
  clear hk3
  have hb := HBa.out
  have a0 := hb.cell 0
  have a1 := hb.cell 1
  have a2 := hb.cell 2
  have a3 := hb.cell 3
  have a4 := hb.cell 4
  have a5 := hb.cell 5
  have a6 := hb.cell 6
  have a7 := hb.cell 7
  have a8 := hb.cell 8
  have a9 := hb.cell 9
  have a10 := hb.cell 10
  have a11 := hb.cell 11
  have a12 := hb.cell 12
  simp at a0 a1 a2 a3 a4 a5 a6 a7 a8 a9 a10 a11 a12
  have za := hb.lt
  clear hb
  go_wp2_with fail
  refine (F4.out _ HK.out).mono ?_
  rintro e w4 ⟨rfl, rfl⟩
  have hk4 := Keeps.refl noBlk w2
  clear a0 a1 a2 a3 a4 a5 a6 a7 a8 a9 a10 a11 a12 za
  have ha := HBa.out.keeps hk4 (fun h => h)
  clear HBa
  have HBa := Lib.hid ha
  clear ha
  have hr := HK.out.trans hk4
  clear HK
  have HK := Lib.hid hr
  clear hr
  have sz4 := hk4.size
  (try simp at sz4)
  clear hk4
  go_wp2
  go_ret
  exact ⟨by first | (rw [HCE.out]; done) | (rw [HCE.out]; rfl), HK.out⟩
end Go.Proofs.YtcnbephpadmboaaGreatDoor
