/- FnChainNew: a chain begins with nothing, whatever is drawn. The two tables read as the program's text lays them. -/
import Derived.Test.YtcnbephpadmboaaDoorLwN
import Derived.Test.YtcnbephpadmboaaDoorUCxN
import Derived.Test.YtcnbephpadmboaaDoorPick
import Derived.Test.YtcnbephpadmboaaDoorUStF
import Derived.Deep.RegionHeld3
set_option linter.unusedVariables false
set_option linter.unusedSimpArgs false
namespace Go.Proofs.YtcnbephpadmboaaDoor
open Go.RowKit Go.ChangeShapes Go.WideShapes Go.ChangeAt
set_option maxHeartbeats 1000000 in
theorem drawChainNew_any (A : Option Addr) (n c : Nat) (zs : List Int) (w : World) (h : Bytes w A n zs) (hc : n ≤ c) (hcm : c ≤ maxLen) :
    Calls Tryd.prog 34 #[.slice A n c] w fun e w' => ∃ v : Int, e = .returned (.int .i64 v) ∧ 0 ≤ v ∧ v < 4 ∧ Keeps noBlk w w' := by
  have H := Lib.hid (l6Open_any A n c zs w h hc hcm)
  clear h hc hcm
  go_enter Tryd.func34, Tryd.ntmps34
  go_wp2_with fail
  refine H.out.mono ?_
  rintro e w1 ⟨g, rfl, rfl, hr, hk⟩
  have HP := Lib.hid (pick_any _ 0 4 w1 hr (by decide) (by decide) (by decide))
  clear hr
  have HK := Lib.hid hk
  clear hk
  go_wp2_with fail
  refine HP.out.mono ?_
  rintro e w2 ⟨v, rfl, h0, h1, _, hk⟩
  have HK2 := Lib.hid (HK.out.then hk fun i hi h => by unfold one at h; omega)
  clear hk
  go_wp2
  go_ret
  exact ⟨v, rfl, h0, h1, HK2.out⟩
theorem newC_parts (id : Int) : (newC id).past = [] ∧ (newC id).st.x.sent = [] ∧ (newC id).knows = [] ∧ (in2 id 1 2 = true → (newC id).id = id ∧ (newC id).bk.b = newL ∧ (newC id).st.x = newS ∧ ckB (newC id) = true) := by
  unfold newC
  by_cases h : in2 id 1 2 = true
  · rw [if_pos h]
    refine ⟨rfl, rfl, rfl, fun _ => ⟨rfl, rfl, rfl, ?_⟩⟩
    have h12 : id = 1 ∨ id = 2 := by
      unfold in2 at h
      simp only [Bool.and_eq_true, decide_eq_true_eq] at h
      omega
    rcases h12 with rfl | rfl
    · decide
    · decide
  · rw [if_neg h]
    exact ⟨rfl, rfl, rfl, fun h' => absurd h' h⟩
set_option maxRecDepth 100000 in
set_option maxHeartbeats 8000000 in
theorem walk_chnew (w : World) (ht : Tabs w) (a0 : Option Addr) (len0 cap0 : Nat) (z0 : List Int) (h : Bytes w a0 len0 z0) (e0 : len0 ≤ cap0) (f0 : cap0 ≤ maxLen) :
    Calls Tryd.prog 10 #[.slice a0 len0 cap0] w fun e w' => e = .returned (.bool true) ∧ Below w.heap.size w w' := by
  have HT := Lib.hid ht
  have HD := Lib.hid (drawChainNew_any a0 len0 cap0 z0 w h e0 f0)
  clear h ht e0 f0
  by_cases hs : (len0 : Int) ≤ 1048576
  case neg =>
    go_enter Tryd.func10, Tryd.ntmps10
    go_wp2
    go_ret
    exact ⟨rfl, Below.refl _ _⟩
  go_enter Tryd.func10, Tryd.ntmps10
  go_wp2_with fail
  refine HD.out.mono ?_
  rintro e w1 ⟨id, rfl, h0, h3, hk1⟩
  have HK := Lib.hid hk1
  clear hk1 HD
  have HS := Lib.hid (specNewC_any id)
  have HI := Lib.hid (implNewC_any id)
  obtain ⟨n1, n2, n3, n4⟩ := newC_parts id
  have HN1 := Lib.hid n1
  have HN2 := Lib.hid n2
  have HEQ := Lib.hid (fun d d' W (s : SameC (newC id) d) (s' : SameC (newC id) d') (k : ChAt W d) (k' : ChAt W d') => lwChain_none d d' W (s.symm.trans s') (List.eq_nil_of_length_eq_zero (by rw [← s.past.1, HN1.out]; rfl)) (by rw [← s.st]; exact HN2.out) k k')
  obtain ⟨o, ho⟩ : ∃ o, in2 id 1 2 = o := ⟨_, rfl⟩
  rw [ho] at HS HI n4
  have hid : o = (decide (id = 1) || decide (id = 2)) := by
    rw [← ho]
    unfold in2
    rw [Bool.eq_iff_iff]
    simp only [Bool.and_eq_true, Bool.or_eq_true, decide_eq_true_eq]
    omega
  have HN3 := Lib.hid n3
  have HN4 := Lib.hid n4
  have HID := Lib.hid hid
  clear n1 n2 n3 n4 ho hid
  generalize newC id = C at *
  go_wp2_with fail
  refine (HS.out _).mono ?_
  rintro e w2 ⟨v, Gv, rfl, s9, o9, hk2⟩
  dsimp only [ChM.val]
  have Sv := Lib.hid s9
  have Ov := Lib.hid o9.at_
  clear s9 o9
  have hr := HK.out.trans hk2
  clear HK
  have HK := Lib.hid hr
  clear hr
  have sz2 := hk2.size
  (try simp at sz2)
  clear hk2
  have hr := (Ov.out).kept ((Keeps.refl noBlk w2).alloc (.cells #[.int .i64 v.id, .slice v.bk.A1 v.bk.b.own.length v.bk.c1, .slice v.bk.A2 v.bk.b.notes.length v.bk.c2, .int .i64 v.bk.b.locked, .int .i64 v.st.x.way, .int .i64 v.st.x.ver, .int .i64 v.st.x.want, .slice v.st.A1 v.st.x.sent.length v.st.c1, .slice v.st.A2 v.st.x.live.length v.st.c2, .slice v.st.A3 v.st.x.back.length v.st.c3, .slice v.st.A4 v.st.x.got.length v.st.c4, .slice v.pA v.past.length v.pc, .slice v.kA v.knows.length v.kc] 47))
  clear Ov
  have Ov := Lib.hid hr
  clear hr
  have hr := HK.out.alloc (.cells #[.int .i64 v.id, .slice v.bk.A1 v.bk.b.own.length v.bk.c1, .slice v.bk.A2 v.bk.b.notes.length v.bk.c2, .int .i64 v.bk.b.locked, .int .i64 v.st.x.way, .int .i64 v.st.x.ver, .int .i64 v.st.x.want, .slice v.st.A1 v.st.x.sent.length v.st.c1, .slice v.st.A2 v.st.x.live.length v.st.c2, .slice v.st.A3 v.st.x.back.length v.st.c3, .slice v.st.A4 v.st.x.got.length v.st.c4, .slice v.pA v.past.length v.pc, .slice v.kA v.knows.length v.kc] 47)
  clear HK
  have HK := Lib.hid hr
  clear hr
  have HBv := Lib.hid (Box.new w2 _ rfl 47 #[.int .i64 v.id, .slice v.bk.A1 v.bk.b.own.length v.bk.c1, .slice v.bk.A2 v.bk.b.notes.length v.bk.c2, .int .i64 v.bk.b.locked, .int .i64 v.st.x.way, .int .i64 v.st.x.ver, .int .i64 v.st.x.want, .slice v.st.A1 v.st.x.sent.length v.st.c1, .slice v.st.A2 v.st.x.live.length v.st.c2, .slice v.st.A3 v.st.x.back.length v.st.c3, .slice v.st.A4 v.st.x.got.length v.st.c4, .slice v.pA v.past.length v.pc, .slice v.kA v.knows.length v.kc])
  go_wp2_with fail
  refine (HI.out _).mono ?_
  rintro e w3 ⟨g, Gg, rfl, s9, o9, hk3⟩
  dsimp only [ChM.val]
  have Sg := Lib.hid s9
  have Og := Lib.hid o9.at_
  clear s9 o9
  have hv := HBv.out.keeps hk3 (fun h => h)
  clear HBv
  have HBv := Lib.hid hv
  clear hv
  have hr := (Ov.out).kept hk3
  clear Ov
  have Ov := Lib.hid hr
  clear hr
  have hr := HK.out.trans hk3
  clear HK
  have HK := Lib.hid hr
  clear hr
  have sz3 := hk3.size
  (try simp at sz3)
  clear hk3
  have hv := HBv.out.alloc (.cells #[.int .i64 g.id, .slice g.bk.A1 g.bk.b.own.length g.bk.c1, .slice g.bk.A2 g.bk.b.notes.length g.bk.c2, .int .i64 g.bk.b.locked, .int .i64 g.st.x.way, .int .i64 g.st.x.ver, .int .i64 g.st.x.want, .slice g.st.A1 g.st.x.sent.length g.st.c1, .slice g.st.A2 g.st.x.live.length g.st.c2, .slice g.st.A3 g.st.x.back.length g.st.c3, .slice g.st.A4 g.st.x.got.length g.st.c4, .slice g.pA g.past.length g.pc, .slice g.kA g.knows.length g.kc] 47)
  clear HBv
  have HBv := Lib.hid hv
  clear hv
  have hr := (Ov.out).kept ((Keeps.refl noBlk w3).alloc (.cells #[.int .i64 g.id, .slice g.bk.A1 g.bk.b.own.length g.bk.c1, .slice g.bk.A2 g.bk.b.notes.length g.bk.c2, .int .i64 g.bk.b.locked, .int .i64 g.st.x.way, .int .i64 g.st.x.ver, .int .i64 g.st.x.want, .slice g.st.A1 g.st.x.sent.length g.st.c1, .slice g.st.A2 g.st.x.live.length g.st.c2, .slice g.st.A3 g.st.x.back.length g.st.c3, .slice g.st.A4 g.st.x.got.length g.st.c4, .slice g.pA g.past.length g.pc, .slice g.kA g.knows.length g.kc] 47))
  clear Ov
  have Ov := Lib.hid hr
  clear hr
  have hr := (Og.out).kept ((Keeps.refl noBlk w3).alloc (.cells #[.int .i64 g.id, .slice g.bk.A1 g.bk.b.own.length g.bk.c1, .slice g.bk.A2 g.bk.b.notes.length g.bk.c2, .int .i64 g.bk.b.locked, .int .i64 g.st.x.way, .int .i64 g.st.x.ver, .int .i64 g.st.x.want, .slice g.st.A1 g.st.x.sent.length g.st.c1, .slice g.st.A2 g.st.x.live.length g.st.c2, .slice g.st.A3 g.st.x.back.length g.st.c3, .slice g.st.A4 g.st.x.got.length g.st.c4, .slice g.pA g.past.length g.pc, .slice g.kA g.knows.length g.kc] 47))
  clear Og
  have Og := Lib.hid hr
  clear hr
  have hr := HK.out.alloc (.cells #[.int .i64 g.id, .slice g.bk.A1 g.bk.b.own.length g.bk.c1, .slice g.bk.A2 g.bk.b.notes.length g.bk.c2, .int .i64 g.bk.b.locked, .int .i64 g.st.x.way, .int .i64 g.st.x.ver, .int .i64 g.st.x.want, .slice g.st.A1 g.st.x.sent.length g.st.c1, .slice g.st.A2 g.st.x.live.length g.st.c2, .slice g.st.A3 g.st.x.back.length g.st.c3, .slice g.st.A4 g.st.x.got.length g.st.c4, .slice g.pA g.past.length g.pc, .slice g.kA g.knows.length g.kc] 47)
  clear HK
  have HK := Lib.hid hr
  clear hr
  have HBg := Lib.hid (Box.new w3 _ rfl 47 #[.int .i64 g.id, .slice g.bk.A1 g.bk.b.own.length g.bk.c1, .slice g.bk.A2 g.bk.b.notes.length g.bk.c2, .int .i64 g.bk.b.locked, .int .i64 g.st.x.way, .int .i64 g.st.x.ver, .int .i64 g.st.x.want, .slice g.st.A1 g.st.x.sent.length g.st.c1, .slice g.st.A2 g.st.x.live.length g.st.c2, .slice g.st.A3 g.st.x.back.length g.st.c3, .slice g.st.A4 g.st.x.got.length g.st.c4, .slice g.pA g.past.length g.pc, .slice g.kA g.knows.length g.kc])
  have hb := HBv.out
  have v0 := hb.cell 0
  have v1 := hb.cell 1
  have v2 := hb.cell 2
  have v3 := hb.cell 3
  have v4 := hb.cell 4
  have v5 := hb.cell 5
  have v6 := hb.cell 6
  have v7 := hb.cell 7
  have v8 := hb.cell 8
  have v9 := hb.cell 9
  have v10 := hb.cell 10
  have v11 := hb.cell 11
  have v12 := hb.cell 12
  simp at v0 v1 v2 v3 v4 v5 v6 v7 v8 v9 v10 v11 v12
  have zv := hb.lt
  clear hb
  have hb := HBg.out
  have g0 := hb.cell 0
  have g1 := hb.cell 1
  have g2 := hb.cell 2
  have g3 := hb.cell 3
  have g4 := hb.cell 4
  have g5 := hb.cell 5
  have g6 := hb.cell 6
  have g7 := hb.cell 7
  have g8 := hb.cell 8
  have g9 := hb.cell 9
  have g10 := hb.cell 10
  have g11 := hb.cell 11
  have g12 := hb.cell 12
  simp at g0 g1 g2 g3 g4 g5 g6 g7 g8 g9 g10 g11 g12
  have zg := hb.lt
  clear hb
  cases o with
  | false =>
    have hb1 : (id == 1) = false := by have := HID.out; revert this; by_cases h : id = 1 <;> simp [h]
    have hb2 : (id == 2) = false := by have := HID.out; revert this; by_cases h : id = 2 <;> simp [h]
    go_wp2_with fail
    refine (HEQ.out g v _ Sg.out Sv.out Og.out Ov.out).mono ?_
    rintro e w4 ⟨rfl, hk4⟩
    clear v0 v1 v2 v3 v4 v5 v6 v7 v8 v9 v10 v11 v12 g0 g1 g2 g3 g4 g5 g6 g7 g8 g9 g10 g11 g12 zv zg
    have hv := HBv.out.keeps hk4 (fun h => h)
    clear HBv
    have HBv := Lib.hid hv
    clear hv
    have hg := HBg.out.keeps hk4 (fun h => h)
    clear HBg
    have HBg := Lib.hid hg
    clear hg
    have hr := (Ov.out).kept hk4
    clear Ov
    have Ov := Lib.hid hr
    clear hr
    have hr := (Og.out).kept hk4
    clear Og
    have Og := Lib.hid hr
    clear hr
    have hr := HK.out.trans hk4
    clear HK
    have HK := Lib.hid hr
    clear hr
    have sz4 := hk4.size
    (try simp at sz4)
    clear hk4
    have hb := HBv.out
    have v0 := hb.cell 0
    have v1 := hb.cell 1
    have v2 := hb.cell 2
    have v3 := hb.cell 3
    have v4 := hb.cell 4
    have v5 := hb.cell 5
    have v6 := hb.cell 6
    have v7 := hb.cell 7
    have v8 := hb.cell 8
    have v9 := hb.cell 9
    have v10 := hb.cell 10
    have v11 := hb.cell 11
    have v12 := hb.cell 12
    simp at v0 v1 v2 v3 v4 v5 v6 v7 v8 v9 v10 v11 v12
    have zv := hb.lt
    clear hb
    have hb := HBg.out
    have g0 := hb.cell 0
    have g1 := hb.cell 1
    have g2 := hb.cell 2
    have g3 := hb.cell 3
    have g4 := hb.cell 4
    have g5 := hb.cell 5
    have g6 := hb.cell 6
    have g7 := hb.cell 7
    have g8 := hb.cell 8
    have g9 := hb.cell 9
    have g10 := hb.cell 10
    have g11 := hb.cell 11
    have g12 := hb.cell 12
    simp at g0 g1 g2 g3 g4 g5 g6 g7 g8 g9 g10 g11 g12
    have zg := hb.lt
    clear hb
    go_wp2_with fail
    refine (HEQ.out g v _ Sg.out Sv.out Og.out Ov.out).mono ?_
    rintro e w5 ⟨rfl, hk5⟩
    clear v0 v1 v2 v3 v4 v5 v6 v7 v8 v9 v10 v11 v12 g0 g1 g2 g3 g4 g5 g6 g7 g8 g9 g10 g11 g12 zv zg
    have hv := HBv.out.keeps hk5 (fun h => h)
    clear HBv
    have HBv := Lib.hid hv
    clear hv
    have hg := HBg.out.keeps hk5 (fun h => h)
    clear HBg
    have HBg := Lib.hid hg
    clear hg
    have hr := (Ov.out).kept hk5
    clear Ov
    have Ov := Lib.hid hr
    clear hr
    have hr := (Og.out).kept hk5
    clear Og
    have Og := Lib.hid hr
    clear hr
    have hr := HK.out.trans hk5
    clear HK
    have HK := Lib.hid hr
    clear hr
    have sz5 := hk5.size
    (try simp at sz5)
    clear hk5
    go_wp2
    go_ret
    exact ⟨rfl, HK.out.below⟩
  | true =>
    go_wp2_with fail
    refine (HEQ.out g v _ Sg.out Sv.out Og.out Ov.out).mono ?_
    rintro e w4 ⟨rfl, hk4⟩
    clear v0 v1 v2 v3 v4 v5 v6 v7 v8 v9 v10 v11 v12 g0 g1 g2 g3 g4 g5 g6 g7 g8 g9 g10 g11 g12 zv zg
    have hv := HBv.out.keeps hk4 (fun h => h)
    clear HBv
    have HBv := Lib.hid hv
    clear hv
    have hg := HBg.out.keeps hk4 (fun h => h)
    clear HBg
    have HBg := Lib.hid hg
    clear hg
    have hr := (Ov.out).kept hk4
    clear Ov
    have Ov := Lib.hid hr
    clear hr
    have hr := (Og.out).kept hk4
    clear Og
    have Og := Lib.hid hr
    clear hr
    have hr := HK.out.trans hk4
    clear HK
    have HK := Lib.hid hr
    clear hr
    have sz4 := hk4.size
    (try simp at sz4)
    clear hk4
    obtain ⟨e1, e2, e3, e4⟩ := HN4.out (by first | rfl | trivial)
    have HCK := Lib.hid (fun W (k : ChAt W g) (t : Tabs W) => (show Calls Tryd.prog 38 #[g.val] W (fun e w' => e = .returned (.bool true) ∧ Keeps noBlk W w') from by have q := implChOk_any g W k t; rwa [ckB_same Sg.out, e4] at q))
    have E1 := Lib.hid (show g.id = id from by rw [← Sg.out.id]; exact e1)
    have E2 := Lib.hid (show g.bk.b = newL from by rw [← Sg.out.bk]; exact e2)
    have E3 := Lib.hid (show g.st.x = newS from by rw [← Sg.out.st]; exact e3)
    have E4 := Lib.hid (show g.past.length = 0 from by rw [← Sg.out.past.1, HN1.out]; rfl)
    have E5 := Lib.hid (show g.knows.length = 0 from by rw [← Sg.out.knows, HN3.out]; rfl)
    clear e1 e2 e3 e4
    obtain ⟨gid, ⟨gb, a1, a2, x1, x2⟩, ⟨gx, A1, A2, A3, A4, c1, c2, c3, c4⟩, gp, pA, pc, gk, kA, kc⟩ := g
    have E1 := E1.out
    have E2 := E2.out
    have E3 := E3.out
    dsimp only at E1 E2 E3
    subst E1
    subst E2
    subst E3
    have hp0 : (gp.length : Int) = 0 := by have := E4.out; dsimp only at this; omega
    have hk0 : (gk.length : Int) = 0 := by have := E5.out; dsimp only at this; omega
    have HLB := Lib.hid (fun B1 B2 d1 d2 W (h : ChAt W ⟨gid, ⟨newL, a1, a2, x1, x2⟩, ⟨newS, A1, A2, A3, A4, c1, c2, c3, c4⟩, gp, pA, pc, gk, kA, kc⟩) (h1 : Ints W B1 newL.own.length newL.own) (h2 : Ints W B2 newL.notes.length newL.notes) => lwBank_yes a1 a2 B1 B2 newL.own.length newL.notes.length x1 x2 d1 d2 newL.locked newL.own newL.notes W h.own h1 h.notes h2 (by decide) (by decide))
    have HLS := Lib.hid (fun (t : StM) W (h : ChAt W ⟨gid, ⟨newL, a1, a2, x1, x2⟩, ⟨newS, A1, A2, A3, A4, c1, c2, c3, c4⟩, gp, pA, pc, gk, kA, kc⟩) (e : t.x = newS) (k : t.At W) => lwState_none ⟨newS, A1, A2, A3, A4, c1, c2, c3, c4⟩ t W e.symm rfl h.st k)
    unfold StM.val at HLS
    unfold ChM.val at HCK
    have hb := HBg.out
    have g0 := hb.cell 0
    have g1 := hb.cell 1
    have g2 := hb.cell 2
    have g3 := hb.cell 3
    have g4 := hb.cell 4
    have g5 := hb.cell 5
    have g6 := hb.cell 6
    have g7 := hb.cell 7
    have g8 := hb.cell 8
    have g9 := hb.cell 9
    have g10 := hb.cell 10
    have g11 := hb.cell 11
    have g12 := hb.cell 12
    simp at g0 g1 g2 g3 g4 g5 g6 g7 g8 g9 g10 g11 g12
    have zg := hb.lt
    clear hb
    go_wp2_with fail
    go_region_held3 (fun w' => w'.cell? ⟨w3.heap.size, 0, none⟩ = some (.int .i64 gid) ∧ w'.cell? ⟨w3.heap.size, 1, none⟩ = some (.slice a1 newL.own.length x1) ∧ w'.cell? ⟨w3.heap.size, 2, none⟩ = some (.slice a2 newL.notes.length x2) ∧ w'.cell? ⟨w3.heap.size, 3, none⟩ = some (.int .i64 newL.locked) ∧ w'.cell? ⟨w3.heap.size, 4, none⟩ = some (.int .i64 newS.way) ∧ w'.cell? ⟨w3.heap.size, 5, none⟩ = some (.int .i64 newS.ver) ∧ w'.cell? ⟨w3.heap.size, 6, none⟩ = some (.int .i64 newS.want) ∧ w'.cell? ⟨w3.heap.size, 7, none⟩ = some (.slice A1 newS.sent.length c1) ∧ w'.cell? ⟨w3.heap.size, 8, none⟩ = some (.slice A2 newS.live.length c2) ∧ w'.cell? ⟨w3.heap.size, 9, none⟩ = some (.slice A3 newS.back.length c3) ∧ w'.cell? ⟨w3.heap.size, 10, none⟩ = some (.slice A4 newS.got.length c4) ∧ w'.cell? ⟨w3.heap.size, 11, none⟩ = some (.slice pA gp.length pc) ∧ w'.cell? ⟨w3.heap.size, 12, none⟩ = some (.slice kA gk.length kc))
      (((try dsimp only); (repeat' apply And.intro) <;> (first | with_reducible assumption | (go_keep; done))))
      (first | (go_at_call 38; refine (HCK.out _ (Og.out.kept ((Keeps.refl noBlk _).drewN 1)) (HT.out.keeps (HK.out.drewN 1))).mono ?_; rintro e w5 ⟨rfl, hk5⟩; have hq := ((Keeps.refl noBlk w4).drewN 1).trans hk5; clear hk5; have hk5 := hq; clear hq; clear g0 g1 g2 g3 g4 g5 g6 g7 g8 g9 g10 g11 g12 zg; have hg := HBg.out.keeps hk5 (fun h => h); clear HBg; have HBg := Lib.hid hg; clear hg; have hr := (Og.out).kept hk5; clear Og; have Og := Lib.hid hr; clear hr; have hr := HK.out.trans hk5; clear HK; have HK := Lib.hid hr; clear hr; have sz5 := hk5.size; (try simp at sz5); clear hk5; have hb := HBg.out; have g0 := hb.cell 0; have g1 := hb.cell 1; have g2 := hb.cell 2; have g3 := hb.cell 3; have g4 := hb.cell 4; have g5 := hb.cell 5; have g6 := hb.cell 6; have g7 := hb.cell 7; have g8 := hb.cell 8; have g9 := hb.cell 9; have g10 := hb.cell 10; have g11 := hb.cell 11; have g12 := hb.cell 12; simp at g0 g1 g2 g3 g4 g5 g6 g7 g8 g9 g10 g11 g12; have zg := hb.lt; clear hb) | (go_at_call 40; refine (implNew_any _).mono ?_; rintro e w6 ⟨bv9, rfl, ⟨B1, m1, y1, B2, m2, y2, rfl, i1, i2, _⟩, hk6⟩; obtain rfl := i1.1.1; obtain rfl := i2.1.1; have I1 := Lib.hid i1.1; have I2 := Lib.hid i2.1; clear i1 i2; clear g0 g1 g2 g3 g4 g5 g6 g7 g8 g9 g10 g11 g12 zg; have hg := HBg.out.keeps hk6 (fun h => h); clear HBg; have HBg := Lib.hid hg; clear hg; have hr := (Og.out).kept hk6; clear Og; have Og := Lib.hid hr; clear hr; have hr := HK.out.trans hk6; clear HK; have HK := Lib.hid hr; clear hr; have sz6 := hk6.size; (try simp at sz6); clear hk6; have hb := HBg.out; have g0 := hb.cell 0; have g1 := hb.cell 1; have g2 := hb.cell 2; have g3 := hb.cell 3; have g4 := hb.cell 4; have g5 := hb.cell 5; have g6 := hb.cell 6; have g7 := hb.cell 7; have g8 := hb.cell 8; have g9 := hb.cell 9; have g10 := hb.cell 10; have g11 := hb.cell 11; have g12 := hb.cell 12; simp at g0 g1 g2 g3 g4 g5 g6 g7 g8 g9 g10 g11 g12; have zg := hb.lt; clear hb) | (go_at_call 39; refine (HLB.out B1 B2 y1 y2 _ Og.out I1.out I2.out).mono ?_; rintro e w7 ⟨rfl, hk7⟩; clear g0 g1 g2 g3 g4 g5 g6 g7 g8 g9 g10 g11 g12 zg; have hg := HBg.out.keeps hk7 (fun h => h); clear HBg; have HBg := Lib.hid hg; clear hg; have hr := (Og.out).kept hk7; clear Og; have Og := Lib.hid hr; clear hr; have hr := (I1.out).keeps hk7 (fun _ _ h => h); clear I1; have I1 := Lib.hid hr; clear hr; have hr := (I2.out).keeps hk7 (fun _ _ h => h); clear I2; have I2 := Lib.hid hr; clear hr; have hr := HK.out.trans hk7; clear HK; have HK := Lib.hid hr; clear hr; have sz7 := hk7.size; (try simp at sz7); clear hk7; have hb := HBg.out; have g0 := hb.cell 0; have g1 := hb.cell 1; have g2 := hb.cell 2; have g3 := hb.cell 3; have g4 := hb.cell 4; have g5 := hb.cell 5; have g6 := hb.cell 6; have g7 := hb.cell 7; have g8 := hb.cell 8; have g9 := hb.cell 9; have g10 := hb.cell 10; have g11 := hb.cell 11; have g12 := hb.cell 12; simp at g0 g1 g2 g3 g4 g5 g6 g7 g8 g9 g10 g11 g12; have zg := hb.lt; clear hb) | (go_at_call 42; refine (implNewS_any _).mono ?_; rintro e w8 ⟨S1, S2, S3, S4, z1, z2, z3, z4, rfl, os9, hk8⟩; have OS := Lib.hid (StOwn.at_ os9 (by decide) (by decide) (by decide) (by decide)); clear os9; unfold stV; clear g0 g1 g2 g3 g4 g5 g6 g7 g8 g9 g10 g11 g12 zg; have hg := HBg.out.keeps hk8 (fun h => h); clear HBg; have HBg := Lib.hid hg; clear hg; have hr := (Og.out).kept hk8; clear Og; have Og := Lib.hid hr; clear hr; have hr := (I1.out).keeps hk8 (fun _ _ h => h); clear I1; have I1 := Lib.hid hr; clear hr; have hr := (I2.out).keeps hk8 (fun _ _ h => h); clear I2; have I2 := Lib.hid hr; clear hr; have hr := HK.out.trans hk8; clear HK; have HK := Lib.hid hr; clear hr; have sz8 := hk8.size; (try simp at sz8); clear hk8; have hb := HBg.out; have g0 := hb.cell 0; have g1 := hb.cell 1; have g2 := hb.cell 2; have g3 := hb.cell 3; have g4 := hb.cell 4; have g5 := hb.cell 5; have g6 := hb.cell 6; have g7 := hb.cell 7; have g8 := hb.cell 8; have g9 := hb.cell 9; have g10 := hb.cell 10; have g11 := hb.cell 11; have g12 := hb.cell 12; simp at g0 g1 g2 g3 g4 g5 g6 g7 g8 g9 g10 g11 g12; have zg := hb.lt; clear hb) | (go_at_call 41; refine (HLS.out ⟨newS, S1, S2, S3, S4, z1, z2, z3, z4⟩ _ Og.out rfl OS.out).mono ?_; rintro e w9 ⟨rfl, hk9⟩; clear g0 g1 g2 g3 g4 g5 g6 g7 g8 g9 g10 g11 g12 zg; have hg := HBg.out.keeps hk9 (fun h => h); clear HBg; have HBg := Lib.hid hg; clear hg; have hr := (Og.out).kept hk9; clear Og; have Og := Lib.hid hr; clear hr; have hr := (I1.out).keeps hk9 (fun _ _ h => h); clear I1; have I1 := Lib.hid hr; clear hr; have hr := (I2.out).keeps hk9 (fun _ _ h => h); clear I2; have I2 := Lib.hid hr; clear hr; have hr := (OS.out).kept hk9; clear OS; have OS := Lib.hid hr; clear hr; have hr := HK.out.trans hk9; clear HK; have HK := Lib.hid hr; clear hr; have sz9 := hk9.size; (try simp at sz9); clear hk9; have hb := HBg.out; have g0 := hb.cell 0; have g1 := hb.cell 1; have g2 := hb.cell 2; have g3 := hb.cell 3; have g4 := hb.cell 4; have g5 := hb.cell 5; have g6 := hb.cell 6; have g7 := hb.cell 7; have g8 := hb.cell 8; have g9 := hb.cell 9; have g10 := hb.cell 10; have g11 := hb.cell 11; have g12 := hb.cell 12; simp at g0 g1 g2 g3 g4 g5 g6 g7 g8 g9 g10 g11 g12; have zg := hb.lt; clear hb))
    go_wp2
    go_ret
    exact ⟨rfl, HK.out.below⟩
end Go.Proofs.YtcnbephpadmboaaDoor
