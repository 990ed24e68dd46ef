/- FnExactChainNew: for every id the law returns true. No condition. -/
import Derived.Test.YtbgpclicflafaaaRows
import Derived.Test.YtbgpclicflafaaaCxN
import Derived.WalkKit
import Derived.ProofKit
import Derived.OpenShut
import Derived.ChangeOld
import Derived.Lib.SmallJoins
set_option linter.unusedVariables false
set_option linter.unusedSimpArgs false
namespace Go.Proofs.Ytbgpclicflafaaa
open Go.RowKit Go.ChangeShapes Go.WideShapes Go.ChangeAt Go.Joins

set_option maxRecDepth 100000 in
set_option maxHeartbeats 8000000 in
theorem walk_xcnew (id : Int) (w : World) : Calls Try.prog 3 #[.int .i64 id] w fun e w' => e = .returned (.bool true) ∧ Below w.heap.size w w' := by
  have HS := Lib.hid (specNewC_any id)
  have HI := Lib.hid (implNewC_any id)
  have hN : chN (newC id) ≤ 100 := by
    unfold newC
    split
    · show chN ⟨0, ⟨newL, none, none, 0, 0⟩, ⟨newS, none, none, none, none, 0, 0, 0, 0⟩, [], none, 0, [], none, 0⟩ ≤ 100
      decide
    · decide
  generalize in2 id 1 2 = o at HS HI
  generalize newC id = C at HS HI hN
  have HEQ := Lib.hid (fun d d' W (s : SameC C d) (s' : SameC C d') (k : ChAt W d) (k' : ChAt W d') => eqChain_same d d' W k k' (s.symm.trans s'))
  have HMK := Lib.hid (fun d G lo W (s : SameC C d) (k : ChOwn G W lo d) => (show Calls Try.prog 7 #[d.val, .int .i64 1] W (fun e w' => e = .returned (.int .i64 (1 + chN C)) ∧ ChOwn G w' lo (chMark d 1) ∧ Keeps (chBlk d) W w') from by rw [← chN_same s]; exact markChain_any d G lo 1 W k (by decide) (by rw [chN_same s]; omega)))
  have HHD := Lib.hid (fun d G lo W (s : SameC C d) (k : ChOwn G W lo (chMark d 1)) => (show Calls Try.prog 8 #[d.val, .int .i64 1] W (fun e w' => e = .returned (.int .i64 (1 + chN C)) ∧ Keeps noBlk W w') from by rw [← chN_same s]; exact heldChain_any d 1 W k.at_ (by decide) (by rw [chN_same s]; omega)))
  have hp := chN_nn C
  generalize chN C = M at HMK HHD hN hp
  have hm0 : ¬ 1 + M < 0 := by omega
  have hmm : (1 + M != 1 + M) = false := by simp
  have hoo : (o != o) = false := by cases o <;> rfl
  have HK := Lib.hid (Keeps.refl noBlk w)
  go_enter Try.func3, Try.ntmps3
  go_wp2_with fail
  refine (HS.out _).mono ?_
  rintro e w1 ⟨v, Gv, rfl, s9, o9, hk1⟩
  dsimp only [ChM.val]
  have Sv := Lib.hid s9
  have Ov := Lib.hid o9.at_
  have Lv := Lib.hid (fun b (hb : chBlk v b) => o9.lt hb)
  clear s9 o9
  have hr := HK.out.trans hk1
  clear HK
  have HK := Lib.hid hr
  clear hr
  have sz1 := hk1.size
  (try simp at sz1)
  clear hk1
  have hr := (Ov.out).kept ((Keeps.refl noBlk w1).alloc (.cells #[.int .i64 v.id, .slice v.bk.A1 v.bk.b.own.length v.bk.c1, .slice v.bk.A2 v.bk.b.notes.length v.bk.c2, .int .i64 v.bk.b.locked, .int .i64 v.st.x.way, .int .i64 v.st.x.ver, .int .i64 v.st.x.want, .slice v.st.A1 v.st.x.sent.length v.st.c1, .slice v.st.A2 v.st.x.live.length v.st.c2, .slice v.st.A3 v.st.x.back.length v.st.c3, .slice v.st.A4 v.st.x.got.length v.st.c4, .slice v.pA v.past.length v.pc, .slice v.kA v.knows.length v.kc] 31))
  clear Ov
  have Ov := Lib.hid hr
  clear hr
  have hr := HK.out.alloc (.cells #[.int .i64 v.id, .slice v.bk.A1 v.bk.b.own.length v.bk.c1, .slice v.bk.A2 v.bk.b.notes.length v.bk.c2, .int .i64 v.bk.b.locked, .int .i64 v.st.x.way, .int .i64 v.st.x.ver, .int .i64 v.st.x.want, .slice v.st.A1 v.st.x.sent.length v.st.c1, .slice v.st.A2 v.st.x.live.length v.st.c2, .slice v.st.A3 v.st.x.back.length v.st.c3, .slice v.st.A4 v.st.x.got.length v.st.c4, .slice v.pA v.past.length v.pc, .slice v.kA v.knows.length v.kc] 31)
  clear HK
  have HK := Lib.hid hr
  clear hr
  have HBv := Lib.hid (Box.new w1 _ rfl 31 #[.int .i64 v.id, .slice v.bk.A1 v.bk.b.own.length v.bk.c1, .slice v.bk.A2 v.bk.b.notes.length v.bk.c2, .int .i64 v.bk.b.locked, .int .i64 v.st.x.way, .int .i64 v.st.x.ver, .int .i64 v.st.x.want, .slice v.st.A1 v.st.x.sent.length v.st.c1, .slice v.st.A2 v.st.x.live.length v.st.c2, .slice v.st.A3 v.st.x.back.length v.st.c3, .slice v.st.A4 v.st.x.got.length v.st.c4, .slice v.pA v.past.length v.pc, .slice v.kA v.knows.length v.kc])
  go_wp2_with fail
  refine (HI.out _).mono ?_
  rintro e w2 ⟨g, Gg, rfl, s9, o9, hk2⟩
  dsimp only [ChM.val]
  have Sg := Lib.hid s9
  have Ng := Lib.hid o9
  have Lg := Lib.hid (fun b (hb : chBlk g b) => And.intro (o9.ge hb) (o9.lt hb))
  clear s9 o9
  have hv := HBv.out.keeps hk2 (fun h => h)
  clear HBv
  have HBv := Lib.hid hv
  clear hv
  have hr := (Ov.out).kept hk2
  clear Ov
  have Ov := Lib.hid hr
  clear hr
  have hr := HK.out.trans hk2
  clear HK
  have HK := Lib.hid hr
  clear hr
  have sz2 := hk2.size
  (try simp at sz2)
  clear hk2
  have hv := HBv.out.alloc (.cells #[.int .i64 g.id, .slice g.bk.A1 g.bk.b.own.length g.bk.c1, .slice g.bk.A2 g.bk.b.notes.length g.bk.c2, .int .i64 g.bk.b.locked, .int .i64 g.st.x.way, .int .i64 g.st.x.ver, .int .i64 g.st.x.want, .slice g.st.A1 g.st.x.sent.length g.st.c1, .slice g.st.A2 g.st.x.live.length g.st.c2, .slice g.st.A3 g.st.x.back.length g.st.c3, .slice g.st.A4 g.st.x.got.length g.st.c4, .slice g.pA g.past.length g.pc, .slice g.kA g.knows.length g.kc] 31)
  clear HBv
  have HBv := Lib.hid hv
  clear hv
  have hr := (Ov.out).kept ((Keeps.refl noBlk w2).alloc (.cells #[.int .i64 g.id, .slice g.bk.A1 g.bk.b.own.length g.bk.c1, .slice g.bk.A2 g.bk.b.notes.length g.bk.c2, .int .i64 g.bk.b.locked, .int .i64 g.st.x.way, .int .i64 g.st.x.ver, .int .i64 g.st.x.want, .slice g.st.A1 g.st.x.sent.length g.st.c1, .slice g.st.A2 g.st.x.live.length g.st.c2, .slice g.st.A3 g.st.x.back.length g.st.c3, .slice g.st.A4 g.st.x.got.length g.st.c4, .slice g.pA g.past.length g.pc, .slice g.kA g.knows.length g.kc] 31))
  clear Ov
  have Ov := Lib.hid hr
  clear hr
  have hr := (Ng.out).kept ((Keeps.refl noBlk w2).alloc (.cells #[.int .i64 g.id, .slice g.bk.A1 g.bk.b.own.length g.bk.c1, .slice g.bk.A2 g.bk.b.notes.length g.bk.c2, .int .i64 g.bk.b.locked, .int .i64 g.st.x.way, .int .i64 g.st.x.ver, .int .i64 g.st.x.want, .slice g.st.A1 g.st.x.sent.length g.st.c1, .slice g.st.A2 g.st.x.live.length g.st.c2, .slice g.st.A3 g.st.x.back.length g.st.c3, .slice g.st.A4 g.st.x.got.length g.st.c4, .slice g.pA g.past.length g.pc, .slice g.kA g.knows.length g.kc] 31))
  clear Ng
  have Ng := Lib.hid hr
  clear hr
  have hr := HK.out.alloc (.cells #[.int .i64 g.id, .slice g.bk.A1 g.bk.b.own.length g.bk.c1, .slice g.bk.A2 g.bk.b.notes.length g.bk.c2, .int .i64 g.bk.b.locked, .int .i64 g.st.x.way, .int .i64 g.st.x.ver, .int .i64 g.st.x.want, .slice g.st.A1 g.st.x.sent.length g.st.c1, .slice g.st.A2 g.st.x.live.length g.st.c2, .slice g.st.A3 g.st.x.back.length g.st.c3, .slice g.st.A4 g.st.x.got.length g.st.c4, .slice g.pA g.past.length g.pc, .slice g.kA g.knows.length g.kc] 31)
  clear HK
  have HK := Lib.hid hr
  clear hr
  have HBg := Lib.hid (Box.new w2 _ rfl 31 #[.int .i64 g.id, .slice g.bk.A1 g.bk.b.own.length g.bk.c1, .slice g.bk.A2 g.bk.b.notes.length g.bk.c2, .int .i64 g.bk.b.locked, .int .i64 g.st.x.way, .int .i64 g.st.x.ver, .int .i64 g.st.x.want, .slice g.st.A1 g.st.x.sent.length g.st.c1, .slice g.st.A2 g.st.x.live.length g.st.c2, .slice g.st.A3 g.st.x.back.length g.st.c3, .slice g.st.A4 g.st.x.got.length g.st.c4, .slice g.pA g.past.length g.pc, .slice g.kA g.knows.length g.kc])
  have hb := HBv.out
  have v0 := hb.cell 0
  have v1 := hb.cell 1
  have v2 := hb.cell 2
  have v3 := hb.cell 3
  have v4 := hb.cell 4
  have v5 := hb.cell 5
  have v6 := hb.cell 6
  have v7 := hb.cell 7
  have v8 := hb.cell 8
  have v9 := hb.cell 9
  have v10 := hb.cell 10
  have v11 := hb.cell 11
  have v12 := hb.cell 12
  simp at v0 v1 v2 v3 v4 v5 v6 v7 v8 v9 v10 v11 v12
  have zv := hb.lt
  clear hb
  have hb := HBg.out
  have g0 := hb.cell 0
  have g1 := hb.cell 1
  have g2 := hb.cell 2
  have g3 := hb.cell 3
  have g4 := hb.cell 4
  have g5 := hb.cell 5
  have g6 := hb.cell 6
  have g7 := hb.cell 7
  have g8 := hb.cell 8
  have g9 := hb.cell 9
  have g10 := hb.cell 10
  have g11 := hb.cell 11
  have g12 := hb.cell 12
  simp at g0 g1 g2 g3 g4 g5 g6 g7 g8 g9 g10 g11 g12
  have zg := hb.lt
  clear hb
  go_wp2_with fail
  refine (HEQ.out g v _ Sg.out Sv.out Ng.out.at_ Ov.out).mono ?_
  rintro e w3 ⟨rfl, hk3⟩
  clear v0 v1 v2 v3 v4 v5 v6 v7 v8 v9 v10 v11 v12 g0 g1 g2 g3 g4 g5 g6 g7 g8 g9 g10 g11 g12 zv zg
  have hv := HBv.out.keeps hk3 (fun h => h)
  clear HBv
  have HBv := Lib.hid hv
  clear hv
  have hg := HBg.out.keeps hk3 (fun h => h)
  clear HBg
  have HBg := Lib.hid hg
  clear hg
  have hr := (Ov.out).kept hk3
  clear Ov
  have Ov := Lib.hid hr
  clear hr
  have hr := (Ng.out).kept hk3
  clear Ng
  have Ng := Lib.hid hr
  clear hr
  have hr := HK.out.trans hk3
  clear HK
  have HK := Lib.hid hr
  clear hr
  have sz3 := hk3.size
  (try simp at sz3)
  clear hk3
  have hb := HBg.out
  have g0 := hb.cell 0
  have g1 := hb.cell 1
  have g2 := hb.cell 2
  have g3 := hb.cell 3
  have g4 := hb.cell 4
  have g5 := hb.cell 5
  have g6 := hb.cell 6
  have g7 := hb.cell 7
  have g8 := hb.cell 8
  have g9 := hb.cell 9
  have g10 := hb.cell 10
  have g11 := hb.cell 11
  have g12 := hb.cell 12
  simp at g0 g1 g2 g3 g4 g5 g6 g7 g8 g9 g10 g11 g12
  have zg := hb.lt
  clear hb
  go_wp2_with fail
  refine (HMK.out g Gg _ _ Sg.out Ng.out).mono ?_
  rintro e w4 ⟨rfl, o9, hk4⟩
  clear Ng
  have Ng := Lib.hid o9
  clear o9
  clear g0 g1 g2 g3 g4 g5 g6 g7 g8 g9 g10 g11 g12 zg
  have hv := HBv.out.keeps hk4 (fun h => by have q := Lg.out _ h; simp at q <;> omega)
  clear HBv
  have HBv := Lib.hid hv
  clear hv
  have hg := HBg.out.keeps hk4 (fun h => by have q := Lg.out _ h; simp at q <;> omega)
  clear HBg
  have HBg := Lib.hid hg
  clear hg
  have hr := (Ov.out).keeps hk4 (fun b hb h => by have q := (Lg.out b h).1; have q2 := Lv.out b hb; simp at q <;> omega)
  clear Ov
  have Ov := Lib.hid hr
  clear hr
  have hr := HK.out.then hk4 (fun i hi h => by have q := (Lg.out i h).1; simp at q <;> omega)
  clear HK
  have HK := Lib.hid hr
  clear hr
  have sz4 := hk4.size
  (try simp at sz4)
  clear hk4
  have hb := HBg.out
  have g0 := hb.cell 0
  have g1 := hb.cell 1
  have g2 := hb.cell 2
  have g3 := hb.cell 3
  have g4 := hb.cell 4
  have g5 := hb.cell 5
  have g6 := hb.cell 6
  have g7 := hb.cell 7
  have g8 := hb.cell 8
  have g9 := hb.cell 9
  have g10 := hb.cell 10
  have g11 := hb.cell 11
  have g12 := hb.cell 12
  simp at g0 g1 g2 g3 g4 g5 g6 g7 g8 g9 g10 g11 g12
  have zg := hb.lt
  clear hb
  go_wp2_with fail
  refine (HHD.out g Gg _ _ Sg.out Ng.out).mono ?_
  rintro e w5 ⟨rfl, hk5⟩
  clear g0 g1 g2 g3 g4 g5 g6 g7 g8 g9 g10 g11 g12 zg
  have hv := HBv.out.keeps hk5 (fun h => h)
  clear HBv
  have HBv := Lib.hid hv
  clear hv
  have hg := HBg.out.keeps hk5 (fun h => h)
  clear HBg
  have HBg := Lib.hid hg
  clear hg
  have hr := (Ov.out).kept hk5
  clear Ov
  have Ov := Lib.hid hr
  clear hr
  have hr := (Ng.out).kept hk5
  clear Ng
  have Ng := Lib.hid hr
  clear hr
  have hr := HK.out.trans hk5
  clear HK
  have HK := Lib.hid hr
  clear hr
  have sz5 := hk5.size
  (try simp at sz5)
  clear hk5
  go_wp2_with fail
  refine (HI.out _).mono ?_
  rintro e w6 ⟨u, Gu, rfl, s9, o9, hk6⟩
  dsimp only [ChM.val]
  have Su := Lib.hid s9
  have Ou := Lib.hid o9.at_
  clear s9 o9
  have hv := HBv.out.keeps hk6 (fun h => h)
  clear HBv
  have HBv := Lib.hid hv
  clear hv
  have hg := HBg.out.keeps hk6 (fun h => h)
  clear HBg
  have HBg := Lib.hid hg
  clear hg
  have hr := (Ov.out).kept hk6
  clear Ov
  have Ov := Lib.hid hr
  clear hr
  have hr := (Ng.out).kept hk6
  clear Ng
  have Ng := Lib.hid hr
  clear hr
  have hr := HK.out.trans hk6
  clear HK
  have HK := Lib.hid hr
  clear hr
  have sz6 := hk6.size
  (try simp at sz6)
  clear hk6
  have hb := HBv.out
  have v0 := hb.cell 0
  have v1 := hb.cell 1
  have v2 := hb.cell 2
  have v3 := hb.cell 3
  have v4 := hb.cell 4
  have v5 := hb.cell 5
  have v6 := hb.cell 6
  have v7 := hb.cell 7
  have v8 := hb.cell 8
  have v9 := hb.cell 9
  have v10 := hb.cell 10
  have v11 := hb.cell 11
  have v12 := hb.cell 12
  simp at v0 v1 v2 v3 v4 v5 v6 v7 v8 v9 v10 v11 v12
  have zv := hb.lt
  clear hb
  have hb := HBg.out
  have g0 := hb.cell 0
  have g1 := hb.cell 1
  have g2 := hb.cell 2
  have g3 := hb.cell 3
  have g4 := hb.cell 4
  have g5 := hb.cell 5
  have g6 := hb.cell 6
  have g7 := hb.cell 7
  have g8 := hb.cell 8
  have g9 := hb.cell 9
  have g10 := hb.cell 10
  have g11 := hb.cell 11
  have g12 := hb.cell 12
  simp at g0 g1 g2 g3 g4 g5 g6 g7 g8 g9 g10 g11 g12
  have zg := hb.lt
  clear hb
  have hv := HBv.out.alloc (.cells #[.int .i64 u.id, .slice u.bk.A1 u.bk.b.own.length u.bk.c1, .slice u.bk.A2 u.bk.b.notes.length u.bk.c2, .int .i64 u.bk.b.locked, .int .i64 u.st.x.way, .int .i64 u.st.x.ver, .int .i64 u.st.x.want, .slice u.st.A1 u.st.x.sent.length u.st.c1, .slice u.st.A2 u.st.x.live.length u.st.c2, .slice u.st.A3 u.st.x.back.length u.st.c3, .slice u.st.A4 u.st.x.got.length u.st.c4, .slice u.pA u.past.length u.pc, .slice u.kA u.knows.length u.kc] 31)
  clear HBv
  have HBv := Lib.hid hv
  clear hv
  have hg := HBg.out.alloc (.cells #[.int .i64 u.id, .slice u.bk.A1 u.bk.b.own.length u.bk.c1, .slice u.bk.A2 u.bk.b.notes.length u.bk.c2, .int .i64 u.bk.b.locked, .int .i64 u.st.x.way, .int .i64 u.st.x.ver, .int .i64 u.st.x.want, .slice u.st.A1 u.st.x.sent.length u.st.c1, .slice u.st.A2 u.st.x.live.length u.st.c2, .slice u.st.A3 u.st.x.back.length u.st.c3, .slice u.st.A4 u.st.x.got.length u.st.c4, .slice u.pA u.past.length u.pc, .slice u.kA u.knows.length u.kc] 31)
  clear HBg
  have HBg := Lib.hid hg
  clear hg
  have hr := (Ov.out).kept ((Keeps.refl noBlk w6).alloc (.cells #[.int .i64 u.id, .slice u.bk.A1 u.bk.b.own.length u.bk.c1, .slice u.bk.A2 u.bk.b.notes.length u.bk.c2, .int .i64 u.bk.b.locked, .int .i64 u.st.x.way, .int .i64 u.st.x.ver, .int .i64 u.st.x.want, .slice u.st.A1 u.st.x.sent.length u.st.c1, .slice u.st.A2 u.st.x.live.length u.st.c2, .slice u.st.A3 u.st.x.back.length u.st.c3, .slice u.st.A4 u.st.x.got.length u.st.c4, .slice u.pA u.past.length u.pc, .slice u.kA u.knows.length u.kc] 31))
  clear Ov
  have Ov := Lib.hid hr
  clear hr
  have hr := (Ng.out).kept ((Keeps.refl noBlk w6).alloc (.cells #[.int .i64 u.id, .slice u.bk.A1 u.bk.b.own.length u.bk.c1, .slice u.bk.A2 u.bk.b.notes.length u.bk.c2, .int .i64 u.bk.b.locked, .int .i64 u.st.x.way, .int .i64 u.st.x.ver, .int .i64 u.st.x.want, .slice u.st.A1 u.st.x.sent.length u.st.c1, .slice u.st.A2 u.st.x.live.length u.st.c2, .slice u.st.A3 u.st.x.back.length u.st.c3, .slice u.st.A4 u.st.x.got.length u.st.c4, .slice u.pA u.past.length u.pc, .slice u.kA u.knows.length u.kc] 31))
  clear Ng
  have Ng := Lib.hid hr
  clear hr
  have hr := (Ou.out).kept ((Keeps.refl noBlk w6).alloc (.cells #[.int .i64 u.id, .slice u.bk.A1 u.bk.b.own.length u.bk.c1, .slice u.bk.A2 u.bk.b.notes.length u.bk.c2, .int .i64 u.bk.b.locked, .int .i64 u.st.x.way, .int .i64 u.st.x.ver, .int .i64 u.st.x.want, .slice u.st.A1 u.st.x.sent.length u.st.c1, .slice u.st.A2 u.st.x.live.length u.st.c2, .slice u.st.A3 u.st.x.back.length u.st.c3, .slice u.st.A4 u.st.x.got.length u.st.c4, .slice u.pA u.past.length u.pc, .slice u.kA u.knows.length u.kc] 31))
  clear Ou
  have Ou := Lib.hid hr
  clear hr
  have hr := HK.out.alloc (.cells #[.int .i64 u.id, .slice u.bk.A1 u.bk.b.own.length u.bk.c1, .slice u.bk.A2 u.bk.b.notes.length u.bk.c2, .int .i64 u.bk.b.locked, .int .i64 u.st.x.way, .int .i64 u.st.x.ver, .int .i64 u.st.x.want, .slice u.st.A1 u.st.x.sent.length u.st.c1, .slice u.st.A2 u.st.x.live.length u.st.c2, .slice u.st.A3 u.st.x.back.length u.st.c3, .slice u.st.A4 u.st.x.got.length u.st.c4, .slice u.pA u.past.length u.pc, .slice u.kA u.knows.length u.kc] 31)
  clear HK
  have HK := Lib.hid hr
  clear hr
  have HBu := Lib.hid (Box.new w6 _ rfl 31 #[.int .i64 u.id, .slice u.bk.A1 u.bk.b.own.length u.bk.c1, .slice u.bk.A2 u.bk.b.notes.length u.bk.c2, .int .i64 u.bk.b.locked, .int .i64 u.st.x.way, .int .i64 u.st.x.ver, .int .i64 u.st.x.want, .slice u.st.A1 u.st.x.sent.length u.st.c1, .slice u.st.A2 u.st.x.live.length u.st.c2, .slice u.st.A3 u.st.x.back.length u.st.c3, .slice u.st.A4 u.st.x.got.length u.st.c4, .slice u.pA u.past.length u.pc, .slice u.kA u.knows.length u.kc])
  clear v0 v1 v2 v3 v4 v5 v6 v7 v8 v9 v10 v11 v12 g0 g1 g2 g3 g4 g5 g6 g7 g8 g9 g10 g11 g12 zv zg
  have hb := HBv.out
  have v0 := hb.cell 0
  have v1 := hb.cell 1
  have v2 := hb.cell 2
  have v3 := hb.cell 3
  have v4 := hb.cell 4
  have v5 := hb.cell 5
  have v6 := hb.cell 6
  have v7 := hb.cell 7
  have v8 := hb.cell 8
  have v9 := hb.cell 9
  have v10 := hb.cell 10
  have v11 := hb.cell 11
  have v12 := hb.cell 12
  simp at v0 v1 v2 v3 v4 v5 v6 v7 v8 v9 v10 v11 v12
  have zv := hb.lt
  clear hb
  have hb := HBu.out
  have u0 := hb.cell 0
  have u1 := hb.cell 1
  have u2 := hb.cell 2
  have u3 := hb.cell 3
  have u4 := hb.cell 4
  have u5 := hb.cell 5
  have u6 := hb.cell 6
  have u7 := hb.cell 7
  have u8 := hb.cell 8
  have u9 := hb.cell 9
  have u10 := hb.cell 10
  have u11 := hb.cell 11
  have u12 := hb.cell 12
  simp at u0 u1 u2 u3 u4 u5 u6 u7 u8 u9 u10 u11 u12
  have zu := hb.lt
  clear hb
  go_wp2_with fail
  refine (HEQ.out u v _ Su.out Sv.out Ou.out Ov.out).mono ?_
  rintro e w7 ⟨rfl, hk7⟩
  clear v0 v1 v2 v3 v4 v5 v6 v7 v8 v9 v10 v11 v12 u0 u1 u2 u3 u4 u5 u6 u7 u8 u9 u10 u11 u12 zv zu
  have hv := HBv.out.keeps hk7 (fun h => h)
  clear HBv
  have HBv := Lib.hid hv
  clear hv
  have hg := HBg.out.keeps hk7 (fun h => h)
  clear HBg
  have HBg := Lib.hid hg
  clear hg
  have hu := HBu.out.keeps hk7 (fun h => h)
  clear HBu
  have HBu := Lib.hid hu
  clear hu
  have hr := (Ov.out).kept hk7
  clear Ov
  have Ov := Lib.hid hr
  clear hr
  have hr := (Ng.out).kept hk7
  clear Ng
  have Ng := Lib.hid hr
  clear hr
  have hr := (Ou.out).kept hk7
  clear Ou
  have Ou := Lib.hid hr
  clear hr
  have hr := HK.out.trans hk7
  clear HK
  have HK := Lib.hid hr
  clear hr
  have sz7 := hk7.size
  (try simp at sz7)
  clear hk7
  have hb := HBg.out
  have g0 := hb.cell 0
  have g1 := hb.cell 1
  have g2 := hb.cell 2
  have g3 := hb.cell 3
  have g4 := hb.cell 4
  have g5 := hb.cell 5
  have g6 := hb.cell 6
  have g7 := hb.cell 7
  have g8 := hb.cell 8
  have g9 := hb.cell 9
  have g10 := hb.cell 10
  have g11 := hb.cell 11
  have g12 := hb.cell 12
  simp at g0 g1 g2 g3 g4 g5 g6 g7 g8 g9 g10 g11 g12
  have zg := hb.lt
  clear hb
  go_wp2_with fail
  refine (HHD.out g Gg _ _ Sg.out Ng.out).mono ?_
  rintro e w8 ⟨rfl, hk8⟩
  clear g0 g1 g2 g3 g4 g5 g6 g7 g8 g9 g10 g11 g12 zg
  have hv := HBv.out.keeps hk8 (fun h => h)
  clear HBv
  have HBv := Lib.hid hv
  clear hv
  have hg := HBg.out.keeps hk8 (fun h => h)
  clear HBg
  have HBg := Lib.hid hg
  clear hg
  have hu := HBu.out.keeps hk8 (fun h => h)
  clear HBu
  have HBu := Lib.hid hu
  clear hu
  have hr := (Ov.out).kept hk8
  clear Ov
  have Ov := Lib.hid hr
  clear hr
  have hr := (Ng.out).kept hk8
  clear Ng
  have Ng := Lib.hid hr
  clear hr
  have hr := (Ou.out).kept hk8
  clear Ou
  have Ou := Lib.hid hr
  clear hr
  have hr := HK.out.trans hk8
  clear HK
  have HK := Lib.hid hr
  clear hr
  have sz8 := hk8.size
  (try simp at sz8)
  clear hk8
  go_wp2
  go_ret
  exact ⟨rfl, HK.out.below⟩

namespace xcnew
theorem own : ownKnob Try.prog.godebug = none := by kernel_rfl
set_option maxRecDepth 100000 in
theorem lifted (os : Os) (started : os.Started) (H : Type) (enc : TypeId × Value → H) :
    ReturnsInHanded {} Try.checked os 3 .any (Rows.fnExactChainNewSpec.pre6 enc Try.prog Try.f3 Rows.fnExactChainNewRow.domain false) (Rows.fnExactChainNewSpec.post enc Try.prog Try.f3 false true false false) := by
  refine returnsInHanded_of_change (C := Try.checked) own started (by kernel_rfl) Try.func3
    (ChangeSpec.witness6 (enc := enc) (C := Try.checked) false ⟨#[], #[.int .i64 0], []⟩ 8 (by kernel_rfl) (by kernel_rfl) (by kernel_rfl) (by kernel_rfl)) ?_
  intro W base args ds gs before hval0 hW hcnd _
  have hval : ∀ (j : Nat) t v, Try.f3.params[j]? = some t → args[j]? = some v → Value.okWide Try.prog W .any base t v := hval0
  have hW' := hW
  obtain ⟨p, q, hA0, hV, rfl, hfz, hnd⟩ := hW
  have hA : DataW.TrodAll enc Try.prog W 0 (fun _ => true) true Try.f3.params.toList args.toList ds p := hA0
  rw [Try.params3] at hA hval
  obtain ⟨v0, d0, rfl, rfl, h0⟩ := trodAll_one hA
  obtain ⟨rfl, rfl⟩ := trodVars_none hV
  obtain ⟨n1, rfl, rfl, rfl, wq1⟩ := open_int Try.underlying3 (hval 0 3 v0 rfl rfl) h0
  clear hA0 hval0
  simp only [List.append_nil] at hW'
  refine (walk_xcnew n1 W).mono fun e W' ⟨he, bel⟩ => ?_
  subst he
  exact ⟨_, rfl, _, _, _, [], _, [], hW', trodAll_mk1 (shut_bool Try.underlying4 _), trodAll_mk1 (shut_int Try.underlying3 wq1), rfl, bel.frame _, fun h => by cases h⟩
theorem over : Rows.fnExactChainNewRow.holds Try.pinned (OpenSpec.ofChange Rows.fnExactChainNewSpec) :=
  OpenClaim.holds_of_wide 3 Try.f3 rfl rfl rfl rfl rfl rfl rfl ⟨rfl, rfl, rfl, rfl, rfl⟩ rfl rfl rfl rfl rfl (by kernel_rfl) Try.func3 (by kernel_rfl)
    (of_decide_eq_true (by kernel_rfl)) (by unfold Func.isWrapper; first | (rw [if_pos (by decide +kernel)]; kernel_rfl) | (rw [if_neg (by decide +kernel)]; exact ⟨rfl, rfl⟩))
    (fun os started H enc _ => lifted os started H enc)
end xcnew
theorem fnExactChainNew_holds : Rows.FnExactChainNewSaid := xcnew.over
#print axioms fnExactChainNew_holds
end Go.Proofs.Ytbgpclicflafaaa
