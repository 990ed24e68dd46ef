/- FnLive: those that are not settled are told, ascending, whatever is drawn. FnLive: those that are not settled are told, ascending, whatever is drawn. The tables read as the program's text lays them. -/
import Derived.Test.YtjcbeihoeanhaaaDoorPlU1
import Derived.Test.YtjcbeihoeanhaaaDoorUSte
import Derived.Test.YtjcbeihoeanhaaaDoorULw
set_option linter.unusedVariables false
set_option linter.unusedSimpArgs false
/-! LLiveW -/
set_option maxHeartbeats 8000000
set_option maxRecDepth 100000
namespace Go.Proofs.YtjcbeihoeanhaaaDoor
open Go.RowKit Go.ChangeShapes Go.WideShapes Go.ChangeAt Go.Joins
theorem walk_lstlive (w : World) (ht : Tabs w) (a0 : Option Addr) (len0 cap0 : Nat) (z0 : List Int) (h : Bytes w a0 len0 z0) (e0 : len0 ≤ cap0) (f0 : cap0 ≤ maxLen) :
  Calls Tryd.prog 6 #[.slice a0 len0 cap0] w fun e w' => e = .returned (.bool true) ∧ Below w.heap.size w w' := by
 have HT := hH ht
 have HD := hH (drawStLive_any a0 len0 cap0 z0 w h e0 f0)
 clear h ht e0 f0
 by_cases hs : (len0 : Int) ≤ 1048576
 case neg =>
  go_enter Tryd.func6, Tryd.ntmps6
  go_wp2
  go_ret
  exact ⟨rfl, Below.refl _ _⟩
 go_enter Tryd.func6, Tryd.ntmps6
 go_wp2_with fail
 refine HD.out.mono ?_
 rintro e w1 ⟨s, rfl, hat, hk1⟩
 have hm := hat.2.1
 obtain ⟨L, hL⟩ : ∃ L, liveL s.x = L := ⟨_, rfl⟩
 have HIL := hH (fun W (h : StAt W s.x s.A1 s.A2 s.A3 s.A4) (hT : Tabs W) => (show Calls Tryd.prog 19 #[stV s.x s.A1 s.A2 s.A3 s.A4 s.c1 s.c2 s.c3 s.c4] W (RetOwn W L) from by rw [← hL]; exact implLive_any s.x s.A1 s.A2 s.A3 s.A4 s.c1 s.c2 s.c3 s.c4 W h hT))
 have HSL := hH (fun W (h : StAt W s.x s.A1 s.A2 s.A3 s.A4) => (show Calls Tryd.prog 29 #[stV s.x s.A1 s.A2 s.A3 s.A4 s.c1 s.c2 s.c3 s.c4] W (RetOwn W L) from by rw [← hL]; exact specLive_any s.x s.A1 s.A2 s.A3 s.A4 s.c1 s.c2 s.c3 s.c4 W h))
 have hLm : L.length ≤ maxLen := by have := liveL_len s.x; rw [hL] at this; omega
 have HL := hH hL
 have HM := hH hLm
 clear hL hm
 have HA := hH hat
 have HK := hH hk1
 have sz1 := hk1.size
 clear hat hk1 HD
 dsimp only [StM.val]
 replace HA := hH ((HA.out).kept ((Keeps.refl noBlk w1).alloc (.cells (smC s) 27)))
 replace HK := hH (HK.out.alloc (.cells (smC s) 27))
 have HBs := hH (Box.new w1 _ rfl 27 (smC s))
 go_wp2_with fail
 refine (HIL.out _ HA.out (HT.out.keeps HK.out)).mono ?_
 rintro e w2 ⟨v2, rfl, ho2, hk2⟩
 obtain ⟨GA, Gc, rfl, hg0, _⟩ := Row.of_own ho2
 have HG := hH hg0.ints
 clear ho2 hg0
 replace HBs := hH (HBs.out.keeps hk2 (fun h => h))
 replace HA := hH ((HA.out).kept hk2)
 replace HK := hH (HK.out.trans hk2)
 have sz2 := hk2.size
 (try simp at sz2)
 clear hk2
 have hb := HBs.out
 obtain ⟨s0, s1, s2, s3, s4, s5, s6⟩ := hb.cells7
 have zs := hb.lt
 clear hb
 rcases Bool.eq_false_or_eq_true (stB s.x) with ho | ho
 ·skip
  go_wp2_with fail
  refine (HSL.out _ HA.out).mono ?_
  rintro e w3 ⟨v2, rfl, ho2, hk3⟩
  obtain ⟨WA, Wc, rfl, hg0, _⟩ := Row.of_own ho2
  have HW := hH hg0.ints
  clear ho2 hg0
  clear s0 s1 s2 s3 s4 s5 s6 zs
  replace HBs := hH (HBs.out.keeps hk3 (fun h => h))
  replace HA := hH ((HA.out).kept hk3)
  replace HG := hH ((HG.out).keeps hk3 (fun _ _ h => h))
  replace HK := hH (HK.out.trans hk3)
  have sz3 := hk3.size
  (try simp at sz3)
  clear hk3
  have hb := HBs.out
  obtain ⟨s0, s1, s2, s3, s4, s5, s6⟩ := hb.cells7
  have zs := hb.lt
  clear hb
  go_wp2_with fail
  refine (lwInts_yes GA WA _ _ _ L _ HG.out HW.out hLm).mono ?_
  rintro e w4 ⟨rfl, hq⟩
  have hk4 := hq.keeps noBlk
  clear hq
  clear s0 s1 s2 s3 s4 s5 s6 zs
  replace HBs := hH (HBs.out.keeps hk4 (fun h => h))
  replace HA := hH ((HA.out).kept hk4)
  replace HG := hH ((HG.out).keeps hk4 (fun _ _ h => h))
  replace HW := hH ((HW.out).keeps hk4 (fun _ _ h => h))
  replace HK := hH (HK.out.trans hk4)
  have sz4 := hk4.size
  (try simp at sz4)
  clear hk4
  have hb := HBs.out
  obtain ⟨s0, s1, s2, s3, s4, s5, s6⟩ := hb.cells7
  have zs := hb.lt
  clear hb
  go_wp2_with fail
  refine (specSt_any s.x s.A1 s.A2 s.A3 s.A4 s.c1 s.c2 s.c3 s.c4 _ HA.out).mono ?_
  rintro e w5 ⟨rfl, hk5⟩
  clear s0 s1 s2 s3 s4 s5 s6 zs
  replace HBs := hH (HBs.out.keeps hk5 (fun h => h))
  replace HA := hH ((HA.out).kept hk5)
  replace HG := hH ((HG.out).keeps hk5 (fun _ _ h => h))
  replace HK := hH (HK.out.trans hk5)
  have sz5 := hk5.size
  (try simp at sz5)
  clear hk5
  have hb := HBs.out
  obtain ⟨s0, s1, s2, s3, s4, s5, s6⟩ := hb.cells7
  have zs := hb.lt
  clear hb
  have hL := HL.out
  rw [liveL_ok ho] at hL
  subst hL
  have HO := hH ho
  clear HL HIL HSL
  have h8 : s.x.sent.length ≤ 8 := (stB_ok HO.out).2.1.small
  have h8i : (s.x.sent.length : Int) ≤ 8 := by omega
  go_wp2
  clear ho
  clear s0 s1 s2 s3 s4 s5 s6 zs
  go_loopg [5, 6] (s.x.sent.length) (fun gk kk ii wr => ∃ i : Nat, i + gk = s.x.sent.length ∧ ii = .int .i64 i ∧ kk = .int .i64 (liveTo s.x i).length ∧ StAt wr s.x s.A1 s.A2 s.A3 s.A4 ∧ Ints wr GA (liveTo s.x s.x.sent.length).length (liveTo s.x s.x.sent.length) ∧ Box wr (w1.heap.size) 27 (smC s) ∧ Keeps noBlk w wr)
  case atStart => exact ⟨0, by omega, rfl, rfl, HA.out, HG.out, HBs.out, HK.out⟩
  case round =>
   clear HA HG HBs HK
   obtain ⟨i, hig, rfl, rfl, ha, hg, hb, hk⟩ := hrel
   have HA := hH ha
   have HG := hH hg
   have HBs := hH hb
   have HK := hH hk
   clear ha hg hb hk
   have hln := liveTo_len s.x i
   have hll := liveTo_len s.x s.x.sent.length
   by_cases hlt : i < s.x.sent.length
   ·have hli : (i : Int) < (s.x.sent.length : Int) := by omega
    have hi8 : (i : Int) < 8 := by omega
    obtain ⟨b, off, eA, hb, d0, d1, d2, d3, d4, d5, d6⟩ := HA.out.1.1.at_ hlt
    have HAE := hH (show StAt wr s.x (some ⟨b, off, none⟩) s.A2 s.A3 s.A4 from by rw [← eA]; exact HA.out)
    obtain ⟨lv, hlv⟩ : ∃ lv, s.x.live.getD i false = lv := ⟨_, rfl⟩
    have hpp := hasB_at HO.out hlt
    rw [hlv] at hpp
    generalize s.x.sent.getD i pk0 = pp at d0 d1 d2 d3 d4 d5 d6 hpp
    have HIH := hH (fun W (h : StAt W s.x (some ⟨b, off, none⟩) s.A2 s.A3 s.A4) hT => (show Calls Tryd.prog 16 #[stV s.x (some ⟨b, off, none⟩) s.A2 s.A3 s.A4 s.c1 s.c2 s.c3 s.c4, pp.val] W (fun e w' => e = .returned (.bool lv) ∧ Keeps noBlk W w') from by rw [← hpp]; exact implHas_any s.x _ _ _ _ _ _ _ _ pp W h hT))
    have HPP := hH hpp
    have HEA := hH eA
    have HLV := hH hlv
    clear hpp eA hlv
    have hb := HBs.out
    obtain ⟨s0, s1, s2, s3, s4, s5, s6⟩ := hb.cells7
    have zs := hb.lt
    clear hb
    rw [HEA.out] at s3
    go_wp2_with fail
    go_still_tail 6, (by kernel_rfl)
    change wpList _ _ _ _ _ wr.drew
    have KD := (Keeps.refl noBlk wr).drew
    replace HBs := hH (HBs.out.keeps KD fun h => h)
    replace HAE := hH (HAE.out.kept KD)
    replace HG := hH (HG.out.keeps KD (fun _ _ h => h))
    replace HK := hH (HK.out.trans KD)
    have szD : wr.heap.size = wr.drew.heap.size := rfl
    clear s0 s1 s2 s3 s4 s5 s6 zs
    clear d0 d1 d2 d3 d4 d5 d6 KD HA
    generalize wr.drew = WD at HBs HAE HG HK szD ⊢
    go_wp2_with fail
    refine (HIH.out _ HAE.out (HT.out.keeps HK.out)).mono ?_
    rintro e w6 ⟨rfl, hk6⟩
    replace HBs := hH (HBs.out.keeps hk6 (fun h => h))
    replace HAE := hH ((HAE.out).kept hk6)
    replace HG := hH ((HG.out).keeps hk6 (fun _ _ h => h))
    replace HK := hH (HK.out.trans hk6)
    have sz6 := hk6.size
    (try simp at sz6)
    clear hk6
    have HA := hH (show StAt w6 s.x s.A1 s.A2 s.A3 s.A4 from by rw [HEA.out]; exact HAE.out)
    have hb := HBs.out
    obtain ⟨s0, s1, s2, s3, s4, s5, s6⟩ := hb.cells7
    have zs := hb.lt
    clear hb
    cases lv with
    | true =>
     obtain ⟨hka, hkb⟩ := liveTo_at hlt HLV.out
     obtain ⟨bl, ol, rfl, hbl, dl⟩ := HG.out.at_ hka
     rw [hkb] at dl
     have hy := liveTo_yes HLV.out
     have hyl : (liveTo s.x (i + 1)).length = (liveTo s.x i).length + 1 := by rw [hy]; simp
     clear hy hkb
     have hkc : ((liveTo s.x i).length : Int) < ((liveTo s.x s.x.sent.length).length : Int) := by omega
     have HYL := hH hyl
     clear hyl
     have hn8 : ((liveTo s.x i).length : Int) ≤ 8 := by omega
     go_wp2
     go_roundg (gk - 1)
     case measure => omega
     case rel =>
     exact ⟨i + 1, by omega, by go_num, by rw [HYL.out]; go_num, HA.out, HG.out, HBs.out, HK.out⟩
    | false =>
     have HYL := hH (liveTo_no HLV.out)
     go_wp2
     go_roundg (gk - 1)
     case measure => omega
     case rel =>
     exact ⟨i + 1, by omega, by go_num, by rw [HYL.out], HA.out, HG.out, HBs.out, HK.out⟩
   ·obtain rfl : i = s.x.sent.length := by omega
    have hb := HBs.out
    obtain ⟨s0, s1, s2, s3, s4, s5, s6⟩ := hb.cells7
    have zs := hb.lt
    clear hb
    go_wp2
    go_ret
    exact ⟨rfl, HK.out.below⟩
 ·skip
  go_wp2_with fail
  refine (HSL.out _ HA.out).mono ?_
  rintro e w3 ⟨v2, rfl, ho2, hk3⟩
  obtain ⟨WA, Wc, rfl, hg0, _⟩ := Row.of_own ho2
  have HW := hH hg0.ints
  clear ho2 hg0
  clear s0 s1 s2 s3 s4 s5 s6 zs
  replace HBs := hH (HBs.out.keeps hk3 (fun h => h))
  replace HA := hH ((HA.out).kept hk3)
  replace HG := hH ((HG.out).keeps hk3 (fun _ _ h => h))
  replace HK := hH (HK.out.trans hk3)
  have sz3 := hk3.size
  (try simp at sz3)
  clear hk3
  have hb := HBs.out
  obtain ⟨s0, s1, s2, s3, s4, s5, s6⟩ := hb.cells7
  have zs := hb.lt
  clear hb
  go_wp2_with fail
  refine (lwInts_yes GA WA _ _ _ L _ HG.out HW.out hLm).mono ?_
  rintro e w4 ⟨rfl, hq⟩
  have hk4 := hq.keeps noBlk
  clear hq
  clear s0 s1 s2 s3 s4 s5 s6 zs
  replace HBs := hH (HBs.out.keeps hk4 (fun h => h))
  replace HA := hH ((HA.out).kept hk4)
  replace HG := hH ((HG.out).keeps hk4 (fun _ _ h => h))
  replace HW := hH ((HW.out).keeps hk4 (fun _ _ h => h))
  replace HK := hH (HK.out.trans hk4)
  have sz4 := hk4.size
  (try simp at sz4)
  clear hk4
  have hb := HBs.out
  obtain ⟨s0, s1, s2, s3, s4, s5, s6⟩ := hb.cells7
  have zs := hb.lt
  clear hb
  go_wp2_with fail
  refine (specSt_any s.x s.A1 s.A2 s.A3 s.A4 s.c1 s.c2 s.c3 s.c4 _ HA.out).mono ?_
  rintro e w5 ⟨rfl, hk5⟩
  clear s0 s1 s2 s3 s4 s5 s6 zs
  replace HBs := hH (HBs.out.keeps hk5 (fun h => h))
  replace HA := hH ((HA.out).kept hk5)
  replace HG := hH ((HG.out).keeps hk5 (fun _ _ h => h))
  replace HK := hH (HK.out.trans hk5)
  have sz5 := hk5.size
  (try simp at sz5)
  clear hk5
  have hb := HBs.out
  obtain ⟨s0, s1, s2, s3, s4, s5, s6⟩ := hb.cells7
  have zs := hb.lt
  clear hb
  go_wp2_with fail
  refine (HSL.out _ HA.out).mono ?_
  rintro e w6 ⟨v2, rfl, ho2, hk6⟩
  obtain ⟨WA, Wc, rfl, hg0, _⟩ := Row.of_own ho2
  have HW := hH hg0.ints
  clear ho2 hg0
  clear s0 s1 s2 s3 s4 s5 s6 zs
  replace HBs := hH (HBs.out.keeps hk6 (fun h => h))
  replace HA := hH ((HA.out).kept hk6)
  replace HG := hH ((HG.out).keeps hk6 (fun _ _ h => h))
  replace HK := hH (HK.out.trans hk6)
  have sz6 := hk6.size
  (try simp at sz6)
  clear hk6
  have hb := HBs.out
  obtain ⟨s0, s1, s2, s3, s4, s5, s6⟩ := hb.cells7
  have zs := hb.lt
  clear hb
  go_wp2_with fail
  refine (lwInts_yes GA WA _ _ _ L _ HG.out HW.out hLm).mono ?_
  rintro e w7 ⟨rfl, hq⟩
  have hk7 := hq.keeps noBlk
  clear hq
  clear s0 s1 s2 s3 s4 s5 s6 zs
  replace HBs := hH (HBs.out.keeps hk7 (fun h => h))
  replace HA := hH ((HA.out).kept hk7)
  replace HG := hH ((HG.out).keeps hk7 (fun _ _ h => h))
  replace HW := hH ((HW.out).keeps hk7 (fun _ _ h => h))
  replace HK := hH (HK.out.trans hk7)
  have sz7 := hk7.size
  (try simp at sz7)
  clear hk7
  have hb := HBs.out
  obtain ⟨s0, s1, s2, s3, s4, s5, s6⟩ := hb.cells7
  have zs := hb.lt
  clear hb
  go_wp2
  go_ret
  exact ⟨rfl, HK.out.below⟩
set_option maxRecDepth 100000
namespace lstlive
theorem lifted (os : Os) (started : os.Started) (H : Type) (enc : TypeId × Value → H) :
  ReturnsInHanded {} Tryd.checked os 6 .any (fun w args => (Rows.fnLiveSpec.pre enc Tryd.prog Tryd.f6 [] false w args ∧ laidMetH Tryd.prog Rows.fnLiveRow.laid w) ∧ sizedMet enc Tryd.prog Tryd.f6 (OpenSpec.ofChange Rows.fnLiveSpec) false w args)
   (Rows.fnLiveSpec.post enc Tryd.prog Tryd.f6 false true false false) := by
 refine returnsInHanded_of_change_and (C := Tryd.checked) (X := fun w _ => laidMetH Tryd.prog Rows.fnLiveRow.laid w) (fun _ _ _ hh h => h.of_heap hh) own started (by kernel_rfl) Tryd.func6
  (ChangeSpec.witness_shaped (enc := enc) (C := Tryd.checked) (os := os) (X := fun w _ => laidMetH Tryd.prog Rows.fnLiveRow.laid w) false (World.doorLaid Tryd.prog 101 os) #[.slice none 0 0] 8 rfl (World.shaped_of_RefB (by kernel_rfl) (by kernel_rfl)) (by kernel_rfl) (by kernel_rfl) (by kernel_rfl) (door_met os _)) ?_
 intro W base args ds gs before hval0 hW _ _ hL _
 have hval : ∀ (j : Nat) t v, Tryd.f6.params[j]? = some t → args[j]? = some v → Value.okWide Tryd.prog W .any base t v := hval0
 have hW' := hW
 obtain ⟨p, q, hA0, hV, rfl, hfz, hnd⟩ := hW
 have hA : DataW.TrodAll enc Tryd.prog W 0 (fun _ => true) true Tryd.f6.params.toList args.toList ds p := hA0
 rw [Tryd.params6 ] at hA hval
 obtain ⟨g0, g1, rfl⟩ := vars2 hV
 obtain ⟨v0, d0, rfl, rfl, h0⟩ := trodAll_one hA
 obtain ⟨a0, len0, cap0, rfl⟩ := okWide_slice Tryd.underlying22 (hval 0 22 v0 rfl rfl)
 have k0 := h0
 have lt0 : ∀ x ∈ p, x.block < W.heap.size := by obtain ⟨m, hm⟩ := k0; exact DataW.trod_lt m _ _ _ hm
 obtain ⟨z0, w0, e0, f0⟩ := bytes_of_trod h0
 clear hA0 hval0
 refine (walk_lstlive W (tabs_of_laid hL) a0 len0 cap0 z0 w0 e0 f0).mono fun e W' ⟨he, bel⟩ => ?_
 subst he
 exact ⟨_, rfl, _, _, _, [], _, _, hW', trodAll_mk1 (shut_bool Tryd.underlying4 _), (trodAll_mk1 (Below.trod laidOut (by kernel_rfl) (of_decide_eq_true (by kernel_rfl)) k0 bel lt0)), Below.trodVars laidOut bel (by kernel_rfl) hV, bel.frame _, fun h => by cases h⟩
end lstlive

theorem fnLive_row : Rows.FnLiveSaid :=
 OpenClaim.holds_of_wide 6 Tryd.f6 rfl rfl rfl rfl rfl rfl rfl ⟨rfl, rfl, rfl, rfl, rfl⟩ rfl rfl rfl rfl rfl (by kernel_rfl) Tryd.func6 (by kernel_rfl)
  (of_decide_eq_true (by kernel_rfl)) (by unfold Func.isWrapper; first | (rw [if_pos (by decide +kernel)]; kernel_rfl) | (rw [if_neg (by decide +kernel)]; exact ⟨rfl, rfl⟩))
  (fun os started H enc _ => lstlive.lifted os started H enc)

theorem fnLive_card : Rows.FnLiveCardSaid :=
 Claim7.holds_tied_plain_at .later [] Rows.fnLiveCard.laidKinds true Rows.fnLiveCard.stood.harness true
  fnLive_row (fun _ h => by cases h) (by kernel_rfl) (fun _ h => by cases h) fnLive_row_tie rfl ⟨rfl, rfl⟩ (by kernel_rfl) rfl
  (fun g fn hg hfn => by
   obtain rfl : g = 6 := Option.some.inj ((show Tryd.prog.funcNamed Rows.fnLiveRow.func = some 6 by kernel_rfl).symm.trans hg) |>.symm
   obtain rfl : fn = Tryd.f6 := (Option.some.inj (Tryd.func6.symm.trans hfn)).symm
   refine ⟨by kernel_rfl, fun j t ht => ?_⟩
   have h3 : ∀ t ∈ Tryd.f6.params.toList, Tryd.prog.wantsStandIn t = false := of_decide_eq_true (by kernel_rfl)
   exact h3 t (Array.mem_toList_iff.2 (Array.mem_of_getElem? ht)))
  (by kernel_rfl)
#print axioms fnLive_card
end Go.Proofs.YtjcbeihoeanhaaaDoor
