/- (*l6Rd).of and DrawPacketRead: some text. -/
import Derived.Test.YtjbllfnfnkghgaaDoorPkDraw
import Derived.Test.YtjbllfnfnkghgaaDoorPkST
import Derived.Test.YtjbllfnfnkghgaaDoorPkTh2
set_option linter.unusedVariables false
set_option linter.unusedSimpArgs false
namespace Go.Proofs.YtjbllfnfnkghgaaDoor
open Go.RowKit

def ofL : Array Value := #[.string ⟨#[48]⟩, .string ⟨#[32]⟩, .string ⟨#[49]⟩, .string ⟨#[120]⟩, .string ⟨#[32, 50]⟩]
def RetOf (w : World) (g : Nat) (lim : Int) (e : Ending) (w' : World) : Prop :=
  ∃ x : List UInt8, e = .returned (.string ⟨x.toArray⟩) ∧ x.length ≤ 2 ∧ Rd w' g (lim + 1) ∧ Keeps (one g) w w'

set_option maxRecDepth 100000 in
set_option maxHeartbeats 1000000 in
theorem of_any (g b : Nat) (t : TypeId) (lim : Int) (w : World) (hr : Rd w g lim) (hl : lim ≤ 1000000) (hb : Box w b t ofL) (hgb : g ≠ b) :
    Calls Tryd.prog 32 #[.pointer (some ⟨g, 0, none⟩), .slice (some ⟨b, 0, none⟩) 5 5] w (RetOf w g lim) := by
  have HR := Lib.hid hr
  have HB := Lib.hid hb
  have hgb' : ¬ b = g := fun h => hgb h.symm
  have HG := Lib.hid hgb'
  clear hr hb hgb hgb'
  go_enter Tryd.func32, Tryd.ntmps32
  go_wp2_with fail
  refine (pick_any g lim 5 _ HR.out (by omega) (by omega) (by omega)).mono ?_
  rintro e w1 ⟨q, rfl, q0, q1, hrd, hk⟩
  have hB1 := HB.out.keeps hk (fun h => HG.out h)
  have c0 := hB1.cell 0
  have c1 := hB1.cell 1
  have c2 := hB1.cell 2
  have c3 := hB1.cell 3
  have c4 := hB1.cell 4
  simp [ofL] at c0 c1 c2 c3 c4
  have HRD := Lib.hid hrd
  have HK := Lib.hid hk
  clear hrd hk hB1
  have hq : q = 0 ∨ q = 1 ∨ q = 2 ∨ q = 3 ∨ q = 4 := by omega
  clear q0 q1
  rcases hq with rfl | rfl | rfl | rfl | rfl
  · go_wp2
    exact bodyPost_ret (v := .string ⟨#[48]⟩) (by simp [results, go_sem]) rfl ⟨[48], rfl, by decide, HRD.out, HK.out⟩
  · go_wp2
    exact bodyPost_ret (v := .string ⟨#[32]⟩) (by simp [results, go_sem]) rfl ⟨[32], rfl, by decide, HRD.out, HK.out⟩
  · go_wp2
    exact bodyPost_ret (v := .string ⟨#[49]⟩) (by simp [results, go_sem]) rfl ⟨[49], rfl, by decide, HRD.out, HK.out⟩
  · go_wp2
    exact bodyPost_ret (v := .string ⟨#[120]⟩) (by simp [results, go_sem]) rfl ⟨[120], rfl, by decide, HRD.out, HK.out⟩
  · go_wp2
    exact bodyPost_ret (v := .string ⟨#[32, 50]⟩) (by simp [results, go_sem]) rfl ⟨[32, 50], rfl, by decide, HRD.out, HK.out⟩

theorem pkT_len (s k f t m u v : Int) : (pkT s k f t m u v).length ≤ 24 := by
  rcases Bool.eq_false_or_eq_true (pkB s k f t m u v) with h | h
  · rw [pkT_yes h]; exact (read_fwd h rfl).1
  · rw [pkT_no h]; simp

def RetAny (w : World) (e : Ending) (w' : World) : Prop := ∃ l : List UInt8, e = .returned (.string ⟨l.toArray⟩) ∧ Keeps noBlk w w'

set_option maxRecDepth 100000 in
set_option maxHeartbeats 2000000 in
theorem drawPkRead_any (A : Option Addr) (n c : Nat) (zs : List Int) (w : World) (h : Bytes w A n zs) (hc : n ≤ c) (hcm : c ≤ maxLen) :
    Calls Tryd.prog 17 #[.slice A n c] w (RetAny w) := by
  have H := Lib.hid h
  clear h
  go_enter Tryd.func17, Tryd.ntmps17
  go_wp2_with fail
  refine (l6Open_any A n _ zs _ H.out hc hcm).mono ?_
  rintro e w1 ⟨g, rfl, hg, hrd, hk1⟩
  have hgw : w.heap.size ≤ g := by omega
  clear hg
  have HK1 := Lib.hid hk1
  have HRD := Lib.hid hrd
  clear hrd hk1
  go_wp2_with fail
  refine (l71Packet_any g 0 _ HRD.out (by omega)).mono ?_
  rintro e w2 ⟨s, k, f, t, m, u, x, rfl, hrd, hk2⟩
  have HK2 := Lib.hid (HK1.out.then hk2 (fun i hi h => by have h' : i = g := h; omega))
  have HRD2 := Lib.hid hrd
  clear hrd hk2
  go_wp2_with fail
  obtain ⟨o, ho⟩ : ∃ o, pkT s k f t m u x = o := ⟨_, rfl⟩
  have ol : o.length ≤ 24 := by rw [← ho]; exact pkT_len _ _ _ _ _ _ _
  refine (show Calls Tryd.prog 14 #[.agg #[.int .i64 s, .int .i64 k, .int .i64 f, .int .i64 t, .int .i64 m, .int .i64 u, .int .i64 x]] _ (RetTxt _ o) from by rw [← ho]; exact specText_any s k f t m u x _).mono ?_
  rintro e w3 ⟨rfl, hk3⟩
  have HK3 := Lib.hid (HK2.out.trans hk3)
  have HRD3 := Lib.hid (HRD2.out.keeps hk3 (fun _ _ h => h))
  clear hk3 ho
  go_wp2_with fail
  refine (pick_any g (0 + 20) ((o.length : Int) + 1) _ HRD3.out (by omega) (by omega) (by omega)).mono ?_
  rintro e w4 ⟨a, rfl, a0, a1, hrd, hk4⟩
  obtain ⟨j, rfl⟩ : ∃ j : Nat, a = (j : Int) := ⟨a.toNat, by omega⟩
  have jl : j ≤ o.length := by omega
  have HK4 := Lib.hid (HK3.out.then hk4 (fun i hi h => by have h' : i = g := h; omega))
  have HRD4 := Lib.hid hrd
  clear hrd hk4
  go_wp2_with fail
  refine (pick_any g (0 + 20 + 1) 7 _ HRD4.out (by omega) (by omega) (by omega)).mono ?_
  rintro e w5 ⟨q, rfl, q0, q1, hrd, hk5⟩
  have HK5 := Lib.hid (HK4.out.then hk5 (fun i hi h => by have h' : i = g := h; omega))
  have HRD5 := Lib.hid hrd
  clear hrd hk5
  by_cases z0 : q = 0
  · subst z0
    have e1 : (⟨o.toArray⟩ : ByteArray).extract 0 j = ⟨(⟨o.toArray⟩ : ByteArray).extract 0 j |>.data.toList.toArray⟩ := rfl
    obtain ⟨p, hp⟩ : ∃ p : List UInt8, (⟨o.toArray⟩ : ByteArray).extract 0 j = ⟨p.toArray⟩ := ⟨((⟨o.toArray⟩ : ByteArray).extract 0 j).data.toList, rfl⟩
    clear e1
    go_wp2
    go_ret
    exact ⟨p, rfl, HK5.out⟩
  · have d0 : (q == 0) = false := by simp; exact z0
    by_cases z1 : q = 1
    · subst z1
      obtain ⟨p, hp⟩ : ∃ p : List UInt8, (⟨o.toArray⟩ : ByteArray).extract 0 j = ⟨p.toArray⟩ := ⟨((⟨o.toArray⟩ : ByteArray).extract 0 j).data.toList, rfl⟩
      obtain ⟨r, hr⟩ : ∃ r : List UInt8, (⟨o.toArray⟩ : ByteArray).extract j o.length = ⟨r.toArray⟩ := ⟨((⟨o.toArray⟩ : ByteArray).extract j o.length).data.toList, rfl⟩
      have pl : p.length ≤ 24 := by
        have := congrArg ByteArray.size hp
        simp [ByteArray.size_extract] at this
        have h2 : (⟨o.toArray⟩ : ByteArray).size = o.length := by simp [ByteArray.size]
        have h3 : (⟨p.toArray⟩ : ByteArray).size = p.length := by simp [ByteArray.size]
        omega
      have rl : r.length ≤ 24 := by
        have := congrArg ByteArray.size hr
        simp [ByteArray.size_extract] at this
        have h2 : (⟨o.toArray⟩ : ByteArray).size = o.length := by simp [ByteArray.size]
        have h3 : (⟨r.toArray⟩ : ByteArray).size = r.length := by simp [ByteArray.size]
        omega
      go_wp2_with fail
      have HRA := Lib.hid ((HRD5.out.alloc (.cells ofL 9)).drew)
      have HBA := Lib.hid ((Box.new w5 _ rfl 9 ofL).drew)
      have HKA := Lib.hid ((HK5.out.alloc (.cells ofL 9)).drew)
      have HGA : Hid (g ≠ w5.heap.size) := Lib.hid (by have := HRD5.out.lt; omega)
      go_region_held3 (fun _ => True)
        (trivial)
        ((go_at_call_of 32 (Value.pointer (some ⟨g, 0, none⟩)); refine (of_any g w5.heap.size 9 (0 + 20 + 1 + 1) _ HRA.out (by omega) HBA.out HGA.out).mono ?_; rintro e w6 ⟨x, rfl, xl, hrd, hk6⟩; obtain ⟨X1, hX1⟩ : ∃ X, p ++ x = X := ⟨_, rfl⟩; have n1 : ¬ 9223372036854775807 < p.length + x.length := (by omega); have e1 : (⟨p.toArray⟩ : ByteArray) ++ ⟨x.toArray⟩ = ⟨X1.toArray⟩ := (by rw [← hX1]; exact ByteArray.mk_append_mk _ _); have x1 : X1.length ≤ 26 := (by rw [← hX1, List.length_append]; omega); obtain ⟨X2, hX2⟩ : ∃ X, X1 ++ r = X := ⟨_, rfl⟩; have n2 : ¬ 9223372036854775807 < X1.length + r.length := (by omega); have e2 : (⟨X1.toArray⟩ : ByteArray) ++ ⟨r.toArray⟩ = ⟨X2.toArray⟩ := (by rw [← hX2]; exact ByteArray.mk_append_mk _ _); have HK6 := Lib.hid (HKA.out.then hk6 (fun i hi h => (by have h' : i = g := h; omega))); clear hX1 hX2 hrd hk6))
      go_wp2
      go_ret
      exact ⟨X2, rfl, HK6.out⟩
    · have d1 : (q == 1) = false := by simp; exact z1
      clear z0 z1
      go_wp2
      go_ret
      exact ⟨o, rfl, HK5.out⟩
end Go.Proofs.YtjbllfnfnkghgaaDoor
