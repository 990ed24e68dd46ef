/- The fate of a packet: an interface value of one of three types; how it is told apart. -/
import Derived.Test.YtifocngajndnnaaDoorSGot
set_option linter.unusedVariables false
set_option linter.unusedSimpArgs false
namespace Go.Proofs.YtifocngajndnnaaDoor
open Go.RowKit

theorem zero_live : (Tryd.prog.info? 97).map (fun i => i.zero) = some (some (.agg #[.int .i64 0, .int .i64 0, .int .i64 0, .int .i64 0, .int .i64 0, .int .i64 0, .int .i64 0])) := by kernel_rfl
theorem zero_done : (Tryd.prog.info? 98).map (fun i => i.zero) = some (some (.agg #[.int .i64 0, .int .i64 0, .int .i64 0, .int .i64 0, .int .i64 0, .int .i64 0, .int .i64 0])) := by kernel_rfl
theorem zero_back : (Tryd.prog.info? 99).map (fun i => i.zero) = some (some (.agg #[.int .i64 0, .int .i64 0, .int .i64 0, .int .i64 0, .int .i64 0, .int .i64 0, .int .i64 0])) := by kernel_rfl
theorem ta_live_yes (v : Value) (xT : TypeId) (w : World) : (Instr.typeAssert (.iface 97 v) xT 97 true).run Tryd.prog w = .ok (.tuple #[v, .bool true]) w := by
  simp [Instr.typeAssert, run_underlying Tryd.underlying97, go_sem, Result.andThen]
theorem ta_live_no (d : TypeId) (hd : d ≠ 97) (v : Value) (xT : TypeId) (w : World) : (Instr.typeAssert (.iface d v) xT 97 true).run Tryd.prog w = .ok (.tuple #[.agg #[.int .i64 0, .int .i64 0, .int .i64 0, .int .i64 0, .int .i64 0, .int .i64 0, .int .i64 0], .bool false]) w := by
  obtain ⟨i, hi, hz⟩ := Option.map_eq_some_iff.1 zero_live
  simp [Instr.typeAssert, run_underlying Tryd.underlying97, go_sem, Result.andThen, hd, zeroValue, typeInfo, hi, hz]
theorem ta_live_nil (xT : TypeId) (w : World) : (Instr.typeAssert .nilIface xT 97 true).run Tryd.prog w = .ok (.tuple #[.agg #[.int .i64 0, .int .i64 0, .int .i64 0, .int .i64 0, .int .i64 0, .int .i64 0, .int .i64 0], .bool false]) w := by
  obtain ⟨i, hi, hz⟩ := Option.map_eq_some_iff.1 zero_live
  simp [Instr.typeAssert, run_underlying Tryd.underlying97, go_sem, Result.andThen, zeroValue, typeInfo, hi, hz]
theorem ta_live_done (v : Value) (xT : TypeId) (w : World) : (Instr.typeAssert (.iface 98 v) xT 97 true).run Tryd.prog w = .ok (.tuple #[.agg #[.int .i64 0, .int .i64 0, .int .i64 0, .int .i64 0, .int .i64 0, .int .i64 0, .int .i64 0], .bool false]) w := ta_live_no 98 (by decide) v xT w
theorem ta_live_back (v : Value) (xT : TypeId) (w : World) : (Instr.typeAssert (.iface 99 v) xT 97 true).run Tryd.prog w = .ok (.tuple #[.agg #[.int .i64 0, .int .i64 0, .int .i64 0, .int .i64 0, .int .i64 0, .int .i64 0, .int .i64 0], .bool false]) w := ta_live_no 99 (by decide) v xT w
theorem ta_done_yes (v : Value) (xT : TypeId) (w : World) : (Instr.typeAssert (.iface 98 v) xT 98 true).run Tryd.prog w = .ok (.tuple #[v, .bool true]) w := by
  simp [Instr.typeAssert, run_underlying Tryd.underlying98, go_sem, Result.andThen]
theorem ta_done_no (d : TypeId) (hd : d ≠ 98) (v : Value) (xT : TypeId) (w : World) : (Instr.typeAssert (.iface d v) xT 98 true).run Tryd.prog w = .ok (.tuple #[.agg #[.int .i64 0, .int .i64 0, .int .i64 0, .int .i64 0, .int .i64 0, .int .i64 0, .int .i64 0], .bool false]) w := by
  obtain ⟨i, hi, hz⟩ := Option.map_eq_some_iff.1 zero_done
  simp [Instr.typeAssert, run_underlying Tryd.underlying98, go_sem, Result.andThen, hd, zeroValue, typeInfo, hi, hz]
theorem ta_done_nil (xT : TypeId) (w : World) : (Instr.typeAssert .nilIface xT 98 true).run Tryd.prog w = .ok (.tuple #[.agg #[.int .i64 0, .int .i64 0, .int .i64 0, .int .i64 0, .int .i64 0, .int .i64 0, .int .i64 0], .bool false]) w := by
  obtain ⟨i, hi, hz⟩ := Option.map_eq_some_iff.1 zero_done
  simp [Instr.typeAssert, run_underlying Tryd.underlying98, go_sem, Result.andThen, zeroValue, typeInfo, hi, hz]
theorem ta_done_live (v : Value) (xT : TypeId) (w : World) : (Instr.typeAssert (.iface 97 v) xT 98 true).run Tryd.prog w = .ok (.tuple #[.agg #[.int .i64 0, .int .i64 0, .int .i64 0, .int .i64 0, .int .i64 0, .int .i64 0, .int .i64 0], .bool false]) w := ta_done_no 97 (by decide) v xT w
theorem ta_done_back (v : Value) (xT : TypeId) (w : World) : (Instr.typeAssert (.iface 99 v) xT 98 true).run Tryd.prog w = .ok (.tuple #[.agg #[.int .i64 0, .int .i64 0, .int .i64 0, .int .i64 0, .int .i64 0, .int .i64 0, .int .i64 0], .bool false]) w := ta_done_no 99 (by decide) v xT w
theorem ta_back_yes (v : Value) (xT : TypeId) (w : World) : (Instr.typeAssert (.iface 99 v) xT 99 true).run Tryd.prog w = .ok (.tuple #[v, .bool true]) w := by
  simp [Instr.typeAssert, run_underlying Tryd.underlying99, go_sem, Result.andThen]
theorem ta_back_no (d : TypeId) (hd : d ≠ 99) (v : Value) (xT : TypeId) (w : World) : (Instr.typeAssert (.iface d v) xT 99 true).run Tryd.prog w = .ok (.tuple #[.agg #[.int .i64 0, .int .i64 0, .int .i64 0, .int .i64 0, .int .i64 0, .int .i64 0, .int .i64 0], .bool false]) w := by
  obtain ⟨i, hi, hz⟩ := Option.map_eq_some_iff.1 zero_back
  simp [Instr.typeAssert, run_underlying Tryd.underlying99, go_sem, Result.andThen, hd, zeroValue, typeInfo, hi, hz]
theorem ta_back_nil (xT : TypeId) (w : World) : (Instr.typeAssert .nilIface xT 99 true).run Tryd.prog w = .ok (.tuple #[.agg #[.int .i64 0, .int .i64 0, .int .i64 0, .int .i64 0, .int .i64 0, .int .i64 0, .int .i64 0], .bool false]) w := by
  obtain ⟨i, hi, hz⟩ := Option.map_eq_some_iff.1 zero_back
  simp [Instr.typeAssert, run_underlying Tryd.underlying99, go_sem, Result.andThen, zeroValue, typeInfo, hi, hz]
theorem ta_back_live (v : Value) (xT : TypeId) (w : World) : (Instr.typeAssert (.iface 97 v) xT 99 true).run Tryd.prog w = .ok (.tuple #[.agg #[.int .i64 0, .int .i64 0, .int .i64 0, .int .i64 0, .int .i64 0, .int .i64 0, .int .i64 0], .bool false]) w := ta_back_no 97 (by decide) v xT w
theorem ta_back_done (v : Value) (xT : TypeId) (w : World) : (Instr.typeAssert (.iface 98 v) xT 99 true).run Tryd.prog w = .ok (.tuple #[.agg #[.int .i64 0, .int .i64 0, .int .i64 0, .int .i64 0, .int .i64 0, .int .i64 0, .int .i64 0], .bool false]) w := ta_back_no 98 (by decide) v xT w
attribute [local go_sem] ta_live_yes ta_live_nil ta_live_done ta_live_back ta_done_yes ta_done_nil ta_done_live ta_done_back ta_back_yes ta_back_nil ta_back_live ta_back_done

/-- The fate's type. -/
def fateT (l b : Bool) : TypeId := match l, b with
  | true, _ => 97
  | false, true => 99
  | false, false => 98
def fateV (l b : Bool) (p : Pk) : Value := .iface (fateT l b) p.val
def setOf (l b : Bool) : Int := match l, b with
  | true, _ => 1
  | false, true => 3
  | false, false => 2
set_option maxHeartbeats 1000000 in
theorem fateOf_any (p : Pk) (l b : Bool) (w : World) :
    Calls Tryd.prog 93 #[p.val, .bool l, .bool b] w fun e w' => e = .returned (fateV l b p) ∧ Keeps noBlk w w' := by
  unfold Pk.val
  cases l with
  | true =>
    go_enter Tryd.func93, Tryd.ntmps93
    go_wp2
    go_ret
    exact ⟨rfl, (Keeps.refl _ _).alloc _⟩
  | false =>
    cases b with
    | true =>
      go_enter Tryd.func93, Tryd.ntmps93
      go_wp2
      go_ret
      exact ⟨rfl, (Keeps.refl _ _).alloc _⟩
    | false =>
      go_enter Tryd.func93, Tryd.ntmps93
      go_wp2
      go_ret
      exact ⟨rfl, (Keeps.refl _ _).alloc _⟩
set_option maxRecDepth 100000 in
set_option maxHeartbeats 1000000 in
theorem settled_live (v : Value) (w : World) : Calls Tryd.prog 67 #[.iface 97 v] w fun e w' => e = .returned (.int .i64 1) ∧ w = w' := by
  go_enter Tryd.func67, Tryd.ntmps67
  go_wp2
  go_ret
  exact ⟨rfl, rfl⟩
set_option maxRecDepth 100000 in
set_option maxHeartbeats 1000000 in
theorem settled_done (v : Value) (w : World) : Calls Tryd.prog 67 #[.iface 98 v] w fun e w' => e = .returned (.int .i64 2) ∧ w = w' := by
  go_enter Tryd.func67, Tryd.ntmps67
  go_wp2
  go_ret
  exact ⟨rfl, rfl⟩
set_option maxRecDepth 100000 in
set_option maxHeartbeats 1000000 in
theorem settled_back (v : Value) (w : World) : Calls Tryd.prog 67 #[.iface 99 v] w fun e w' => e = .returned (.int .i64 3) ∧ w = w' := by
  go_enter Tryd.func67, Tryd.ntmps67
  go_wp2
  go_ret
  exact ⟨rfl, rfl⟩
set_option maxRecDepth 100000 in
set_option maxHeartbeats 1000000 in
theorem settled_nil (w : World) : Calls Tryd.prog 67 #[.nilIface] w fun e w' => e = .returned (.int .i64 0) ∧ w = w' := by
  go_enter Tryd.func67, Tryd.ntmps67
  go_wp2
  go_ret
  exact ⟨rfl, rfl⟩
theorem settledNumber_any (l b : Bool) (p : Pk) (w : World) : Calls Tryd.prog 67 #[fateV l b p] w fun e w' => e = .returned (.int .i64 (setOf l b)) ∧ w = w' := by
  cases l with
  | true => exact settled_live _ _
  | false =>
    cases b with
    | true => exact settled_back _ _
    | false => exact settled_done _ _
end Go.Proofs.YtifocngajndnnaaDoor
