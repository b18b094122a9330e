import Derived.Test.YtibelcnjmpedkaaGreatDoorErrBare
namespace Go.Proofs.YtibelcnjmpedkaaGreatDoor
open Go.RowKit Go.Extern.Stop Go.Stop Go.Extern
theorem noAt (v : Value) (w : World) : (Instr.typeAssert (.iface 26 v) 31 141 true).run Tryz.prog w = .ok (.tuple #[.pointer none, .bool false]) w := by kernel_rfl
set_option maxRecDepth 100000 in
set_option maxHeartbeats 1000000 in
theorem bare_err (n : Int) (w : World) (hg : ErrVar w) : Calls Tryz.prog 52 #[.iface 26 (.int .i64 n)] w fun e w' => e = .returned (.tuple #[.int .i64 n, .bool true]) ∧ Below w.heap.size w w' := by
  have ta : ∀ (v : Value) (w : World), (Instr.typeAssert (.iface 26 v) 31 143 true).run Tryz.prog w = .ok (.tuple #[.nilIface, .bool false]) w := fun v w => run_typeAssert_lacksB Tryz.underlying143 (by kernel_rfl) (by kernel_rfl) v 31 w
  have tb := noAt
  have HG : Hid (ErrVar w) := hg
  clear hg
  go_enter Tryz.func52, Tryz.ntmps52
  go_wp2_with fail
  refine (tell_err n _ HG.out).mono ?_
  rintro e w' ⟨rfl, hb⟩
  go_wp2_with fail
  refine wp_loop_rounds 1 ?_
  rw [rounds_succ]
  go_wp2_with fail
  go_ret2
  exact ⟨rfl, hb⟩
set_option maxHeartbeats 1000000 in
theorem lawBare_nil (n : Int) (w : World) : Calls Tryz.prog 11 #[.nilIface, .int .i64 n] w fun e w' => e = .returned (.bool ((0 : Int) == n)) ∧ w' = w := by
  go_enter Tryz.func11, Tryz.ntmps11
  go_wp2_with fail
  refine (bare_nil _).mono ?_
  rintro e w' ⟨rfl, rfl⟩
  go_wp2_with fail
  go_ret
  exact ⟨rfl, rfl⟩
set_option maxHeartbeats 1000000 in
theorem lawBare_err (m n : Int) (w : World) (hg : ErrVar w) : Calls Tryz.prog 11 #[.iface 26 (.int .i64 m), .int .i64 n] w fun e w' => e = .returned (.bool (m == n)) ∧ Below w.heap.size w w' := by
  have HG : Hid (ErrVar w) := hg
  clear hg
  go_enter Tryz.func11, Tryz.ntmps11
  go_wp2_with fail
  refine (bare_err m _ HG.out).mono ?_
  rintro e w' ⟨rfl, hb⟩
  go_wp2_with fail
  go_ret
  exact ⟨rfl, hb⟩
end Go.Proofs.YtibelcnjmpedkaaGreatDoor
