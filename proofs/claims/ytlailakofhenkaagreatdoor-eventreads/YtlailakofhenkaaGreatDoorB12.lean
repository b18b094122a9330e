/-
  Own texts put together: ErrAs, ErrBare, ErrLaw, ErrQ, EvWLaw.
-/
import Derived.Test.YtlailakofhenkaaGreatDoorB1
import Derived.WalkKit
import Derived.WalkSpells
import Derived.WalkLawsBesides
import Derived.LaidEql
import Derived.Stop.Asserts
import Derived.RowKitTokens
import Derived.BigQuiet
import Derived.Test.YtlailakofhenkaaGreatDoorB2
import Derived.Test.YtlailakofhenkaaGreatDoorB6
import Derived.Test.YtlailakofhenkaaGreatDoorB11
import Derived.Test.YtlailakofhenkaaGreatDoorB8
namespace Go.Proofs.YtlailakofhenkaaGreatDoor
open Go.RowKit Go.Extern.Stop Go.Stop Go.Extern
namespace ErrAs
theorem valueOfPE (t : Addr) (w : World) : (ReflectliteValue.unpack (.iface 188 (.pointer (some t)))).run Tryz.prog w
    = .ok (.agg #[.pointer (some ⟨9, 188, none⟩), .pointer (some ⟨w.heap.size, 0, none⟩), .int .u64 150]) (w.alloc (.cells #[.pointer (some t)] 188)) := by kernel_rfl
theorem typePE (a : Addr) (w : World) : (ReflectliteValue.methodAny (ReflectliteValue.valueError "reflectlite.Value.Type" 0) (fun t _ _ _ => ReflectliteType.toType t) #[.agg #[.pointer (some ⟨9, 188, none⟩), .pointer (some a), .int .u64 150]]).run Tryz.prog w
    = .ok (.iface 235 (.agg #[.pointer (some ⟨9, 188, none⟩)])) w := by kernel_rfl
theorem kindPE (w : World) : ((ReflectliteType.abiMethod fun t => (fun a : Nat => Value.int IntKind.u8 (a : Int)) <$> Rtype.kind t) #[.pointer (some ⟨9, 188, none⟩)]).run Tryz.prog w = .ok (.int .u8 22) w := by kernel_rfl
theorem kindE (w : World) : ((ReflectliteType.abiMethod fun t => (fun a : Nat => Value.int IntKind.u8 (a : Int)) <$> Rtype.kind t) #[.pointer (some ⟨9, 26, none⟩)]).run Tryz.prog w = .ok (.int .u8 2) w := by kernel_rfl
theorem rlm (z : Sem Value) (f : TypeId → Addr → Nat → Nat → Sem Value) (v : Value) :
    ReflectliteValue.method z f #[v] = (do match ← ReflectliteValue.parts v with | none => z | some (t, a, fl) => f t a fl (fl % 32)) := rfl
theorem partsPE (a : Addr) (w : World) : (ReflectliteValue.parts (.agg #[.pointer (some ⟨9, 188, none⟩), .pointer (some a), .int .u64 150])).run Tryz.prog w = .ok (some (188, a, 150)) w := by kernel_rfl
theorem isNilPE (a p : Addr) (W : World) (ha : W.cell? a = some (.pointer (some p))) :
    (ReflectliteValue.method (ReflectliteValue.valueError "reflectlite.Value.IsNil" 0) ReflectliteValue.isNil #[.agg #[.pointer (some ⟨9, 188, none⟩), .pointer (some a), .int .u64 150]]).run Tryz.prog W = .ok (.bool false) W := by
  rw [rlm]
  simp only [Sem.run_bind, partsPE, Result.andThen]
  simp [ReflectliteValue.isNil, loadVar, isAgg, underlying, Tryz.underlying188, ha, Result.andThen]
theorem methodKind (h : Value) (w : World) : (Go.method 424 235 (.agg #[h]) "Kind").run Tryz.prog w = .ok (265, h) w := by kernel_rfl
theorem methodElem (h : Value) (w : World) : (Go.method 424 235 (.agg #[h]) "Elem").run Tryz.prog w = .ok (281, .agg #[h]) w := by kernel_rfl
theorem methodImplements (h : Value) (w : World) : (Go.method 424 235 (.agg #[h]) "Implements").run Tryz.prog w = .ok (282, .agg #[h]) w := by kernel_rfl
theorem methodAssignableTo (h : Value) (w : World) : (Go.method 424 235 (.agg #[h]) "AssignableTo").run Tryz.prog w = .ok (279, .agg #[h]) w := by kernel_rfl
theorem elemPE (w : World) : (ReflectliteType.method ReflectliteType.elem #[.agg #[.pointer (some ⟨9, 188, none⟩)]]).run Tryz.prog w = .ok (.iface 235 (.agg #[.pointer (some ⟨9, 26, none⟩)])) w := by kernel_rfl
theorem implementsE (w : World) : (ReflectliteType.relation "Implements" ReflectliteType.implements_ #[.agg #[.pointer (some ⟨9, 26, none⟩)], .iface 235 (.agg #[.pointer (some ⟨9, 31, none⟩)])]).run Tryz.prog w = .ok (.bool true) w := by kernel_rfl
theorem typeOfE (v : Value) (w : World) : (ReflectliteType.typeOf #[.iface 26 v]).run Tryz.prog w = .ok (.iface 235 (.agg #[.pointer (some ⟨9, 26, none⟩)])) w := by kernel_rfl
theorem assignableE (w : World) : (ReflectliteType.relation "AssignableTo" ReflectliteType.assignableTo #[.agg #[.pointer (some ⟨9, 26, none⟩)], .iface 235 (.agg #[.pointer (some ⟨9, 26, none⟩)])]).run Tryz.prog w = .ok (.bool true) w := by kernel_rfl
theorem valueOfE (n : Int) (w : World) : (ReflectliteValue.unpack (.iface 26 (.int .i64 n))).run Tryz.prog w
    = .ok (.agg #[.pointer (some ⟨9, 26, none⟩), .pointer (some ⟨w.heap.size, 0, none⟩), .int .u64 130]) (w.alloc (.cells #[.int .i64 n] 26)) := by kernel_rfl
theorem elemOfPE (w : World) : (Rtype.elem? 188).run Tryz.prog w = .ok (some 26) w := by kernel_rfl
theorem mkE (p : Addr) (w : World) : (ReflectliteValue.mk 26 p ReflectliteValue.flagAddr).run Tryz.prog w = .ok (.agg #[.pointer (some ⟨9, 26, none⟩), .pointer (some p), .int .u64 386]) w := by kernel_rfl
theorem elemVPE (a p : Addr) (W : World) (ha : W.cell? a = some (.pointer (some p))) :
    (ReflectliteValue.method (ReflectliteValue.valueError "reflectlite.Value.Elem" 0) ReflectliteValue.elem #[.agg #[.pointer (some ⟨9, 188, none⟩), .pointer (some a), .int .u64 150]]).run Tryz.prog W
      = .ok (.agg #[.pointer (some ⟨9, 26, none⟩), .pointer (some p), .int .u64 386]) W := by
  rw [rlm]
  simp only [Sem.run_bind, partsPE, Result.andThen]
  simp [ReflectliteValue.elem, loadVar, isAgg, underlying, Tryz.underlying188, ha, Result.andThen, elemOfPE, mkE]
theorem rls (v x : Value) : ReflectliteValue.set #[v, x] = (do
    let (some (dst, a, fl), some (src, b, _)) := (← ReflectliteValue.parts v, ← ReflectliteValue.parts x)
      | unsupported (.noEntry "extern/(internal/reflectlite.Value).Set.zeroValue")
    if fl / ReflectliteValue.flagAddr % 2 == 0 then unsupported (.noEntry "extern/(internal/reflectlite.Value).Set.unaddressable")
    let val ← loadVar src b
    if ← Rtype.directlyAssignable dst src then storeVar dst a val
    else if ← Rtype.implements dst src then
      if (← Rtype.kind src) == 20 then
        match val with
        | .nilIface => unsupported (.noEntry "extern/reflectlite: a nil value of one interface type handed on as a value of another")
        | _ => storeVar dst a val
      else storeVar dst a (.iface src val)
    else panicString ("reflectlite.Set: value of type " ++ (← Rtype.spelt src) ++ " is not assignable to type " ++ (← Rtype.spelt dst))
    pure (.tuple #[])) := rfl
theorem partsEa (a : Addr) (w : World) : (ReflectliteValue.parts (.agg #[.pointer (some ⟨9, 26, none⟩), .pointer (some a), .int .u64 386])).run Tryz.prog w = .ok (some (26, a, 386)) w := by kernel_rfl
theorem partsE (a : Addr) (w : World) : (ReflectliteValue.parts (.agg #[.pointer (some ⟨9, 26, none⟩), .pointer (some a), .int .u64 130])).run Tryz.prog w = .ok (some (26, a, 130)) w := by kernel_rfl
theorem directE (w : World) : (Rtype.directlyAssignable 26 26).run Tryz.prog w = .ok true w := by kernel_rfl
theorem setE (ta b : Addr) (n : Int) (old : Value) (W : World) (hb : W.cell? b = some (.int .i64 n)) (ht : W.cell? ta = some old) (hf : W.frozen? ta = false) :
    (ReflectliteValue.set #[.agg #[.pointer (some ⟨9, 26, none⟩), .pointer (some ta), .int .u64 386], .agg #[.pointer (some ⟨9, 26, none⟩), .pointer (some b), .int .u64 130]]).run Tryz.prog W
      = .ok (.tuple #[]) (W.setCell ta (.int .i64 n)) := by
  rw [rls]
  simp only [Sem.run_bind, partsEa, partsE, Result.andThen]
  simp [ReflectliteValue.flagAddr, loadVar, isAgg, underlying, Tryz.underlying26, hb, Result.andThen, directE, storeVar, Value.cells, storeCells, Addr.add]
  rw [run_store Tryz.prog W ta _ _ (by rfl)]
  simp [ht, hf]
end ErrAs
end Go.Proofs.YtlailakofhenkaaGreatDoor

namespace Go.Proofs.YtlailakofhenkaaGreatDoor
open Go.RowKit Go.Extern.Stop Go.Stop Go.Extern
/-- What the library's variable errors.errorType holds. -/
def ErrVar (w : World) : Prop := w.cell? ⟨4, 0, none⟩ = some (.iface 235 (.agg #[.pointer (some ⟨9, 31, none⟩)]))
set_option maxRecDepth 100000 in
set_option maxHeartbeats 4000000 in
theorem as_hit (n : Int) (t : Addr) (old : Value) (w : World) (hg : ErrVar w) (ht0 : w.cell? t = some old) (hf0 : w.frozen? t = false) :
    Calls Tryz.prog 139 #[.iface 26 (.int .i64 n), .iface 188 (.pointer (some t))] w fun ev w' => ev = .returned (.bool true) ∧ ∃ w1, Below w.heap.size w w1 ∧ w' = w1.setCell t (.int .i64 n) := by
  have h6 := @run_callFunc_extern Tryz.prog 155 _ (fun args => ReflectliteValue.unpack (args.getD 0 (.tuple #[]))) Tryz.func155 (by kernel_rfl) (by kernel_rfl) (by kernel_rfl) (by kernel_rfl)
  have h7 := @run_callFunc_extern Tryz.prog 174 _ (ReflectliteValue.methodAny (ReflectliteValue.valueError "reflectlite.Value.Type" 0) (fun t _ _ _ => ReflectliteType.toType t)) Tryz.func174 (by kernel_rfl) (by kernel_rfl) (by kernel_rfl) (by kernel_rfl)
  have h8 := @run_callFunc_extern Tryz.prog 175 _ (ReflectliteValue.method (ReflectliteValue.valueError "reflectlite.Value.IsNil" 0) ReflectliteValue.isNil) Tryz.func175 (by kernel_rfl) (by kernel_rfl) (by kernel_rfl) (by kernel_rfl)
  have h27 := @run_callFunc_extern Tryz.prog 265 _ (ReflectliteType.abiMethod fun t => do pure (.int .u8 (← Rtype.kind t))) Tryz.func265 (by kernel_rfl) (by kernel_rfl) (by kernel_rfl) (by kernel_rfl)
  have h37 := @run_callFunc_extern Tryz.prog 281 _ (ReflectliteType.method ReflectliteType.elem) Tryz.func281 (by kernel_rfl) (by kernel_rfl) (by kernel_rfl) (by kernel_rfl)
  have h38 := @run_callFunc_extern Tryz.prog 282 _ (ReflectliteType.relation "Implements" ReflectliteType.implements_) Tryz.func282 (by kernel_rfl) (by kernel_rfl) (by kernel_rfl) (by kernel_rfl)
  have h10 := @run_callFunc_extern Tryz.prog 208 _ ReflectliteType.typeOf Tryz.func208 (by kernel_rfl) (by kernel_rfl) (by kernel_rfl) (by kernel_rfl)
  have h35 := @run_callFunc_extern Tryz.prog 279 _ (ReflectliteType.relation "AssignableTo" ReflectliteType.assignableTo) Tryz.func279 (by kernel_rfl) (by kernel_rfl) (by kernel_rfl) (by kernel_rfl)
  have h11 := @run_callFunc_extern Tryz.prog 209 _ (ReflectliteValue.method (ReflectliteValue.valueError "reflectlite.Value.Elem" 0) ReflectliteValue.elem) Tryz.func209 (by kernel_rfl) (by kernel_rfl) (by kernel_rfl) (by kernel_rfl)
  have h12 := @run_callFunc_extern Tryz.prog 210 _ ReflectliteValue.set Tryz.func210 (by kernel_rfl) (by kernel_rfl) (by kernel_rfl) (by kernel_rfl)
  have tO := ErrAs.typeOfE
  have mA := ErrAs.methodAssignableTo
  have a25 := ErrAs.assignableE
  have v25 := ErrAs.valueOfE n
  have f6 := ErrAs.valueOfPE
  have f7 := ErrAs.typePE
  have mK := ErrAs.methodKind
  have mE := ErrAs.methodElem
  have mI := ErrAs.methodImplements
  have k27 := ErrAs.kindPE
  have k25 := ErrAs.kindE
  have e27 := ErrAs.elemPE
  have i25 := ErrAs.implementsE
  have n8 := ErrAs.isNilPE ⟨w.heap.size, 0, none⟩ t ((w.alloc (.cells #[.pointer (some t)] 188)).alloc (.cells #[.pointer (some ⟨9, 188, none⟩), .pointer (some ⟨w.heap.size, 0, none⟩), .int .u64 150] 202)) (by simp)
  have hlt : 4 < w.heap.size := World.block_lt_of_cell? _ _ hg
  have hg2 : ((w.alloc (.cells #[.pointer (some t)] 188)).alloc (.cells #[.pointer (some ⟨9, 188, none⟩), .pointer (some ⟨w.heap.size, 0, none⟩), .int .u64 150] 202)).cell? ⟨4, 0, none⟩ = some (.iface 235 (.agg #[.pointer (some ⟨9, 31, none⟩)])) := by
    rw [World.cell?_alloc_lt _ _ ⟨4, 0, none⟩ (by simp <;> omega), World.cell?_alloc_lt _ _ ⟨4, 0, none⟩ hlt]; exact hg
  have htl : t.block < w.heap.size := World.block_lt_of_cell? _ _ ht0
  have el := ErrAs.elemVPE ⟨w.heap.size, 0, none⟩ t (((w.alloc (.cells #[.pointer (some t)] 188)).alloc (.cells #[.pointer (some ⟨9, 188, none⟩), .pointer (some ⟨w.heap.size, 0, none⟩), .int .u64 150] 202)).alloc (.cells #[.pointer (some ⟨9, 188, none⟩), .pointer (some ⟨w.heap.size, 0, none⟩), .int .u64 150] 202)) (by rw [World.cell?_alloc_lt _ _ ⟨w.heap.size, 0, none⟩ (by simp; omega)]; simp)
  have st := ErrAs.setE t ⟨w.heap.size + 1 + 1 + 1, 0, none⟩ n old ((((w.alloc (.cells #[.pointer (some t)] 188)).alloc (.cells #[.pointer (some ⟨9, 188, none⟩), .pointer (some ⟨w.heap.size, 0, none⟩), .int .u64 150] 202)).alloc (.cells #[.pointer (some ⟨9, 188, none⟩), .pointer (some ⟨w.heap.size, 0, none⟩), .int .u64 150] 202)).alloc (.cells #[.int .i64 n] 26))
    (by rw [World.cell?_alloc_at _ _ _ _ (by simp)]; rfl)
    (by rw [World.cell?_alloc_lt _ _ t (by simp; omega), World.cell?_alloc_lt _ _ t (by simp; omega), World.cell?_alloc_lt _ _ t (by simp; omega), World.cell?_alloc_lt _ _ t htl]; exact ht0)
    (by rw [World.frozen?_alloc_old _ _ t (by simp; omega), World.frozen?_alloc_old _ _ t (by simp; omega), World.frozen?_alloc_old _ _ t (by simp; omega), World.frozen?_alloc_old _ _ t (Nat.ne_of_lt htl)]; exact hf0)
  have HG : Hid (ErrVar w) := hg
  clear hg
  go_enter Tryz.func139, Tryz.ntmps139
  go_wp2
  refine wp_loop_rounds 1 ?_
  rw [rounds_succ]
  go_wp2
  go_ret
  refine ⟨rfl, _, ?_, rfl⟩
  repeat (first | exact Below.refl _ _ | refine Below.alloc ?_ (by simp; try omega) _)
set_option maxHeartbeats 1000000 in
theorem tell_nil (w : World) : Calls Tryz.prog 96 #[.nilIface] w fun e w' => e = .returned (.int .i64 0) ∧ w' = w := by
  go_enter Tryz.func96, Tryz.ntmps96
  go_wp2_with fail
  go_ret
  exact ⟨rfl, rfl⟩
set_option maxHeartbeats 1000000 in
theorem tell_err (n : Int) (w : World) (hg : ErrVar w) : Calls Tryz.prog 96 #[.iface 26 (.int .i64 n)] w fun e w' => e = .returned (.int .i64 n) ∧ Below w.heap.size w w' := by
  have hlt : 4 < w.heap.size := World.block_lt_of_cell? _ _ hg
  have HG : Hid (ErrVar w) := hg
  clear hg
  go_enter Tryz.func96, Tryz.ntmps96
  go_wp2_with fail
  refine (as_hit n _ (.int .i64 0) _ ?_ ?_ ?_).mono ?_
  · exact (World.cell?_alloc_lt _ _ ⟨4, 0, none⟩ hlt).trans HG.out
  · simp
  · simp
  rintro e w' ⟨rfl, w1, hb, rfl⟩
  have hc := (hb.cell (p := ⟨w.heap.size, 0, none⟩) (by simp))
  have hc2 : w1.cell? ⟨w.heap.size, 0, none⟩ = some (.int .i64 0) := by rw [hc]; simp
  go_wp2_with fail
  go_ret
  refine ⟨rfl, ?_⟩
  exact (((Below.refl w.heap.size w).alloc (Nat.le_refl _) _).trans (hb.mono (by simp))).setCell (p := ⟨w.heap.size, 0, none⟩) (Nat.le_refl _) _
set_option maxHeartbeats 1000000 in
theorem bare_nil (w : World) : Calls Tryz.prog 52 #[.nilIface] w fun e w' => e = .returned (.tuple #[.int .i64 0, .bool true]) ∧ w' = w := by
  go_enter Tryz.func52, Tryz.ntmps52
  go_wp2_with fail
  refine (tell_nil _).mono ?_
  rintro e w' ⟨rfl, rfl⟩
  go_wp2_with fail
  refine wp_loop_rounds 1 ?_
  rw [rounds_succ]
  go_wp2_with fail
  go_ret2
  exact ⟨rfl, rfl⟩
end Go.Proofs.YtlailakofhenkaaGreatDoor

namespace Go.Proofs.YtlailakofhenkaaGreatDoor
open Go.RowKit Go.Extern.Stop Go.Stop Go.Extern
theorem noAt (v : Value) (w : World) : (Instr.typeAssert (.iface 26 v) 31 141 true).run Tryz.prog w = .ok (.tuple #[.pointer none, .bool false]) w := by kernel_rfl
set_option maxRecDepth 100000 in
set_option maxHeartbeats 1000000 in
theorem bare_err (n : Int) (w : World) (hg : ErrVar w) : Calls Tryz.prog 52 #[.iface 26 (.int .i64 n)] w fun e w' => e = .returned (.tuple #[.int .i64 n, .bool true]) ∧ Below w.heap.size w w' := by
  have ta : ∀ (v : Value) (w : World), (Instr.typeAssert (.iface 26 v) 31 143 true).run Tryz.prog w = .ok (.tuple #[.nilIface, .bool false]) w := fun v w => run_typeAssert_lacksB Tryz.underlying143 (by kernel_rfl) (by kernel_rfl) v 31 w
  have tb := noAt
  have HG : Hid (ErrVar w) := hg
  clear hg
  go_enter Tryz.func52, Tryz.ntmps52
  go_wp2_with fail
  refine (tell_err n _ HG.out).mono ?_
  rintro e w' ⟨rfl, hb⟩
  go_wp2_with fail
  refine wp_loop_rounds 1 ?_
  rw [rounds_succ]
  go_wp2_with fail
  go_ret2
  exact ⟨rfl, hb⟩
set_option maxHeartbeats 1000000 in
theorem lawBare_nil (n : Int) (w : World) : Calls Tryz.prog 11 #[.nilIface, .int .i64 n] w fun e w' => e = .returned (.bool ((0 : Int) == n)) ∧ w' = w := by
  go_enter Tryz.func11, Tryz.ntmps11
  go_wp2_with fail
  refine (bare_nil _).mono ?_
  rintro e w' ⟨rfl, rfl⟩
  go_wp2_with fail
  go_ret
  exact ⟨rfl, rfl⟩
set_option maxHeartbeats 1000000 in
theorem lawBare_err (m n : Int) (w : World) (hg : ErrVar w) : Calls Tryz.prog 11 #[.iface 26 (.int .i64 m), .int .i64 n] w fun e w' => e = .returned (.bool (m == n)) ∧ Below w.heap.size w w' := by
  have HG : Hid (ErrVar w) := hg
  clear hg
  go_enter Tryz.func11, Tryz.ntmps11
  go_wp2_with fail
  refine (bare_err m _ HG.out).mono ?_
  rintro e w' ⟨rfl, hb⟩
  go_wp2_with fail
  go_ret
  exact ⟨rfl, hb⟩
end Go.Proofs.YtlailakofhenkaaGreatDoor

/-
  An error by its number, held against that number, as the laws do it.
-/

namespace Go.Proofs.YtlailakofhenkaaGreatDoor
open Go Go.RowKit
theorem ErrVar.on {w w' : World} (h : ErrVar w) (hb : Below w.heap.size w w') : ErrVar w' := (hb.cell (p := ⟨4, 0, none⟩) (World.block_lt_of_cell? _ _ h)).trans h
theorem bareQ (n : Nat) (w : World) (hE : ErrVar w) : Calls Tryz.prog 11 #[errQ n, .int .i64 (n : Int)] w fun e w' => e = .returned (.bool true) ∧ Below w.heap.size w w' := by
  match n with
  | 0 => exact (lawBare_nil 0 w).mono (by rintro e w' ⟨rfl, rfl⟩; exact ⟨rfl, Below.refl _ _⟩)
  | n + 1 => exact (lawBare_err (n + 1 : Nat) (n + 1 : Nat) w hE).mono (by rintro e w' ⟨rfl, h⟩; exact ⟨by rw [beq_self_eq_true], h⟩)
end Go.Proofs.YtlailakofhenkaaGreatDoor

/-
  The law EventWrites: an event's line, and what may be a name, are the document's.
-/

namespace Go.Proofs.YtlailakofhenkaaGreatDoor
open Go Go.RowKit Tok Sc Ev
theorem refWriteE_yes (e : E) (w : World) (h : Ev.may e) (hs : Small 5000 e.fam) (hL : LibsE w) : Calls Tryz.prog 14 #[evV e] w fun r w' => r = .returned (.tuple #[.string (bs8 (line e)), .int .i64 0]) ∧ Below w.heap.size w w' := by
  obtain ⟨k, f, i, t⟩ := e
  rcases h with ⟨hk, hf, hi, ht⟩ | ⟨hk, hf, hi, ht⟩ | ⟨hk, hf, hi, ht⟩ <;> simp only at hk hf hi ht <;> subst hk
  · subst hi; subst ht
    exact refWrite_1 f w hf hs hL
  · subst hf; subst ht
    exact refWrite_2 i w hi hL
  · subst hf; subst hi
    exact refWrite_3 t w ht hL
set_option maxRecDepth 100000 in
set_option maxHeartbeats 8000000 in
theorem eventWritesLaw (e : E) (nm : ByteArray) (w : World) (hs : lens e.fam ≤ 10000000000000000) (hL : LibsE w) (hE : ErrVar w) : Calls Tryz.prog 4 #[evV e, .string nm] w fun r w' => r = .returned (.bool true) ∧ Below w.heap.size w w' := by
  have HL : Hid (LibsE w) := hL
  have HE : Hid (ErrVar w) := hE
  clear hL hE
  have HSH := fun (W : World) => short_is e W hs
  by_cases hsm : lens e.fam ≤ 300
  · rw [decide_eq_true hsm] at HSH
    have hS : Small 5000 e.fam := by unfold lens at hsm; unfold Small; omega
    have HHA := fun (W : World) => happens_is e W
    by_cases hn : nm.size ≤ 60
    · have hn' : (nm.size : Int) ≤ 60 := by omega
      obtain ⟨ln, nq, HRW, HPW⟩ : ∃ (ln : ByteArray) (nq : Nat), Hid (∀ W, LibsE W → Calls Tryz.prog 14 #[evV e] W fun r w' => r = .returned (.tuple #[.string ln, .int .i64 (nq : Int)]) ∧ Below W.heap.size W w') ∧ Hid (∀ W, LibsE W → Calls Tryz.prog 16 #[evV e] W fun r w' => r = .returned (.tuple #[.string ln, errQ nq]) ∧ Below W.heap.size W w') := by
        by_cases hm : Ev.may e
        · exact ⟨bs8 (line e), 0, fun W hW => refWriteE_yes e W hm hS hW, fun W hW => writeE_yes e W hm hS hW⟩
        · exact ⟨⟨#[]⟩, 1, fun W hW => refWrite_no e W hm hS, fun W hW => writeE_no e W hm hS hW.len⟩
      have hbq := bareQ nq
      have HN1 := fun (W : World) => name_is nm W (by omega)
      have HN2 := fun (W : World) => refName_is nm W (by omega)
      clear hs hsm hS
      have hbox := evAt_made w e 40 w.heap.size rfl
      obtain ⟨k, ⟨f1, f2, f3, f4, f5, f6, f7, f8, f9⟩, i, t⟩ := e
      unfold evV evCs at *
      simp only at HSH HHA hbox ⊢
      have HRW2 := HRW.out
      have HPW2 := HPW.out
      simp only at HRW2 HPW2
      clear HRW HPW
      have HB0 : Hid (Below w.heap.size w (w.alloc (.cells #[.int .i64 k, .int .i64 f1, .string f2, .string f3, .string f4, .int .i64 f5, .int .i64 f6, .int .i64 f7, .string f8, .bool f9, .int .i64 i, .int .i64 t] 40))) := (Below.refl _ _).alloc (Nat.le_refl _) _
      go_enter Tryz.func4, Tryz.ntmps4
      go_wp2_with fail
      refine (HSH _).mono ?_
      rintro e1 w1 ⟨rfl, hb1⟩
      have HX1 := hbox.on hb1
      have HB1 : Hid (Below w.heap.size w w1) := HB0.out.trans (hb1.mono HB0.out.size)
      have k0 := HX1.c0; have k1 := HX1.fam.c0; have k2 := HX1.fam.c1; have k3 := HX1.fam.c2; have k4 := HX1.fam.c3; have k5 := HX1.fam.c4; have k6 := HX1.fam.c5; have k7 := HX1.fam.c6; have k8 := HX1.fam.c7; have k9 := HX1.fam.c8; have k10 := HX1.c10; have k11 := HX1.c11
      simp only at k0 k1 k2 k3 k4 k5 k6 k7 k8 k9 k10 k11
      have HX1' : Hid _ := HX1
      clear HX1 hb1 hbox
      go_wp2_with fail
      refine (HHA _).mono ?_
      rintro e2 w2 ⟨rfl, hb2⟩
      have HX2 := HX1'.out.on hb2
      have HB2 : Hid (Below w.heap.size w w2) := HB1.out.trans (hb2.mono HB1.out.size)
      have HX2' : Hid _ := HX2
      clear hb2 k0 k1 k2 k3 k4 k5 k6 k7 k8 k9 k10 k11 HX2
      go_wp2_with fail
      refine (HRW2 _ (HL.out.below HB2.out)).mono ?_
      rintro e3 w3 ⟨rfl, hb3⟩
      have HX3 := HX2'.out.on hb3
      have HB3 : Hid (Below w.heap.size w w3) := HB2.out.trans (hb3.mono HB2.out.size)
      have k0 := HX3.c0; have k1 := HX3.fam.c0; have k2 := HX3.fam.c1; have k3 := HX3.fam.c2; have k4 := HX3.fam.c3; have k5 := HX3.fam.c4; have k6 := HX3.fam.c5; have k7 := HX3.fam.c6; have k8 := HX3.fam.c7; have k9 := HX3.fam.c8; have k10 := HX3.c10; have k11 := HX3.c11
      simp only at k0 k1 k2 k3 k4 k5 k6 k7 k8 k9 k10 k11
      clear hb3 HX3
      go_wp2_with fail
      refine (HPW2 _ (HL.out.below HB3.out)).mono ?_
      rintro e4 w4 ⟨rfl, hb4⟩
      have HB4 : Hid (Below w.heap.size w w4) := HB3.out.trans (hb4.mono HB3.out.size)
      clear hb4 k0 k1 k2 k3 k4 k5 k6 k7 k8 k9 k10 k11
      generalize errQ nq = ev at *
      go_wp2_with fail
      refine (hbq _ (HE.out.on (HB4.out))).mono ?_
      rintro e5 w5 ⟨rfl, hb5⟩
      have HB5 : Hid (Below w.heap.size w w5) := HB4.out.trans (hb5.mono HB4.out.size)
      clear hb5
      go_wp2_with fail
      refine (HN1 _).mono ?_
      rintro e6 w6 ⟨rfl, rfl⟩
      go_wp2_with fail
      refine (HN2 _).mono ?_
      rintro e7 w7 ⟨rfl, rfl⟩
      go_wp2_with fail
      go_ret
      exact ⟨by simp, HB5.out⟩
    · have hn' : ¬ (nm.size : Int) ≤ 60 := by omega
      have hn'' : (60 : Int) < (nm.size : Int) := by omega
      clear hs hsm hS HHA
      obtain ⟨k, ⟨f1, f2, f3, f4, f5, f6, f7, f8, f9⟩, i, t⟩ := e
      unfold evV evCs at *
      simp only at HSH ⊢
      have HB0 : Hid (Below w.heap.size w (w.alloc (.cells #[.int .i64 k, .int .i64 f1, .string f2, .string f3, .string f4, .int .i64 f5, .int .i64 f6, .int .i64 f7, .string f8, .bool f9, .int .i64 i, .int .i64 t] 40))) := (Below.refl _ _).alloc (Nat.le_refl _) _
      go_enter Tryz.func4, Tryz.ntmps4
      go_wp2_with fail
      refine (HSH _).mono ?_
      rintro e1 w1 ⟨rfl, hb1⟩
      have HB1 : Hid (Below w.heap.size w w1) := HB0.out.trans (hb1.mono HB0.out.size)
      clear hb1
      go_wp2_with fail
      go_ret
      exact ⟨rfl, HB1.out⟩
  · rw [decide_eq_false hsm] at HSH
    clear hs hsm
    obtain ⟨k, ⟨f1, f2, f3, f4, f5, f6, f7, f8, f9⟩, i, t⟩ := e
    unfold evV evCs at *
    simp only at HSH ⊢
    have HB0 : Hid (Below w.heap.size w (w.alloc (.cells #[.int .i64 k, .int .i64 f1, .string f2, .string f3, .string f4, .int .i64 f5, .int .i64 f6, .int .i64 f7, .string f8, .bool f9, .int .i64 i, .int .i64 t] 40))) := (Below.refl _ _).alloc (Nat.le_refl _) _
    go_enter Tryz.func4, Tryz.ntmps4
    go_wp2_with fail
    refine (HSH _).mono ?_
    rintro e1 w1 ⟨rfl, hb1⟩
    have HB1 : Hid (Below w.heap.size w w1) := HB0.out.trans (hb1.mono HB0.out.size)
    clear hb1
    go_wp2_with fail
    go_ret
    exact ⟨rfl, HB1.out⟩
end Go.Proofs.YtlailakofhenkaaGreatDoor
