/-
  What may be an event, as the program has it.
-/
import Derived.Test.YtibelcnjmpedkaaGreatDoorEvRefMay
import Derived.Test.YtibelcnjmpedkaaGreatDoorScLeast
namespace Go.Proofs.YtibelcnjmpedkaaGreatDoor
open Go Go.RowKit Tok Sc Ev
theorem okB_lo {n : Int} (h : n < 0) : okB n = false := okB_f (fun k => by have := k.1; omega)
theorem okB_hi {n : Int} (h : 1099511627776 < n) : okB n = false := okB_f (fun k => by have := k.2; omega)
set_option maxHeartbeats 1000000 in
theorem beyond_is (n : Int) (w : World) : Calls Tryz.prog 142 #[.int .i64 n] w fun e w' => e = .returned (.bool (!okB n)) ∧ ∃ q, w' = w.drewN q := by
  by_cases h0 : n < 0
  · have HL : Hid (okB n = false) := okB_lo h0
    go_enter Tryz.func142, Tryz.ntmps142
    go_wp2_with fail
    go_ret
    exact ⟨by rw [HL.out]; rfl, 0, rfl⟩
  · by_cases h1 : 1099511627776 < n
    · have HL : Hid (okB n = false) := okB_hi h1
      go_enter Tryz.func142, Tryz.ntmps142
      go_wp2_with fail
      go_ret
      exact ⟨by rw [HL.out]; rfl, 0, rfl⟩
    · have HL : Hid (okB n = true) := okB_t ⟨by omega, by omega⟩
      go_enter Tryz.func142, Tryz.ntmps142
      go_wp2_with fail
      go_ret
      exact ⟨by rw [HL.out]; rfl, 0, rfl⟩
theorem all_any (ns : List Int) : (!(ns.any fun n => !okB n)) = ns.all okB := by
  induction ns with
  | nil => rfl
  | cons a l ih => rw [List.any_cons, List.all_cons, ← ih]; cases okB a <;> simp
set_option maxHeartbeats 1000000 in
theorem bounds_is (ns : List Int) (g c : Nat) (w : World) (hn : ns.length ≤ 1000) (hc : ∀ j (h : j < ns.length), w.cell? ⟨g, j, none⟩ = some (.int .i64 ns[j])) :
    Calls Tryz.prog 99 #[.slice (some ⟨g, 0, none⟩) ns.length c] w fun e w' => e = .returned (.bool (ns.all okB)) ∧ ∃ q, w' = w.drewN q := by
  rw [← all_any ns]
  have HC := Tryz.slices_ContainsFunc_f143 (Value.int .i64) (fun n => !okB n) 142 #[] (enters_of Tryz.func142 (by kernel_rfl) rfl) g 0 ns.length c ns w (fun W x _ => beyond_is x W) (Nat.le_refl _) (by omega) (fun j hj => by rw [Nat.zero_add, hc j hj, getElem!_pos ns j hj])
  rw [List.take_of_length_le (Nat.le_refl _)] at HC
  clear hc
  go_enter Tryz.func99, Tryz.ntmps99
  go_wp2_with fail
  refine HC.mono ?_
  rintro e w' ⟨rfl, q, rfl⟩
  go_wp2_with fail
  go_ret
  exact ⟨rfl, q, rfl⟩
set_option maxRecDepth 100000 in
set_option maxHeartbeats 2000000 in
theorem isLeast_is (s : ByteArray) (b : Bool) (hb : b = true ↔ Lst s.data.toList) (w : World) (hs : s.size ≤ 1000) (hL : LenOk w) : Calls Tryz.prog 141 #[.string s] w fun e w' => e = .returned (.bool b) ∧ Below w.heap.size w w' := by
  have HL : Hid (LenOk w) := hL
  have HB : Hid (b = true ↔ Lst s.data.toList) := hb
  clear hL hb
  go_enter Tryz.func141, Tryz.ntmps141
  go_wp2_with fail
  refine (leastS_is s _ hs HL.out).mono ?_
  rintro e w' ⟨l, n, rfl, ho, hbl⟩
  have HO : Hid (Out s.data.toList l n) := ho
  have HBL : Hid (Below w.heap.size w w') := hbl
  clear ho hbl
  generalize hJJ : joined l = J
  have HJJ : Hid (joined l = J) := hJJ
  clear hJJ
  cases n with
  | succ n =>
    have HQ : Hid (b = false) := bool_f HB.out (lst_not HO.out)
    rw [errQ_succ]
    go_wp2_with fail
    go_ret
    exact ⟨by rw [HQ.out]; rfl, HBL.out⟩
  | zero =>
    rw [show errQ 0 = .nilIface from rfl]
    by_cases hJ : J = s.data.toList
    · have HQ : Hid (b = true) := HB.out.2 ((lst_of HO.out).2 (HJJ.out.trans hJ))
      have hf4 : s = ⟨J.toArray⟩ := bytes_eq hJ.symm
      clear HO HB
      subst hf4
      go_wp2_with fail
      go_ret
      exact ⟨by rw [HQ.out]; rfl, HBL.out⟩
    · have HQ : Hid (b = false) := bool_f HB.out (fun h => hJ (HJJ.out.symm.trans ((lst_of HO.out).1 h)))
      have hne : (J == s.toList) = false := by rw [ByteArray.toList_eq, beq_eq_false_iff_ne]; exact hJ
      clear HO HB hJ
      go_wp2_with fail
      go_ret
      exact ⟨by rw [HQ.out]; rfl, HBL.out⟩
end Go.Proofs.YtibelcnjmpedkaaGreatDoor
