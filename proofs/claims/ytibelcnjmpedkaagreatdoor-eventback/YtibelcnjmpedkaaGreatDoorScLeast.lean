/-
  A scope's least form, and whether one is within another, as the program answers.
-/
import Derived.Test.YtibelcnjmpedkaaGreatDoorScUnlike
import Derived.Test.YtibelcnjmpedkaaGreatDoorScJoin
namespace Go.Proofs.YtibelcnjmpedkaaGreatDoor
open Go Go.RowKit Sc
theorem join_is {B : Nat} {w : World} {v : Value} {xs : List ByteArray} (h : Words B w v xs) (hn : (joined (xs.map (·.data.toList))).length ≤ 1000) (hx : xs.length ≤ 1000) :
    Calls Tryz.prog 57 #[v, .string ⟨#[43]⟩] w fun e w' => e = .returned (.string ⟨(joined (xs.map (·.data.toList))).toArray⟩) ∧ Below w.heap.size w w' := by
  rcases h with ⟨rfl, rfl⟩ | ⟨g, c, rfl, hr⟩
  · refine (Tryz.strings_Join_none none 0 ⟨#[43]⟩ w).mono ?_
    rintro e w' ⟨rfl, rfl⟩
    exact ⟨rfl, Below.refl _ _⟩
  · refine Tryz.strings_Join g 0 c xs ⟨#[43]⟩ w (fun j x hj => ?_) hr.lt (by omega) hr.le (by show (joined _).length ≤ _; omega)
    rw [Nat.zero_add]
    refine hr.holds j _ ?_
    rw [List.getElem?_map, hj]
    rfl
theorem errQ_succ (n : Nat) : errQ (n + 1) = .iface 26 (.int .i64 ((n + 1 : Nat) : Int)) := rfl
set_option maxRecDepth 100000 in
set_option maxHeartbeats 4000000 in
theorem leastS_is (s : ByteArray) (w : World) (hs : s.size ≤ 1000) (hL : LenOk w) : Calls Tryz.prog 178 #[.string s] w fun e w' => ∃ l n, e = .returned (.tuple #[.string ⟨(joined l).toArray⟩, errQ n]) ∧ Out s.data.toList l n ∧ Below w.heap.size w w' := by
  have HL : Hid (LenOk w) := hL
  clear hL
  go_enter Tryz.func178, Tryz.ntmps178
  go_wp2_with fail
  refine (readS_is s _ hs HL.out).mono ?_
  rintro e w1 ⟨v, xs, n, rfl, ho, hv, hb⟩
  have HO : Hid (Out s.data.toList (xs.map (·.data.toList)) n) := ho
  have HV : Hid (Words w.heap.size w1 v xs) := hv
  have HB : Hid (Below w.heap.size w w1) := hb
  have hln := out_len ho
  have hx5 : xs.length ≤ 5 := by simpa using hln.1
  have hj : (joined (xs.map (·.data.toList))).length ≤ 1000 := by omega
  clear ho hv hb hln
  cases n with
  | succ n =>
    have HN : Hid (Out s.data.toList [] (n + 1)) := by have := out_no HO.out; rw [← this]; exact HO.out
    rw [errQ_succ]
    go_wp2_with fail
    exact bodyPost_ret (v := .tuple #[.string ⟨#[]⟩, errQ (n + 1)]) (by simp [results, Tryz.results178, go_sem, errQ]) rfl ⟨[], n + 1, rfl, HN.out, HB.out⟩
  | zero =>
    rw [show errQ 0 = .nilIface from rfl]
    go_wp2_with fail
    refine (join_is HV.out hj (by omega)).mono ?_
    rintro e w2 ⟨rfl, hb2⟩
    have HB2 : Hid (Below w.heap.size w w2) := HB.out.trans (hb2.mono HB.out.size)
    clear hb2
    generalize hjj : joined (xs.map (·.data.toList)) = J at *
    have HJ : Hid (joined (xs.map (·.data.toList)) = J) := hjj
    clear hjj
    go_wp2_with fail
    exact bodyPost_ret (v := .tuple #[.string ⟨J.toArray⟩, .nilIface]) (by simp [results, Tryz.results178, go_sem]) rfl ⟨xs.map (·.data.toList), 0, by rw [HJ.out]; rfl, HO.out, HB2.out⟩
theorem inB_take (xs : List ByteArray) (m : List Word) (k : Nat) (hk : k < xs.length) : inB ((xs.map (·.data.toList)).take (k + 1)) m = (inB ((xs.map (·.data.toList)).take k) m && decide (xs[k].data.toList ∈ m)) := by
  unfold inB
  rw [List.take_succ_eq_append_getElem (by simpa using hk), List.all_append]
  simp
theorem inB_bad (xs : List ByteArray) (m : List Word) (k : Nat) (hk : k < xs.length) (h : decide (xs[k].data.toList ∈ m) = false) : inB (xs.map (·.data.toList)) m = false := by
  cases hb : inB (xs.map (·.data.toList)) m with
  | false => rfl
  | true =>
    have := inB_iff.1 hb xs[k].data.toList (mem_bytes.2 (List.getElem_mem hk))
    rw [decide_eq_false_iff_not] at h
    exact absurd this h
end Go.Proofs.YtibelcnjmpedkaaGreatDoor
