/-
  A scope's least form, and whether one is within another, as the document's answer has it.
-/
import Derived.Test.YtibelcnjmpedkaaGreatDoorScRef
import Derived.Test.YtibelcnjmpedkaaGreatDoorScPairs
namespace Go.Proofs.YtibelcnjmpedkaaGreatDoor
open Go Go.RowKit Sc
set_option maxRecDepth 100000 in
set_option maxHeartbeats 4000000 in
theorem refLeast_is (s : ByteArray) (w : World) (hs : s.size ≤ 1000) : Calls Tryz.prog 97 #[.string s] w fun e w' => ∃ l n, e = .returned (.tuple #[.string ⟨(joined l).toArray⟩, .int .i64 (n : Nat)]) ∧ Out s.data.toList l n ∧ Below w.heap.size w w' := by
  go_enter Tryz.func97, Tryz.ntmps97
  go_wp2_with fail
  refine (refScope_is s _ hs).mono ?_
  rintro e w1 ⟨v, xs, n, rfl, ho, hv, hb⟩
  have HO : Hid (Out s.data.toList (xs.map (·.data.toList)) n) := ho
  have HV : Hid (Words w.heap.size w1 v xs) := hv
  have HB : Hid (Below w.heap.size w w1) := hb
  have hln := out_len ho
  have hx5 : xs.length ≤ 5 := by simpa using hln.1
  have hj : (joined (xs.map (·.data.toList))).length ≤ 1000 := by omega
  clear ho hv hb hln
  go_wp2_with fail
  refine (join_is HV.out hj (by omega)).mono ?_
  rintro e w2 ⟨rfl, hb2⟩
  have HB2 : Hid (Below w.heap.size w w2) := HB.out.trans (hb2.mono HB.out.size)
  clear hb2
  generalize hjj : joined (xs.map (·.data.toList)) = J at *
  have HJ : Hid (joined (xs.map (·.data.toList)) = J) := hjj
  clear hjj
  go_wp2_with fail
  exact bodyPost_ret (v := .tuple #[.string ⟨J.toArray⟩, .int .i64 (n : Nat)]) (by simp [results, Tryz.results97, go_sem]) rfl ⟨xs.map (·.data.toList), n, by rw [HJ.out], HO.out, HB2.out⟩
theorem Words.row {B : Nat} {w : World} {base : Option Addr} {c : Nat} {xs : List ByteArray} (h : Words B w (.slice base xs.length c) xs) (hp : 0 < xs.length) : ∃ g, base = some ⟨g, 0, none⟩ ∧ RowAt B w g c xs.length (xs.map Value.string) := by
  rcases h with ⟨_, rfl⟩ | ⟨g, c', e1, h2⟩
  · simp at hp
  · injection e1 with e1 _ e2
    subst e2
    exact ⟨g, e1, h2⟩
theorem Words.cell {B : Nat} {w : World} {base : Option Addr} {c : Nat} {xs : List ByteArray} (h : Words B w (.slice base xs.length c) xs) (j : Nat) (hj : j < xs.length) : ∃ g, base = some ⟨g, 0, none⟩ ∧ w.cell? ⟨g, j, none⟩ = some (.string xs[j]) := by
  obtain ⟨g, e, hr⟩ := h.row (by omega)
  exact ⟨g, e, hr.holds j _ (by rw [List.getElem?_map, List.getElem?_eq_getElem hj]; rfl)⟩
theorem pairs_bytes (xs ys : List ByteArray) (k : Nat) (h : k < xs.length) : pairsOf ((xs.map (·.data.toList)).take (k + 1)) (ys.map (·.data.toList)) = pairsOf ((xs.map (·.data.toList)).take k) (ys.map (·.data.toList)) + (ys.map (·.data.toList)).count xs[k].data.toList := by
  rw [pairs_take _ _ k (by simpa using h)]
  simp
theorem count_bytes (ys : List ByteArray) (p : List UInt8) (k : Nat) (h : k < ys.length) : ((ys.map (·.data.toList)).take (k + 1)).count p = ((ys.map (·.data.toList)).take k).count p + if ys[k].data.toList = p then 1 else 0 := by
  rw [count_take _ _ k (by simpa using h)]
  simp
end Go.Proofs.YtibelcnjmpedkaaGreatDoor
