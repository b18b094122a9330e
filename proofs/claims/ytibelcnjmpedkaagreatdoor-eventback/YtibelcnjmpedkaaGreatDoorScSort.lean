/-
  sort.Strings of a list that the call has made.
-/
import Derived.Test.YtibelcnjmpedkaaGreatDoorScRow
import Derived.Test.YtibelcnjmpedkaaGreatDoorShelf
import Derived.Lib.SortBridge
namespace Go.Proofs.YtibelcnjmpedkaaGreatDoor
open Go Go.RowKit
theorem below_growW {B : Nat} {w : World} (hB : B ≤ w.heap.size) (os : Array Obj) : Below B w (Go.Sort.grow w os) :=
  ⟨rfl, rfl, rfl, by simp, fun k hk => Go.Sort.heap_grow_old w os (Nat.lt_of_lt_of_le hk hB)⟩
def bytesOf (l : List (List UInt8)) : List ByteArray := l.map fun x => ⟨x.toArray⟩
theorem bytesOf_back (l : List (List UInt8)) : (bytesOf l).map (·.data.toList) = l := by
  unfold bytesOf
  rw [List.map_map]
  exact List.map_id' l
theorem sort_is {B : Nat} {w : World} {v : Value} {xs : List ByteArray} (h : Words B w v xs) (hn : xs.length ≤ 1000000) (hB : B ≤ w.heap.size) :
    Calls Tryz.prog 177 #[v] w fun e w' => e = .returned (.tuple #[]) ∧ Words B w' v (bytesOf ((xs.map (·.data.toList)).mergeSort fun x y => decide (x ≤ y))) ∧ Below B w w' := by
  rcases h with ⟨rfl, rfl⟩ | ⟨g, c, rfl, hr⟩
  · refine (Tryz.sort_Strings_none none 0 w).mono ?_
    rintro e w' ⟨rfl, rfl⟩
    exact ⟨rfl, .inl ⟨rfl, by simp [bytesOf]⟩, Below.refl _ _⟩
  · have hH : Go.Sort.Holds encStr w g 0 (xs.map (·.data.toList)).toArray := by
      intro j hj
      have hj' : j < xs.length := by simpa using hj
      rw [Nat.zero_add]
      refine ⟨?_, (hr.there j (Nat.lt_of_lt_of_le hj' hr.le)).2⟩
      refine hr.holds j _ ?_
      rw [List.getElem?_map, List.getElem?_eq_getElem hj', getElem!_pos _ j hj]
      simp [encStr]
    have hs := Tryz.sort_Strings g 0 c (xs.map (·.data.toList)) w hH hr.lt (by simp; omega)
    rw [List.length_map] at hs
    refine hs.mono ?_
    rintro e w' ⟨rfl, q, os, rfl⟩
    have hl : ((xs.map (·.data.toList)).mergeSort fun x y => decide (x ≤ y)).length = xs.length := by rw [List.length_mergeSort, List.length_map]
    rw [Lib.sorted_world encStr w g 0 q _ _ os hH (by rw [hl]; simp)]
    generalize ((xs.map (·.data.toList)).mergeSort fun x y => decide (x ≤ y)) = ys at *
    have hb1 : Below B w ((w.drewN q).setCells g 0 (ys.map encStr)) := (below_drewN' (Below.refl _ _) q).trans (below_setCellsW hr.new _ _ _)
    have hb2 : Below B ((w.drewN q).setCells g 0 (ys.map encStr)) (Go.Sort.grow ((w.drewN q).setCells g 0 (ys.map encStr)) os) := below_growW (Nat.le_trans hB hb1.size) os
    have e1 : (bytesOf ys).length = xs.length := by simp [bytesOf, hl]
    have e2 : (bytesOf ys).map Value.string = ys.map encStr := by
      unfold bytesOf
      rw [List.map_map]
      rfl
    refine ⟨rfl, .inr ⟨g, c, by rw [e1], ?_⟩, hb1.trans hb2⟩
    rw [e1, e2]
    have hrow := (hr.drewN q).setCells (cs' := ys.map encStr) 0 (ys.map encStr) (by rw [List.length_map, hl]; have := hr.le; omega) (by rw [List.length_map, hl]; exact hr.le) (fun j u hj => ⟨fun _ => hj, fun hh => by
      have := (List.getElem?_eq_some_iff.1 hj).1
      omega⟩)
    rw [List.length_map, hl] at hrow
    exact hrow.below (below_growW (Nat.le_refl _) os) hrow.lt
end Go.Proofs.YtibelcnjmpedkaaGreatDoor
