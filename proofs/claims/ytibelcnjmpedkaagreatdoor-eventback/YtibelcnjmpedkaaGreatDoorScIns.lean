/-
  slices.Insert of one text into a list that the call has made.
-/
import Derived.Test.YtibelcnjmpedkaaGreatDoorScRow
import Derived.Test.YtibelcnjmpedkaaGreatDoorShelf
namespace Go.Proofs.YtibelcnjmpedkaaGreatDoor
open Go Go.RowKit
theorem insert_is {B : Nat} {w : World} {v : Value} {xs : List ByteArray} (h : Words B w v xs) (i : Nat) (hi : i ≤ xs.length) (hn : xs.length ≤ 1000) (hB : B ≤ w.heap.size) (x : ByteArray) (t : TypeId) :
    Calls Tryz.prog 237 #[v, .int .i64 i, .slice (some ⟨w.heap.size, 0, none⟩) 1 1] (w.alloc (.cells #[.string x] t)) fun e w' => ∃ v', e = .returned v' ∧ Words B w' v' (xs.take i ++ x :: xs.drop i) ∧ Below B w w' := by
  have hbW : Below B w (w.alloc (.cells #[.string x] t)) := (Below.refl _ _).alloc hB _
  have hvs : ∀ j u, [Value.string x][j]? = some u → (w.alloc (.cells #[.string x] t)).cell? ⟨w.heap.size, 0 + j, none⟩ = some u := by
    intro j u hj
    match j, hj with
    | 0, hj => simp at hj; subst hj; simp
    | j + 1, hj => simp at hj
  have h1v : ∀ v ∈ [Value.string x], v.oneCell' = true := by intro v hv; simp at hv; subst hv; rfl
  have h1c : ∀ v ∈ xs.map Value.string, v.oneCell' = true := by
    intro v hv
    obtain ⟨y, _, rfl⟩ := List.mem_map.1 hv
    rfl
  have hmap : (xs.take i ++ x :: xs.drop i).map Value.string = (xs.map Value.string).take i ++ .string x :: (xs.map Value.string).drop i := by simp
  have hxl : (xs.take i ++ x :: xs.drop i).length = xs.length + 1 := ins_len xs i hi x
  have hcl : (xs.map Value.string).length = xs.length := by simp
  have hmaxW : xs.length + 1 ≤ maxLen := by unfold maxLen; omega
  rcases h with ⟨rfl, rfl⟩ | ⟨g, c, rfl, hr⟩
  · obtain rfl : i = 0 := by simpa using hi
    refine (Any2.slices_Insert_string_end_grow Tryz.laysNm222 none 0 0 w.heap.size 0 1 1 [] [.string x] _ (by omega) (by omega) (by omega) (by omega) rfl rfl (fun _ => rfl) (fun a ha => by cases ha) hvs h1v).mono ?_
    rintro e w' ⟨rfl, rfl⟩
    refine ⟨_, rfl, .inr ⟨_, _, rfl, ?_⟩, (hbW.drew).alloc (by simp; omega) _⟩
    have hg := grownCap_le_maxLen (w.alloc (.cells #[.string x] t)) (0 + 1) 0 9 (by unfold maxLen; omega)
    have hg1 := grownCap_ge (w.alloc (.cells #[.string x] t)) (0 + 1) 0 9
    exact rowAt_new (B := B) (w := (w.alloc (.cells #[.string x] t)).drew) (by simp; omega) [.string x] 1 rfl (.string ⟨#[]⟩) _ 9 hg hg1
  · have hrW : RowAt B (w.alloc (.cells #[.string x] t)) g c xs.length (xs.map Value.string) := hr.alloc _
    have hgw : w.heap.size ≠ g := by have := hr.lt; omega
    have hc63 : c ≤ 9223372036854775807 := hr.max
    have hcs : ∀ j v, (xs.map Value.string)[j]? = some v → (w.alloc (.cells #[.string x] t)).cell? ⟨g, 0 + j, none⟩ = some v := fun j v hj => by rw [Nat.zero_add]; exact hrW.holds j v hj
    have hg := grownCap_le_maxLen (w.alloc (.cells #[.string x] t)) (xs.length + 1) c 9 hmaxW
    have hg1 := grownCap_ge (w.alloc (.cells #[.string x] t)) (xs.length + 1) c 9
    by_cases hin : i = xs.length
    · subst hin
      by_cases hroom : xs.length + 1 ≤ c
      · refine (Any2.slices_Insert_string_end_room Tryz.laysNm222 g 0 xs.length c w.heap.size 0 1 1 [.string x] _ (by omega) hroom hc63 rfl (fun j hj => by rw [Nat.zero_add]; exact (hrW.there _ (by omega)).1) (fun j hj => by rw [Nat.zero_add]; exact (hrW.there _ (by omega)).2) hvs h1v).mono ?_
        rintro e w' ⟨rfl, rfl⟩
        refine ⟨_, rfl, .inr ⟨g, c, by rw [hxl], ?_⟩, hbW.trans (below_setCellsW hr.new _ _ _)⟩
        rw [show (xs.take xs.length ++ x :: xs.drop xs.length).length = ((xs.take xs.length ++ x :: xs.drop xs.length).map Value.string).length by simp]
        refine hrW.setCells _ _ (by simp; omega) (by rw [List.length_map, hxl]; omega) (fun j u hj => ?_)
        rw [hmap, ins_get _ _ (by rw [hcl]; omega)] at hj
        refine ⟨fun hh => ?_, fun hh => ?_⟩
        · have : j = xs.length := by simp at hh; omega
          subst this
          rw [if_neg (by omega), if_pos rfl] at hj
          simpa using hj
        · simp only [Nat.zero_add, List.length_singleton] at hh
          by_cases hj1 : j < xs.length
          · rw [if_pos hj1] at hj
            exact hrW.holds j u hj
          · rw [if_neg hj1, if_neg (by omega)] at hj
            have := (List.getElem?_eq_some_iff.1 hj).1
            simp at this
            omega
      · refine (Any2.slices_Insert_string_end_grow Tryz.laysNm222 (some ⟨g, 0, none⟩) xs.length c w.heap.size 0 1 1 (xs.map Value.string) [.string x] _ (by omega) hr.le (by omega) (by omega) hcl rfl (fun h => by cases h) (fun a ha j u hj => by
          cases ha
          rw [Addr.add_lit]
          exact hcs j u hj) hvs h1v).mono ?_
        rintro e w' ⟨rfl, rfl⟩
        refine ⟨_, rfl, .inr ⟨_, _, by rw [hxl], ?_⟩, (hbW.drew).alloc (by simp; omega) _⟩
        rw [hmap, hxl, show List.take xs.length (xs.map Value.string) ++ Value.string x :: List.drop xs.length (xs.map Value.string) = xs.map Value.string ++ [.string x] by
          rw [List.take_of_length_le (by simp), List.drop_of_length_le (by simp)]]
        exact rowAt_new (B := B) (w := (w.alloc (.cells #[.string x] t)).drew) (by simp; omega) (xs.map Value.string ++ [.string x]) (xs.length + 1) (by simp) (.string ⟨#[]⟩) _ 9 hg hg1
    · have hlt : i < xs.length := by omega
      by_cases hroom : xs.length + 1 ≤ c
      · obtain ⟨u0, hu0⟩ := Option.isSome_iff_exists.1 (hrW.there 0 (by omega)).1
        obtain ⟨tB, kB, hsb, hkB, _⟩ := World.shape?_of_cell? hu0
        have hsa : (w.alloc (.cells #[.string x] t)).shape? w.heap.size = some (t, 1) := by unfold World.shape?; rw [show (w.alloc (.cells #[.string x] t)).heap[w.heap.size]? = some (.cells #[.string x] t) from Array.getElem?_push_size]; rfl
        refine (Any2.slices_Insert_string_shift Tryz.laysNm222 g 0 xs.length c i w.heap.size 0 1 1 (xs.map Value.string) [.string x] _ hlt (by omega) hroom hc63 hgw hcl rfl hcs (fun j hj => by rw [Nat.zero_add]; exact (hrW.there j (by omega)).1) (fun j hj => by rw [Nat.zero_add]; exact (hrW.there j (by omega)).2) hvs h1c h1v t tB 1 kB hsa hsb (by simp at hkB; omega) (World.frozen?_alloc_at _ _ _ _ rfl) (World.frozen?_alloc_at _ _ _ _ rfl)).mono ?_
        rintro e w' ⟨rfl, rfl⟩
        refine ⟨_, rfl, .inr ⟨g, c, by rw [hxl], ?_⟩, (hbW.drew.trans (below_setCellsW hr.new _ _ _)).trans (below_setCellsW hr.new _ _ _)⟩
        rw [show (xs.take i ++ x :: xs.drop i).length = ((xs.take i ++ x :: xs.drop i).map Value.string).length by simp]
        have hmid : RowAt B ((w.alloc (.cells #[.string x] t)).drew.setCells g (0 + (i + 1)) ((xs.map Value.string).drop i)) g c (((xs.map Value.string).take (i + 1)) ++ (xs.map Value.string).drop i).length (((xs.map Value.string).take (i + 1)) ++ (xs.map Value.string).drop i) := by
          have hl1 : ((xs.map Value.string).take (i + 1)).length = i + 1 := by rw [List.length_take, hcl]; omega
          refine hrW.drew.setCells _ _ (by rw [List.length_drop, hcl]; omega) (by rw [List.length_append, hl1, List.length_drop, hcl]; omega) (fun j u hj => ⟨fun hh => ?_, fun hh => ?_⟩)
          · rw [List.getElem?_append_right (by omega), hl1] at hj
            rw [show j - (0 + (i + 1)) = j - (i + 1) by omega]
            exact hj
          · by_cases hj1 : j < i + 1
            · rw [List.getElem?_append_left (by omega), List.getElem?_take, if_pos hj1] at hj
              exact hrW.drew.holds j u hj
            · exfalso
              have := (List.getElem?_eq_some_iff.1 hj).1
              rw [List.length_append, hl1] at this
              omega
        refine hmid.setCells _ _ (by simp; omega) (by rw [List.length_map, hxl]; omega) (fun j u hj => ?_)
        rw [hmap, ins_get _ _ (by rw [hcl]; omega)] at hj
        have hl1 : ((xs.map Value.string).take (i + 1)).length = i + 1 := by rw [List.length_take, hcl]; omega
        refine ⟨fun hh => ?_, fun hh => ?_⟩
        · have : j = i := by simp at hh; omega
          subst this
          rw [if_neg (by omega), if_pos rfl] at hj
          simpa using hj
        · simp only [Nat.zero_add, List.length_singleton] at hh
          by_cases hj1 : j < i
          · rw [if_pos hj1] at hj
            refine hmid.holds j u ?_
            rw [List.getElem?_append_left (by omega), List.getElem?_take, if_pos (by omega)]
            exact hj
          · rw [if_neg hj1, if_neg (by omega)] at hj
            refine hmid.holds j u ?_
            rw [List.getElem?_append_right (by omega), hl1, List.getElem?_drop, show i + (j - (i + 1)) = j - 1 by omega]
            exact hj
      · refine (Any2.slices_Insert_string_grow Tryz.laysNm222 g 0 xs.length c i w.heap.size 0 1 1 (xs.map Value.string) [.string x] _ hlt (by omega) hr.le (by omega) (by omega) hcl rfl hcs hvs h1c h1v).mono ?_
        rintro e w' ⟨rfl, rfl⟩
        generalize hW : w.alloc (.cells #[.string x] t) = W at *
        have hBW : B ≤ W.heap.size := Nat.le_trans hB hbW.size
        refine ⟨_, rfl, .inr ⟨_, _, by rw [hxl], ?_⟩, (((hbW.alloc hBW _).drew.trans (below_setCellsW hBW _ _ _)).drew).trans (below_setCellsW hBW _ _ _)⟩
        rw [show (xs.take i ++ x :: xs.drop i).length = ((xs.take i ++ x :: xs.drop i).map Value.string).length by simp]
        have hti : ((xs.map Value.string).take i).length = i := by rw [List.length_take, hcl]; omega
        have h0 : RowAt B (W.alloc (.cells (((xs.map Value.string).take i).toArray ++ Builtin.zeroCells (Value.string ⟨#[]⟩).cells (xs.length + 1 - i) ++ Builtin.zeroCells (Value.string ⟨#[]⟩).cells (grownCap W (xs.length + 1) c 9 - (xs.length + 1))) 9)) W.heap.size (grownCap W (xs.length + 1) c 9) i ((xs.map Value.string).take i) := by
          have hs : (((xs.map Value.string).take i).toArray ++ Builtin.zeroCells (Value.string ⟨#[]⟩).cells (xs.length + 1 - i) ++ Builtin.zeroCells (Value.string ⟨#[]⟩).cells (grownCap W (xs.length + 1) c 9 - (xs.length + 1))).size = grownCap W (xs.length + 1) c 9 := by
            rw [Array.size_append, Array.size_append, size_zeroCells, size_zeroCells]
            simp [Value.cells, hti]
            omega
          refine ⟨hBW, by simp, hti, by omega, hg, fun j u hj => ?_, fun j hj => ⟨?_, World.frozen?_alloc_at _ _ _ _ (by simp)⟩⟩
          · have hl := (List.getElem?_eq_some_iff.1 hj).1
            rw [World.cell?_alloc_at _ _ _ _ (by simp), Array.append_assoc, Array.getElem?_append_left (by simpa using hl)]
            simpa using hj
          · rw [World.cell?_alloc_at _ _ _ _ (by simp), Array.getElem?_eq_getElem (by rw [hs]; exact hj)]
            rfl
        have hmid : RowAt B ((W.alloc (.cells (((xs.map Value.string).take i).toArray ++ Builtin.zeroCells (Value.string ⟨#[]⟩).cells (xs.length + 1 - i) ++ Builtin.zeroCells (Value.string ⟨#[]⟩).cells (grownCap W (xs.length + 1) c 9 - (xs.length + 1))) 9)).drew.setCells W.heap.size i [.string x]).drew W.heap.size (grownCap W (xs.length + 1) c 9) ((xs.map Value.string).take i ++ [Value.string x]).length ((xs.map Value.string).take i ++ [Value.string x]) := by
          refine (h0.drew.setCells _ _ (by simp; omega) (by rw [List.length_append, hti]; simp; omega) (fun j u hj => ⟨fun hh => ?_, fun hh => ?_⟩)).drew
          · have : j = i := by simp at hh; omega
            subst this
            rw [List.getElem?_append_right (by omega), hti] at hj
            exact hj
          · simp only [List.length_singleton] at hh
            by_cases hj1 : j < i
            · rw [List.getElem?_append_left (by omega)] at hj
              exact h0.drew.holds j u hj
            · exfalso
              have := (List.getElem?_eq_some_iff.1 hj).1
              rw [List.length_append, hti] at this
              simp at this
              omega
        refine hmid.setCells _ _ (by rw [List.length_drop, hcl]; omega) (by rw [List.length_map, hxl]; omega) (fun j u hj => ?_)
        rw [hmap, ins_get _ _ (by rw [hcl]; omega)] at hj
        refine ⟨fun hh => ?_, fun hh => ?_⟩
        · rw [if_neg (by omega), if_neg (by omega)] at hj
          rw [List.getElem?_drop, show i + (j - (i + 1)) = j - 1 by omega]
          exact hj
        · rw [List.length_drop, hcl] at hh
          by_cases hj1 : j < i
          · rw [if_pos hj1] at hj
            refine hmid.holds j u ?_
            rw [List.getElem?_append_left (by omega), List.getElem?_take, if_pos (by omega)]
            exact hj
          · rw [if_neg hj1] at hj
            by_cases hj2 : j = i
            · subst hj2
              rw [if_pos rfl] at hj
              refine hmid.holds j u ?_
              rw [List.getElem?_append_right (by omega), hti]
              simpa using hj
            · exfalso
              rw [if_neg hj2] at hj
              have := (List.getElem?_eq_some_iff.1 hj).1
              rw [hcl] at this
              omega
end Go.Proofs.YtibelcnjmpedkaaGreatDoor
