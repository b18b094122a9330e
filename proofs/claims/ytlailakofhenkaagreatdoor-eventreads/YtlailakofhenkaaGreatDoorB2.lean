/-
  Own texts put together: ScIns, ScWalk, Sip, Hex.
-/
import Derived.Test.YtlailakofhenkaaGreatDoorB1
import Derived.Test.YtlailakofhenkaaGreatDoorShelf
import Derived.Deep.LoopGhost
import Derived.WalkKit
import Derived.WalkSpells
import Derived.WalkLawsBesides
/-
  slices.Insert of one text into a list that the call has made.
-/

namespace Go.Proofs.YtlailakofhenkaaGreatDoor
open Go Go.RowKit
theorem insert_is {B : Nat} {w : World} {v : Value} {xs : List ByteArray} (h : Words B w v xs) (i : Nat) (hi : i ≤ xs.length) (hn : xs.length ≤ 5000) (hB : B ≤ w.heap.size) (x : ByteArray) (t : TypeId) :
    Calls Tryz.prog 237 #[v, .int .i64 i, .slice (some ⟨w.heap.size, 0, none⟩) 1 1] (w.alloc (.cells #[.string x] t)) fun e w' => ∃ v', e = .returned v' ∧ Words B w' v' (xs.take i ++ x :: xs.drop i) ∧ Below B w w' := by
  have hbW : Below B w (w.alloc (.cells #[.string x] t)) := (Below.refl _ _).alloc hB _
  have hvs : ∀ j u, [Value.string x][j]? = some u → (w.alloc (.cells #[.string x] t)).cell? ⟨w.heap.size, 0 + j, none⟩ = some u := by
    intro j u hj
    match j, hj with
    | 0, hj => simp at hj; subst hj; simp
    | j + 1, hj => simp at hj
  have h1v : ∀ v ∈ [Value.string x], v.oneCell' = true := by intro v hv; simp at hv; subst hv; rfl
  have h1c : ∀ v ∈ xs.map Value.string, v.oneCell' = true := by
    intro v hv
    obtain ⟨y, _, rfl⟩ := List.mem_map.1 hv
    rfl
  have hmap : (xs.take i ++ x :: xs.drop i).map Value.string = (xs.map Value.string).take i ++ .string x :: (xs.map Value.string).drop i := by simp
  have hxl : (xs.take i ++ x :: xs.drop i).length = xs.length + 1 := ins_len xs i hi x
  have hcl : (xs.map Value.string).length = xs.length := by simp
  have hmaxW : xs.length + 1 ≤ maxLen := by unfold maxLen; omega
  rcases h with ⟨rfl, rfl⟩ | ⟨g, c, rfl, hr⟩
  · obtain rfl : i = 0 := by simpa using hi
    refine (Any2.slices_Insert_string_end_grow Tryz.laysNm222 none 0 0 w.heap.size 0 1 1 [] [.string x] _ (by omega) (by omega) (by omega) (by omega) rfl rfl (fun _ => rfl) (fun a ha => by cases ha) hvs h1v).mono ?_
    rintro e w' ⟨rfl, rfl⟩
    refine ⟨_, rfl, .inr ⟨_, _, rfl, ?_⟩, (hbW.drew).alloc (by simp; omega) _⟩
    have hg := grownCap_le_maxLen (w.alloc (.cells #[.string x] t)) (0 + 1) 0 9 (by unfold maxLen; omega)
    have hg1 := grownCap_ge (w.alloc (.cells #[.string x] t)) (0 + 1) 0 9
    exact rowAt_new (B := B) (w := (w.alloc (.cells #[.string x] t)).drew) (by simp; omega) [.string x] 1 rfl (.string ⟨#[]⟩) _ 9 hg hg1
  · have hrW : RowAt B (w.alloc (.cells #[.string x] t)) g c xs.length (xs.map Value.string) := hr.alloc _
    have hgw : w.heap.size ≠ g := by have := hr.lt; omega
    have hc63 : c ≤ 9223372036854775807 := hr.max
    have hcs : ∀ j v, (xs.map Value.string)[j]? = some v → (w.alloc (.cells #[.string x] t)).cell? ⟨g, 0 + j, none⟩ = some v := fun j v hj => by rw [Nat.zero_add]; exact hrW.holds j v hj
    have hg := grownCap_le_maxLen (w.alloc (.cells #[.string x] t)) (xs.length + 1) c 9 hmaxW
    have hg1 := grownCap_ge (w.alloc (.cells #[.string x] t)) (xs.length + 1) c 9
    by_cases hin : i = xs.length
    · subst hin
      by_cases hroom : xs.length + 1 ≤ c
      · refine (Any2.slices_Insert_string_end_room Tryz.laysNm222 g 0 xs.length c w.heap.size 0 1 1 [.string x] _ (by omega) hroom hc63 rfl (fun j hj => by rw [Nat.zero_add]; exact (hrW.there _ (by omega)).1) (fun j hj => by rw [Nat.zero_add]; exact (hrW.there _ (by omega)).2) hvs h1v).mono ?_
        rintro e w' ⟨rfl, rfl⟩
        refine ⟨_, rfl, .inr ⟨g, c, by rw [hxl], ?_⟩, hbW.trans (below_setCellsW hr.new _ _ _)⟩
        rw [show (xs.take xs.length ++ x :: xs.drop xs.length).length = ((xs.take xs.length ++ x :: xs.drop xs.length).map Value.string).length by simp]
        refine hrW.setCells _ _ (by simp; omega) (by rw [List.length_map, hxl]; omega) (fun j u hj => ?_)
        rw [hmap, ins_get _ _ (by rw [hcl]; omega)] at hj
        refine ⟨fun hh => ?_, fun hh => ?_⟩
        · have : j = xs.length := by simp at hh; omega
          subst this
          rw [if_neg (by omega), if_pos rfl] at hj
          simpa using hj
        · simp only [Nat.zero_add, List.length_singleton] at hh
          by_cases hj1 : j < xs.length
          · rw [if_pos hj1] at hj
            exact hrW.holds j u hj
          · rw [if_neg hj1, if_neg (by omega)] at hj
            have := (List.getElem?_eq_some_iff.1 hj).1
            simp at this
            omega
      · refine (Any2.slices_Insert_string_end_grow Tryz.laysNm222 (some ⟨g, 0, none⟩) xs.length c w.heap.size 0 1 1 (xs.map Value.string) [.string x] _ (by omega) hr.le (by omega) (by omega) hcl rfl (fun h => by cases h) (fun a ha j u hj => by
          cases ha
          rw [Addr.add_lit]
          exact hcs j u hj) hvs h1v).mono ?_
        rintro e w' ⟨rfl, rfl⟩
        refine ⟨_, rfl, .inr ⟨_, _, by rw [hxl], ?_⟩, (hbW.drew).alloc (by simp; omega) _⟩
        rw [hmap, hxl, show List.take xs.length (xs.map Value.string) ++ Value.string x :: List.drop xs.length (xs.map Value.string) = xs.map Value.string ++ [.string x] by
          rw [List.take_of_length_le (by simp), List.drop_of_length_le (by simp)]]
        exact rowAt_new (B := B) (w := (w.alloc (.cells #[.string x] t)).drew) (by simp; omega) (xs.map Value.string ++ [.string x]) (xs.length + 1) (by simp) (.string ⟨#[]⟩) _ 9 hg hg1
    · have hlt : i < xs.length := by omega
      by_cases hroom : xs.length + 1 ≤ c
      · obtain ⟨u0, hu0⟩ := Option.isSome_iff_exists.1 (hrW.there 0 (by omega)).1
        obtain ⟨tB, kB, hsb, hkB, _⟩ := World.shape?_of_cell? hu0
        have hsa : (w.alloc (.cells #[.string x] t)).shape? w.heap.size = some (t, 1) := by unfold World.shape?; rw [show (w.alloc (.cells #[.string x] t)).heap[w.heap.size]? = some (.cells #[.string x] t) from Array.getElem?_push_size]; rfl
        refine (Any2.slices_Insert_string_shift Tryz.laysNm222 g 0 xs.length c i w.heap.size 0 1 1 (xs.map Value.string) [.string x] _ hlt (by omega) hroom hc63 hgw hcl rfl hcs (fun j hj => by rw [Nat.zero_add]; exact (hrW.there j (by omega)).1) (fun j hj => by rw [Nat.zero_add]; exact (hrW.there j (by omega)).2) hvs h1c h1v t tB 1 kB hsa hsb (by simp at hkB; omega) (World.frozen?_alloc_at _ _ _ _ rfl) (World.frozen?_alloc_at _ _ _ _ rfl)).mono ?_
        rintro e w' ⟨rfl, rfl⟩
        refine ⟨_, rfl, .inr ⟨g, c, by rw [hxl], ?_⟩, (hbW.drew.trans (below_setCellsW hr.new _ _ _)).trans (below_setCellsW hr.new _ _ _)⟩
        rw [show (xs.take i ++ x :: xs.drop i).length = ((xs.take i ++ x :: xs.drop i).map Value.string).length by simp]
        have hmid : RowAt B ((w.alloc (.cells #[.string x] t)).drew.setCells g (0 + (i + 1)) ((xs.map Value.string).drop i)) g c (((xs.map Value.string).take (i + 1)) ++ (xs.map Value.string).drop i).length (((xs.map Value.string).take (i + 1)) ++ (xs.map Value.string).drop i) := by
          have hl1 : ((xs.map Value.string).take (i + 1)).length = i + 1 := by rw [List.length_take, hcl]; omega
          refine hrW.drew.setCells _ _ (by rw [List.length_drop, hcl]; omega) (by rw [List.length_append, hl1, List.length_drop, hcl]; omega) (fun j u hj => ⟨fun hh => ?_, fun hh => ?_⟩)
          · rw [List.getElem?_append_right (by omega), hl1] at hj
            rw [show j - (0 + (i + 1)) = j - (i + 1) by omega]
            exact hj
          · by_cases hj1 : j < i + 1
            · rw [List.getElem?_append_left (by omega), List.getElem?_take, if_pos hj1] at hj
              exact hrW.drew.holds j u hj
            · exfalso
              have := (List.getElem?_eq_some_iff.1 hj).1
              rw [List.length_append, hl1] at this
              omega
        refine hmid.setCells _ _ (by simp; omega) (by rw [List.length_map, hxl]; omega) (fun j u hj => ?_)
        rw [hmap, ins_get _ _ (by rw [hcl]; omega)] at hj
        have hl1 : ((xs.map Value.string).take (i + 1)).length = i + 1 := by rw [List.length_take, hcl]; omega
        refine ⟨fun hh => ?_, fun hh => ?_⟩
        · have : j = i := by simp at hh; omega
          subst this
          rw [if_neg (by omega), if_pos rfl] at hj
          simpa using hj
        · simp only [Nat.zero_add, List.length_singleton] at hh
          by_cases hj1 : j < i
          · rw [if_pos hj1] at hj
            refine hmid.holds j u ?_
            rw [List.getElem?_append_left (by omega), List.getElem?_take, if_pos (by omega)]
            exact hj
          · rw [if_neg hj1, if_neg (by omega)] at hj
            refine hmid.holds j u ?_
            rw [List.getElem?_append_right (by omega), hl1, List.getElem?_drop, show i + (j - (i + 1)) = j - 1 by omega]
            exact hj
      · refine (Any2.slices_Insert_string_grow Tryz.laysNm222 g 0 xs.length c i w.heap.size 0 1 1 (xs.map Value.string) [.string x] _ hlt (by omega) hr.le (by omega) (by omega) hcl rfl hcs hvs h1c h1v).mono ?_
        rintro e w' ⟨rfl, rfl⟩
        generalize hW : w.alloc (.cells #[.string x] t) = W at *
        have hBW : B ≤ W.heap.size := Nat.le_trans hB hbW.size
        refine ⟨_, rfl, .inr ⟨_, _, by rw [hxl], ?_⟩, (((hbW.alloc hBW _).drew.trans (below_setCellsW hBW _ _ _)).drew).trans (below_setCellsW hBW _ _ _)⟩
        rw [show (xs.take i ++ x :: xs.drop i).length = ((xs.take i ++ x :: xs.drop i).map Value.string).length by simp]
        have hti : ((xs.map Value.string).take i).length = i := by rw [List.length_take, hcl]; omega
        have h0 : RowAt B (W.alloc (.cells (((xs.map Value.string).take i).toArray ++ Builtin.zeroCells (Value.string ⟨#[]⟩).cells (xs.length + 1 - i) ++ Builtin.zeroCells (Value.string ⟨#[]⟩).cells (grownCap W (xs.length + 1) c 9 - (xs.length + 1))) 9)) W.heap.size (grownCap W (xs.length + 1) c 9) i ((xs.map Value.string).take i) := by
          have hs : (((xs.map Value.string).take i).toArray ++ Builtin.zeroCells (Value.string ⟨#[]⟩).cells (xs.length + 1 - i) ++ Builtin.zeroCells (Value.string ⟨#[]⟩).cells (grownCap W (xs.length + 1) c 9 - (xs.length + 1))).size = grownCap W (xs.length + 1) c 9 := by
            rw [Array.size_append, Array.size_append, size_zeroCells, size_zeroCells]
            simp [Value.cells, hti]
            omega
          refine ⟨hBW, by simp, hti, by omega, hg, fun j u hj => ?_, fun j hj => ⟨?_, World.frozen?_alloc_at _ _ _ _ (by simp)⟩⟩
          · have hl := (List.getElem?_eq_some_iff.1 hj).1
            rw [World.cell?_alloc_at _ _ _ _ (by simp), Array.append_assoc, Array.getElem?_append_left (by simpa using hl)]
            simpa using hj
          · rw [World.cell?_alloc_at _ _ _ _ (by simp), Array.getElem?_eq_getElem (by rw [hs]; exact hj)]
            rfl
        have hmid : RowAt B ((W.alloc (.cells (((xs.map Value.string).take i).toArray ++ Builtin.zeroCells (Value.string ⟨#[]⟩).cells (xs.length + 1 - i) ++ Builtin.zeroCells (Value.string ⟨#[]⟩).cells (grownCap W (xs.length + 1) c 9 - (xs.length + 1))) 9)).drew.setCells W.heap.size i [.string x]).drew W.heap.size (grownCap W (xs.length + 1) c 9) ((xs.map Value.string).take i ++ [Value.string x]).length ((xs.map Value.string).take i ++ [Value.string x]) := by
          refine (h0.drew.setCells _ _ (by simp; omega) (by rw [List.length_append, hti]; simp; omega) (fun j u hj => ⟨fun hh => ?_, fun hh => ?_⟩)).drew
          · have : j = i := by simp at hh; omega
            subst this
            rw [List.getElem?_append_right (by omega), hti] at hj
            exact hj
          · simp only [List.length_singleton] at hh
            by_cases hj1 : j < i
            · rw [List.getElem?_append_left (by omega)] at hj
              exact h0.drew.holds j u hj
            · exfalso
              have := (List.getElem?_eq_some_iff.1 hj).1
              rw [List.length_append, hti] at this
              simp at this
              omega
        refine hmid.setCells _ _ (by rw [List.length_drop, hcl]; omega) (by rw [List.length_map, hxl]; omega) (fun j u hj => ?_)
        rw [hmap, ins_get _ _ (by rw [hcl]; omega)] at hj
        refine ⟨fun hh => ?_, fun hh => ?_⟩
        · rw [if_neg (by omega), if_neg (by omega)] at hj
          rw [List.getElem?_drop, show i + (j - (i + 1)) = j - 1 by omega]
          exact hj
        · rw [List.length_drop, hcl] at hh
          by_cases hj1 : j < i
          · rw [if_pos hj1] at hj
            refine hmid.holds j u ?_
            rw [List.getElem?_append_left (by omega), List.getElem?_take, if_pos (by omega)]
            exact hj
          · rw [if_neg hj1] at hj
            by_cases hj2 : j = i
            · subst hj2
              rw [if_pos rfl] at hj
              refine hmid.holds j u ?_
              rw [List.getElem?_append_right (by omega), hti]
              simpa using hj
            · exfalso
              rw [if_neg hj2] at hj
              have := (List.getElem?_eq_some_iff.1 hj).1
              rw [hcl] at this
              omega
end Go.Proofs.YtlailakofhenkaaGreatDoor

/-
  A scope as the program reads it: its form, its words in order, each once.
-/

namespace Go.Proofs.YtlailakofhenkaaGreatDoor
open Go Go.RowKit Sc
def LenOk (w : World) : Prop := ∃ m, w.cell? ⟨0, 0, none⟩ = some (.int .i64 m)
theorem LenOk.below {w w' : World} (h : LenOk w) (hb : Below w.heap.size w w') : LenOk w' := by
  obtain ⟨m, hm⟩ := h
  exact ⟨m, (hb.cell (p := ⟨0, 0, none⟩) (World.block_lt_of_cell? _ _ hm)).trans hm⟩
theorem LenOk.belowB {B : Nat} {w w' : World} (h : LenOk w) (hb : Below B w w') (hB : w.heap.size = B) : LenOk w' := h.below (hB ▸ hb)
theorem all_take (s : ByteArray) (k : Nat) (h : k < s.size) : (s.data.toList.take (k + 1)).all lowB = ((s.data.toList.take k).all lowB && lowB s[k]) := by
  rw [List.take_succ_eq_append_getElem (by simpa using h), List.all_append]
  simp
  rfl
theorem all_bad {s : ByteArray} {k : Nat} (h : k < s.size) (hb : lowB s[k] = false) : wordB s.data.toList = false := by
  cases hw : wordB s.data.toList with
  | false => rfl
  | true =>
    have := (wordB_iff.1 hw).2 s[k] (by
      show s.data[k] ∈ s.data.toList
      exact Array.mem_toList_iff.2 (Array.getElem_mem h))
    rw [hb] at this
    cases this
theorem word_full {s : ByteArray} (h : (s.data.toList.take s.size).all lowB = true) : wordB s.data.toList = !s.data.toList.isEmpty := by
  rw [List.take_of_length_le (by simp)] at h
  unfold wordB
  rw [h]
  cases s.data.toList <;> rfl
set_option maxRecDepth 100000 in
set_option maxHeartbeats 2000000 in
theorem isWord_is (s : ByteArray) (w : World) (hs : s.size ≤ 10000) : Calls Tryz.prog 235 #[.string s] w fun e w' => e = .returned (.bool (wordB s.data.toList)) ∧ w' = w := by
  have HBAD : Hid (∀ k (h : k < s.size), lowB s[k] = false → wordB s.data.toList = false) := fun k h => all_bad h
  have HT : Hid (∀ k (h : k < s.size), (s.data.toList.take (k + 1)).all lowB = ((s.data.toList.take k).all lowB && lowB s[k])) := all_take s
  have HF : Hid ((s.data.toList.take s.size).all lowB = true → wordB s.data.toList = !s.data.toList.isEmpty) := word_full
  go_enter Tryz.func235, Tryz.ntmps235
  go_wp2_with fail
  go_loopg [6] s.size (fun gk i wr => ∃ k : Nat, k + gk = s.size ∧ i = .int .i64 k ∧ Hid ((s.data.toList.take k).all lowB = true) ∧ wr = w)
  case atStart => exact ⟨0, by omega, rfl, by simp [Hid], rfl⟩
  case round =>
    obtain ⟨k, hk, rfl, HA, rfl⟩ := hrel
    have HK : Hid (k + gk = s.size) := hk
    have hks : k ≤ s.size := by omega
    clear hk
    by_cases hlt : k < s.size
    · have hltI : (k : Int) < (s.size : Int) := by omega
      by_cases h1 : 97 ≤ s[k].toNat
      · by_cases h2 : s[k].toNat ≤ 122
        · have HL : Hid (lowB s[k] = true) := lowB_t h1 h2
          go_wp2_with fail
          go_roundg (gk - 1)
          case measure => have := HK.out; omega
          case rel => exact ⟨k + 1, by have := HK.out; omega, by go_num, by show _ = true; rw [HT.out k hlt, HA.out, HL.out]; rfl, rfl⟩
        · have HW : Hid (wordB s.data.toList = false) := HBAD.out k hlt (lowB_f (by omega))
          go_wp2_with fail
          go_ret
          exact ⟨by rw [HW.out]; rfl, rfl⟩
      · have HW : Hid (wordB s.data.toList = false) := HBAD.out k hlt (lowB_f (by omega))
        go_wp2_with fail
        go_ret
        exact ⟨by rw [HW.out]; rfl, rfl⟩
    · obtain rfl : k = s.size := by omega
      have HW : Hid (wordB s.data.toList = !s.data.toList.isEmpty) := HF.out HA.out
      go_wp2_with fail
      go_ret
      exact ⟨by rw [HW.out, ← ByteArray.toList_eq]; rfl, rfl⟩
theorem formed_nil : formedB [] = true := rfl
theorem formed_left {s : List UInt8} (h : s ≠ []) : formedB s = (left true s).all wordB := by
  unfold formedB
  rw [words_ne h]
  rfl
theorem blist (l : List UInt8) : (⟨l.toArray⟩ : ByteArray).data.toList = l := rfl
theorem bsize (l : List UInt8) : (⟨l.toArray⟩ : ByteArray).size = l.length := by simp [ByteArray.size]
theorem bne_list {s : ByteArray} (h : s ≠ ⟨#[]⟩) : s.data.toList ≠ [] := fun e => h (by
  apply ByteArray.ext
  exact Array.toList_inj.1 e)
set_option maxRecDepth 100000 in
set_option maxHeartbeats 2000000 in
theorem isScope_is (s : ByteArray) (w : World) (hs : s.size ≤ 5000) (hL : LenOk w) : Calls Tryz.prog 221 #[.string s] w fun e w' => e = .returned (.bool (formedB s.data.toList)) ∧ ∃ n, w' = w.drewN n := by
  have HL : Hid (LenOk w) := hL
  clear hL
  by_cases h0 : s = ⟨#[]⟩
  · subst h0
    go_enter Tryz.func221, Tryz.ntmps221
    go_wp2_with fail
    go_ret
    exact ⟨rfl, 0, rfl⟩
  · have HS : Hid (formedB s.data.toList = (left true s.data.toList).all wordB) := formed_left (bne_list h0)
    have hne : s.toList.isEmpty = false := by
      rw [ByteArray.toList_eq, List.isEmpty_eq_false_iff]
      exact bne_list h0
    clear h0
    go_enter Tryz.func221, Tryz.ntmps221
    go_wp2_with fail
    go_loopg [0, 3] (s.size + 1) (fun gk sv mv wr => ∃ (l : List UInt8) (more : Bool) (n : Nat), sv = .string ⟨l.toArray⟩ ∧ mv = .bool more ∧ Hid (if more then l.length < gk else True) ∧ l.length ≤ 5000 ∧ Hid (formedB s.data.toList = (left more l).all wordB) ∧ wr = w.drewN n)
    case atStart => exact ⟨s.data.toList, true, 0, rfl, rfl, by show s.data.toList.length < s.size + 1; simp, by simpa using hs, HS.out, rfl⟩
    case round =>
      obtain ⟨l, more, n, rfl, rfl, HG, hl, HFm, rfl⟩ := hrel
      cases more with
      | false =>
        have HF2 : Hid (formedB s.data.toList = true) := HFm.out
        go_wp2_with fail
        go_ret
        exact ⟨by rw [HF2.out]; rfl, n, rfl⟩
      | true =>
        have HFm2 : Hid (formedB s.data.toList = (left true l).all wordB) := HFm.out
        have hlt : l.length < gk := HG.out
        have HLT : Hid (l.length < gk) := hlt
        obtain ⟨m, hm⟩ := HL.out
        have hcut := Tryz.strings_Cut ⟨l.toArray⟩ ⟨#[43]⟩ m (w.drewN n) (by rw [bsize]; omega) hm
        rw [blist, show (⟨#[43]⟩ : ByteArray).data.toList = [43] from rfl] at hcut
        have hst := left_step l
        have hln := left_len l
        generalize (Lib.cut l [43]).1 = a at *
        generalize (Lib.cut l [43]).2.1 = b at *
        generalize (Lib.cut l [43]).2.2 = f at *
        have HST : Hid (left true l = a :: left f b) := hst
        have HLN : Hid (f = true → b.length + 1 ≤ l.length) := hln.2.2
        have hal : a.length ≤ 5000 := by have := hln.1; omega
        have hbl : b.length ≤ 5000 := by have := hln.2.1; omega
        clear hst hln HG HFm hlt hm
        go_wp2_with fail
        refine hcut.mono ?_
        rintro e w1 ⟨rfl, d1, rfl⟩
        clear hcut
        go_wp2_with fail
        refine (isWord_is ⟨a.toArray⟩ _ (by rw [bsize]; omega)).mono ?_
        rintro e w2 ⟨rfl, rfl⟩
        rw [blist]
        cases hw : wordB a with
        | false =>
          have HF2 : Hid (formedB s.data.toList = false) := by show _ = _; rw [HFm2.out, HST.out, List.all_cons, hw]; rfl
          clear hw
          go_wp2_with fail
          go_ret
          exact ⟨by rw [HF2.out]; rfl, n + d1, rfl⟩
        | true =>
          have HF2 : Hid (formedB s.data.toList = (left f b).all wordB) := by show _ = _; rw [HFm2.out, HST.out, List.all_cons, hw]; rfl
          clear hw
          go_wp2_with fail
          go_roundg (gk - 1)
          case measure => have := HLT.out; omega
          case rel =>
            refine ⟨b, f, n + d1, rfl, rfl, ?_, hbl, HF2, rfl⟩
            show if f then _ else _
            cases f with
            | false => exact trivial
            | true => have := HLT.out; have := HLN.out rfl; show b.length < gk - 1; omega
set_option maxHeartbeats 1000000 in
theorem tooLong_is (x : ByteArray) (w : World) : Calls Tryz.prog 223 #[.string x] w fun e w' => e = .returned (.bool (decide (8 < x.size))) ∧ ∃ q, w' = w.drewN q := by
  go_enter Tryz.func223, Tryz.ntmps223
  go_wp2_with fail
  go_ret
  exact ⟨by congr 2; simp; omega, 0, rfl⟩
end Go.Proofs.YtlailakofhenkaaGreatDoor

/-
  Plain mathematics for the sums of chapter 2: a round over four words, as the model's integers go. No program.
-/

namespace Go.Proofs.YtlailakofhenkaaGreatDoor
open Go.RowKit
namespace Sip
def rl (x k : Int) : Int := bits .or .u64 (IntKind.u64.wrap (x * 2 ^ k.toNat)) (x / 2 ^ (64 - k).toNat)
def ad (x y : Int) : Int := IntKind.u64.wrap (x + y)
def xr (x y : Int) : Int := bits .xor .u64 x y
structure St where
  a : Int
  b : Int
  c : Int
  d : Int
def rnd (s : St) : St :=
  let a1 := ad s.a s.b
  let b1 := xr (rl s.b 13) a1
  let a2 := rl a1 32
  let c1 := ad s.c s.d
  let d1 := xr (rl s.d 16) c1
  let a3 := ad a2 d1
  let d2 := xr (rl d1 21) a3
  let c2 := ad c1 b1
  let b2 := xr (rl b1 17) c2
  let c3 := rl c2 32
  ⟨a3, b2, c3, d2⟩
def rnds : Nat → St → St
  | 0, s => s
  | n + 1, s => rnd (rnds n s)
theorem wrap_bd (x : Int) : 0 ≤ IntKind.u64.wrap x ∧ IntKind.u64.wrap x < 18446744073709551616 := by
  rw [IntKind.wrap_u64]; omega
theorem rl_bd (x k : Int) : 0 ≤ rl x k ∧ rl x k < 18446744073709551616 := wrap_bd _
theorem ad_bd (x y : Int) : 0 ≤ ad x y ∧ ad x y < 18446744073709551616 := wrap_bd _
theorem xr_bd (x y : Int) : 0 ≤ xr x y ∧ xr x y < 18446744073709551616 := wrap_bd _
structure St.Ok (s : St) : Prop where
  a0 : 0 ≤ s.a
  a1 : s.a < 18446744073709551616
  b0 : 0 ≤ s.b
  b1 : s.b < 18446744073709551616
  c0 : 0 ≤ s.c
  c1 : s.c < 18446744073709551616
  d0 : 0 ≤ s.d
  d1 : s.d < 18446744073709551616
theorem rnd_ok (s : St) : (rnd s).Ok := ⟨(ad_bd _ _).1, (ad_bd _ _).2, (xr_bd _ _).1, (xr_bd _ _).2, (rl_bd _ _).1, (rl_bd _ _).2, (xr_bd _ _).1, (xr_bd _ _).2⟩
theorem rnds_ok (n : Nat) {s : St} (h : s.Ok) : (rnds n s).Ok := by
  cases n with
  | zero => exact h
  | succ n => exact rnd_ok _
theorem and63 (k : Int) (k0 : 0 < k) (k1 : k < 64) : bits .and .u64 k 63 = k := by
  obtain ⟨n, rfl⟩ := Int.eq_ofNat_of_zero_le (Int.le_of_lt k0)
  have h : n < 64 := by omega
  revert h
  clear k0 k1
  revert n
  decide
/-- Bytes as a number, the least ones first. -/
def le : List UInt8 → Nat
  | [] => 0
  | b :: r => b.toNat + 256 * le r
theorem le_snoc (l : List UInt8) (b : UInt8) : le (l ++ [b]) = le l + b.toNat * 256 ^ l.length := by
  induction l with
  | nil => simp [le]
  | cons c l ih => simp only [List.cons_append, le, ih, List.length_cons, Nat.pow_succ]; rw [Nat.mul_add, Nat.mul_left_comm, Nat.mul_comm 256 (256 ^ l.length)]; omega
theorem le_lt (l : List UInt8) : le l < 256 ^ l.length := by
  induction l with
  | nil => simp [le]
  | cons c l ih =>
    simp only [le, List.length_cons, Nat.pow_succ]
    have := c.toNat_lt
    omega
def eatS (s : St) (x : Int) : St :=
  let t := rnds 2 ⟨s.a, s.b, s.c, xr s.d x⟩
  ⟨xr t.a x, t.b, t.c, t.d⟩
def start (k0 k1 : Int) : St := ⟨xr k0 8317987319222330741, xr k1 7237128888997146477, xr k0 7816392313619706465, xr k1 8387220255154660723⟩
def close (s : St) : Int :=
  let t := rnds 4 ⟨s.a, s.b, xr s.c 255, s.d⟩
  xr (xr (xr t.a t.b) t.c) t.d
theorem bits_or_nat (a b : Nat) (ha : a < 18446744073709551616) (hb : b < 18446744073709551616) :
    bits .or .u64 (a : Int) (b : Int) = ((a ||| b : Nat) : Int) := by
  have hx : a ||| b < 2 ^ 64 := Nat.or_lt_two_pow (by omega) (by omega)
  have h1 : (BitVec.ofInt 64 (a : Int)).toNat = a := by
    rw [BitVec.ofInt_natCast, BitVec.toNat_ofNat]; exact Nat.mod_eq_of_lt (by omega)
  have h2 : (BitVec.ofInt 64 (b : Int)).toNat = b := by
    rw [BitVec.ofInt_natCast, BitVec.toNat_ofNat]; exact Nat.mod_eq_of_lt (by omega)
  show IntKind.u64.wrap ((BitVec.ofInt 64 (a : Int) ||| BitVec.ofInt 64 (b : Int)).toNat : Int) = _
  rw [BitVec.toNat_or, h1, h2, IntKind.wrap_u64]
  omega
theorem pow8 (k : Nat) : (256 : Nat) ^ k = 2 ^ (8 * k) := by rw [Nat.pow_mul]
theorem or_disjoint (a b k : Nat) (ha : a < 256 ^ k) : a ||| b * 256 ^ k = a + b * 256 ^ k := by
  rw [pow8] at *
  rw [Nat.or_comm, Nat.mul_comm b, ← Nat.two_pow_add_eq_or_of_lt ha, Nat.add_comm]
theorem byte_up (b : UInt8) (k : Nat) (hk : k < 8) : b.toNat * 256 ^ k < 18446744073709551616 := by
  have h1 := b.toNat_lt
  have h2 : (256 : Nat) ^ k ≤ 256 ^ 7 := Nat.pow_le_pow_right (by decide) (by omega)
  calc b.toNat * 256 ^ k ≤ 255 * 256 ^ 7 := Nat.mul_le_mul (by omega) h2
    _ < _ := by decide
theorem or_step (a : Nat) (b : UInt8) (k : Nat) (ha : a < 256 ^ k) (hk : k < 8) :
    bits .or .u64 (a : Int) (IntKind.u64.wrap (IntKind.u64.wrap (b.toNat : Int) * 2 ^ (8 * k))) = ((a + b.toNat * 256 ^ k : Nat) : Int) := by
  have h1 := b.toNat_lt
  have h2 := byte_up b k hk
  have h3 : (256 : Nat) ^ k ≤ 256 ^ 7 := Nat.pow_le_pow_right (by decide) (by omega)
  have e1 : IntKind.u64.wrap (b.toNat : Int) = (b.toNat : Int) := by rw [IntKind.wrap_u64]; omega
  have e2 : (b.toNat : Int) * 2 ^ (8 * k) = ((b.toNat * 256 ^ k : Nat) : Int) := by rw [pow8]; simp
  have e3 : IntKind.u64.wrap ((b.toNat * 256 ^ k : Nat) : Int) = ((b.toNat * 256 ^ k : Nat) : Int) := by rw [IntKind.wrap_u64]; omega
  have h4 : (256 : Nat) ^ 7 < 18446744073709551616 := by decide
  rw [e1, e2, e3, bits_or_nat _ _ (by omega) h2, or_disjoint _ _ _ ha]
end Sip
end Go.Proofs.YtlailakofhenkaaGreatDoor

/-
  Plain mathematics: a word's sixteen hexadecimal digits, from the top, by turning; from the bottom, by dividing, filled up.
-/

namespace Go.Proofs.YtlailakofhenkaaGreatDoor
namespace Hex
def hexc (d : Nat) : UInt8 := if d < 10 then UInt8.ofNat (48 + d) else UInt8.ofNat (87 + d)
def hexsN : Nat → Nat → List UInt8
  | 0, _ => []
  | k + 1, n => hexsN k (n / 16) ++ [hexc (n % 16)]
/-- without noughts ahead; f: enough rounds -/
def hexMin : Nat → Nat → List UInt8
  | 0, n => [hexc (n % 16)]
  | f + 1, n => if n < 16 then [hexc n] else hexMin f (n / 16) ++ [hexc (n % 16)]
theorem hexsN_length (k n : Nat) : (hexsN k n).length = k := by
  induction k generalizing n with
  | zero => rfl
  | succ k ih => simp [hexsN, ih]
theorem hexsN_zero (k : Nat) : hexsN k 0 = List.replicate k 48 := by
  induction k with
  | zero => rfl
  | succ k ih => rw [List.replicate_succ', hexsN, Nat.zero_div, ih]; rfl
theorem hexMin_pos (f n : Nat) : 1 ≤ (hexMin f n).length := by
  cases f with
  | zero => simp [hexMin]
  | succ f => unfold hexMin; split <;> simp
theorem hexMin_le (f n k : Nat) (hk : 1 ≤ k) (hn : n < 16 ^ k) (hf : k ≤ f + 1) : (hexMin f n).length ≤ k := by
  induction f generalizing n k with
  | zero => simp [hexMin]; omega
  | succ f ih =>
    unfold hexMin
    split
    · simp; omega
    · rename_i h
      obtain ⟨j, rfl⟩ : ∃ j, k = j + 1 := ⟨k - 1, by omega⟩
      have hj : 1 ≤ j := by
        rcases Nat.eq_zero_or_pos j with h0 | h0
        · subst h0; simp at hn; omega
        · exact h0
      have := ih (n / 16) j hj (by rw [Nat.pow_succ] at hn; omega) (by omega)
      simp; omega
theorem hex_pad (f n k : Nat) (hk : 1 ≤ k) (hn : n < 16 ^ k) (hf : k ≤ f + 1) : List.replicate (k - (hexMin f n).length) 48 ++ hexMin f n = hexsN k n := by
  induction f generalizing n k with
  | zero =>
    obtain rfl : k = 1 := by omega
    simp [hexMin, hexsN]
  | succ f ih =>
    obtain ⟨j, rfl⟩ : ∃ j, k = j + 1 := ⟨k - 1, by omega⟩
    unfold hexMin
    split
    · rename_i h
      simp [hexsN, Nat.div_eq_of_lt h, Nat.mod_eq_of_lt h, hexsN_zero]
    · rename_i h
      have hj : 1 ≤ j := by
        rcases Nat.eq_zero_or_pos j with h0 | h0
        · subst h0; simp at hn; omega
        · exact h0
      rw [hexsN, ← ih (n / 16) j hj (by rw [Nat.pow_succ] at hn; omega) (by omega)]
      simp
theorem hexsN_get (k n i : Nat) (hi : i < k) : (hexsN k n)[i]? = some (hexc (n / 16 ^ (k - 1 - i) % 16)) := by
  induction k generalizing n i with
  | zero => omega
  | succ k ih =>
    rw [hexsN]
    by_cases h : i < k
    · rw [List.getElem?_append_left (by rw [hexsN_length]; exact h), ih _ _ h, Nat.div_div_eq_div_mul]
      have : 16 * 16 ^ (k - 1 - i) = 16 ^ (k + 1 - 1 - i) := by
        rw [show k + 1 - 1 - i = (k - 1 - i) + 1 by omega, Nat.pow_succ, Nat.mul_comm]
      rw [this]
    · obtain rfl : i = k := by omega
      rw [List.getElem?_append_right (by rw [hexsN_length]; omega), hexsN_length]
      simp
/-- What a word is, turned left by k digits. -/
def rot (n k : Nat) : Nat := n % 16 ^ (16 - k) * 16 ^ k + n / 16 ^ (16 - k)
theorem rot_zero (n : Nat) (hn : n < 16 ^ 16) : rot n 0 = n := by simp [rot, Nat.mod_eq_of_lt hn, Nat.div_eq_of_lt hn]
theorem rot_step (n k : Nat) (hn : n < 16 ^ 16) (hk : k < 16) : rot n k % 16 ^ 15 * 16 + rot n k / 16 ^ 15 = rot n (k + 1) ∧ rot n (k + 1) % 16 = n / 16 ^ (15 - k) % 16 := by
  obtain ⟨A, hA⟩ : ∃ A, A = 16 ^ (15 - k) := ⟨_, rfl⟩
  obtain ⟨B, hB⟩ : ∃ B, B = 16 ^ k := ⟨_, rfl⟩
  have hAB : A * B = 16 ^ 15 := by rw [hA, hB, ← Nat.pow_add]; congr 1; omega
  have hA16 : (16 : Nat) ^ (16 - k) = A * 16 := by rw [hA, ← Nat.pow_succ]; congr 1; omega
  have hB16 : (16 : Nat) ^ (k + 1) = B * 16 := by rw [hB, Nat.pow_succ]
  have hA1 : (16 : Nat) ^ (16 - (k + 1)) = A := by rw [hA]; congr 1; omega
  have hApos : 0 < A := by rw [hA]; exact Nat.pow_pos (by decide)
  have hBpos : 0 < B := by rw [hB]; exact Nat.pow_pos (by decide)
  unfold rot
  rw [hA16, hB16, hA1, ← hB, ← hA]
  obtain ⟨q, hq⟩ : ∃ q, q = n / (A * 16) := ⟨_, rfl⟩
  obtain ⟨r1, hr1⟩ : ∃ r1, r1 = n / A % 16 := ⟨_, rfl⟩
  obtain ⟨r0, hr0⟩ : ∃ r0, r0 = n % A := ⟨_, rfl⟩
  have hdA : n / A = q * 16 + r1 := by
    rw [hq, hr1, ← Nat.div_div_eq_div_mul]; omega
  have hmod : n % (A * 16) = r1 * A + r0 := by
    rw [Nat.mod_mul, ← hr0, ← hr1, Nat.mul_comm]; omega
  have hqB : q < B := by
    rw [hq]
    refine Nat.div_lt_of_lt_mul ?_
    have : A * 16 * B = 16 ^ 16 := by rw [Nat.mul_right_comm, hAB]
    rw [this]; exact hn
  have hr0A : r0 < A := by rw [hr0]; exact Nat.mod_lt _ hApos
  have hr116 : r1 < 16 := by omega
  have hlow : r0 * B + q < 16 ^ 15 := by
    rw [← hAB]
    have : (r0 + 1) * B ≤ A * B := Nat.mul_le_mul_right _ hr0A
    rw [Nat.add_mul] at this; omega
  have hW : n % (A * 16) * B + n / (A * 16) = r1 * 16 ^ 15 + (r0 * B + q) := by
    rw [hmod, ← hq, Nat.add_mul, Nat.mul_assoc, hAB, Nat.add_assoc]
  have h15 : 0 < (16 : Nat) ^ 15 := by decide
  rw [hW, ← hr0, hdA, Nat.mul_comm r1, Nat.mul_add_mod, Nat.mod_eq_of_lt hlow, Nat.mul_add_div h15, Nat.div_eq_of_lt hlow]
  have e1 : r0 * (B * 16) = 16 * (r0 * B) := by rw [Nat.mul_comm B 16, Nat.mul_left_comm]
  constructor
  · rw [e1]; omega
  · rw [e1]; omega
/-- the walk's turn by four bits -/
theorem rl4 (X : Nat) (h : X < 16 ^ 16) : Sip.rl (X : Int) 4 = ((X % 16 ^ 15 * 16 + X / 16 ^ 15 : Nat) : Int) := by
  unfold Sip.rl
  have e1 : IntKind.u64.wrap ((X : Int) * 2 ^ (4 : Int).toNat) = ((X % 16 ^ 15 * 16 : Nat) : Int) := by
    rw [IntKind.wrap_u64]
    have : (2 : Int) ^ (4 : Int).toNat = 16 := by decide
    rw [this]; omega
  have e2 : (X : Int) / 2 ^ (64 - (4 : Int)).toNat = ((X / 16 ^ 15 : Nat) : Int) := by
    have : (2 : Int) ^ (64 - (4 : Int)).toNat = 1152921504606846976 := by decide
    rw [this]; omega
  rw [e1, e2, Sip.bits_or_nat _ _ (by omega) (by omega)]
  have hd : X / 16 ^ 15 < 2 ^ 4 := by omega
  rw [Nat.mul_comm, ← Nat.two_pow_add_eq_or_of_lt (i := 4) hd]
theorem rot_lt (n k : Nat) (hn : n < 16 ^ 16) (hk : k ≤ 16) : rot n k < 16 ^ 16 := by
  unfold rot
  have hAB : 16 ^ (16 - k) * 16 ^ k = 16 ^ 16 := by rw [← Nat.pow_add]; congr 1; omega
  have h1 : n % 16 ^ (16 - k) + 1 ≤ 16 ^ (16 - k) := Nat.mod_lt _ (Nat.pow_pos (by decide))
  have h2 := Nat.mul_le_mul_right (16 ^ k) h1
  have h3 : n / 16 ^ (16 - k) < 16 ^ k := Nat.div_lt_of_lt_mul (by rw [hAB]; exact hn)
  rw [hAB, Nat.add_mul] at h2
  omega
theorem and15 (X : Nat) : bits .and .u64 (X : Int) 15 = ((X % 16 : Nat) : Int) := by
  have h2 : (BitVec.ofInt 64 (15 : Int)).toNat = 15 := by decide
  show IntKind.u64.wrap ((BitVec.ofInt 64 (X : Int) &&& BitVec.ofInt 64 15).toNat : Int) = _
  rw [BitVec.toNat_and, h2, IntKind.wrap_u64, show (15 : Nat) = 2 ^ 4 - 1 from rfl, Nat.and_two_pow_sub_one_eq_mod, BitVec.ofInt_natCast, BitVec.toNat_ofNat]
  omega
def digs : List UInt8 := [48, 49, 50, 51, 52, 53, 54, 55, 56, 57, 97, 98, 99, 100, 101, 102]
theorem digs_get (d : Nat) (h : d < 16) : digs[d]? = some (hexc d) := by
  revert h
  revert d
  decide
end Hex
end Go.Proofs.YtlailakofhenkaaGreatDoor
