/-
  Own texts put together: ScUnlike, ScLeast, MapSet, ScRef, ScPairs, ScRef2, EvRefMay, EvMayP.
-/
import Derived.Test.YtlailakofhenkabGreatDoorB3
import Derived.Test.YtlailakofhenkabGreatDoorB1
import Derived.WalkKit
import Derived.Maps.OwnOps
import Derived.Maps.OwnSet
import Derived.Maps.StringElems
import Derived.StringKeys
import Derived.Test.YtlailakofhenkabGreatDoorB4
namespace Go.Proofs.YtlailakofhenkabGreatDoor
open Go Go.RowKit Sc
theorem getD_map (xs : List ByteArray) (x : ByteArray) (t : Nat) : (xs.map (·.data.toList)).getD t x.data.toList = (xs.getD t x).data.toList := by
  rw [List.getD_eq_getElem?_getD, List.getD_eq_getElem?_getD, List.getElem?_map]
  cases xs[t]? <;> rfl
theorem mem_bytes {xs : List ByteArray} {x : ByteArray} : x.data.toList ∈ xs.map (·.data.toList) ↔ x ∈ xs := by
  rw [List.mem_map]
  constructor
  · rintro ⟨y, hy, e⟩
    have : y = x := ByteArray.ext (Array.toList_inj.1 e)
    exact this ▸ hy
  · exact fun h => ⟨x, h, rfl⟩
theorem search_is {B : Nat} {w : World} {v : Value} {xs : List ByteArray} (h : Words B w v xs) (hn : xs.length ≤ 5000) (hp : (xs.map (·.data.toList)).Pairwise (· < ·)) (x : ByteArray) :
    Calls Tryz.prog 276 #[v, .string x] w fun e w' => (∃ (k : Nat) (found : Bool), e = .returned (.tuple #[.int .i64 k, .bool found]) ∧ k ≤ xs.length ∧ (found = true → x ∈ xs) ∧
      (found = false → x ∉ xs ∧ (∀ y ∈ (xs.map (·.data.toList)).take k, y < x.data.toList) ∧ (∀ y ∈ (xs.map (·.data.toList)).drop k, ¬ y < x.data.toList))) ∧ ∃ q, w' = w.drewN q := by
  rcases h with ⟨rfl, rfl⟩ | ⟨g, c, rfl, hr⟩
  · refine (Any2.slices_BinarySearch_string_empty Tryz.laysNm226 _ _ _ _).mono ?_
    rintro e w' ⟨rfl, rfl⟩
    exact ⟨⟨0, false, rfl, Nat.le_refl _, fun h => (by cases h), fun _ => ⟨by simp, by simp, by simp⟩⟩, 0, rfl⟩
  · obtain ⟨k, hk, h1, h2, h3, h4⟩ := place x.data.toList _ hp
    have hkl : k ≤ xs.length := by simpa using hk
    have hb : Lib.bsGo (fun t => Op.bytesLess ((fun j => xs.getD j x) t).toList x.toList) xs.length 0 xs.length = k := by
      refine Lib.bsGo_spec _ k (fun t ht => ?_) (fun t ht => ?_) _ _ _ (by omega) (Nat.zero_le _) hkl
      · have := h1 t ht
        rw [getD_map] at this
        simp only [bytesLess_eq, ByteArray.toList_eq, decide_eq_true_eq]
        exact this
      · have := h2 t ht
        rw [getD_map] at this
        simp only [bytesLess_eq, ByteArray.toList_eq, decide_eq_false_iff_not]
        exact this
    refine (Any2.slices_BinarySearch_string Tryz.laysNm226 g 0 xs.length c (fun j => xs.getD j x) x w (by omega) (fun j hj => ?_)).mono ?_
    · rw [Nat.zero_add]
      refine hr.holds j _ ?_
      rw [List.getElem?_map, List.getElem?_eq_getElem hj, List.getD_eq_getElem?_getD, List.getElem?_eq_getElem hj]
      rfl
    · rintro e w' ⟨rfl, q, rfl⟩
      rw [hb]
      refine ⟨⟨k, _, rfl, hkl, fun hf => ?_, fun hf => ⟨fun hx => ?_, h3, h4⟩⟩, q, rfl⟩
      · obtain ⟨hlt, he⟩ := of_decide_eq_true hf
        rw [← he]
        simp only [List.getD_eq_getElem?_getD, List.getElem?_eq_getElem hlt]
        exact List.getElem_mem _
      · have hf := of_decide_eq_false hf
        have hm := mem_bytes.2 hx
        rw [← List.take_append_drop k (xs.map (·.data.toList)), List.mem_append] at hm
        rcases hm with hm | hm
        · exact lt_irr _ (h3 _ hm)
        · have hlt : k < xs.length := by
            have := List.length_pos_of_mem hm
            simp at this
            omega
          apply hf
          refine ⟨hlt, ?_⟩
          have hge := h2 k (Nat.le_refl _)
          rw [getD_map] at hge
          have hd := List.drop_eq_getElem_cons (l := xs.map (·.data.toList)) (i := k) (by simpa using hlt)
          rw [hd, List.mem_cons] at hm
          simp only [List.getElem_map] at hm hd
          have he : (xs.getD k x) = xs[k] := by rw [List.getD_eq_getElem?_getD, List.getElem?_eq_getElem hlt]; rfl
          rcases hm with hm | hm
          · rw [he]
            exact (ByteArray.ext (Array.toList_inj.1 hm)).symm
          · exfalso
            rw [he] at hge
            have hp2 := hp
            rw [← List.take_append_drop k (xs.map (·.data.toList)), List.pairwise_append] at hp2
            have hp3 := hp2.2.1
            rw [hd, List.pairwise_cons] at hp3
            exact hge (hp3.1 _ hm)
set_option maxHeartbeats 1000000 in
theorem clone_is (s : ByteArray) (w : World) (hs : s.size ≤ 10000) : Calls Tryz.prog 191 #[.string s] w fun e w' => e = .returned (.string s) ∧ Below w.heap.size w w' := by
  have hc := Tryz.stringslite_Clone s w (by omega)
  go_enter Tryz.func191, Tryz.ntmps191
  go_wp2_with fail
  refine hc.mono ?_
  rintro e w' ⟨rfl, hb⟩
  go_wp2_with fail
  go_ret
  exact ⟨rfl, hb⟩
theorem Words.slice {B : Nat} {w : World} {v : Value} {xs : List ByteArray} (h : Words B w v xs) : ∃ base c, v = .slice base xs.length c := by
  rcases h with ⟨rfl, rfl⟩ | ⟨g, c, rfl, _⟩
  · exact ⟨none, 0, rfl⟩
  · exact ⟨_, _, rfl⟩
def Seen (s : List UInt8) (xs : List ByteArray) : Prop := xs.length ≤ 6 ∧ ∃ pre rest, words s = pre ++ rest ∧ SetOf (xs.map (·.data.toList)) pre ∧ (rest = [] ∨ 5 < xs.length)
set_option maxRecDepth 100000 in
set_option maxHeartbeats 4000000 in
theorem unlike_is (s : ByteArray) (w : World) (hs : s.size ≤ 5000) (hL : LenOk w) : Calls Tryz.prog 205 #[.string s] w fun e w' => ∃ v xs, e = .returned v ∧ Words w.heap.size w' v xs ∧ Below w.heap.size w w' ∧ Seen s.data.toList xs := by
  have HL : Hid (LenOk w) := hL
  clear hL
  have hss : s.data.toList.length = s.size := Array.length_toList
  obtain ⟨m0, HS, hm0⟩ : ∃ m0 : Bool, Hid (words s.data.toList = left m0 s.data.toList) ∧ s.toList.isEmpty = !m0 := by
    by_cases h0 : s.data.toList = []
    · exact ⟨false, by show _ = _; rw [h0]; rfl, by rw [ByteArray.toList_eq, h0]; rfl⟩
    · exact ⟨true, by show _ = _; rw [words_ne h0]; rfl, by rw [ByteArray.toList_eq, List.isEmpty_eq_false_iff.2 h0]; rfl⟩
  go_enter Tryz.func205, Tryz.ntmps205
  go_wp2_with fail
  go_loopg [0, 3, 4] (s.size + 1) (fun gk sv v mv wr => ∃ (l : List UInt8) (more : Bool) (xs : List ByteArray) (pre : List Word), sv = .string ⟨l.toArray⟩ ∧ mv = .bool more ∧ Hid (if more then l.length < gk else True) ∧ l.length ≤ 5000 ∧ Hid (words s.data.toList = pre ++ left more l) ∧ Hid (SetOf (xs.map (·.data.toList)) pre) ∧ xs.length ≤ 6 ∧ Hid (Words w.heap.size wr v xs) ∧ Hid (Below w.heap.size w wr))
  case atStart =>
    refine ⟨s.data.toList, m0, [], [], rfl, by simp, ?_, by omega, by simpa [Hid] using HS.out, by simpa [Hid] using setOf_nil, by simp, by show _; exact .inl ⟨rfl, rfl⟩, Below.refl _ _⟩
    show if m0 then _ else _
    cases m0
    · exact trivial
    · show s.data.toList.length < s.size + 1
      omega
  case round =>
    obtain ⟨l, more, xs, pre, rfl, rfl, HG, hl, HW, HSO, hx6, HV, HB⟩ := hrel
    obtain ⟨base, c, rfl⟩ := HV.out.slice
    clear hm0
    cases more with
    | false =>
      have HR : Hid (Seen s.data.toList xs) := ⟨hx6, pre, [], by rw [HW.out]; rfl, HSO.out, .inl rfl⟩
      go_wp2_with fail
      go_ret
      exact ⟨_, xs, rfl, HV.out, HB.out, HR.out⟩
    | true =>
      by_cases h5 : xs.length ≤ 5
      · have HLT : Hid (l.length < gk) := HG.out
        obtain ⟨m, hm⟩ := HL.out.below HB.out
        have hcut := Tryz.strings_Cut ⟨l.toArray⟩ ⟨#[43]⟩ m wr (by rw [bsize]; omega) hm
        rw [blist, show (⟨#[43]⟩ : ByteArray).data.toList = [43] from rfl] at hcut
        have hst := left_step l
        have hln := left_len l
        generalize (Lib.cut l [43]).1 = a at *
        generalize (Lib.cut l [43]).2.1 = b at *
        generalize (Lib.cut l [43]).2.2 = f at *
        have HW2 : Hid (words s.data.toList = (pre ++ [a]) ++ left f b) := by show _ = _; rw [HW.out, hst]; simp
        have HLN : Hid (f = true → b.length + 1 ≤ l.length) := hln.2.2
        have hal : a.length ≤ 5000 := by have := hln.1; omega
        have hbl : b.length ≤ 5000 := by have := hln.2.1; omega
        have hG2 : Hid (if f then b.length < gk - 1 else True) := by
          show if f then _ else _
          cases f with
          | false => exact trivial
          | true => have := HLT.out; have := HLN.out rfl; show b.length < gk - 1; omega
        have HMS : Hid (gk - 1 < gk) := by show _ < _; have := HLT.out; omega
        clear hst hln HG HLT HLN HW hm
        go_wp2_with fail
        refine hcut.mono ?_
        rintro e w1 ⟨rfl, d1, rfl⟩
        clear hcut
        have HV1 : Hid (Words w.heap.size (wr.drewN d1) (.slice base xs.length c) xs) := HV.out.below (below_drewN' (Below.refl _ _) _) (Nat.le_refl _)
        go_wp2_with fail
        refine (search_is HV1.out (by omega) HSO.out.1 ⟨a.toArray⟩).mono ?_
        rintro e w2 ⟨⟨k, found, rfl, hk, hf1, hf2⟩, d2, rfl⟩
        have HV2 : Hid (Words w.heap.size (wr.drewN (d1 + d2)) (.slice base xs.length c) xs) := HV.out.below (below_drewN' (Below.refl _ _) _) (Nat.le_refl _)
        have HB2 : Hid (Below w.heap.size w (wr.drewN (d1 + d2))) := below_drewN' HB.out (d1 + d2)
        clear HV1
        cases found with
        | true =>
          have HSO2 : Hid (SetOf (xs.map (·.data.toList)) (pre ++ [a])) := setOf_there HSO.out (mem_bytes.2 (hf1 rfl))
          clear hf1 hf2
          go_wp2_with fail
          go_roundg (gk - 1)
          case measure => exact HMS.out
          case rel => exact ⟨b, f, xs, pre ++ [a], rfl, rfl, hG2, hbl, HW2, HSO2, hx6, HV2, HB2⟩
        | false =>
          have HSO2 : Hid (SetOf ((xs.take k ++ (⟨a.toArray⟩ : ByteArray) :: xs.drop k).map (·.data.toList)) (pre ++ [a])) := by
            obtain ⟨g1, g2, g3⟩ := hf2 rfl
            have := setOf_put (x := a) (k := k) HSO.out (fun h => g1 (mem_bytes.1 h)) g2 g3
            simpa [Hid] using this
          clear hf1 hf2
          go_wp2_with fail
          refine (clone_is ⟨a.toArray⟩ _ (by rw [bsize]; omega)).mono ?_
          rintro e w3 ⟨rfl, hb3⟩
          have HV3 : Hid (Words w.heap.size w3 (.slice base xs.length c) xs) := HV2.out.below hb3 (Nat.le_refl _)
          have HB3 : Hid (Below w.heap.size w w3) := HB2.out.trans (hb3.mono HB2.out.size)
          clear hb3 HV2
          go_wp2_with fail
          refine (insert_is HV3.out k hk (by omega) HB3.out.size ⟨a.toArray⟩ 9).mono ?_
          rintro e w4 ⟨v', rfl, hv4, hb4⟩
          have HV4 : Hid (Words w.heap.size w4 v' (xs.take k ++ (⟨a.toArray⟩ : ByteArray) :: xs.drop k)) := hv4
          have HB4 : Hid (Below w.heap.size w w4) := HB3.out.trans hb4
          have hx2 : (xs.take k ++ (⟨a.toArray⟩ : ByteArray) :: xs.drop k).length ≤ 6 := by rw [ins_len xs k hk]; omega
          clear hv4 hb4
          generalize (xs.take k ++ (⟨a.toArray⟩ : ByteArray) :: xs.drop k) = ys at *
          go_wp2_with fail
          go_roundg (gk - 1)
          case measure => exact HMS.out
          case rel => exact ⟨b, f, ys, pre ++ [a], rfl, rfl, hG2, hbl, HW2, HSO2, hx2, HV4, HB4⟩
      · have HR : Hid (Seen s.data.toList xs) := ⟨hx6, pre, _, HW.out, HSO.out, .inr (by omega)⟩
        have h5' : ¬ (xs.length : Int) ≤ 5 := by omega
        go_wp2_with fail
        go_ret
        first | exact ⟨_, rfl, xs, HV.out, HB.out, HR.out⟩ | exact ⟨_, xs, rfl, HV.out, HB.out, HR.out⟩
def errQ : Nat → Value
  | 0 => .nilIface
  | n => .iface 47 (.int .i64 n)
theorem any_long (xs : List ByteArray) : (xs.any fun x => decide (8 < x.size)) = decide (∃ w ∈ xs.map (·.data.toList), 8 < w.length) := by
  rw [Bool.eq_iff_iff, List.any_eq_true, decide_eq_true_iff]
  constructor
  · rintro ⟨x, hx, h⟩
    exact ⟨_, List.mem_map.2 ⟨x, hx, rfl⟩, by simpa using h⟩
  · rintro ⟨w, hw, h⟩
    obtain ⟨x, hx, rfl⟩ := List.mem_map.1 hw
    exact ⟨x, hx, by simpa using h⟩
theorem seen_many {s : List UInt8} {xs : List ByteArray} (hf : formedB s = true) (h : Seen s xs) (h5 : 5 < xs.length) : Out s [] 4 := by
  obtain ⟨_, pre, rest, e, hs, _⟩ := h
  obtain ⟨m, h1, h2⟩ := setOf_grows rest hs
  exact .inr (.inr ⟨rfl, rfl, hf, m, by rwa [e], .inl (by simp at h2; omega)⟩)
theorem seen_all {s : List UInt8} {xs : List ByteArray} (h : Seen s xs) (h5 : ¬ 5 < xs.length) : SetOf (xs.map (·.data.toList)) (words s) := by
  obtain ⟨_, pre, rest, e, hs, hr⟩ := h
  rcases hr with rfl | hr
  · rw [e, List.append_nil]; exact hs
  · exact absurd hr h5
theorem seen_long {s : List UInt8} {xs : List ByteArray} (hf : formedB s = true) (h : SetOf (xs.map (·.data.toList)) (words s)) (hl : (xs.any fun x => decide (8 < x.size)) = true) : Out s [] 4 := by
  rw [any_long, decide_eq_true_iff] at hl
  obtain ⟨w, hw, h8⟩ := hl
  exact .inr (.inr ⟨rfl, rfl, hf, _, h, .inr ⟨w, (h.2 w).1 hw, h8⟩⟩)
theorem seen_good {s : List UInt8} {xs : List ByteArray} (hf : formedB s = true) (h : SetOf (xs.map (·.data.toList)) (words s)) (h5 : ¬ 5 < xs.length) (hl : (xs.any fun x => decide (8 < x.size)) = false) : Out s (xs.map (·.data.toList)) 0 := by
  rw [any_long, decide_eq_false_iff_not] at hl
  exact .inl ⟨rfl, hf, h, by simp; omega, fun w hw => by
    rcases Nat.lt_or_ge 8 w.length with h8 | h8
    · exact absurd ⟨w, (h.2 w).2 hw, h8⟩ hl
    · exact h8⟩
theorem contains_long {w : World} {v : Value} {xs : List ByteArray} {B : Nat} (h : Words B w v xs) (hn : xs.length ≤ 5000) :
    Calls Tryz.prog 207 #[v, .func (.func 206) #[] #[]] w fun e w' => e = .returned (.bool (xs.any fun x => decide (8 < x.size))) ∧ ∃ q, w' = w.drewN q := by
  rcases h with ⟨rfl, rfl⟩ | ⟨g, c, rfl, hr⟩
  · refine (Tryz.slices_ContainsFunc_empty_f207 (α := ByteArray) none 0 _ w).mono ?_
    rintro e w' ⟨rfl, rfl⟩
    exact ⟨rfl, 0, rfl⟩
  · refine (Tryz.slices_ContainsFunc_f207 Value.string (fun x => decide (8 < x.size)) 206 #[] (enters_of Tryz.func206 (by kernel_rfl) rfl) g 0 xs.length c xs w (fun W x _ => tooLong_is x W) (Nat.le_refl _) (by omega) (fun j hj => ?_)).mono ?_
    · rw [Nat.zero_add]
      refine hr.holds j _ ?_
      rw [List.getElem?_map, List.getElem?_eq_getElem hj, getElem!_pos xs j hj]
      rfl
    · rintro e w' ⟨rfl, q, rfl⟩
      exact ⟨by rw [List.take_of_length_le (Nat.le_refl _)], q, rfl⟩
set_option maxRecDepth 100000 in
set_option maxHeartbeats 4000000 in
theorem readS_is (s : ByteArray) (w : World) (hs : s.size ≤ 5000) (hL : LenOk w) : Calls Tryz.prog 129 #[.string s] w fun e w' => ∃ v xs n, e = .returned (.tuple #[v, errQ n]) ∧ Out s.data.toList (xs.map (·.data.toList)) n ∧ Words w.heap.size w' v xs ∧ Below w.heap.size w w' := by
  have HL : Hid (LenOk w) := hL
  clear hL
  go_enter Tryz.func129, Tryz.ntmps129
  go_wp2_with fail
  refine (isScope_is s _ hs HL.out).mono ?_
  rintro e w1 ⟨rfl, n1, rfl⟩
  cases hf : formedB s.data.toList with
  | false =>
    have HO : Hid (Out s.data.toList (([] : List ByteArray).map (·.data.toList)) 3) := .inr (.inl ⟨rfl, rfl, hf⟩)
    clear hf
    go_wp2_with fail
    exact bodyPost_ret (v := .tuple #[.slice none 0 0, .iface 47 (.int .i64 3)]) (by simp [results, Tryz.results129, go_sem]) rfl ⟨_, [], 3, rfl, HO.out, .inl ⟨rfl, rfl⟩, below_drewN' (Below.refl _ _) _⟩
  | true =>
    have HF : Hid (formedB s.data.toList = true) := hf
    clear hf
    have HB1 : Hid (Below w.heap.size w (w.drewN n1)) := below_drewN' (Below.refl _ _) _
    go_wp2_with fail
    refine (unlike_is s _ hs (HL.out.below HB1.out)).mono ?_
    rintro e w2 ⟨v, xs, rfl, hv, hb, hseen⟩
    have HV : Hid (Words w.heap.size w2 v xs) := hv
    have HB2 : Hid (Below w.heap.size w w2) := HB1.out.trans hb
    have HS : Hid (Seen s.data.toList xs) := hseen
    have hx6 : xs.length ≤ 6 := hseen.1
    clear hv hb hseen HB1
    obtain ⟨base, c, rfl⟩ := HV.out.slice
    by_cases h5 : 5 < xs.length
    · have HO : Hid (Out s.data.toList (([] : List ByteArray).map (·.data.toList)) 4) := seen_many HF.out HS.out h5
      go_wp2_with fail
      exact bodyPost_ret (v := .tuple #[.slice none 0 0, .iface 47 (.int .i64 4)]) (by simp [results, Tryz.results129, go_sem]) rfl ⟨_, [], 4, rfl, HO.out, .inl ⟨rfl, rfl⟩, HB2.out⟩
    · have HSA : Hid (SetOf (xs.map (·.data.toList)) (words s.data.toList)) := seen_all HS.out h5
      have H5 : Hid (¬ 5 < xs.length) := h5
      have h5' : (xs.length : Int) ≤ 5 := by omega
      clear h5 HS
      go_wp2_with fail
      refine (contains_long HV.out (by omega)).mono ?_
      rintro e w3 ⟨rfl, q, rfl⟩
      have HB3 : Hid (Below w.heap.size w (w2.drewN q)) := below_drewN' HB2.out q
      have HV3 : Hid (Words w.heap.size (w2.drewN q) (.slice base xs.length c) xs) := HV.out.below (below_drewN' (Below.refl _ _) _) (Nat.le_refl _)
      cases hl : (xs.any fun x => decide (8 < x.size)) with
      | true =>
        have HO : Hid (Out s.data.toList (([] : List ByteArray).map (·.data.toList)) 4) := seen_long HF.out HSA.out hl
        clear hl
        go_wp2_with fail
        exact bodyPost_ret (v := .tuple #[.slice none 0 0, .iface 47 (.int .i64 4)]) (by simp [results, Tryz.results129, go_sem]) rfl ⟨_, [], 4, rfl, HO.out, .inl ⟨rfl, rfl⟩, HB3.out⟩
      | false =>
        have HO : Hid (Out s.data.toList (xs.map (·.data.toList)) 0) := seen_good HF.out HSA.out H5.out hl
        clear hl
        go_wp2_with fail
        exact bodyPost_ret (v := .tuple #[.slice base xs.length c, .nilIface]) (by simp [results, Tryz.results129, go_sem]) rfl ⟨_, xs, 0, rfl, HO.out, HV3.out, HB3.out⟩
end Go.Proofs.YtlailakofhenkabGreatDoor

namespace Go.Proofs.YtlailakofhenkabGreatDoor
open Go Go.RowKit Sc
theorem join_is {B : Nat} {w : World} {v : Value} {xs : List ByteArray} (h : Words B w v xs) (hn : (joined (xs.map (·.data.toList))).length ≤ 5000) (hx : xs.length ≤ 5000) :
    Calls Tryz.prog 114 #[v, .string ⟨#[43]⟩] w fun e w' => e = .returned (.string ⟨(joined (xs.map (·.data.toList))).toArray⟩) ∧ Below w.heap.size w w' := by
  rcases h with ⟨rfl, rfl⟩ | ⟨g, c, rfl, hr⟩
  · refine (Tryz.strings_Join_none none 0 ⟨#[43]⟩ w).mono ?_
    rintro e w' ⟨rfl, rfl⟩
    exact ⟨rfl, Below.refl _ _⟩
  · refine Tryz.strings_Join g 0 c xs ⟨#[43]⟩ w (fun j x hj => ?_) hr.lt (by omega) hr.le (by show (joined _).length ≤ _; omega)
    rw [Nat.zero_add]
    refine hr.holds j _ ?_
    rw [List.getElem?_map, hj]
    rfl
theorem contains_is {B : Nat} {w : World} {v : Value} {ys : List ByteArray} (h : Words B w v ys) (hn : ys.length ≤ 5000) (x : ByteArray) :
    Calls Tryz.prog 210 #[v, .string x] w fun e w' => e = .returned (.bool (decide (x.data.toList ∈ ys.map (·.data.toList)))) ∧ w' = w := by
  rcases h with ⟨rfl, rfl⟩ | ⟨g, c, rfl, hr⟩
  · refine (Tryz.slices_Contains_string_empty none 0 x w).mono ?_
    rintro e w' ⟨rfl, rfl⟩
    exact ⟨rfl, rfl⟩
  · refine (Tryz.slices_Contains_string g 0 ys.length c ys x w (Nat.le_refl _) (by omega) (fun j hj => ?_)).mono ?_
    · rw [Nat.zero_add]
      refine hr.holds j _ ?_
      rw [List.getElem?_map, List.getElem?_eq_getElem hj, List.getD_eq_getElem?_getD, List.getElem?_eq_getElem hj]
      rfl
    · rintro e w' ⟨rfl, rfl⟩
      refine ⟨?_, rfl⟩
      congr 2
      rw [List.take_of_length_le (Nat.le_refl _), Bool.eq_iff_iff, Lib.containsS_iff, decide_eq_true_iff, mem_bytes]
theorem errQ_succ (n : Nat) : errQ (n + 1) = .iface 47 (.int .i64 ((n + 1 : Nat) : Int)) := rfl
set_option maxRecDepth 100000 in
set_option maxHeartbeats 4000000 in
theorem leastS_is (s : ByteArray) (w : World) (hs : s.size ≤ 5000) (hL : LenOk w) : Calls Tryz.prog 71 #[.string s] w fun e w' => ∃ l n, e = .returned (.tuple #[.string ⟨(joined l).toArray⟩, errQ n]) ∧ Out s.data.toList l n ∧ Below w.heap.size w w' := by
  have HL : Hid (LenOk w) := hL
  clear hL
  go_enter Tryz.func71, Tryz.ntmps71
  go_wp2_with fail
  refine (readS_is s _ hs HL.out).mono ?_
  rintro e w1 ⟨v, xs, n, rfl, ho, hv, hb⟩
  have HO : Hid (Out s.data.toList (xs.map (·.data.toList)) n) := ho
  have HV : Hid (Words w.heap.size w1 v xs) := hv
  have HB : Hid (Below w.heap.size w w1) := hb
  have hln := out_len ho
  have hx5 : xs.length ≤ 5 := by simpa using hln.1
  have hj : (joined (xs.map (·.data.toList))).length ≤ 5000 := by omega
  clear ho hv hb hln
  cases n with
  | succ n =>
    have HN : Hid (Out s.data.toList [] (n + 1)) := by have := out_no HO.out; rw [← this]; exact HO.out
    rw [errQ_succ]
    go_wp2_with fail
    exact bodyPost_ret (v := .tuple #[.string ⟨#[]⟩, errQ (n + 1)]) (by simp [results, Tryz.results71, go_sem, errQ]) rfl ⟨[], n + 1, rfl, HN.out, HB.out⟩
  | zero =>
    rw [show errQ 0 = .nilIface from rfl]
    go_wp2_with fail
    refine (join_is HV.out hj (by omega)).mono ?_
    rintro e w2 ⟨rfl, hb2⟩
    have HB2 : Hid (Below w.heap.size w w2) := HB.out.trans (hb2.mono HB.out.size)
    clear hb2
    generalize hjj : joined (xs.map (·.data.toList)) = J at *
    have HJ : Hid (joined (xs.map (·.data.toList)) = J) := hjj
    clear hjj
    go_wp2_with fail
    exact bodyPost_ret (v := .tuple #[.string ⟨J.toArray⟩, .nilIface]) (by simp [results, Tryz.results71, go_sem]) rfl ⟨xs.map (·.data.toList), 0, by rw [HJ.out]; rfl, HO.out, HB2.out⟩
theorem inB_take (xs : List ByteArray) (m : List Word) (k : Nat) (hk : k < xs.length) : inB ((xs.map (·.data.toList)).take (k + 1)) m = (inB ((xs.map (·.data.toList)).take k) m && decide (xs[k].data.toList ∈ m)) := by
  unfold inB
  rw [List.take_succ_eq_append_getElem (by simpa using hk), List.all_append]
  simp
theorem inB_bad (xs : List ByteArray) (m : List Word) (k : Nat) (hk : k < xs.length) (h : decide (xs[k].data.toList ∈ m) = false) : inB (xs.map (·.data.toList)) m = false := by
  cases hb : inB (xs.map (·.data.toList)) m with
  | false => rfl
  | true =>
    have := inB_iff.1 hb xs[k].data.toList (mem_bytes.2 (List.getElem_mem hk))
    rw [decide_eq_false_iff_not] at h
    exact absurd this h
set_option maxRecDepth 100000 in
set_option maxHeartbeats 4000000 in
theorem withinS_is (s t : ByteArray) (w : World) (hs : s.size ≤ 5000) (ht : t.size ≤ 5000) (hL : LenOk w) : Calls Tryz.prog 132 #[.string s, .string t] w fun e w' => ∃ r n, e = .returned (.tuple #[.bool r, errQ n]) ∧ WOut s.data.toList t.data.toList r n ∧ Below w.heap.size w w' := by
  have HL : Hid (LenOk w) := hL
  clear hL
  go_enter Tryz.func132, Tryz.ntmps132
  go_wp2_with fail
  have hR2 : ∀ (W : World), Below w.heap.size w W → Calls Tryz.prog 129 #[.string t] W fun e w' => ∃ v xs n, e = .returned (.tuple #[v, errQ n]) ∧ Out t.data.toList (xs.map (·.data.toList)) n ∧ Words w.heap.size w' v xs ∧ Below W.heap.size W w' := fun W hb => (readS_is t W ht (HL.out.below hb)).mono (by
    rintro e w' ⟨v, xs, n, h1, h2, h3, h4⟩
    exact ⟨v, xs, n, h1, h2, h3.mono hb.size, h4⟩)
  obtain ⟨l2, k2, HO2⟩ : ∃ l k, Hid (Out t.data.toList l k) := by
    obtain ⟨l, k, h⟩ := out_ex t.data.toList
    exact ⟨l, k, h⟩
  refine (readS_is s _ hs HL.out).mono ?_
  rintro e w1 ⟨v, xs, n, rfl, ho, hv, hb⟩
  have HO : Hid (Out s.data.toList (xs.map (·.data.toList)) n) := ho
  have HV : Hid (Words w.heap.size w1 v xs) := hv
  have HB : Hid (Below w.heap.size w w1) := hb
  have hx5 : xs.length ≤ 5 := by simpa using (out_len ho).1
  clear ho hv hb
  cases n with
  | succ n =>
    have HW : Hid (WOut s.data.toList t.data.toList false (n + 1)) := ⟨_, _, _, _, HO.out, HO2.out, .inl ⟨by omega, rfl, rfl⟩⟩
    rw [errQ_succ]
    clear hR2
    go_wp2_with fail
    exact bodyPost_ret (v := .tuple #[.bool false, errQ (n + 1)]) (by simp [results, Tryz.results132, go_sem, errQ]) rfl ⟨false, n + 1, rfl, HW.out, HB.out⟩
  | zero =>
    rw [show errQ 0 = .nilIface from rfl]
    have hR := hR2 w1 HB.out
    clear hR2
    go_wp2_with fail
    refine hR.mono ?_
    rintro e w2 ⟨v2, ys, k, rfl, ho2, hv2, hb2⟩
    have HO3 : Hid (Out t.data.toList (ys.map (·.data.toList)) k) := ho2
    have HV2 : Hid (Words w.heap.size w2 v2 ys) := hv2
    have HB2 : Hid (Below w.heap.size w w2) := HB.out.trans (hb2.mono HB.out.size)
    have HV1 : Hid (Words w.heap.size w2 v xs) := HV.out.below hb2 (Nat.le_refl _)
    have hy5 : ys.length ≤ 5 := by simpa using (out_len ho2).1
    clear ho2 hv2 hb2 hR HO2
    cases k with
    | succ k =>
      have HW : Hid (WOut s.data.toList t.data.toList false (k + 1)) := ⟨_, _, _, _, HO.out, HO3.out, .inr (.inl ⟨rfl, by omega, rfl, rfl⟩)⟩
      rw [errQ_succ]
      go_wp2_with fail
      exact bodyPost_ret (v := .tuple #[.bool false, errQ (k + 1)]) (by simp [results, Tryz.results132, go_sem, errQ]) rfl ⟨false, k + 1, rfl, HW.out, HB2.out⟩
    | zero =>
      rw [show errQ 0 = .nilIface from rfl]
      have HWT : Hid (∀ r, r = inB (xs.map (·.data.toList)) (ys.map (·.data.toList)) → WOut s.data.toList t.data.toList r 0) := fun r hr => ⟨_, _, _, _, HO.out, HO3.out, .inr (.inr ⟨rfl, rfl, rfl, hr⟩)⟩
      clear HO HO3
      obtain ⟨base, c, hvv⟩ := HV1.out.slice
      have HRow : Hid (0 < xs.length → ∃ g, base = some ⟨g, 0, none⟩ ∧ RowAt w.heap.size w2 g c xs.length (xs.map Value.string)) := by
        intro hpos
        rcases HV1.out with ⟨_, rfl⟩ | ⟨g, c', e1, h2⟩
        · simp at hpos
        · rw [hvv] at e1
          injection e1 with e1 _ e2
          subst e2
          exact ⟨g, e1, h2⟩
      subst hvv
      go_wp2_with fail
      go_loopg [29] xs.length (fun gk iv wr => ∃ j : Nat, j + gk = xs.length ∧ iv = .int .i64 j ∧ Hid (inB ((xs.map (·.data.toList)).take j) (ys.map (·.data.toList)) = true) ∧ wr = w2)
      case atStart => exact ⟨0, by omega, rfl, rfl, rfl⟩
      case round =>
        obtain ⟨j, hj, rfl, HIN, rfl⟩ := hrel
        have HJ : Hid (j + gk = xs.length) := hj
        have hjl : j ≤ xs.length := by omega
        clear hj
        by_cases hlt : j < xs.length
        · obtain ⟨g, rfl, hr⟩ := HRow.out (by omega)
          have hcell : wr.cell? ⟨g, j, none⟩ = some (.string xs[j]) := hr.holds j _ (by rw [List.getElem?_map, List.getElem?_eq_getElem hlt]; rfl)
          clear hr
          have hltI : (j : Int) < (xs.length : Int) := by omega
          have HT : Hid (inB ((xs.map (·.data.toList)).take (j + 1)) (ys.map (·.data.toList)) = (inB ((xs.map (·.data.toList)).take j) (ys.map (·.data.toList)) && decide (xs[j].data.toList ∈ ys.map (·.data.toList)))) := inB_take xs _ j hlt
          have HF : Hid (decide (xs[j].data.toList ∈ ys.map (·.data.toList)) = false → inB (xs.map (·.data.toList)) (ys.map (·.data.toList)) = false) := inB_bad xs _ j hlt
          generalize hx : xs[j] = x at *
          clear hx
          go_wp2_with fail
          refine (contains_is HV2.out (by omega) x).mono ?_
          rintro e w3 ⟨rfl, rfl⟩
          cases hd : decide (x.data.toList ∈ ys.map (·.data.toList)) with
          | true =>
            have HT2 : Hid (inB ((xs.map (·.data.toList)).take (j + 1)) (ys.map (·.data.toList)) = true) := by show _ = _; rw [HT.out, HIN.out, hd]; rfl
            clear hd
            go_wp2_with fail
            go_roundg (gk - 1)
            case measure => have := HJ.out; omega
            case rel => exact ⟨j + 1, by have := HJ.out; omega, by go_num, HT2, rfl⟩
          | false =>
            have HW : Hid (WOut s.data.toList t.data.toList false 0) := HWT.out false (HF.out hd).symm
            clear hd
            go_wp2_with fail
            exact bodyPost_ret (v := .tuple #[.bool false, .nilIface]) (by simp [results, Tryz.results132, go_sem]) rfl ⟨false, 0, rfl, HW.out, HB2.out⟩
        · obtain rfl : j = xs.length := by omega
          have HW : Hid (WOut s.data.toList t.data.toList true 0) := HWT.out true (by have := HIN.out; rw [List.take_of_length_le (by simp)] at this; exact this.symm)
          go_wp2_with fail
          exact bodyPost_ret (v := .tuple #[.bool true, .nilIface]) (by simp [results, Tryz.results132, go_sem]) rfl (by first | exact ⟨true, 0, rfl, HW.out, HB2.out⟩ | exact .inr ⟨0, rfl, HW.out, HB2.out⟩)
end Go.Proofs.YtlailakofhenkabGreatDoor

namespace Go.Proofs.YtlailakofhenkabGreatDoor
open Go Go.RowKit Go.Maps Go.WideMaps
def HasSet (w : World) (b n : Nat) (S : List UInt8 → Bool) : Prop :=
  ∃ D : DataW Unit, w.ownsMap Tryz.prog 9 (plainElem Tryz.prog 4) b n D ∧ Maps.IsMap D ∧ ∀ k : List UInt8, D.atKey (.string k) (.lit (.bool false)) = .lit (.bool (S k))
theorem setLaw : Keyed Tryz.prog 9 := string_keyed Tryz.underlying9
theorem setZero (w : World) : (zeroValue 4).run Tryz.prog w = .ok (.bool false) w := by kernel_rfl
theorem HasSet.made (w : World) : HasSet (w.alloc (.map #[] 0)) w.heap.size 0 (fun _ => false) :=
  ⟨.map [], World.ownsMap_made _ _ _ _, Maps.isMap_empty, fun _ => rfl⟩
theorem HasSet.kept {w w' : World} {b n : Nat} {S : List UInt8 → Bool} {row : Option Nat} (h : HasSet w b n S) (hg : w.grownBy w' row) (hne : some b ≠ row) : HasSet w' b n S := by
  obtain ⟨D, h1, h2, h3⟩ := h
  exact ⟨D, h1.kept hg hne, h2, h3⟩
theorem HasSet.block {w w' : World} {b n : Nat} {S : List UInt8 → Bool} (h : HasSet w b n S) (hb : w'.heap[b]? = w.heap[b]?) : HasSet w' b n S := by
  obtain ⟨D, ⟨es, clock, e1, F1, e2, e3⟩, h2, h3⟩ := h
  exact ⟨D, ⟨es, clock, hb.trans e1, F1, e2, e3⟩, h2, h3⟩
theorem HasSet.lt {w : World} {b n : Nat} {S : List UInt8 → Bool} (h : HasSet w b n S) : b < w.heap.size := by
  obtain ⟨D, h1, _⟩ := h
  exact h1.lt
theorem plainElem_bool_inv {H : Type} {P : Program} {e : TypeId} (he : P.underlying e = some .bool) {v : Value} {z : DataW H × List MemPlace} (h : plainElem P e v = some z) : ∃ x : Bool, v = .bool x ∧ z = (.lit (.bool x), []) := by
  unfold plainElem at h
  rw [he] at h
  cases v <;> simp at h
  exact ⟨_, rfl, h.symm⟩
theorem HasSet.look {w : World} {b n : Nat} {S : List UInt8 → Bool} (h : HasSet w b n S) {s : ByteArray} (hs : s.size ≤ maxLen) :
    (Instr.lookup 298 (.map (some b)) (.string s) false).run Tryz.prog w = .ok (.bool (S s.data.toList)) w := by
  obtain ⟨D, h1, h2, h3⟩ := h
  obtain ⟨v, ps, hrun, hv⟩ := h1.lookup setLaw Tryz.underlying298 (setZero w) (plainElem_bool Tryz.underlying4 false) (keyOf_string_mk Tryz.underlying9 hs)
  obtain ⟨x, rfl, hz⟩ := plainElem_bool_inv Tryz.underlying4 hv
  rw [hrun]
  have e : D.atKey (.string s.data.toList) (.lit (.bool false)) = (.lit (.bool x) : DataW Unit) := by
    have := congrArg Prod.fst hz
    exact this
  rw [h3] at e
  simp only [DataW.lit.injEq, Lit.bool.injEq] at e
  rw [e]
end Go.Proofs.YtlailakofhenkabGreatDoor

namespace Go.Proofs.YtlailakofhenkabGreatDoor
open Go Go.RowKit Go.Maps Sc
theorem HasSet.below {B : Nat} {w w' : World} {b n : Nat} {S : List UInt8 → Bool} (h : HasSet w b n S) (hb : Below B w w') (hB : b < B) : HasSet w' b n S := h.block (hb.block b hB)
theorem HasSet.mono {w : World} {b n m : Nat} {S : List UInt8 → Bool} (h : HasSet w b n S) (hm : n ≤ m) : HasSet w b m S := by
  obtain ⟨D, h1, h2⟩ := h
  exact ⟨D, h1.mono hm, h2⟩
theorem Words.grownBy {B b : Nat} {w w' : World} {v : Value} {xs : List ByteArray} (h : Words B w v xs) (hg : w.grownBy w' (some b)) (hb : b < B) : Words B w' v xs := by
  rcases h with ⟨rfl, rfl⟩ | ⟨g, c, rfl, hr⟩
  · exact .inl ⟨rfl, rfl⟩
  · exact .inr ⟨g, c, rfl, hr.block hg.size (hg.block g hr.lt (by intro e; injection e with e; have := hr.new; omega))⟩
structure ScRun (w : World) (s : List UInt8) (i : Nat) (outs : List ByteArray) (pre : List Word) (cur : Word) (v : Value) (wr : World) : Prop where
  scan : Scan s i pre cur
  once : Once (outs.map (·.data.toList)) pre
  row : Words (w.heap.size + 1) wr v outs
  set : HasSet wr w.heap.size i (fun x => decide (x ∈ pre))
  below : Below w.heap.size w wr
  len : outs.length ≤ i
theorem ScRun.size {w : World} {s : List UInt8} {i : Nat} {outs : List ByteArray} {pre : List Word} {cur : Word} {v : Value} {wr : World} (h : ScRun w s i outs pre cur v wr) : w.heap.size + 1 ≤ wr.heap.size := h.set.lt
end Go.Proofs.YtlailakofhenkabGreatDoor

namespace Go.Proofs.YtlailakofhenkabGreatDoor.Sc
theorem count_one {m : List Word} (h : m.Nodup) (p : Word) : m.count p = if p ∈ m then 1 else 0 := by
  induction m with
  | nil => simp
  | cons a m ih =>
    rw [List.nodup_cons] at h
    rw [List.count_cons, ih h.2]
    by_cases e : a = p
    · subst e
      simp [h.1]
    · have e' : ¬ p = a := fun h => e h.symm
      simp [e, e']
end Go.Proofs.YtlailakofhenkabGreatDoor.Sc

namespace Go.Proofs.YtlailakofhenkabGreatDoor
open Go Go.RowKit Sc
theorem Words.row {B : Nat} {w : World} {base : Option Addr} {c : Nat} {xs : List ByteArray} (h : Words B w (.slice base xs.length c) xs) (hp : 0 < xs.length) : ∃ g, base = some ⟨g, 0, none⟩ ∧ RowAt B w g c xs.length (xs.map Value.string) := by
  rcases h with ⟨_, rfl⟩ | ⟨g, c', e1, h2⟩
  · simp at hp
  · injection e1 with e1 _ e2
    subst e2
    exact ⟨g, e1, h2⟩
theorem Words.cell {B : Nat} {w : World} {base : Option Addr} {c : Nat} {xs : List ByteArray} (h : Words B w (.slice base xs.length c) xs) (j : Nat) (hj : j < xs.length) : ∃ g, base = some ⟨g, 0, none⟩ ∧ w.cell? ⟨g, j, none⟩ = some (.string xs[j]) := by
  obtain ⟨g, e, hr⟩ := h.row (by omega)
  exact ⟨g, e, hr.holds j _ (by rw [List.getElem?_map, List.getElem?_eq_getElem hj]; rfl)⟩
end Go.Proofs.YtlailakofhenkabGreatDoor

namespace Go.Proofs.YtlailakofhenkabGreatDoor
open Go Go.RowKit Tok Sc Ev
theorem toList_nil {x : ByteArray} (h : x.toList = []) : x = ⟨#[]⟩ := by
  rw [ByteArray.toList_eq] at h
  exact bytes_eq h
def Small (n : Nat) (f : Fam) : Prop := f.client.size ≤ n ∧ f.subject.size ≤ n ∧ f.scope.size ≤ n ∧ f.request.size ≤ n
theorem bool_f {b : Bool} {p : Prop} (hb : b = true ↔ p) (h : ¬ p) : b = false := Bool.eq_false_iff.2 (fun k => h (hb.1 k))
theorem may_2 {f : Fam} {i t : Int} : may ⟨2, f, i, t⟩ ↔ f = zeroF ∧ okN i ∧ t = 0 := by simp [Ev.may]
theorem may_3 {f : Fam} {i t : Int} : may ⟨3, f, i, t⟩ ↔ f = zeroF ∧ i = 0 ∧ okN t := by simp [Ev.may]
theorem may_1 {f : Fam} {i t : Int} : may ⟨1, f, i, t⟩ ↔ mayF f ∧ i = 0 ∧ t = 0 := by simp [Ev.may]
theorem may_no {f : Fam} {k i t : Int} (h1 : k ≠ 1) (h2 : k ≠ 2) (h3 : k ≠ 3) : ¬ may ⟨k, f, i, t⟩ := by simp [Ev.may, h1, h2, h3]
end Go.Proofs.YtlailakofhenkabGreatDoor

namespace Go.Proofs.YtlailakofhenkabGreatDoor
open Go Go.RowKit Tok Sc Ev
theorem okB_lo {n : Int} (h : n < 0) : okB n = false := okB_f (fun k => by have := k.1; omega)
theorem okB_hi {n : Int} (h : 1099511627776 < n) : okB n = false := okB_f (fun k => by have := k.2; omega)
set_option maxHeartbeats 1000000 in
theorem beyond_is (n : Int) (w : World) : Calls Tryz.prog 264 #[.int .i64 n] w fun e w' => e = .returned (.bool (!okB n)) ∧ ∃ q, w' = w.drewN q := by
  by_cases h0 : n < 0
  · have HL : Hid (okB n = false) := okB_lo h0
    go_enter Tryz.func264, Tryz.ntmps264
    go_wp2_with fail
    go_ret
    exact ⟨by rw [HL.out]; rfl, 0, rfl⟩
  · by_cases h1 : 1099511627776 < n
    · have HL : Hid (okB n = false) := okB_hi h1
      go_enter Tryz.func264, Tryz.ntmps264
      go_wp2_with fail
      go_ret
      exact ⟨by rw [HL.out]; rfl, 0, rfl⟩
    · have HL : Hid (okB n = true) := okB_t ⟨by omega, by omega⟩
      go_enter Tryz.func264, Tryz.ntmps264
      go_wp2_with fail
      go_ret
      exact ⟨by rw [HL.out]; rfl, 0, rfl⟩
theorem all_any (ns : List Int) : (!(ns.any fun n => !okB n)) = ns.all okB := by
  induction ns with
  | nil => rfl
  | cons a l ih => rw [List.any_cons, List.all_cons, ← ih]; cases okB a <;> simp
set_option maxHeartbeats 1000000 in
theorem bounds_is (ns : List Int) (g c : Nat) (w : World) (hn : ns.length ≤ 5000) (hc : ∀ j (h : j < ns.length), w.cell? ⟨g, j, none⟩ = some (.int .i64 ns[j])) :
    Calls Tryz.prog 185 #[.slice (some ⟨g, 0, none⟩) ns.length c] w fun e w' => e = .returned (.bool (ns.all okB)) ∧ ∃ q, w' = w.drewN q := by
  rw [← all_any ns]
  have HC := Tryz.slices_ContainsFunc_f265 (Value.int .i64) (fun n => !okB n) 264 #[] (enters_of Tryz.func264 (by kernel_rfl) rfl) g 0 ns.length c ns w (fun W x _ => beyond_is x W) (Nat.le_refl _) (by omega) (fun j hj => by rw [Nat.zero_add, hc j hj, getElem!_pos ns j hj])
  rw [List.take_of_length_le (Nat.le_refl _)] at HC
  clear hc
  go_enter Tryz.func185, Tryz.ntmps185
  go_wp2_with fail
  refine HC.mono ?_
  rintro e w' ⟨rfl, q, rfl⟩
  go_wp2_with fail
  go_ret
  exact ⟨rfl, q, rfl⟩
set_option maxRecDepth 100000 in
set_option maxHeartbeats 2000000 in
theorem isLeast_is (s : ByteArray) (b : Bool) (hb : b = true ↔ Lst s.data.toList) (w : World) (hs : s.size ≤ 5000) (hL : LenOk w) : Calls Tryz.prog 263 #[.string s] w fun e w' => e = .returned (.bool b) ∧ Below w.heap.size w w' := by
  have HL : Hid (LenOk w) := hL
  have HB : Hid (b = true ↔ Lst s.data.toList) := hb
  clear hL hb
  go_enter Tryz.func263, Tryz.ntmps263
  go_wp2_with fail
  refine (leastS_is s _ hs HL.out).mono ?_
  rintro e w' ⟨l, n, rfl, ho, hbl⟩
  have HO : Hid (Out s.data.toList l n) := ho
  have HBL : Hid (Below w.heap.size w w') := hbl
  clear ho hbl
  generalize hJJ : joined l = J
  have HJJ : Hid (joined l = J) := hJJ
  clear hJJ
  cases n with
  | succ n =>
    have HQ : Hid (b = false) := bool_f HB.out (lst_not HO.out)
    rw [errQ_succ]
    go_wp2_with fail
    go_ret
    exact ⟨by rw [HQ.out]; rfl, HBL.out⟩
  | zero =>
    rw [show errQ 0 = .nilIface from rfl]
    by_cases hJ : J = s.data.toList
    · have HQ : Hid (b = true) := HB.out.2 ((lst_of HO.out).2 (HJJ.out.trans hJ))
      have hf4 : s = ⟨J.toArray⟩ := bytes_eq hJ.symm
      clear HO HB
      subst hf4
      go_wp2_with fail
      go_ret
      exact ⟨by rw [HQ.out]; rfl, HBL.out⟩
    · have HQ : Hid (b = false) := bool_f HB.out (fun h => hJ (HJJ.out.symm.trans ((lst_of HO.out).1 h)))
      have hne : (J == s.toList) = false := by rw [ByteArray.toList_eq, beq_eq_false_iff_ne]; exact hJ
      clear HO HB hJ
      go_wp2_with fail
      go_ret
      exact ⟨by rw [HQ.out]; rfl, HBL.out⟩
end Go.Proofs.YtlailakofhenkabGreatDoor
