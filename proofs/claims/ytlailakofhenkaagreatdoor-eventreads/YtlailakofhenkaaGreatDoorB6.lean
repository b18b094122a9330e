/-
  Own texts put together: ScUnlike, ScLeast, MapSet.
-/
import Derived.Test.YtlailakofhenkaaGreatDoorB2
import Derived.Test.YtlailakofhenkaaGreatDoorB3
import Derived.Test.YtlailakofhenkaaGreatDoorB1
import Derived.WalkKit
import Derived.Maps.OwnOps
import Derived.Maps.OwnSet
import Derived.Maps.StringElems
import Derived.StringKeys
/-
  A scope's words, in order, each once; what Read answers.
-/

namespace Go.Proofs.YtlailakofhenkaaGreatDoor
open Go Go.RowKit Sc
theorem getD_map (xs : List ByteArray) (x : ByteArray) (t : Nat) : (xs.map (·.data.toList)).getD t x.data.toList = (xs.getD t x).data.toList := by
  rw [List.getD_eq_getElem?_getD, List.getD_eq_getElem?_getD, List.getElem?_map]
  cases xs[t]? <;> rfl
theorem mem_bytes {xs : List ByteArray} {x : ByteArray} : x.data.toList ∈ xs.map (·.data.toList) ↔ x ∈ xs := by
  rw [List.mem_map]
  constructor
  · rintro ⟨y, hy, e⟩
    have : y = x := ByteArray.ext (Array.toList_inj.1 e)
    exact this ▸ hy
  · exact fun h => ⟨x, h, rfl⟩
theorem search_is {B : Nat} {w : World} {v : Value} {xs : List ByteArray} (h : Words B w v xs) (hn : xs.length ≤ 5000) (hp : (xs.map (·.data.toList)).Pairwise (· < ·)) (x : ByteArray) :
    Calls Tryz.prog 236 #[v, .string x] w fun e w' => (∃ (k : Nat) (found : Bool), e = .returned (.tuple #[.int .i64 k, .bool found]) ∧ k ≤ xs.length ∧ (found = true → x ∈ xs) ∧
      (found = false → x ∉ xs ∧ (∀ y ∈ (xs.map (·.data.toList)).take k, y < x.data.toList) ∧ (∀ y ∈ (xs.map (·.data.toList)).drop k, ¬ y < x.data.toList))) ∧ ∃ q, w' = w.drewN q := by
  rcases h with ⟨rfl, rfl⟩ | ⟨g, c, rfl, hr⟩
  · refine (Any2.slices_BinarySearch_string_empty Tryz.laysNm226 _ _ _ _).mono ?_
    rintro e w' ⟨rfl, rfl⟩
    exact ⟨⟨0, false, rfl, Nat.le_refl _, fun h => (by cases h), fun _ => ⟨by simp, by simp, by simp⟩⟩, 0, rfl⟩
  · obtain ⟨k, hk, h1, h2, h3, h4⟩ := place x.data.toList _ hp
    have hkl : k ≤ xs.length := by simpa using hk
    have hb : Lib.bsGo (fun t => Op.bytesLess ((fun j => xs.getD j x) t).toList x.toList) xs.length 0 xs.length = k := by
      refine Lib.bsGo_spec _ k (fun t ht => ?_) (fun t ht => ?_) _ _ _ (by omega) (Nat.zero_le _) hkl
      · have := h1 t ht
        rw [getD_map] at this
        simp only [bytesLess_eq, ByteArray.toList_eq, decide_eq_true_eq]
        exact this
      · have := h2 t ht
        rw [getD_map] at this
        simp only [bytesLess_eq, ByteArray.toList_eq, decide_eq_false_iff_not]
        exact this
    refine (Any2.slices_BinarySearch_string Tryz.laysNm226 g 0 xs.length c (fun j => xs.getD j x) x w (by omega) (fun j hj => ?_)).mono ?_
    · rw [Nat.zero_add]
      refine hr.holds j _ ?_
      rw [List.getElem?_map, List.getElem?_eq_getElem hj, List.getD_eq_getElem?_getD, List.getElem?_eq_getElem hj]
      rfl
    · rintro e w' ⟨rfl, q, rfl⟩
      rw [hb]
      refine ⟨⟨k, _, rfl, hkl, fun hf => ?_, fun hf => ⟨fun hx => ?_, h3, h4⟩⟩, q, rfl⟩
      · obtain ⟨hlt, he⟩ := of_decide_eq_true hf
        rw [← he]
        simp only [List.getD_eq_getElem?_getD, List.getElem?_eq_getElem hlt]
        exact List.getElem_mem _
      · have hf := of_decide_eq_false hf
        have hm := mem_bytes.2 hx
        rw [← List.take_append_drop k (xs.map (·.data.toList)), List.mem_append] at hm
        rcases hm with hm | hm
        · exact lt_irr _ (h3 _ hm)
        · have hlt : k < xs.length := by
            have := List.length_pos_of_mem hm
            simp at this
            omega
          apply hf
          refine ⟨hlt, ?_⟩
          have hge := h2 k (Nat.le_refl _)
          rw [getD_map] at hge
          have hd := List.drop_eq_getElem_cons (l := xs.map (·.data.toList)) (i := k) (by simpa using hlt)
          rw [hd, List.mem_cons] at hm
          simp only [List.getElem_map] at hm hd
          have he : (xs.getD k x) = xs[k] := by rw [List.getD_eq_getElem?_getD, List.getElem?_eq_getElem hlt]; rfl
          rcases hm with hm | hm
          · rw [he]
            exact (ByteArray.ext (Array.toList_inj.1 hm)).symm
          · exfalso
            rw [he] at hge
            have hp2 := hp
            rw [← List.take_append_drop k (xs.map (·.data.toList)), List.pairwise_append] at hp2
            have hp3 := hp2.2.1
            rw [hd, List.pairwise_cons] at hp3
            exact hge (hp3.1 _ hm)
set_option maxHeartbeats 1000000 in
theorem clone_is (s : ByteArray) (w : World) (hs : s.size ≤ 10000) : Calls Tryz.prog 144 #[.string s] w fun e w' => e = .returned (.string s) ∧ Below w.heap.size w w' := by
  have hc := Tryz.stringslite_Clone s w (by omega)
  go_enter Tryz.func144, Tryz.ntmps144
  go_wp2_with fail
  refine hc.mono ?_
  rintro e w' ⟨rfl, hb⟩
  go_wp2_with fail
  go_ret
  exact ⟨rfl, hb⟩
theorem Words.slice {B : Nat} {w : World} {v : Value} {xs : List ByteArray} (h : Words B w v xs) : ∃ base c, v = .slice base xs.length c := by
  rcases h with ⟨rfl, rfl⟩ | ⟨g, c, rfl, _⟩
  · exact ⟨none, 0, rfl⟩
  · exact ⟨_, _, rfl⟩
/-- What unlike leaves: the words that were looked at, rising; all, or more than five. -/
def Seen (s : List UInt8) (xs : List ByteArray) : Prop := xs.length ≤ 6 ∧ ∃ pre rest, words s = pre ++ rest ∧ SetOf (xs.map (·.data.toList)) pre ∧ (rest = [] ∨ 5 < xs.length)
set_option maxRecDepth 100000 in
set_option maxHeartbeats 4000000 in
theorem unlike_is (s : ByteArray) (w : World) (hs : s.size ≤ 5000) (hL : LenOk w) : Calls Tryz.prog 222 #[.string s] w fun e w' => ∃ v xs, e = .returned v ∧ Words w.heap.size w' v xs ∧ Below w.heap.size w w' ∧ Seen s.data.toList xs := by
  have HL : Hid (LenOk w) := hL
  clear hL
  have hss : s.data.toList.length = s.size := Array.length_toList
  obtain ⟨m0, HS, hm0⟩ : ∃ m0 : Bool, Hid (words s.data.toList = left m0 s.data.toList) ∧ s.toList.isEmpty = !m0 := by
    by_cases h0 : s.data.toList = []
    · exact ⟨false, by show _ = _; rw [h0]; rfl, by rw [ByteArray.toList_eq, h0]; rfl⟩
    · exact ⟨true, by show _ = _; rw [words_ne h0]; rfl, by rw [ByteArray.toList_eq, List.isEmpty_eq_false_iff.2 h0]; rfl⟩
  go_enter Tryz.func222, Tryz.ntmps222
  go_wp2_with fail
  go_loopg [0, 3, 4] (s.size + 1) (fun gk sv v mv wr => ∃ (l : List UInt8) (more : Bool) (xs : List ByteArray) (pre : List Word), sv = .string ⟨l.toArray⟩ ∧ mv = .bool more ∧ Hid (if more then l.length < gk else True) ∧ l.length ≤ 5000 ∧ Hid (words s.data.toList = pre ++ left more l) ∧ Hid (SetOf (xs.map (·.data.toList)) pre) ∧ xs.length ≤ 6 ∧ Hid (Words w.heap.size wr v xs) ∧ Hid (Below w.heap.size w wr))
  case atStart =>
    refine ⟨s.data.toList, m0, [], [], rfl, by simp, ?_, by omega, by simpa [Hid] using HS.out, by simpa [Hid] using setOf_nil, by simp, by show _; exact .inl ⟨rfl, rfl⟩, Below.refl _ _⟩
    show if m0 then _ else _
    cases m0
    · exact trivial
    · show s.data.toList.length < s.size + 1
      omega
  case round =>
    obtain ⟨l, more, xs, pre, rfl, rfl, HG, hl, HW, HSO, hx6, HV, HB⟩ := hrel
    obtain ⟨base, c, rfl⟩ := HV.out.slice
    clear hm0
    cases more with
    | false =>
      have HR : Hid (Seen s.data.toList xs) := ⟨hx6, pre, [], by rw [HW.out]; rfl, HSO.out, .inl rfl⟩
      go_wp2_with fail
      go_ret
      exact ⟨_, xs, rfl, HV.out, HB.out, HR.out⟩
    | true =>
      by_cases h5 : xs.length ≤ 5
      · have HLT : Hid (l.length < gk) := HG.out
        obtain ⟨m, hm⟩ := HL.out.below HB.out
        have hcut := Tryz.strings_Cut ⟨l.toArray⟩ ⟨#[43]⟩ m wr (by rw [bsize]; omega) hm
        rw [blist, show (⟨#[43]⟩ : ByteArray).data.toList = [43] from rfl] at hcut
        have hst := left_step l
        have hln := left_len l
        generalize (Lib.cut l [43]).1 = a at *
        generalize (Lib.cut l [43]).2.1 = b at *
        generalize (Lib.cut l [43]).2.2 = f at *
        have HW2 : Hid (words s.data.toList = (pre ++ [a]) ++ left f b) := by show _ = _; rw [HW.out, hst]; simp
        have HLN : Hid (f = true → b.length + 1 ≤ l.length) := hln.2.2
        have hal : a.length ≤ 5000 := by have := hln.1; omega
        have hbl : b.length ≤ 5000 := by have := hln.2.1; omega
        have hG2 : Hid (if f then b.length < gk - 1 else True) := by
          show if f then _ else _
          cases f with
          | false => exact trivial
          | true => have := HLT.out; have := HLN.out rfl; show b.length < gk - 1; omega
        have HMS : Hid (gk - 1 < gk) := by show _ < _; have := HLT.out; omega
        clear hst hln HG HLT HLN HW hm
        go_wp2_with fail
        refine hcut.mono ?_
        rintro e w1 ⟨rfl, d1, rfl⟩
        clear hcut
        have HV1 : Hid (Words w.heap.size (wr.drewN d1) (.slice base xs.length c) xs) := HV.out.below (below_drewN' (Below.refl _ _) _) (Nat.le_refl _)
        go_wp2_with fail
        refine (search_is HV1.out (by omega) HSO.out.1 ⟨a.toArray⟩).mono ?_
        rintro e w2 ⟨⟨k, found, rfl, hk, hf1, hf2⟩, d2, rfl⟩
        have HV2 : Hid (Words w.heap.size (wr.drewN (d1 + d2)) (.slice base xs.length c) xs) := HV.out.below (below_drewN' (Below.refl _ _) _) (Nat.le_refl _)
        have HB2 : Hid (Below w.heap.size w (wr.drewN (d1 + d2))) := below_drewN' HB.out (d1 + d2)
        clear HV1
        cases found with
        | true =>
          have HSO2 : Hid (SetOf (xs.map (·.data.toList)) (pre ++ [a])) := setOf_there HSO.out (mem_bytes.2 (hf1 rfl))
          clear hf1 hf2
          go_wp2_with fail
          go_roundg (gk - 1)
          case measure => exact HMS.out
          case rel => exact ⟨b, f, xs, pre ++ [a], rfl, rfl, hG2, hbl, HW2, HSO2, hx6, HV2, HB2⟩
        | false =>
          have HSO2 : Hid (SetOf ((xs.take k ++ (⟨a.toArray⟩ : ByteArray) :: xs.drop k).map (·.data.toList)) (pre ++ [a])) := by
            obtain ⟨g1, g2, g3⟩ := hf2 rfl
            have := setOf_put (x := a) (k := k) HSO.out (fun h => g1 (mem_bytes.1 h)) g2 g3
            simpa [Hid] using this
          clear hf1 hf2
          go_wp2_with fail
          refine (clone_is ⟨a.toArray⟩ _ (by rw [bsize]; omega)).mono ?_
          rintro e w3 ⟨rfl, hb3⟩
          have HV3 : Hid (Words w.heap.size w3 (.slice base xs.length c) xs) := HV2.out.below hb3 (Nat.le_refl _)
          have HB3 : Hid (Below w.heap.size w w3) := HB2.out.trans (hb3.mono HB2.out.size)
          clear hb3 HV2
          go_wp2_with fail
          refine (insert_is HV3.out k hk (by omega) HB3.out.size ⟨a.toArray⟩ 9).mono ?_
          rintro e w4 ⟨v', rfl, hv4, hb4⟩
          have HV4 : Hid (Words w.heap.size w4 v' (xs.take k ++ (⟨a.toArray⟩ : ByteArray) :: xs.drop k)) := hv4
          have HB4 : Hid (Below w.heap.size w w4) := HB3.out.trans hb4
          have hx2 : (xs.take k ++ (⟨a.toArray⟩ : ByteArray) :: xs.drop k).length ≤ 6 := by rw [ins_len xs k hk]; omega
          clear hv4 hb4
          generalize (xs.take k ++ (⟨a.toArray⟩ : ByteArray) :: xs.drop k) = ys at *
          go_wp2_with fail
          go_roundg (gk - 1)
          case measure => exact HMS.out
          case rel => exact ⟨b, f, ys, pre ++ [a], rfl, rfl, hG2, hbl, HW2, HSO2, hx2, HV4, HB4⟩
      · have HR : Hid (Seen s.data.toList xs) := ⟨hx6, pre, _, HW.out, HSO.out, .inr (by omega)⟩
        have h5' : ¬ (xs.length : Int) ≤ 5 := by omega
        go_wp2_with fail
        go_ret
        first | exact ⟨_, rfl, xs, HV.out, HB.out, HR.out⟩ | exact ⟨_, xs, rfl, HV.out, HB.out, HR.out⟩
def errQ : Nat → Value
  | 0 => .nilIface
  | n => .iface 26 (.int .i64 n)
theorem any_long (xs : List ByteArray) : (xs.any fun x => decide (8 < x.size)) = decide (∃ w ∈ xs.map (·.data.toList), 8 < w.length) := by
  rw [Bool.eq_iff_iff, List.any_eq_true, decide_eq_true_iff]
  constructor
  · rintro ⟨x, hx, h⟩
    exact ⟨_, List.mem_map.2 ⟨x, hx, rfl⟩, by simpa using h⟩
  · rintro ⟨w, hw, h⟩
    obtain ⟨x, hx, rfl⟩ := List.mem_map.1 hw
    exact ⟨x, hx, by simpa using h⟩
theorem seen_many {s : List UInt8} {xs : List ByteArray} (hf : formedB s = true) (h : Seen s xs) (h5 : 5 < xs.length) : Out s [] 4 := by
  obtain ⟨_, pre, rest, e, hs, _⟩ := h
  obtain ⟨m, h1, h2⟩ := setOf_grows rest hs
  exact .inr (.inr ⟨rfl, rfl, hf, m, by rwa [e], .inl (by simp at h2; omega)⟩)
theorem seen_all {s : List UInt8} {xs : List ByteArray} (h : Seen s xs) (h5 : ¬ 5 < xs.length) : SetOf (xs.map (·.data.toList)) (words s) := by
  obtain ⟨_, pre, rest, e, hs, hr⟩ := h
  rcases hr with rfl | hr
  · rw [e, List.append_nil]; exact hs
  · exact absurd hr h5
theorem seen_long {s : List UInt8} {xs : List ByteArray} (hf : formedB s = true) (h : SetOf (xs.map (·.data.toList)) (words s)) (hl : (xs.any fun x => decide (8 < x.size)) = true) : Out s [] 4 := by
  rw [any_long, decide_eq_true_iff] at hl
  obtain ⟨w, hw, h8⟩ := hl
  exact .inr (.inr ⟨rfl, rfl, hf, _, h, .inr ⟨w, (h.2 w).1 hw, h8⟩⟩)
theorem seen_good {s : List UInt8} {xs : List ByteArray} (hf : formedB s = true) (h : SetOf (xs.map (·.data.toList)) (words s)) (h5 : ¬ 5 < xs.length) (hl : (xs.any fun x => decide (8 < x.size)) = false) : Out s (xs.map (·.data.toList)) 0 := by
  rw [any_long, decide_eq_false_iff_not] at hl
  exact .inl ⟨rfl, hf, h, by simp; omega, fun w hw => by
    rcases Nat.lt_or_ge 8 w.length with h8 | h8
    · exact absurd ⟨w, (h.2 w).2 hw, h8⟩ hl
    · exact h8⟩
theorem contains_long {w : World} {v : Value} {xs : List ByteArray} {B : Nat} (h : Words B w v xs) (hn : xs.length ≤ 5000) :
    Calls Tryz.prog 224 #[v, .func (.func 223) #[] #[]] w fun e w' => e = .returned (.bool (xs.any fun x => decide (8 < x.size))) ∧ ∃ q, w' = w.drewN q := by
  rcases h with ⟨rfl, rfl⟩ | ⟨g, c, rfl, hr⟩
  · refine (Tryz.slices_ContainsFunc_empty_f224 (α := ByteArray) none 0 _ w).mono ?_
    rintro e w' ⟨rfl, rfl⟩
    exact ⟨rfl, 0, rfl⟩
  · refine (Tryz.slices_ContainsFunc_f224 Value.string (fun x => decide (8 < x.size)) 223 #[] (enters_of Tryz.func223 (by kernel_rfl) rfl) g 0 xs.length c xs w (fun W x _ => tooLong_is x W) (Nat.le_refl _) (by omega) (fun j hj => ?_)).mono ?_
    · rw [Nat.zero_add]
      refine hr.holds j _ ?_
      rw [List.getElem?_map, List.getElem?_eq_getElem hj, getElem!_pos xs j hj]
      rfl
    · rintro e w' ⟨rfl, q, rfl⟩
      exact ⟨by rw [List.take_of_length_le (Nat.le_refl _)], q, rfl⟩
set_option maxRecDepth 100000 in
set_option maxHeartbeats 4000000 in
theorem readS_is (s : ByteArray) (w : World) (hs : s.size ≤ 5000) (hL : LenOk w) : Calls Tryz.prog 212 #[.string s] w fun e w' => ∃ v xs n, e = .returned (.tuple #[v, errQ n]) ∧ Out s.data.toList (xs.map (·.data.toList)) n ∧ Words w.heap.size w' v xs ∧ Below w.heap.size w w' := by
  have HL : Hid (LenOk w) := hL
  clear hL
  go_enter Tryz.func212, Tryz.ntmps212
  go_wp2_with fail
  refine (isScope_is s _ hs HL.out).mono ?_
  rintro e w1 ⟨rfl, n1, rfl⟩
  cases hf : formedB s.data.toList with
  | false =>
    have HO : Hid (Out s.data.toList (([] : List ByteArray).map (·.data.toList)) 3) := .inr (.inl ⟨rfl, rfl, hf⟩)
    clear hf
    go_wp2_with fail
    exact bodyPost_ret (v := .tuple #[.slice none 0 0, .iface 26 (.int .i64 3)]) (by simp [results, Tryz.results212, go_sem]) rfl ⟨_, [], 3, rfl, HO.out, .inl ⟨rfl, rfl⟩, below_drewN' (Below.refl _ _) _⟩
  | true =>
    have HF : Hid (formedB s.data.toList = true) := hf
    clear hf
    have HB1 : Hid (Below w.heap.size w (w.drewN n1)) := below_drewN' (Below.refl _ _) _
    go_wp2_with fail
    refine (unlike_is s _ hs (HL.out.below HB1.out)).mono ?_
    rintro e w2 ⟨v, xs, rfl, hv, hb, hseen⟩
    have HV : Hid (Words w.heap.size w2 v xs) := hv
    have HB2 : Hid (Below w.heap.size w w2) := HB1.out.trans hb
    have HS : Hid (Seen s.data.toList xs) := hseen
    have hx6 : xs.length ≤ 6 := hseen.1
    clear hv hb hseen HB1
    obtain ⟨base, c, rfl⟩ := HV.out.slice
    by_cases h5 : 5 < xs.length
    · have HO : Hid (Out s.data.toList (([] : List ByteArray).map (·.data.toList)) 4) := seen_many HF.out HS.out h5
      go_wp2_with fail
      exact bodyPost_ret (v := .tuple #[.slice none 0 0, .iface 26 (.int .i64 4)]) (by simp [results, Tryz.results212, go_sem]) rfl ⟨_, [], 4, rfl, HO.out, .inl ⟨rfl, rfl⟩, HB2.out⟩
    · have HSA : Hid (SetOf (xs.map (·.data.toList)) (words s.data.toList)) := seen_all HS.out h5
      have H5 : Hid (¬ 5 < xs.length) := h5
      have h5' : (xs.length : Int) ≤ 5 := by omega
      clear h5 HS
      go_wp2_with fail
      refine (contains_long HV.out (by omega)).mono ?_
      rintro e w3 ⟨rfl, q, rfl⟩
      have HB3 : Hid (Below w.heap.size w (w2.drewN q)) := below_drewN' HB2.out q
      have HV3 : Hid (Words w.heap.size (w2.drewN q) (.slice base xs.length c) xs) := HV.out.below (below_drewN' (Below.refl _ _) _) (Nat.le_refl _)
      cases hl : (xs.any fun x => decide (8 < x.size)) with
      | true =>
        have HO : Hid (Out s.data.toList (([] : List ByteArray).map (·.data.toList)) 4) := seen_long HF.out HSA.out hl
        clear hl
        go_wp2_with fail
        exact bodyPost_ret (v := .tuple #[.slice none 0 0, .iface 26 (.int .i64 4)]) (by simp [results, Tryz.results212, go_sem]) rfl ⟨_, [], 4, rfl, HO.out, .inl ⟨rfl, rfl⟩, HB3.out⟩
      | false =>
        have HO : Hid (Out s.data.toList (xs.map (·.data.toList)) 0) := seen_good HF.out HSA.out H5.out hl
        clear hl
        go_wp2_with fail
        exact bodyPost_ret (v := .tuple #[.slice base xs.length c, .nilIface]) (by simp [results, Tryz.results212, go_sem]) rfl ⟨_, xs, 0, rfl, HO.out, HV3.out, HB3.out⟩
end Go.Proofs.YtlailakofhenkaaGreatDoor

/-
  A scope's least form, and whether one is within another, as the program answers.
-/

namespace Go.Proofs.YtlailakofhenkaaGreatDoor
open Go Go.RowKit Sc
theorem join_is {B : Nat} {w : World} {v : Value} {xs : List ByteArray} (h : Words B w v xs) (hn : (joined (xs.map (·.data.toList))).length ≤ 5000) (hx : xs.length ≤ 5000) :
    Calls Tryz.prog 57 #[v, .string ⟨#[43]⟩] w fun e w' => e = .returned (.string ⟨(joined (xs.map (·.data.toList))).toArray⟩) ∧ Below w.heap.size w w' := by
  rcases h with ⟨rfl, rfl⟩ | ⟨g, c, rfl, hr⟩
  · refine (Tryz.strings_Join_none none 0 ⟨#[43]⟩ w).mono ?_
    rintro e w' ⟨rfl, rfl⟩
    exact ⟨rfl, Below.refl _ _⟩
  · refine Tryz.strings_Join g 0 c xs ⟨#[43]⟩ w (fun j x hj => ?_) hr.lt (by omega) hr.le (by show (joined _).length ≤ _; omega)
    rw [Nat.zero_add]
    refine hr.holds j _ ?_
    rw [List.getElem?_map, hj]
    rfl
theorem errQ_succ (n : Nat) : errQ (n + 1) = .iface 26 (.int .i64 ((n + 1 : Nat) : Int)) := rfl
set_option maxRecDepth 100000 in
set_option maxHeartbeats 4000000 in
theorem leastS_is (s : ByteArray) (w : World) (hs : s.size ≤ 5000) (hL : LenOk w) : Calls Tryz.prog 178 #[.string s] w fun e w' => ∃ l n, e = .returned (.tuple #[.string ⟨(joined l).toArray⟩, errQ n]) ∧ Out s.data.toList l n ∧ Below w.heap.size w w' := by
  have HL : Hid (LenOk w) := hL
  clear hL
  go_enter Tryz.func178, Tryz.ntmps178
  go_wp2_with fail
  refine (readS_is s _ hs HL.out).mono ?_
  rintro e w1 ⟨v, xs, n, rfl, ho, hv, hb⟩
  have HO : Hid (Out s.data.toList (xs.map (·.data.toList)) n) := ho
  have HV : Hid (Words w.heap.size w1 v xs) := hv
  have HB : Hid (Below w.heap.size w w1) := hb
  have hln := out_len ho
  have hx5 : xs.length ≤ 5 := by simpa using hln.1
  have hj : (joined (xs.map (·.data.toList))).length ≤ 5000 := by omega
  clear ho hv hb hln
  cases n with
  | succ n =>
    have HN : Hid (Out s.data.toList [] (n + 1)) := by have := out_no HO.out; rw [← this]; exact HO.out
    rw [errQ_succ]
    go_wp2_with fail
    exact bodyPost_ret (v := .tuple #[.string ⟨#[]⟩, errQ (n + 1)]) (by simp [results, Tryz.results178, go_sem, errQ]) rfl ⟨[], n + 1, rfl, HN.out, HB.out⟩
  | zero =>
    rw [show errQ 0 = .nilIface from rfl]
    go_wp2_with fail
    refine (join_is HV.out hj (by omega)).mono ?_
    rintro e w2 ⟨rfl, hb2⟩
    have HB2 : Hid (Below w.heap.size w w2) := HB.out.trans (hb2.mono HB.out.size)
    clear hb2
    generalize hjj : joined (xs.map (·.data.toList)) = J at *
    have HJ : Hid (joined (xs.map (·.data.toList)) = J) := hjj
    clear hjj
    go_wp2_with fail
    exact bodyPost_ret (v := .tuple #[.string ⟨J.toArray⟩, .nilIface]) (by simp [results, Tryz.results178, go_sem]) rfl ⟨xs.map (·.data.toList), 0, by rw [HJ.out]; rfl, HO.out, HB2.out⟩
theorem inB_take (xs : List ByteArray) (m : List Word) (k : Nat) (hk : k < xs.length) : inB ((xs.map (·.data.toList)).take (k + 1)) m = (inB ((xs.map (·.data.toList)).take k) m && decide (xs[k].data.toList ∈ m)) := by
  unfold inB
  rw [List.take_succ_eq_append_getElem (by simpa using hk), List.all_append]
  simp
theorem inB_bad (xs : List ByteArray) (m : List Word) (k : Nat) (hk : k < xs.length) (h : decide (xs[k].data.toList ∈ m) = false) : inB (xs.map (·.data.toList)) m = false := by
  cases hb : inB (xs.map (·.data.toList)) m with
  | false => rfl
  | true =>
    have := inB_iff.1 hb xs[k].data.toList (mem_bytes.2 (List.getElem_mem hk))
    rw [decide_eq_false_iff_not] at h
    exact absurd this h
end Go.Proofs.YtlailakofhenkaaGreatDoor

/-
  A set of texts that the call has made (map[string]bool): told by a Bool function; a look-up and a store at the operation.
-/

namespace Go.Proofs.YtlailakofhenkaaGreatDoor
open Go Go.RowKit Go.Maps Go.WideMaps
def HasSet (w : World) (b n : Nat) (S : List UInt8 → Bool) : Prop :=
  ∃ D : DataW Unit, w.ownsMap Tryz.prog 9 (plainElem Tryz.prog 4) b n D ∧ Maps.IsMap D ∧ ∀ k : List UInt8, D.atKey (.string k) (.lit (.bool false)) = .lit (.bool (S k))
theorem setLaw : Keyed Tryz.prog 9 := string_keyed Tryz.underlying9
theorem setZero (w : World) : (zeroValue 4).run Tryz.prog w = .ok (.bool false) w := by kernel_rfl
theorem HasSet.made (w : World) : HasSet (w.alloc (.map #[] 0)) w.heap.size 0 (fun _ => false) :=
  ⟨.map [], World.ownsMap_made _ _ _ _, Maps.isMap_empty, fun _ => rfl⟩
theorem HasSet.kept {w w' : World} {b n : Nat} {S : List UInt8 → Bool} {row : Option Nat} (h : HasSet w b n S) (hg : w.grownBy w' row) (hne : some b ≠ row) : HasSet w' b n S := by
  obtain ⟨D, h1, h2, h3⟩ := h
  exact ⟨D, h1.kept hg hne, h2, h3⟩
theorem HasSet.block {w w' : World} {b n : Nat} {S : List UInt8 → Bool} (h : HasSet w b n S) (hb : w'.heap[b]? = w.heap[b]?) : HasSet w' b n S := by
  obtain ⟨D, ⟨es, clock, e1, F1, e2, e3⟩, h2, h3⟩ := h
  exact ⟨D, ⟨es, clock, hb.trans e1, F1, e2, e3⟩, h2, h3⟩
theorem HasSet.lt {w : World} {b n : Nat} {S : List UInt8 → Bool} (h : HasSet w b n S) : b < w.heap.size := by
  obtain ⟨D, h1, _⟩ := h
  exact h1.lt
theorem plainElem_bool_inv {H : Type} {P : Program} {e : TypeId} (he : P.underlying e = some .bool) {v : Value} {z : DataW H × List MemPlace} (h : plainElem P e v = some z) : ∃ x : Bool, v = .bool x ∧ z = (.lit (.bool x), []) := by
  unfold plainElem at h
  rw [he] at h
  cases v <;> simp at h
  exact ⟨_, rfl, h.symm⟩
theorem HasSet.look {w : World} {b n : Nat} {S : List UInt8 → Bool} (h : HasSet w b n S) {s : ByteArray} (hs : s.size ≤ maxLen) :
    (Instr.lookup 230 (.map (some b)) (.string s) false).run Tryz.prog w = .ok (.bool (S s.data.toList)) w := by
  obtain ⟨D, h1, h2, h3⟩ := h
  obtain ⟨v, ps, hrun, hv⟩ := h1.lookup setLaw Tryz.underlying230 (setZero w) (plainElem_bool Tryz.underlying4 false) (keyOf_string_mk Tryz.underlying9 hs)
  obtain ⟨x, rfl, hz⟩ := plainElem_bool_inv Tryz.underlying4 hv
  rw [hrun]
  have e : D.atKey (.string s.data.toList) (.lit (.bool false)) = (.lit (.bool x) : DataW Unit) := by
    have := congrArg Prod.fst hz
    exact this
  rw [h3] at e
  simp only [DataW.lit.injEq, Lit.bool.injEq] at e
  rw [e]
theorem wpList_setPut (w : World) {ops : Array Oper} {rest : List Oper} {o : Oper} {a : Act} {Q : Exit → Act → World → Prop}
    (hg : o.guard = none) (m x v : Operand) (hop : o.op = Op.mapUpdate 230 m x v) (b n : Nat) (S : List UInt8 → Bool) (hm : a.eval m = .map (some b)) (h : HasSet w b n S) (hn : n < maxLen) (s : ByteArray) (hx : a.eval x = .string s) (hv : a.eval v = .bool true) (hs : s.size ≤ maxLen)
    (hK : ∀ w', HasSet w' b (n + 1) (fun j => decide (j = s.data.toList) || S j) → w.grownBy w' (some b) → wpList Tryz.prog ops Q rest (a.put o.dst undef) w') : wpList Tryz.prog ops Q (o :: rest) a w := by
  obtain ⟨D, h1, h2, h3⟩ := h
  refine wpList_mapUpdate_own w hg m x v _ hop 9 4 setLaw Tryz.underlying230 _ b n D hm h1 hn _ _ (.string s.data.toList) hx hv (keyOf_string_mk Tryz.underlying9 hs) (.lit (.bool true)) [] (plainElem_bool Tryz.underlying4 true) ?_
  intro w' h4 h5
  refine hK w' ⟨_, h4, h2.put _ _, fun j => ?_⟩ h5
  by_cases e : j = s.data.toList
  · subst e
    rw [Maps.atKey_put_same h2 (by exact trivial)]
    simp
  · rw [Maps.atKey_put_other (by simpa using e)]
    rw [h3 j]
    simp [e]
end Go.Proofs.YtlailakofhenkaaGreatDoor
