/-
  A scope's least form, and whether one is within another, as the program answers.
-/
import Derived.Test.YtibelcnjmpedkaaScUnlike
import Derived.Test.YtibelcnjmpedkaaScJoin
namespace Go.Proofs.Ytibelcnjmpedkaa
open Go Go.RowKit Sc
theorem join_is {B : Nat} {w : World} {v : Value} {xs : List ByteArray} (h : Words B w v xs) (hn : (joined (xs.map (·.data.toList))).length ≤ 1000) (hx : xs.length ≤ 1000) :
    Calls Try.prog 15 #[v, .string ⟨#[43]⟩] w fun e w' => e = .returned (.string ⟨(joined (xs.map (·.data.toList))).toArray⟩) ∧ Below w.heap.size w w' := by
  rcases h with ⟨rfl, rfl⟩ | ⟨g, c, rfl, hr⟩
  · refine (Try.strings_Join_none none 0 ⟨#[43]⟩ w).mono ?_
    rintro e w' ⟨rfl, rfl⟩
    exact ⟨rfl, Below.refl _ _⟩
  · refine Try.strings_Join g 0 c xs ⟨#[43]⟩ w (fun j x hj => ?_) hr.lt (by omega) hr.le (by show (joined _).length ≤ _; omega)
    rw [Nat.zero_add]
    refine hr.holds j _ ?_
    rw [List.getElem?_map, hj]
    rfl
theorem contains_is {B : Nat} {w : World} {v : Value} {ys : List ByteArray} (h : Words B w v ys) (hn : ys.length ≤ 1000) (x : ByteArray) :
    Calls Try.prog 16 #[v, .string x] w fun e w' => e = .returned (.bool (decide (x.data.toList ∈ ys.map (·.data.toList)))) ∧ w' = w := by
  rcases h with ⟨rfl, rfl⟩ | ⟨g, c, rfl, hr⟩
  · refine (Try.slices_Contains_string_empty none 0 x w).mono ?_
    rintro e w' ⟨rfl, rfl⟩
    exact ⟨rfl, rfl⟩
  · refine (Try.slices_Contains_string g 0 ys.length c ys x w (Nat.le_refl _) (by omega) (fun j hj => ?_)).mono ?_
    · rw [Nat.zero_add]
      refine hr.holds j _ ?_
      rw [List.getElem?_map, List.getElem?_eq_getElem hj, List.getD_eq_getElem?_getD, List.getElem?_eq_getElem hj]
      rfl
    · rintro e w' ⟨rfl, rfl⟩
      refine ⟨?_, rfl⟩
      congr 2
      rw [List.take_of_length_le (Nat.le_refl _), Bool.eq_iff_iff, Lib.containsS_iff, decide_eq_true_iff, mem_bytes]
theorem errQ_succ (n : Nat) : errQ (n + 1) = .iface 53 (.int .i64 ((n + 1 : Nat) : Int)) := rfl
set_option maxRecDepth 100000 in
set_option maxHeartbeats 4000000 in
theorem leastS_is (s : ByteArray) (w : World) (hs : s.size ≤ 1000) (hL : LenOk w) : Calls Try.prog 6 #[.string s] w fun e w' => ∃ l n, e = .returned (.tuple #[.string ⟨(joined l).toArray⟩, errQ n]) ∧ Out s.data.toList l n ∧ Below w.heap.size w w' := by
  have HL : Hid (LenOk w) := hL
  clear hL
  go_enter Try.func6, Try.ntmps6
  go_wp2_with fail
  refine (readS_is s _ hs HL.out).mono ?_
  rintro e w1 ⟨v, xs, n, rfl, ho, hv, hb⟩
  have HO : Hid (Out s.data.toList (xs.map (·.data.toList)) n) := ho
  have HV : Hid (Words w.heap.size w1 v xs) := hv
  have HB : Hid (Below w.heap.size w w1) := hb
  have hln := out_len ho
  have hx5 : xs.length ≤ 5 := by simpa using hln.1
  have hj : (joined (xs.map (·.data.toList))).length ≤ 1000 := by omega
  clear ho hv hb hln
  cases n with
  | succ n =>
    have HN : Hid (Out s.data.toList [] (n + 1)) := by have := out_no HO.out; rw [← this]; exact HO.out
    rw [errQ_succ]
    go_wp2_with fail
    exact bodyPost_ret (v := .tuple #[.string ⟨#[]⟩, errQ (n + 1)]) (by simp [results, Try.results6, go_sem, errQ]) rfl ⟨[], n + 1, rfl, HN.out, HB.out⟩
  | zero =>
    rw [show errQ 0 = .nilIface from rfl]
    go_wp2_with fail
    refine (join_is HV.out hj (by omega)).mono ?_
    rintro e w2 ⟨rfl, hb2⟩
    have HB2 : Hid (Below w.heap.size w w2) := HB.out.trans (hb2.mono HB.out.size)
    clear hb2
    generalize hjj : joined (xs.map (·.data.toList)) = J at *
    have HJ : Hid (joined (xs.map (·.data.toList)) = J) := hjj
    clear hjj
    go_wp2_with fail
    exact bodyPost_ret (v := .tuple #[.string ⟨J.toArray⟩, .nilIface]) (by simp [results, Try.results6, go_sem]) rfl ⟨xs.map (·.data.toList), 0, by rw [HJ.out]; rfl, HO.out, HB2.out⟩
theorem inB_take (xs : List ByteArray) (m : List Word) (k : Nat) (hk : k < xs.length) : inB ((xs.map (·.data.toList)).take (k + 1)) m = (inB ((xs.map (·.data.toList)).take k) m && decide (xs[k].data.toList ∈ m)) := by
  unfold inB
  rw [List.take_succ_eq_append_getElem (by simpa using hk), List.all_append]
  simp
theorem inB_bad (xs : List ByteArray) (m : List Word) (k : Nat) (hk : k < xs.length) (h : decide (xs[k].data.toList ∈ m) = false) : inB (xs.map (·.data.toList)) m = false := by
  cases hb : inB (xs.map (·.data.toList)) m with
  | false => rfl
  | true =>
    have := inB_iff.1 hb xs[k].data.toList (mem_bytes.2 (List.getElem_mem hk))
    rw [decide_eq_false_iff_not] at h
    exact absurd this h
set_option maxRecDepth 100000 in
set_option maxHeartbeats 4000000 in
theorem withinS_is (s t : ByteArray) (w : World) (hs : s.size ≤ 1000) (ht : t.size ≤ 1000) (hL : LenOk w) : Calls Try.prog 7 #[.string s, .string t] w fun e w' => ∃ r n, e = .returned (.tuple #[.bool r, errQ n]) ∧ WOut s.data.toList t.data.toList r n ∧ Below w.heap.size w w' := by
  have HL : Hid (LenOk w) := hL
  clear hL
  go_enter Try.func7, Try.ntmps7
  go_wp2_with fail
  have hR2 : ∀ (W : World), Below w.heap.size w W → Calls Try.prog 14 #[.string t] W fun e w' => ∃ v xs n, e = .returned (.tuple #[v, errQ n]) ∧ Out t.data.toList (xs.map (·.data.toList)) n ∧ Words w.heap.size w' v xs ∧ Below W.heap.size W w' := fun W hb => (readS_is t W ht (HL.out.below hb)).mono (by
    rintro e w' ⟨v, xs, n, h1, h2, h3, h4⟩
    exact ⟨v, xs, n, h1, h2, h3.mono hb.size, h4⟩)
  obtain ⟨l2, k2, HO2⟩ : ∃ l k, Hid (Out t.data.toList l k) := by
    obtain ⟨l, k, h⟩ := out_ex t.data.toList
    exact ⟨l, k, h⟩
  refine (readS_is s _ hs HL.out).mono ?_
  rintro e w1 ⟨v, xs, n, rfl, ho, hv, hb⟩
  have HO : Hid (Out s.data.toList (xs.map (·.data.toList)) n) := ho
  have HV : Hid (Words w.heap.size w1 v xs) := hv
  have HB : Hid (Below w.heap.size w w1) := hb
  have hx5 : xs.length ≤ 5 := by simpa using (out_len ho).1
  clear ho hv hb
  cases n with
  | succ n =>
    have HW : Hid (WOut s.data.toList t.data.toList false (n + 1)) := ⟨_, _, _, _, HO.out, HO2.out, .inl ⟨by omega, rfl, rfl⟩⟩
    rw [errQ_succ]
    clear hR2
    go_wp2_with fail
    exact bodyPost_ret (v := .tuple #[.bool false, errQ (n + 1)]) (by simp [results, Try.results7, go_sem, errQ]) rfl ⟨false, n + 1, rfl, HW.out, HB.out⟩
  | zero =>
    rw [show errQ 0 = .nilIface from rfl]
    have hR := hR2 w1 HB.out
    clear hR2
    go_wp2_with fail
    refine hR.mono ?_
    rintro e w2 ⟨v2, ys, k, rfl, ho2, hv2, hb2⟩
    have HO3 : Hid (Out t.data.toList (ys.map (·.data.toList)) k) := ho2
    have HV2 : Hid (Words w.heap.size w2 v2 ys) := hv2
    have HB2 : Hid (Below w.heap.size w w2) := HB.out.trans (hb2.mono HB.out.size)
    have HV1 : Hid (Words w.heap.size w2 v xs) := HV.out.below hb2 (Nat.le_refl _)
    have hy5 : ys.length ≤ 5 := by simpa using (out_len ho2).1
    clear ho2 hv2 hb2 hR HO2
    cases k with
    | succ k =>
      have HW : Hid (WOut s.data.toList t.data.toList false (k + 1)) := ⟨_, _, _, _, HO.out, HO3.out, .inr (.inl ⟨rfl, by omega, rfl, rfl⟩)⟩
      rw [errQ_succ]
      go_wp2_with fail
      exact bodyPost_ret (v := .tuple #[.bool false, errQ (k + 1)]) (by simp [results, Try.results7, go_sem, errQ]) rfl ⟨false, k + 1, rfl, HW.out, HB2.out⟩
    | zero =>
      rw [show errQ 0 = .nilIface from rfl]
      have HWT : Hid (∀ r, r = inB (xs.map (·.data.toList)) (ys.map (·.data.toList)) → WOut s.data.toList t.data.toList r 0) := fun r hr => ⟨_, _, _, _, HO.out, HO3.out, .inr (.inr ⟨rfl, rfl, rfl, hr⟩)⟩
      clear HO HO3
      obtain ⟨base, c, hvv⟩ := HV1.out.slice
      have HRow : Hid (0 < xs.length → ∃ g, base = some ⟨g, 0, none⟩ ∧ RowAt w.heap.size w2 g c xs.length (xs.map Value.string)) := by
        intro hpos
        rcases HV1.out with ⟨_, rfl⟩ | ⟨g, c', e1, h2⟩
        · simp at hpos
        · rw [hvv] at e1
          injection e1 with e1 _ e2
          subst e2
          exact ⟨g, e1, h2⟩
      subst hvv
      go_wp2_with fail
      go_loopg [29] xs.length (fun gk iv wr => ∃ j : Nat, j + gk = xs.length ∧ iv = .int .i64 j ∧ Hid (inB ((xs.map (·.data.toList)).take j) (ys.map (·.data.toList)) = true) ∧ wr = w2)
      case atStart => exact ⟨0, by omega, rfl, rfl, rfl⟩
      case round =>
        obtain ⟨j, hj, rfl, HIN, rfl⟩ := hrel
        have HJ : Hid (j + gk = xs.length) := hj
        have hjl : j ≤ xs.length := by omega
        clear hj
        by_cases hlt : j < xs.length
        · obtain ⟨g, rfl, hr⟩ := HRow.out (by omega)
          have hcell : wr.cell? ⟨g, j, none⟩ = some (.string xs[j]) := hr.holds j _ (by rw [List.getElem?_map, List.getElem?_eq_getElem hlt]; rfl)
          clear hr
          have hltI : (j : Int) < (xs.length : Int) := by omega
          have HT : Hid (inB ((xs.map (·.data.toList)).take (j + 1)) (ys.map (·.data.toList)) = (inB ((xs.map (·.data.toList)).take j) (ys.map (·.data.toList)) && decide (xs[j].data.toList ∈ ys.map (·.data.toList)))) := inB_take xs _ j hlt
          have HF : Hid (decide (xs[j].data.toList ∈ ys.map (·.data.toList)) = false → inB (xs.map (·.data.toList)) (ys.map (·.data.toList)) = false) := inB_bad xs _ j hlt
          generalize hx : xs[j] = x at *
          clear hx
          go_wp2_with fail
          refine (contains_is HV2.out (by omega) x).mono ?_
          rintro e w3 ⟨rfl, rfl⟩
          cases hd : decide (x.data.toList ∈ ys.map (·.data.toList)) with
          | true =>
            have HT2 : Hid (inB ((xs.map (·.data.toList)).take (j + 1)) (ys.map (·.data.toList)) = true) := by show _ = _; rw [HT.out, HIN.out, hd]; rfl
            clear hd
            go_wp2_with fail
            go_roundg (gk - 1)
            case measure => have := HJ.out; omega
            case rel => exact ⟨j + 1, by have := HJ.out; omega, by go_num, HT2, rfl⟩
          | false =>
            have HW : Hid (WOut s.data.toList t.data.toList false 0) := HWT.out false (HF.out hd).symm
            clear hd
            go_wp2_with fail
            exact bodyPost_ret (v := .tuple #[.bool false, .nilIface]) (by simp [results, Try.results7, go_sem]) rfl ⟨false, 0, rfl, HW.out, HB2.out⟩
        · obtain rfl : j = xs.length := by omega
          have HW : Hid (WOut s.data.toList t.data.toList true 0) := HWT.out true (by have := HIN.out; rw [List.take_of_length_le (by simp)] at this; exact this.symm)
          go_wp2_with fail
          exact bodyPost_ret (v := .tuple #[.bool true, .nilIface]) (by simp [results, Try.results7, go_sem]) rfl (by first | exact ⟨true, 0, rfl, HW.out, HB2.out⟩ | exact .inr ⟨0, rfl, HW.out, HB2.out⟩)
end Go.Proofs.Ytibelcnjmpedkaa
