/-
  A scope's least form, and whether one is within another, as the document's answer has it.
-/
import Derived.Test.YtojgieloiodcoaaDoorScRef
import Derived.Test.YtojgieloiodcoaaDoorScPairs
namespace Go.Proofs.YtojgieloiodcoaaDoor
open Go Go.RowKit Sc
set_option maxRecDepth 100000 in
set_option maxHeartbeats 4000000 in
theorem refLeast_is (s : ByteArray) (w : World) (hs : s.size ≤ 1000) : Calls Tryd.prog 27 #[.string s] w fun e w' => ∃ l n, e = .returned (.tuple #[.string ⟨(joined l).toArray⟩, .int .i64 (n : Nat)]) ∧ Out s.data.toList l n ∧ Below w.heap.size w w' := by
  go_enter Tryd.func27, Tryd.ntmps27
  go_wp2_with fail
  refine (refScope_is s _ hs).mono ?_
  rintro e w1 ⟨v, xs, n, rfl, ho, hv, hb⟩
  have HO : Hid (Out s.data.toList (xs.map (·.data.toList)) n) := ho
  have HV : Hid (Words w.heap.size w1 v xs) := hv
  have HB : Hid (Below w.heap.size w w1) := hb
  have hln := out_len ho
  have hx5 : xs.length ≤ 5 := by simpa using hln.1
  have hj : (joined (xs.map (·.data.toList))).length ≤ 1000 := by omega
  clear ho hv hb hln
  go_wp2_with fail
  refine (join_is HV.out hj (by omega)).mono ?_
  rintro e w2 ⟨rfl, hb2⟩
  have HB2 : Hid (Below w.heap.size w w2) := HB.out.trans (hb2.mono HB.out.size)
  clear hb2
  generalize hjj : joined (xs.map (·.data.toList)) = J at *
  have HJ : Hid (joined (xs.map (·.data.toList)) = J) := hjj
  clear hjj
  go_wp2_with fail
  exact bodyPost_ret (v := .tuple #[.string ⟨J.toArray⟩, .int .i64 (n : Nat)]) (by simp [results, Tryd.results27, go_sem]) rfl ⟨xs.map (·.data.toList), n, by rw [HJ.out], HO.out, HB2.out⟩
theorem Words.row {B : Nat} {w : World} {base : Option Addr} {c : Nat} {xs : List ByteArray} (h : Words B w (.slice base xs.length c) xs) (hp : 0 < xs.length) : ∃ g, base = some ⟨g, 0, none⟩ ∧ RowAt B w g c xs.length (xs.map Value.string) := by
  rcases h with ⟨_, rfl⟩ | ⟨g, c', e1, h2⟩
  · simp at hp
  · injection e1 with e1 _ e2
    subst e2
    exact ⟨g, e1, h2⟩
theorem Words.cell {B : Nat} {w : World} {base : Option Addr} {c : Nat} {xs : List ByteArray} (h : Words B w (.slice base xs.length c) xs) (j : Nat) (hj : j < xs.length) : ∃ g, base = some ⟨g, 0, none⟩ ∧ w.cell? ⟨g, j, none⟩ = some (.string xs[j]) := by
  obtain ⟨g, e, hr⟩ := h.row (by omega)
  exact ⟨g, e, hr.holds j _ (by rw [List.getElem?_map, List.getElem?_eq_getElem hj]; rfl)⟩
theorem pairs_bytes (xs ys : List ByteArray) (k : Nat) (h : k < xs.length) : pairsOf ((xs.map (·.data.toList)).take (k + 1)) (ys.map (·.data.toList)) = pairsOf ((xs.map (·.data.toList)).take k) (ys.map (·.data.toList)) + (ys.map (·.data.toList)).count xs[k].data.toList := by
  rw [pairs_take _ _ k (by simpa using h)]
  simp
theorem count_bytes (ys : List ByteArray) (p : List UInt8) (k : Nat) (h : k < ys.length) : ((ys.map (·.data.toList)).take (k + 1)).count p = ((ys.map (·.data.toList)).take k).count p + if ys[k].data.toList = p then 1 else 0 := by
  rw [count_take _ _ k (by simpa using h)]
  simp
set_option maxRecDepth 100000 in
set_option maxHeartbeats 8000000 in
theorem refWithin_is (s t : ByteArray) (w : World) (hs : s.size ≤ 1000) (ht : t.size ≤ 1000) : Calls Tryd.prog 29 #[.string s, .string t] w fun e w' => ∃ r n, e = .returned (.tuple #[.bool r, .int .i64 (n : Nat)]) ∧ WOut s.data.toList t.data.toList r n ∧ Below w.heap.size w w' := by
  obtain ⟨l2, k2, HO2⟩ : ∃ l k, Hid (Out t.data.toList l k) := by
    obtain ⟨l, k, h⟩ := out_ex t.data.toList
    exact ⟨l, k, h⟩
  go_enter Tryd.func29, Tryd.ntmps29
  go_wp2_with fail
  refine (refScope_is s _ hs).mono ?_
  rintro e w1 ⟨v, xs, n, rfl, ho, hv, hb⟩
  have HO : Hid (Out s.data.toList (xs.map (·.data.toList)) n) := ho
  have HV : Hid (Words w.heap.size w1 v xs) := hv
  have HB : Hid (Below w.heap.size w w1) := hb
  have hx5 : xs.length ≤ 5 := by simpa using (out_len ho).1
  clear ho hv hb
  cases n with
  | succ n =>
    have HW : Hid (WOut s.data.toList t.data.toList false (n + 1)) := ⟨_, _, _, _, HO.out, HO2.out, .inl ⟨by omega, rfl, rfl⟩⟩
    have hn : ¬ ((n + 1 : Nat) : Int) = 0 := by omega
    have hn2 : ¬ (n : Int) + 1 = 0 := by omega
    go_wp2_with fail
    exact bodyPost_ret (v := .tuple #[.bool false, .int .i64 ((n + 1 : Nat) : Int)]) (by simp [results, Tryd.results29, go_sem]) rfl ⟨false, n + 1, rfl, HW.out, HB.out⟩
  | zero =>
    rw [show ((0 : Nat) : Int) = 0 from rfl]
    go_wp2_with fail
    refine (refScope_is t _ ht).mono ?_
    rintro e w2 ⟨v2, ys, k, rfl, ho2, hv2, hb2⟩
    have HO3 : Hid (Out t.data.toList (ys.map (·.data.toList)) k) := ho2
    have HV2 : Hid (Words w.heap.size w2 v2 ys) := hv2.mono HB.out.size
    have HB2 : Hid (Below w.heap.size w w2) := HB.out.trans (hb2.mono HB.out.size)
    have HV1 : Hid (Words w.heap.size w2 v xs) := HV.out.below hb2 (Nat.le_refl _)
    have hy5 : ys.length ≤ 5 := by simpa using (out_len ho2).1
    clear ho2 hv2 hb2 HO2
    cases k with
    | succ k =>
      have HW : Hid (WOut s.data.toList t.data.toList false (k + 1)) := ⟨_, _, _, _, HO.out, HO3.out, .inr (.inl ⟨rfl, by omega, rfl, rfl⟩)⟩
      have hn : ¬ ((k + 1 : Nat) : Int) = 0 := by omega
      have hn2 : ¬ (k : Int) + 1 = 0 := by omega
      go_wp2_with fail
      exact bodyPost_ret (v := .tuple #[.bool false, .int .i64 ((k + 1 : Nat) : Int)]) (by simp [results, Tryd.results29, go_sem]) rfl ⟨false, k + 1, rfl, HW.out, HB2.out⟩
    | zero =>
      rw [show ((0 : Nat) : Int) = 0 from rfl]
      have HWT : Hid (WOut s.data.toList t.data.toList ((pairsOf (xs.map (·.data.toList)) (ys.map (·.data.toList)) : Int) == (xs.length : Int)) 0) := ⟨_, _, _, _, HO.out, HO3.out, .inr (.inr ⟨rfl, rfl, rfl, by
        have := pairs_is (l := xs.map (·.data.toList)) (out_words HO3.out).2.2.2
        rw [List.length_map] at this
        exact this⟩)⟩
      clear HO HO3
      obtain ⟨base, c, hvv⟩ := HV1.out.slice
      subst hvv
      obtain ⟨base2, c2, hvv2⟩ := HV2.out.slice
      subst hvv2
      have HXS : Hid (∀ j (h : j < xs.length), ∃ g, base = some ⟨g, 0, none⟩ ∧ w2.cell? ⟨g, j, none⟩ = some (.string xs[j])) := HV1.out.cell
      have HYS : Hid (∀ j (h : j < ys.length), ∃ g, base2 = some ⟨g, 0, none⟩ ∧ w2.cell? ⟨g, j, none⟩ = some (.string ys[j])) := HV2.out.cell
      go_wp2_with fail
      go_loopg [9, 32] xs.length (fun gk nv iv wr => ∃ j : Nat, j + gk = xs.length ∧ iv = .int .i64 j ∧ nv = .int .i64 (pairsOf ((xs.map (·.data.toList)).take j) (ys.map (·.data.toList)) : Nat) ∧ Hid (pairsOf ((xs.map (·.data.toList)).take j) (ys.map (·.data.toList)) ≤ 5 * j) ∧ wr = w2)
      case atStart => exact ⟨0, by omega, rfl, rfl, Nat.le_refl _, rfl⟩
      case round =>
        obtain ⟨j, hj, rfl, rfl, HN, rfl⟩ := hrel
        have HJ : Hid (j + gk = xs.length) := hj
        have hjl : j ≤ xs.length := by omega
        clear hj
        by_cases hlt : j < xs.length
        · obtain ⟨g, rfl, hcell⟩ := HXS.out j hlt
          have HP : Hid (pairsOf ((xs.map (·.data.toList)).take (j + 1)) (ys.map (·.data.toList)) = pairsOf ((xs.map (·.data.toList)).take j) (ys.map (·.data.toList)) + (ys.map (·.data.toList)).count xs[j].data.toList) := pairs_bytes xs ys j hlt
          have hN := HN.out
          clear HN
          generalize pairsOf ((xs.map (·.data.toList)).take j) (ys.map (·.data.toList)) = n0 at *
          generalize xs[j] = p at *
          have HN : Hid (n0 ≤ 5 * j) := hN
          clear hN
          generalize gk = gm at *
          go_wp2_with fail
          go_loopg [9, 38] ys.length (fun hk nv iv wr2 => ∃ i : Nat, i + hk = ys.length ∧ iv = .int .i64 i ∧ nv = .int .i64 ((n0 + ((ys.map (·.data.toList)).take i).count p.data.toList : Nat) : Int) ∧ Hid (((ys.map (·.data.toList)).take i).count p.data.toList ≤ i) ∧ wr2 = wr)
          case atStart => exact ⟨0, by omega, rfl, rfl, Nat.le_refl _, rfl⟩
          case round =>
            obtain ⟨i, hi, rfl, rfl, HC, rfl⟩ := hrel
            have HI : Hid (i + gk = ys.length) := hi
            have hil : i ≤ ys.length := by omega
            clear hi
            by_cases hlt2 : i < ys.length
            · obtain ⟨g2, rfl, hcell2⟩ := HYS.out i hlt2
              have HQ : Hid (((ys.map (·.data.toList)).take (i + 1)).count p.data.toList = ((ys.map (·.data.toList)).take i).count p.data.toList + if ys[i].data.toList = p.data.toList then 1 else 0) := count_bytes ys p.data.toList i hlt2
              have hC := HC.out
              clear HC
              generalize ((ys.map (·.data.toList)).take i).count p.data.toList = c0 at *
              generalize ys[i] = q at *
              have HC : Hid (c0 ≤ i) := hC
              have hnn : ¬ 9223372036854775807 < n0 + c0 + 1 := by have := HN.out; omega
              go_wp2_with fail
              · rename_i hh
                have he : q.data.toList = p.data.toList := by
                  have : p.toList = q.toList := by simpa using hh
                  rw [ByteArray.toList_eq, ByteArray.toList_eq] at this
                  exact this.symm
                go_roundg (gk - 1)
                case measure => have := HI.out; omega
                case rel => exact ⟨i + 1, by have := HI.out; omega, by go_num, by rw [HQ.out, if_pos he]; go_num, by show _ ≤ _; rw [HQ.out, if_pos he]; have := HC.out; omega, rfl⟩
              · rename_i hh
                have he : ¬ q.data.toList = p.data.toList := by
                  have : ¬ p.toList = q.toList := by simpa using hh
                  rw [ByteArray.toList_eq, ByteArray.toList_eq] at this
                  exact fun e => this e.symm
                go_roundg (gk - 1)
                case measure => have := HI.out; omega
                case rel => exact ⟨i + 1, by have := HI.out; omega, by go_num, by rw [HQ.out, if_neg he]; go_num, by show _ ≤ _; rw [HQ.out, if_neg he]; have := HC.out; omega, rfl⟩
            · obtain rfl : i = ys.length := by omega
              have HTF : Hid ((ys.map (·.data.toList)).take ys.length = ys.map (·.data.toList)) := List.take_of_length_le (by simp)
              go_wp2_with fail
              go_roundg (gm - 1)
              case measure => have := HJ.out; omega
              case rel =>
                have h1 := HC.out
                have h2 := HN.out
                rw [HTF.out] at h1
                exact ⟨j + 1, by have := HJ.out; omega, by go_num, by rw [HTF.out, HP.out]; go_num, by show _ ≤ _; rw [HP.out]; omega, rfl⟩
        · obtain rfl : j = xs.length := by omega
          have HW : Hid (WOut s.data.toList t.data.toList ((pairsOf ((xs.map (·.data.toList)).take xs.length) (ys.map (·.data.toList)) : Int) == (xs.length : Int)) 0) := by
            have := HWT.out
            rw [List.take_of_length_le (by simp)]
            exact this
          generalize pairsOf ((xs.map (·.data.toList)).take xs.length) (ys.map (·.data.toList)) = n0 at *
          go_wp2_with fail
          exact bodyPost_ret (v := .tuple #[.bool ((n0 : Int) == (xs.length : Int)), .int .i64 0]) (by simp [results, Tryd.results29, go_sem]) rfl (by
            have hw := HW.out
            generalize ((n0 : Int) == (xs.length : Int)) = r at hw ⊢
            cases r
            · first | exact .inl ⟨0, rfl, hw, HB2.out⟩ | exact ⟨false, 0, rfl, hw, HB2.out⟩
            · first | exact .inr ⟨0, rfl, hw, HB2.out⟩ | exact ⟨true, 0, rfl, hw, HB2.out⟩)
end Go.Proofs.YtojgieloiodcoaaDoor
