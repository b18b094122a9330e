/-
  The law ScopeReads: what the program answers of two texts is the document's.
-/
import Derived.Test.YtojgieloiodcoaaDoorScRef2
import Derived.Test.YtojgieloiodcoaaDoorErrLaw
namespace Go.Proofs.YtojgieloiodcoaaDoor
open Go Go.RowKit Sc
theorem ErrVar.on {w w' : World} (h : ErrVar w) (hb : Below w.heap.size w w') : ErrVar w' := (hb.cell (p := ⟨0, 0, none⟩) (World.block_lt_of_cell? _ _ h)).trans h
theorem bareQ (n : Nat) (w : World) (hE : ErrVar w) : Calls Tryd.prog 8 #[errQ n, .int .i64 (n : Int)] w fun e w' => e = .returned (.bool true) ∧ Below w.heap.size w w' := by
  match n with
  | 0 => exact (lawBare_nil 0 w).mono (by rintro e w' ⟨rfl, rfl⟩; exact ⟨rfl, Below.refl _ _⟩)
  | n + 1 => exact (lawBare_err (n + 1 : Nat) (n + 1 : Nat) w hE).mono (by rintro e w' ⟨rfl, h⟩; exact ⟨by rw [beq_self_eq_true], h⟩)
/-- Two lists that stand, and what stood below. -/
structure Two (w : World) (v1 v2 : Value) (xs : List ByteArray) (wk : World) : Prop where
  r1 : Words w.heap.size wk v1 xs
  r2 : Words w.heap.size wk v2 xs
  b : Below w.heap.size w wk
theorem Two.on {w : World} {v1 v2 : Value} {xs : List ByteArray} {wk w' : World} (h : Two w v1 v2 xs wk) (hb : Below wk.heap.size wk w') : Two w v1 v2 xs w' :=
  ⟨h.r1.below hb (Nat.le_refl _), h.r2.below hb (Nat.le_refl _), h.b.trans (hb.mono h.b.size)⟩
theorem bytes_inj {xs ys : List ByteArray} (h : xs.map (·.data.toList) = ys.map (·.data.toList)) : xs = ys := by
  have e : ∀ l : List ByteArray, (l.map (·.data.toList)).map (fun x => (⟨x.toArray⟩ : ByteArray)) = l := fun l => by
    rw [List.map_map]
    exact List.map_id' l
  rw [← e xs, h, e ys]
set_option maxRecDepth 100000 in
set_option maxHeartbeats 8000000 in
theorem scopeReadsLaw (s t : ByteArray) (w : World) (hL : LenOk w) (hE : ErrVar w) : Calls Tryd.prog 7 #[.string s, .string t] w fun e w' => e = .returned (.bool true) ∧ Below w.heap.size w w' := by
  have HL : Hid (LenOk w) := hL
  have HE : Hid (ErrVar w) := hE
  clear hL hE
  by_cases hs : s.size ≤ 120
  · by_cases ht : t.size ≤ 120
    · have hs' : (s.size : Int) ≤ 120 := by omega
      have ht' : (t.size : Int) ≤ 120 := by omega
      go_enter Tryd.func7, Tryd.ntmps7
      go_wp2_with fail
      refine (refScope_is s _ (by omega)).mono ?_
      rintro e w1 ⟨v1, xs, n, rfl, ho, hv1, hb1⟩
      have HO : Hid (Out s.data.toList (xs.map (·.data.toList)) n) := ho
      have HB1 : Hid (Below w.heap.size w w1) := hb1
      have hx5 : xs.length ≤ 5 := by simpa using (out_len ho).1
      have HV1 : Hid (Words w.heap.size w1 v1 xs) := hv1
      clear ho hv1 hb1
      go_wp2_with fail
      refine (readS_is s _ (by omega) (HL.out.below HB1.out)).mono ?_
      rintro e w2 ⟨v2, ys, n', rfl, ho2, hv2, hb2⟩
      obtain ⟨he, rfl⟩ := out_inj HO.out ho2
      obtain rfl := bytes_inj he
      have HT2 : Hid (Two w v1 v2 xs w2) := ⟨HV1.out.below hb2 (Nat.le_refl _), hv2.mono HB1.out.size, HB1.out.trans (hb2.mono HB1.out.size)⟩
      clear ho2 hv2 hb2 HV1 he
      go_wp2_with fail
      refine (refLeast_is s _ (by omega)).mono ?_
      rintro e w3 ⟨l3, n3, rfl, ho3, hb3⟩
      obtain ⟨rfl, rfl⟩ := out_inj HO.out ho3
      have HT3 : Hid (Two w v1 v2 xs w3) := HT2.out.on hb3
      clear ho3 hb3 HT2
      go_wp2_with fail
      refine (leastS_is s _ (by omega) (HL.out.below HT3.out.b)).mono ?_
      rintro e w4 ⟨l4, n4, rfl, ho4, hb4⟩
      obtain ⟨rfl, rfl⟩ := out_inj HO.out ho4
      have HT4 : Hid (Two w v1 v2 xs w4) := HT3.out.on hb4
      clear ho4 hb4 HT3 HO
      generalize joined (xs.map (·.data.toList)) = J at *
      go_wp2_with fail
      refine (refWithin_is s t _ (by omega) (by omega)).mono ?_
      rintro e w5 ⟨r, m, rfl, hw5, hb5⟩
      have HW : Hid (WOut s.data.toList t.data.toList r m) := hw5
      have HT5 : Hid (Two w v1 v2 xs w5) := HT4.out.on hb5
      clear hw5 hb5 HT4
      go_wp2_with fail
      refine (withinS_is s t _ (by omega) (by omega) (HL.out.below HT5.out.b)).mono ?_
      rintro e w6 ⟨r', m', rfl, hw6, hb6⟩
      obtain ⟨rfl, rfl⟩ := wout_inj HW.out hw6
      have HT6 : Hid (Two w v1 v2 xs w6) := HT5.out.on hb6
      clear hw6 hb6 HT5 HW
      obtain ⟨b1, c1, e1⟩ := HT6.out.r1.slice
      obtain ⟨b2, c2, e2⟩ := HT6.out.r2.slice
      subst e1
      subst e2
      go_wp2_with fail
      refine (bareQ n _ (HE.out.on HT6.out.b)).mono ?_
      rintro e w7 ⟨rfl, hb7⟩
      have HT7 : Hid (Two w (.slice b1 xs.length c1) (.slice b2 xs.length c2) xs w7) := HT6.out.on hb7
      clear hb7 HT6
      go_wp2_with fail
      refine (bareQ n _ (HE.out.on HT7.out.b)).mono ?_
      rintro e w8 ⟨rfl, hb8⟩
      have HT8 : Hid (Two w (.slice b1 xs.length c1) (.slice b2 xs.length c2) xs w8) := HT7.out.on hb8
      clear hb8 HT7
      go_wp2_with fail
      refine (bareQ m _ (HE.out.on HT8.out.b)).mono ?_
      rintro e w9 ⟨rfl, hb9⟩
      have HT9 : Hid (Two w (.slice b1 xs.length c1) (.slice b2 xs.length c2) xs w9) := HT8.out.on hb9
      clear hb9 HT8
      go_wp2_with fail
      have HXS : Hid (∀ j (h : j < xs.length), ∃ g, b1 = some ⟨g, 0, none⟩ ∧ w9.cell? ⟨g, j, none⟩ = some (.string xs[j])) := HT9.out.r1.cell
      have HYS : Hid (∀ j (h : j < xs.length), ∃ g, b2 = some ⟨g, 0, none⟩ ∧ w9.cell? ⟨g, j, none⟩ = some (.string xs[j])) := HT9.out.r2.cell
      go_loopg [17] xs.length (fun gk iv wr => ∃ j d : Nat, j + gk = xs.length ∧ iv = .int .i64 j ∧ wr = w9.drewN d)
      case atStart => exact ⟨0, 0, by omega, rfl, rfl⟩
      case round =>
        obtain ⟨j, d, hj, rfl, rfl⟩ := hrel
        have HJ : Hid (j + gk = xs.length) := hj
        have hjl : j ≤ xs.length := by omega
        clear hj
        by_cases hlt : j < xs.length
        · obtain ⟨g1, rfl, hc1⟩ := HXS.out j hlt
          obtain ⟨g2, rfl, hc2⟩ := HYS.out j hlt
          generalize xs[j] = p at *
          have hltI : (j : Int) < (xs.length : Int) := by omega
          go_wp2_with fail
          go_region
          go_wp2_with fail
          go_roundg (gk - 1)
          case measure => have := HJ.out; omega
          case rel => exact ⟨j + 1, d + 1, by have := HJ.out; omega, by go_num, rfl⟩
        · obtain rfl : j = xs.length := by omega
          go_wp2_with fail
          go_ret
          exact ⟨rfl, below_drewN' HT9.out.b d⟩
    · have hs' : (s.size : Int) ≤ 120 := by omega
      have ht' : ¬ (t.size : Int) ≤ 120 := by omega
      go_enter Tryd.func7, Tryd.ntmps7
      go_wp2_with fail
      go_ret
      exact ⟨rfl, Below.refl _ _⟩
  · have hs' : ¬ (s.size : Int) ≤ 120 := by omega
    go_enter Tryd.func7, Tryd.ntmps7
    go_wp2_with fail
    go_ret
    exact ⟨rfl, Below.refl _ _⟩
end Go.Proofs.YtojgieloiodcoaaDoor
