import Derived.Test.YteblegcojhcccaaDoorTokW2
import Derived.Lib.SmallJoins
namespace Go.Proofs.YteblegcojhcccaaDoor
open Go.RowKit Tok
def BigsR (n : Nat) : Prop := 1 < n ∧ 5 < n ∧ 6 < n
theorem BigsR.le {n m : Nat} (h : BigsR n) (k : n ≤ m) : BigsR m := ⟨Nat.lt_of_lt_of_le h.1 k, Nat.lt_of_lt_of_le h.2.1 k, Nat.lt_of_lt_of_le h.2.2 k⟩
/-- What the library's variables hold, as far as reading a token asks for them. -/
structure LibsR (w : World) : Prop where
  base : Libs w
  big : BigsR w.heap.size
  len : ∃ m, w.cell? ⟨1, 0, none⟩ = some (.int .i64 m)
  syn : ∃ ev, w.cell? ⟨5, 0, none⟩ = some ev ∧ (ev = .nilIface ∨ ∃ te pe, ev = .iface te pe)
  rng : ∃ ev, w.cell? ⟨6, 0, none⟩ = some ev ∧ (ev = .nilIface ∨ ∃ te pe, ev = .iface te pe)
theorem LibsR.below {B : Nat} {w w' : World} (h : LibsR w) (hb : Below B w w') (hB : w.heap.size = B) : LibsR w' where
  base := h.base.below hb (hB ▸ h.base.big)
  big := h.big.le hb.size
  len := by
    obtain ⟨m, hm⟩ := h.len
    exact ⟨m, (hb.cell (p := ⟨1, 0, none⟩) (hB ▸ h.big.1)).trans hm⟩
  syn := by
    obtain ⟨m, hm, k⟩ := h.syn
    exact ⟨m, (hb.cell (p := ⟨5, 0, none⟩) (hB ▸ h.big.2.1)).trans hm, k⟩
  rng := by
    obtain ⟨m, hm, k⟩ := h.rng
    exact ⟨m, (hb.cell (p := ⟨6, 0, none⟩) (hB ▸ h.big.2.2)).trans hm, k⟩
theorem atoi_yes (s : ByteArray) (v : Int) (w : World) (hs : s.size ≤ 10000) (h : Lib.atoiAll s.data.toList = .ok v) : Calls Tryd.prog 77 #[.string s] w fun e w' => e = .returned (.tuple #[.int .i64 v, .nilIface]) ∧ Below w.heap.size w w' := by
  refine (Tryd.strconv_Atoi_ok s (by omega) v h w).mono ?_
  rintro e w' ⟨rfl, rfl | ⟨t, rfl⟩⟩
  · exact ⟨rfl, Below.refl _ _⟩
  · exact ⟨rfl, Joins.below_bytesWorld _ _ _ _ (Nat.le_refl _)⟩
theorem atoi_no (s : ByteArray) (w : World) (hs : s.size ≤ 10000) (hL : LibsR w) (h : ∀ v, Lib.atoiAll s.data.toList ≠ .ok v) : Calls Tryd.prog 77 #[.string s] w fun e w' => ∃ v te pe, e = .returned (.tuple #[.int .i64 v, .iface te pe]) ∧ Below w.heap.size w w' := by
  cases hc : Lib.atoiAll s.data.toList with
  | ok v => exact absurd hc (h v)
  | range =>
    obtain ⟨ev, h1, h2⟩ := hL.rng
    refine (Tryd.strconv_Atoi_range s (by omega) hc ev w h1 h2).mono ?_
    rintro e w' ⟨N, rfl, _, _, hb⟩
    exact ⟨_, _, _, rfl, hb⟩
  | _ =>
    obtain ⟨ev, h1, h2⟩ := hL.syn
    refine (Tryd.strconv_Atoi_syntax s (by omega) hc ev w h1 h2).mono ?_
    rintro e w' ⟨N, rfl, _, _, hb⟩
    exact ⟨_, _, _, rfl, hb⟩
theorem split_len (c : UInt8) (k : Nat) (l : List UInt8) : ∀ x ∈ Lib.splitK [c] 0 k l, x.length ≤ l.length := by
  induction k generalizing l with
  | zero => intro x hx; simp [Lib.splitK] at hx; subst hx; exact Nat.le_refl _
  | succ k ih =>
    rcases nilOr c l with h | ⟨a, b, rfl, h⟩
    · rw [splitK_no h]; intro x hx; simp at hx; subst hx; exact Nat.le_refl _
    · rw [splitK_at b h]
      intro x hx
      simp only [List.mem_cons] at hx
      rcases hx with rfl | hx
      · simp
      · have := ih b x hx
        simp; omega
set_option maxHeartbeats 1000000 in
theorem isHex_is (c : UInt8) (w : World) : Calls Tryd.prog 59 #[.int .u8 (c.toNat : Int)] w fun e w' => e = .returned (.bool (isHexB c)) ∧ w' = w := by
  have HD : Hid (isHexB c = (decide (48 ≤ c.toNat ∧ c.toNat ≤ 57) || decide (97 ≤ c.toNat ∧ c.toNat ≤ 102))) := rfl
  generalize c.toNat = n at *
  go_enter Tryd.func59, Tryd.ntmps59
  go_wp2_with fail
  all_goals (go_ret; refine ⟨congrArg Ending.returned (congrArg Value.bool ?_), rfl⟩; rw [HD.out, Bool.eq_iff_iff]; simp; try omega)
set_option maxRecDepth 100000 in
set_option maxHeartbeats 4000000 in
theorem readNumbers_is (s : ByteArray) (w : World) (hs : s.size ≤ 1000) (hL : LibsR w) : Calls Tryd.prog 58 #[.string s] w fun e w' => Below w.heap.size w w' ∧
    ((∃ (ns : List Int) (g cap : Nat), e = .returned (.tuple #[.slice (some ⟨g, 0, none⟩) ns.length cap, .bool true]) ∧ Lib.splitK [46] 0 2 s.data.toList = ns.map Lib.itoa ∧ (∀ n ∈ ns, okN n) ∧ RowAt w.heap.size w' g cap ns.length (ns.map (Value.int .i64))) ∨
     (e = .returned (.tuple #[.slice none 0 0, .bool false]) ∧ ¬ ∃ ns : List Int, Lib.splitK [46] 0 2 s.data.toList = ns.map Lib.itoa ∧ ∀ n ∈ ns, okN n)) := by
  obtain ⟨m, hm⟩ := hL.len
  have HL : Hid (LibsR w) := hL
  have hps := Lib.splitB_data ⟨#[46]⟩ 0 (min 3 (s.size + 1) - 1) s
  have e3 : Lib.splitK [46] 0 (min 3 (s.size + 1) - 1) s.data.toList = Lib.splitK [46] 0 2 s.data.toList := by
    have := splitK_three 46 s.data.toList
    rwa [show s.data.toList.length = s.size from Array.length_toList] at this
  rw [show (⟨#[46]⟩ : ByteArray).data.toList = [46] from rfl, e3] at hps
  have hlenN := Lib.splitB_length_le ⟨#[46]⟩ 0 (min 3 (s.size + 1) - 1) s
  have hsp := Tryd.strings_SplitN s ⟨#[46]⟩ 3 m w (by omega) hm (by decide) (by decide) (by decide)
  generalize hP : Lib.splitB ⟨#[46]⟩ 0 (min 3 (s.size + 1) - 1) s = ps at *
  have HP : Hid (ps.map (·.data.toList) = Lib.splitK [46] 0 2 s.data.toList) := hps
  have hN : ps.length ≤ min 3 (s.size + 1) := by omega
  have hN3 : ps.length ≤ 3 := by omega
  generalize min 3 (s.size + 1) = N at *
  have hmk := run_make_row' (P := Tryd.prog) 104 3 (.int .i64 0) 8 Tryd.underlying104 (by kernel_rfl) rfl .i64 .i64 ps.length (by omega) (by omega)
  clear hps e3 hP hL
  go_enter Tryd.func58, Tryd.ntmps58
  go_wp2_with fail
  refine hsp.mono ?_
  rintro e w1 ⟨rfl, rfl⟩
  clear hsp
  go_wp2_with fail
  have hw0 : Below w.heap.size w ((w.alloc (.cells (Lib.cellsOf ps N) 9)).alloc (.cells (madeCells #[.int .i64 0] ps.length) 3)) := by
    repeat (first | exact Below.refl _ _ | refine Below.alloc ?_ (by simp) _)
  have hcl : ∀ i x, ps[i]? = some x → ((w.alloc (.cells (Lib.cellsOf ps N) 9)).alloc (.cells (madeCells #[.int .i64 0] ps.length) 3)).cell? ⟨w.heap.size, i, none⟩ = some (.string x) := by
    intro i x hx
    have hi := (List.getElem?_eq_some_iff.1 hx).1
    rw [World.cell?_alloc_lt _ _ _ (by simp), World.cell?_alloc_new]
    unfold Lib.cellsOf
    rw [List.getElem?_toArray, List.getElem?_append_left (by simpa using hi), List.getElem?_map, hx]
    rfl
  have hrow0 : RowAt w.heap.size ((w.alloc (.cells (Lib.cellsOf ps N) 9)).alloc (.cells (madeCells #[.int .i64 0] ps.length) 3)) (w.heap.size + 1) ps.length ps.length ((List.replicate ps.length (0 : Int)).map (Value.int .i64)) := by
    have hmc : (madeCells #[.int .i64 0] ps.length).toList = List.replicate ps.length (.int .i64 0) := toList_madeCells_one _ _
    have hcell : ∀ j, j < ps.length → ((w.alloc (.cells (Lib.cellsOf ps N) 9)).alloc (.cells (madeCells #[.int .i64 0] ps.length) 3)).cell? ⟨w.heap.size + 1, j, none⟩ = some (.int .i64 0) := by
      intro j hj
      rw [World.cell?_alloc_at _ _ _ _ (by simp)]
      rw [← Array.getElem?_toList, hmc, List.getElem?_replicate, if_pos hj]
    refine ⟨by omega, by simp, by simp, Nat.le_refl _, by unfold maxLen; omega, fun j u hj => ?_, fun j hj => ⟨by rw [hcell j hj]; rfl, World.frozen?_alloc_at _ _ _ _ (by simp)⟩⟩
    have hjl := (List.getElem?_eq_some_iff.1 hj).1
    simp only [List.map_replicate, List.length_replicate] at hjl
    rw [List.map_replicate, List.getElem?_replicate, if_pos hjl] at hj
    rw [hcell j hjl]; exact hj
  have hsz0 : w.heap.size + 1 < ((w.alloc (.cells (Lib.cellsOf ps N) 9)).alloc (.cells (madeCells #[.int .i64 0] ps.length) 3)).heap.size := by simp
  generalize ((w.alloc (.cells (Lib.cellsOf ps N) 9)).alloc (.cells (madeCells #[.int .i64 0] ps.length) 3)) = W at *
  clear hmk
  go_loopg [17] ps.length (fun gk iv wr => ∃ (j : Nat) (ns : List Int), j + gk = ps.length ∧ iv = .int .i64 j ∧ ns.length = j ∧ (ps.take j).map (·.data.toList) = ns.map Lib.itoa ∧ (∀ n ∈ ns, okN n) ∧ Below w.heap.size w wr ∧
    (∀ i x, ps[i]? = some x → wr.cell? ⟨w.heap.size, i, none⟩ = some (.string x)) ∧ w.heap.size + 1 < wr.heap.size ∧ RowAt w.heap.size wr (w.heap.size + 1) ps.length ps.length ((ns ++ List.replicate gk 0).map (Value.int .i64)))
  case atStart => exact ⟨0, [], by omega, rfl, rfl, by simp, by simp, hw0, hcl, hsz0, by simpa using hrow0⟩
  case round =>
    obtain ⟨j, ns, hk, rfl, hns, hit, hok, hb, hcl, hsz, hrow⟩ := hrel
    have HK : Hid (j + gk = ps.length) := hk
    have HNS : Hid (ns.length = j) := hns
    have HIT : Hid ((ps.take j).map (·.data.toList) = ns.map Lib.itoa) := hit
    have HOK : Hid (∀ n ∈ ns, okN n) := hok
    have HB : Hid (Below w.heap.size w wr) := hb
    have HCL : Hid (∀ i x, ps[i]? = some x → wr.cell? ⟨w.heap.size, i, none⟩ = some (.string x)) := hcl
    have HSZ : Hid (w.heap.size + 1 < wr.heap.size) := hsz
    have HROW : Hid (RowAt w.heap.size wr (w.heap.size + 1) ps.length ps.length ((ns ++ List.replicate gk 0).map (Value.int .i64))) := hrow
    have hjle : j ≤ ps.length := by omega
    clear hk hns hit hok hb hcl hsz hrow hw0 hrow0 hsz0
    by_cases hj : j < ps.length
    · obtain ⟨x, hx⟩ : ∃ x, ps[j]? = some x := ⟨_, List.getElem?_eq_getElem hj⟩
      have HX : Hid (ps[j]? = some x) := hx
      have hc := HCL.out j x hx
      have hxs : x.size ≤ 1000 := by
        have hmem : x.data.toList ∈ Lib.splitK [46] 0 2 s.data.toList := by
          rw [← HP.out]
          exact List.mem_map.2 ⟨x, List.mem_of_getElem? hx, rfl⟩
        have := split_len 46 2 s.data.toList _ hmem
        have e1 : x.data.toList.length = x.size := Array.length_toList
        have e2 : s.data.toList.length = s.size := Array.length_toList
        omega
      clear hx
      have hjI : (j : Int) < (ps.length : Int) := by omega
      have HLr := HL.out.below HB.out rfl
      by_cases hgood : ∃ n, okN n ∧ Lib.itoa n = x.data.toList
      · obtain ⟨n, hn, hnx⟩ := hgood
        have hat : Lib.atoiAll x.data.toList = .ok n := by rw [← hnx]; exact atoi_itoa hn.1 (by have := hn.2; omega)
        obtain rfl : x = ⟨(Lib.itoa n).toArray⟩ := bstr hnx.symm
        have hd : okB n = true := okB_t hn
        have HN : Hid (okN n) := hn
        clear hnx hn
        go_wp2_with fail
        refine (atoi_yes _ n _ (by omega) hat).mono ?_
        rintro e w2 ⟨rfl, hb2⟩
        have HB2 : Hid (Below w.heap.size w w2) := HB.out.trans (hb2.mono HB.out.size)
        have HBr2 : Hid (Below wr.heap.size wr w2) := hb2
        clear hb2 hat
        go_wp2_with fail
        refine (inBounds_is n _).mono ?_
        rintro e w3 ⟨rfl, rfl⟩
        rw [hd]
        go_wp2_with fail
        refine (itoa_is n _ HN.out.1 (by have := HN.out.2; omega) (HL.out.below HB2.out rfl).base).mono ?_
        rintro e w3 ⟨rfl, hb3⟩
        have HB3 : Hid (Below w.heap.size w w3) := HB2.out.trans (hb3.mono HB2.out.size)
        have HBr3 : Hid (Below wr.heap.size wr w3) := HBr2.out.trans (hb3.mono HBr2.out.size)
        clear hb3
        have HROW3 : Hid (RowAt w.heap.size w3 (w.heap.size + 1) ps.length ps.length ((ns ++ List.replicate gk 0).map (Value.int .i64))) := HROW.out.below HBr3.out HSZ.out
        have hthere := HROW3.out.there j hj
        obtain ⟨old, hold⟩ := Option.isSome_iff_exists.1 hthere.1
        have hfz := hthere.2
        clear hthere
        go_wp2_with fail
        go_roundg (gk - 1)
        case measure => have := HK.out; omega
        case rel =>
          have hk := HK.out
          have hns := HNS.out
          obtain ⟨g', rfl⟩ : ∃ g', gk = g' + 1 := ⟨gk - 1, by omega⟩
          refine ⟨j + 1, ns ++ [n], by omega, by go_num, by simp [hns], ?_, ?_, ?_, ?_, ?_, ?_⟩
          · rw [List.take_add_one, HX.out, List.map_append, HIT.out]; simp
          · intro y hy
            simp only [List.mem_append, List.mem_singleton] at hy
            rcases hy with hy | rfl
            · exact HOK.out y hy
            · exact HN.out
          · exact HB3.out.setCell (p := ⟨w.heap.size + 1, j, none⟩) (by simp) _
          · intro i x hx
            refine (((Below.refl (w.heap.size + 1) w3).setCell (p := ⟨w.heap.size + 1, j, none⟩) (Nat.le_refl _) _).cell (p := ⟨w.heap.size, i, none⟩) (by simp)).trans ?_
            exact (HBr3.out.cell (p := ⟨w.heap.size, i, none⟩) (by have := HSZ.out; simp; omega)).trans (HCL.out i x hx)
          · have h1 := HSZ.out
            have h2 := HBr3.out.size
            simp [World.setCell]; omega
          · have h := HROW3.out.store hj (.int .i64 n)
            have e1 : ((ns ++ List.replicate (g' + 1) 0).map (Value.int .i64)).set j (.int .i64 n) = ((ns ++ [n] ++ List.replicate g' 0).map (Value.int .i64)) := by
              rw [List.map_append, List.set_append_right _ _ (by simp [hns])]
              simp [hns, List.replicate_succ]
            rw [e1] at h
            exact h
      · have HBAD : Hid (¬ ∃ ns : List Int, Lib.splitK [46] 0 2 s.data.toList = ns.map Lib.itoa ∧ ∀ n ∈ ns, okN n) := by
          rintro ⟨ms, h1, h2⟩
          rw [← HP.out] at h1
          have h3 : (ps.map (·.data.toList))[j]? = (ms.map Lib.itoa)[j]? := by rw [h1]
          rw [List.getElem?_map, List.getElem?_map, HX.out] at h3
          cases hm2 : ms[j]? with
          | none => rw [hm2] at h3; cases h3
          | some y =>
            rw [hm2] at h3
            exact hgood ⟨y, h2 y (List.mem_of_getElem? hm2), (Option.some.inj h3).symm⟩
        by_cases hat : ∃ v, Lib.atoiAll x.data.toList = .ok v
        · obtain ⟨v, hat⟩ := hat
          go_wp2_with fail
          refine (atoi_yes _ v _ (by omega) hat).mono ?_
          rintro e w2 ⟨rfl, hb2⟩
          have HB2 : Hid (Below w.heap.size w w2) := HB.out.trans (hb2.mono HB.out.size)
          obtain ⟨hv0, hv1⟩ := Lib.atoiAll_bounds hat
          have HV : Hid (0 ≤ v → v ≤ 9223372036854775807) := fun _ => hv1
          clear hb2 hat hv0 hv1
          by_cases hv : okN v
          · have hd : okB v = true := okB_t hv
            have hne : (Lib.itoa v == x.toList) = false := by
              rw [beq_eq_false_iff_ne, ByteArray.toList_eq]
              intro he
              exact hgood ⟨v, hv, he⟩
            have HN : Hid (okN v) := hv
            clear hv hgood
            go_wp2_with fail
            refine (inBounds_is v _).mono ?_
            rintro e w3 ⟨rfl, rfl⟩
            rw [hd]
            go_wp2_with fail
            refine (itoa_is v _ HN.out.1 (HV.out HN.out.1) (HL.out.below HB2.out rfl).base).mono ?_
            rintro e w3 ⟨rfl, hb3⟩
            have HB3 : Hid (Below w.heap.size w w3) := HB2.out.trans (hb3.mono HB2.out.size)
            clear hb3
            go_wp2_with fail
            go_ret2
            exact ⟨HB3.out, .inr ⟨rfl, HBAD.out⟩⟩
          · have hd : okB v = false := okB_f hv
            clear hv hgood
            go_wp2_with fail
            refine (inBounds_is v _).mono ?_
            rintro e w3 ⟨rfl, rfl⟩
            rw [hd]
            go_wp2_with fail
            go_ret2
            exact ⟨HB2.out, .inr ⟨rfl, HBAD.out⟩⟩
        · have hat' : ∀ v, Lib.atoiAll x.data.toList ≠ .ok v := fun v h => hat ⟨v, h⟩
          clear hgood hat
          go_wp2_with fail
          refine (atoi_no _ _ (by omega) HLr hat').mono ?_
          rintro e w2 ⟨v, te, pe, rfl, hb2⟩
          have HB2 : Hid (Below w.heap.size w w2) := HB.out.trans (hb2.mono HB.out.size)
          clear hb2 hat'
          go_wp2_with fail
          go_ret2
          exact ⟨HB2.out, .inr ⟨rfl, HBAD.out⟩⟩
    · obtain rfl : j = ps.length := by omega
      go_wp2_with fail
      go_ret2
      refine ⟨HB.out, .inl ⟨ns, w.heap.size + 1, ps.length, ?_, ?_, HOK.out, ?_⟩⟩
      · rw [HNS.out]; rfl
      · rw [← HP.out, ← HIT.out, List.take_of_length_le (Nat.le_refl _)]
      · have h := HROW.out
        have e0 : gk = 0 := by have := HK.out; omega
        rw [e0, List.replicate_zero, List.append_nil] at h
        rw [HNS.out]
        exact h
end Go.Proofs.YteblegcojhcccaaDoor
