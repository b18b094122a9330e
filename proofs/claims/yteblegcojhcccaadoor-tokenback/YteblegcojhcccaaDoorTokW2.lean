import Derived.Test.YteblegcojhcccaaDoorTokW
namespace Go.Proofs.YteblegcojhcccaaDoor
open Go.RowKit Tok
theorem body_len {t : T} (h : may t) : (body t).length ≤ 70 := by
  obtain ⟨k, f, g, e⟩ := t
  obtain ⟨hk, hf, hg⟩ := h
  unfold okN at *
  simp only at hk hf hg
  have hlf := Lib.itoa_length_le f (by omega) (by omega)
  have hlg := Lib.itoa_length_le g (by omega) (by omega)
  unfold body
  simp only
  rcases hk with ⟨rfl, rfl⟩ | ⟨rfl, he⟩
  · rw [if_pos rfl]; simp; omega
  · have hle := Lib.itoa_length_le e (by omega) (by omega)
    rw [if_neg (by decide)]; simp; omega
def textOf (key : Int) (t : T) : List UInt8 := body t ++ 46 :: tag key (body t)
theorem macTag_list (key : Int) (l : List UInt8) (w : World) (hl : l.length ≤ 9223372036854775807) : Calls Tryd.prog 14 #[.int .i64 key, .string ⟨l.toArray⟩] w fun e w' => e = .returned (.string ⟨(tag key l).toArray⟩) ∧ Below w.heap.size w w' := by
  have h := macTag_any key ⟨l.toArray⟩ w (by simpa [ByteArray.size] using hl)
  simpa using h
theorem refTag_list (key : Int) (l : List UInt8) (w : World) (hl : l.length ≤ 1000000) (hL : Libs w) : Calls Tryd.prog 15 #[.int .i64 key, .string ⟨l.toArray⟩] w fun e w' => e = .returned (.string ⟨(tag key l).toArray⟩) ∧ Below w.heap.size w w' := by
  have h := refTag_any key ⟨l.toArray⟩ w (by simpa [ByteArray.size] using hl) hL.t16 hL.big.2.1
  simpa using h
theorem tag_len (key : Int) (l : List UInt8) : (tag key l).length = 16 := Hex.hexsN_length _ _
set_option maxRecDepth 100000 in
set_option maxHeartbeats 4000000 in
theorem writeP_yes (key : Int) (t : T) (w : World) (h : may t) (hL : Libs w) : Calls Tryd.prog 19 #[.int .i64 key, tokV t] w fun e w' => e = .returned (.tuple #[.string ⟨(textOf key t).toArray⟩, .nilIface]) ∧ Below w.heap.size w w' := by
  have hd : mayB t = true := mayB_t h
  have hl := body_len h
  have hlt := tag_len key (body t)
  have HH : Hid (may t) := h
  have HL : Hid (Libs w) := hL
  have HX : Hid (textOf key t = body t ++ 46 :: tag key (body t)) := rfl
  clear h hL
  obtain ⟨k, f, g, e⟩ := t
  unfold tokV
  simp only
  go_enter Tryd.func19, Tryd.ntmps19
  go_wp2_with fail
  refine (mayBe_is ⟨k, f, g, e⟩ _).mono ?_
  rintro e1 w1 ⟨rfl, hb1⟩
  rw [hd]
  have hB0 : Below w.heap.size w (w.alloc (.cells #[.int .i64 k, .int .i64 f, .int .i64 g, .int .i64 e] 46)) := (Below.refl _ _).alloc (Nat.le_refl _) _
  have c0 := (hb1.cell (p := ⟨w.heap.size, 0, none⟩) (by simp)).trans (World.cell?_alloc_at _ _ _ _ rfl)
  have c1 := (hb1.cell (p := ⟨w.heap.size, 1, none⟩) (by simp)).trans (World.cell?_alloc_at _ _ _ _ rfl)
  have c2 := (hb1.cell (p := ⟨w.heap.size, 2, none⟩) (by simp)).trans (World.cell?_alloc_at _ _ _ _ rfl)
  have c3 := (hb1.cell (p := ⟨w.heap.size, 3, none⟩) (by simp)).trans (World.cell?_alloc_at _ _ _ _ rfl)
  simp at c0 c1 c2 c3
  have HB1 : Hid (Below w.heap.size w w1) := hB0.trans (hb1.mono hB0.size)
  have HL1 := HL.out.below HB1.out HL.out.big
  clear hb1 hB0
  go_wp2_with fail
  refine (bodyP_is ⟨k, f, g, e⟩ _ HH.out HL1).mono ?_
  rintro e2 w2 ⟨rfl, hb2⟩
  have HB2 : Hid (Below w.heap.size w w2) := HB1.out.trans (hb2.mono HB1.out.size)
  clear hb2 c0 c1 c2 c3
  generalize body ⟨k, f, g, e⟩ = B at *
  go_wp2_with fail
  refine (macTag_list key B _ (by omega)).mono ?_
  rintro e3 w3 ⟨rfl, hb3⟩
  have HB3 : Hid (Below w.heap.size w w3) := HB2.out.trans (hb3.mono HB2.out.size)
  clear hb3
  generalize tag key B = G at *
  go_wp2_with fail
  go_ret2
  refine ⟨?_, HB3.out⟩
  rw [HX.out]
  refine congrArg Ending.returned (congrArg Value.tuple ?_)
  rw [show (⟨B.toArray⟩ ++ ⟨#[46]⟩ ++ ⟨G.toArray⟩ : ByteArray) = ⟨(B ++ 46 :: G).toArray⟩ from bstr (by simp)]
  rfl
set_option maxRecDepth 100000 in
set_option maxHeartbeats 4000000 in
theorem writeP_no (key : Int) (t : T) (w : World) (h : ¬ may t) : Calls Tryd.prog 19 #[.int .i64 key, tokV t] w fun e w' => e = .returned (.tuple #[.string ByteArray.empty, .iface 30 (.int .i64 1)]) ∧ Below w.heap.size w w' := by
  have hd : mayB t = false := mayB_f h
  clear h
  obtain ⟨k, f, g, e⟩ := t
  unfold tokV
  simp only
  go_enter Tryd.func19, Tryd.ntmps19
  go_wp2_with fail
  refine (mayBe_is ⟨k, f, g, e⟩ _).mono ?_
  rintro e1 w1 ⟨rfl, hb1⟩
  rw [hd]
  have hB0 : Below w.heap.size w (w.alloc (.cells #[.int .i64 k, .int .i64 f, .int .i64 g, .int .i64 e] 46)) := (Below.refl _ _).alloc (Nat.le_refl _) _
  have HB1 : Hid (Below w.heap.size w w1) := hB0.trans (hb1.mono hB0.size)
  clear hb1 hB0
  go_wp2_with fail
  go_ret2
  exact ⟨rfl, HB1.out⟩
set_option maxRecDepth 100000 in
set_option maxHeartbeats 4000000 in
theorem writeR_no (key : Int) (t : T) (w : World) (h : ¬ may t) : Calls Tryd.prog 17 #[.int .i64 key, tokV t] w fun e w' => e = .returned (.tuple #[.string ByteArray.empty, .int .i64 1]) ∧ Below w.heap.size w w' := by
  have HH : Hid (¬ may t) := h
  clear h
  obtain ⟨k, f, g, e⟩ := t
  unfold tokV
  simp only
  go_enter Tryd.func17, Tryd.ntmps17
  go_wp2_with (go_at_call 37; refine (in_is _ _).mono ?_; rintro e w' ⟨rfl, rfl⟩)
  all_goals first
    | (refine absurd ?_ HH.out; simp_all [may, ← okB_iff]; done)
    | (go_ret2; exact ⟨rfl, (Below.refl _ _).alloc (Nat.le_refl _) _⟩)
set_option maxRecDepth 100000 in
set_option maxHeartbeats 4000000 in
theorem writeR_yes (key : Int) (t : T) (w : World) (h : may t) (hL : Libs w) : Calls Tryd.prog 17 #[.int .i64 key, tokV t] w fun e w' => e = .returned (.tuple #[.string ⟨(textOf key t).toArray⟩, .int .i64 0]) ∧ Below w.heap.size w w' := by
  have hl := body_len h
  have hlt := tag_len key (body t)
  have HX : Hid (textOf key t = body t ++ 46 :: tag key (body t)) := rfl
  have HL0 : Hid (Libs w) := hL
  obtain ⟨k, f, g, e⟩ := t
  have hB : Below w.heap.size w (w.alloc (.cells #[.int .i64 k, .int .i64 f, .int .i64 g, .int .i64 e] 49)) := (Below.refl _ _).alloc (Nat.le_refl _) _
  have hL2 := hL.below hB hL.big
  have k0 := cell_regrown (show (w.alloc (.cells #[.int .i64 k, .int .i64 f, .int .i64 g, .int .i64 e] 49)).cell? ⟨w.heap.size, 0, none⟩ = some (.int .i64 k) by simp)
  have k1 := cell_regrown (show (w.alloc (.cells #[.int .i64 k, .int .i64 f, .int .i64 g, .int .i64 e] 49)).cell? ⟨w.heap.size, 1, none⟩ = some (.int .i64 f) by simp)
  have k2 := cell_regrown (show (w.alloc (.cells #[.int .i64 k, .int .i64 f, .int .i64 g, .int .i64 e] 49)).cell? ⟨w.heap.size, 2, none⟩ = some (.int .i64 g) by simp)
  have k3 := cell_regrown (show (w.alloc (.cells #[.int .i64 k, .int .i64 f, .int .i64 g, .int .i64 e] 49)).cell? ⟨w.heap.size, 3, none⟩ = some (.int .i64 e) by simp)
  have cB : ∀ d os, Calls Tryd.prog 38 #[.agg #[.int .i64 k, .int .i64 f, .int .i64 g, .int .i64 e]] (Go.Sort.grow (redrawn (w.alloc (.cells #[.int .i64 k, .int .i64 f, .int .i64 g, .int .i64 e] 49)) d) os) fun e' w'' => e' = .returned (.string ⟨(body ⟨k, f, g, e⟩).toArray⟩) ∧ ∃ p : Regrown, w'' = Go.Sort.grow (redrawn (w.alloc (.cells #[.int .i64 k, .int .i64 f, .int .i64 g, .int .i64 e] 49)) p.d) p.os :=
    fun d os => Calls.regrown_of (bodyR_is ⟨k, f, g, e⟩ _ h (hL2.below (below_regrown _ d os) hL2.big))
  have cT : ∀ d os, Calls Tryd.prog 15 #[.int .i64 key, .string ⟨(body ⟨k, f, g, e⟩).toArray⟩] (Go.Sort.grow (redrawn (w.alloc (.cells #[.int .i64 k, .int .i64 f, .int .i64 g, .int .i64 e] 49)) d) os) fun e' w'' => e' = .returned (.string ⟨(tag key (body ⟨k, f, g, e⟩)).toArray⟩) ∧ ∃ p : Regrown, w'' = Go.Sort.grow (redrawn (w.alloc (.cells #[.int .i64 k, .int .i64 f, .int .i64 g, .int .i64 e] 49)) p.d) p.os :=
    fun d os => Calls.regrown_of (refTag_list key _ _ (by omega) (hL2.below (below_regrown _ d os) hL2.big))
  have HB : Hid _ := hB
  clear hB hL hL2
  obtain ⟨hk, hf, hg⟩ := h
  simp only at hk hf hg
  have n1 : ¬ 9223372036854775807 < (body ⟨k, f, g, e⟩).length + 1 := by omega
  have n2 : ¬ 9223372036854775807 < (body ⟨k, f, g, e⟩).length + 1 + (tag key (body ⟨k, f, g, e⟩)).length := by omega
  clear hl hlt
  generalize hb : body ⟨k, f, g, e⟩ = B at *
  generalize tag key B = G at *
  clear hb
  have hdf : okB f = true := okB_t hf
  have hdg : okB g = true := okB_t hg
  rcases hk with ⟨rfl, rfl⟩ | ⟨rfl, he⟩
  · unfold tokV
    simp only
    go_enter Tryd.func17, Tryd.ntmps17
    go_wp2_with (go_at_call 37; refine (in_is _ _).mono ?_; rintro e w' ⟨rfl, rfl⟩)
    refine wp_region_quiet_below mixed (by kernel_rfl) ?_
    repeat (quiet_step (first | exact cB _ _ | exact cT _ _))
    refine wpQuiet_nil ?_
    intro W2 hw'
    obtain ⟨⟨dq, osq⟩, hw''⟩ := hw'
    have HB2 := below_regrown (w.alloc (.cells #[.int .i64 1, .int .i64 f, .int .i64 g, .int .i64 0] 49)) dq osq
    rw [← hw''] at HB2
    have HB3 : Hid (Below w.heap.size w W2) := HB.out.trans (HB2.mono HB.out.size)
    clear hw'' HB2 cB cT k0 k1 k2 k3
    go_wp2_with fail
    go_ret2
    refine ⟨?_, HB3.out⟩
    rw [HX.out]
    refine congrArg Ending.returned (congrArg Value.tuple ?_)
    rw [show (⟨B.toArray⟩ ++ ⟨#[46]⟩ ++ ⟨G.toArray⟩ : ByteArray) = ⟨(B ++ 46 :: G).toArray⟩ from bstr (by simp)]
    rfl
  · have hde : okB e = true := okB_t he
    unfold tokV
    simp only
    go_enter Tryd.func17, Tryd.ntmps17
    go_wp2_with (go_at_call 37; refine (in_is _ _).mono ?_; rintro e w' ⟨rfl, rfl⟩)
    refine wp_region_quiet_below mixed (by kernel_rfl) ?_
    repeat (quiet_step (first | exact cB _ _ | exact cT _ _))
    refine wpQuiet_nil ?_
    intro W2 hw'
    obtain ⟨⟨dq, osq⟩, hw''⟩ := hw'
    have HB2 := below_regrown (w.alloc (.cells #[.int .i64 2, .int .i64 f, .int .i64 g, .int .i64 e] 49)) dq osq
    rw [← hw''] at HB2
    have HB3 : Hid (Below w.heap.size w W2) := HB.out.trans (HB2.mono HB.out.size)
    clear hw'' HB2 cB cT k0 k1 k2 k3
    go_wp2_with fail
    go_ret2
    refine ⟨?_, HB3.out⟩
    rw [HX.out]
    refine congrArg Ending.returned (congrArg Value.tuple ?_)
    rw [show (⟨B.toArray⟩ ++ ⟨#[46]⟩ ++ ⟨G.toArray⟩ : ByteArray) = ⟨(B ++ 46 :: G).toArray⟩ from bstr (by simp)]
    rfl
end Go.Proofs.YteblegcojhcccaaDoor
