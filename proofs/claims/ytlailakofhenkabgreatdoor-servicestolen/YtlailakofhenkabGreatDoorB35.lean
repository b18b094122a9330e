/-
  Own texts put together: SvSt3.
-/
import Derived.Test.YtlailakofhenkabGreatDoorB34
namespace Go.Proofs.YtlailakofhenkabGreatDoor
open Go Go.RowKit Tok Sc Ev
theorem Words.cellOf {B : Nat} {w w' : World} {g c q : Nat} {xs : List ByteArray} {x : ByteArray} (h : Words B w (.slice (some ⟨g, 0, none⟩) xs.length c) xs) (h' : Words B w' (.slice (some ⟨g, 0, none⟩) xs.length c) xs) (hq : w.cell? ⟨g, q, none⟩ = some (.string x)) (hql : q < xs.length) : w'.cell? ⟨g, q, none⟩ = some (.string x) := by
  obtain ⟨g1, e1, h1⟩ := h.cell q hql
  obtain ⟨g2, e2, h2⟩ := h'.cell q hql
  simp only [Option.some.injEq, Addr.mk.injEq, and_true] at e1 e2
  subst e1
  subst e2
  rw [h2, ← h1, hq]
theorem info_strS0 : (Tryz.prog.info? 9).map (fun i => (i.zero, i.size, i.bytes)) = some (some (.string ⟨#[]⟩), 1, 16) := by kernel_rfl
theorem info_strS : ∃ i, Tryz.prog.info? 9 = some i ∧ i.zero = some (.string ⟨#[]⟩) ∧ i.size = 1 ∧ i.bytes = 16 := by
  have h := info_strS0
  cases hi : Tryz.prog.info? 9 with
  | none => rw [hi] at h; cases h
  | some i =>
    rw [hi] at h
    simp only [Option.map_some, Option.some.injEq, Prod.mk.injEq] at h
    exact ⟨i, rfl, h.1, h.2.1, h.2.2⟩
set_option maxRecDepth 100000 in
set_option maxHeartbeats 32000000 in
theorem asks_is (w0 : World) (n c N gh gv gs gd b1 b2 b3 : Nat) (r : Rul) (p : Pub) (v vt : Value) (toks : List ByteArray) (S F : Int → Option Value) (G : List UInt8 → Option Value) (Fn : Int → Option ByteArray) (a ti m : Int) (sc : ByteArray) (w : World) (h : Held w0 n c N gh gv gs gd b1 b2 b3 r p v vt toks S F G w) (hq : SeenS p.st p.st F Fn) (hn : n ≤ 90000) (hc : c ≤ 90000) (hN : N < 90000) :
    Calls Tryz.prog 46 #[.pointer (some ⟨gh, 0, none⟩), .int .i64 r.key, .agg #[.int .i64 a, .int .i64 ti, .int .i64 m, .string sc]] w fun e w' => e = .returned (.bool true) ∧ ∃ p' v' vt' toks' S' F' G' Fn', Held w0 (n + 2) (c + 20) (N + 22) gh gv gs gd b1 b2 b3 r p' v' vt' toks' S' F' G' w' ∧ SeenS p'.st p'.st F' Fn' := by
  obtain ⟨bt, ct, rfl⟩ := h.toks.slice
  have HB0 : Hid (Below w.heap.size w (w.alloc (.cells #[.int .i64 a, .int .i64 ti, .int .i64 m, .string sc] 99))) := (Below.refl _ _).alloc (Nat.le_refl _) _
  have HH0 : Hid (Held w0 n c N gh gv gs gd b1 b2 b3 r p v (.slice bt toks.length ct) toks S F G (w.alloc (.cells #[.int .i64 a, .int .i64 ti, .int .i64 m, .string sc] 99))) := h.on HB0.out
  have HX0 : Hid (XB (w.alloc (.cells #[.int .i64 a, .int .i64 ti, .int .i64 m, .string sc] 99)) w.heap.size a ti m) := ⟨(World.cell?_alloc_at _ _ _ _ rfl).trans rfl, (World.cell?_alloc_at _ _ _ _ rfl).trans rfl, (World.cell?_alloc_at _ _ _ _ rfl).trans rfl, by simp⟩
  have HGX : Hid (gh < w.heap.size ∧ gv < w.heap.size ∧ gs < w.heap.size ∧ gd < w.heap.size ∧ b1 < w.heap.size ∧ b2 < w.heap.size ∧ b3 < w.heap.size) := by
    have h1 := h.box.lt; have h2 := h.sv.box.lt; have h3 := h.sv.sp.lt; have h4 := h.sv.sp.ord; have h5 := h.m1.lt; have h6 := h.m2.lt; have h7 := h.m3.lt
    exact ⟨h1, h2, h3, by omega, h5, h6, h7⟩
  have HQ : Hid _ := hq
  have HN : Hid (n ≤ 90000 ∧ c ≤ 90000 ∧ N < 90000) := ⟨hn, hc, hN⟩
  clear h hq hn hc hN
  have g1 := HH0.out.box.c1
  go_enter Tryz.func46, Tryz.ntmps46
  go_upto_region 1 with fail
  generalize hW0 : (w.alloc (.cells #[.int .i64 a, .int .i64 ti, .int .i64 m, .string sc] 99)) = W0 at *
  clear hW0
  generalize w.heap.size = gx at *
  go_upto_if 19 with fail
  go_cut [7] from 19 to 33 (fun x wx => ∃ t : ByteArray, x = .string t ∧ Hid (t.size ≤ 5000) ∧ Hid (Held w0 n c N gh gv gs gd b1 b2 b3 r p v (.slice bt toks.length ct) toks S F G wx) ∧ Hid (XB wx gx a ti m))
  case first =>
    by_cases h0 : toks.length = 0
    · have h0J : ¬ (0 : Int) < (toks.length : Int) := by omega
      clear h0
      go_wp2_with fail
      go_meet
      case rel => exact ⟨_, rfl, by show (0 : Nat) ≤ 5000; omega, HH0, HX0⟩
    · have h0J : (0 : Int) < (toks.length : Int) := by omega
      have HTP : Hid (0 < toks.length) := by show 0 < _; omega
      clear h0
      go_upto_region 3 with fail
      refine RegD.wp_region_D (fun W => Held w0 n c N gh gv gs gd b1 b2 b3 r p v (.slice bt toks.length ct) toks S F G W ∧ XB W gx a ti m) 14 (by kernel_rfl) (⟨HH0.out.on (Below.refl _ _).drew, HX0.out.on (Below.refl _ _).drew⟩) (fun hHeld => ?_)
      refine RegD.wpAnyD_take 0 (oi := ?oi0x2) (v := .pointer (some ⟨gh, 0, none⟩)) ?hi0x2 ?hB0x2 ?hQ0x2 ?hy0x2 hHeld ?rest0x2
      case hi0x2 => rfl
      case hB0x2 => kernel_rfl
      case hQ0x2 => exact fun _ _ _ h => h
      case hy0x2 => exact .inl ⟨by rfl, fun W hW => by
        go_simp⟩
      simp only [Act.put, List.setIfInBounds_toArray, List.set_cons_zero, List.set_cons_succ]
      refine RegD.wpAnyD_take 1 (oi := ?oi1x3) (v := .pointer (some ⟨gh, 0, none⟩)) ?hi1x3 ?hB1x3 ?hQ1x3 ?hy1x3 hHeld ?rest1x3
      case hi1x3 => rfl
      case hB1x3 => kernel_rfl
      case hQ1x3 => exact fun _ _ _ h => h
      case hy1x3 => exact .inl ⟨by rfl, fun W hW => by
        go_simp⟩
      simp only [Act.put, List.setIfInBounds_toArray, List.set_cons_zero, List.set_cons_succ]
      refine RegD.wpAnyD_take 2 (oi := ?oi2x4) (v := .pointer (some ⟨gh, 1, none⟩)) ?hi2x4 ?hB2x4 ?hQ2x4 ?hy2x4 hHeld ?rest2x4
      case hi2x4 => rfl
      case hB2x4 => kernel_rfl
      case hQ2x4 => exact fun _ _ _ h => h
      case hy2x4 => exact .inl ⟨by rfl, fun W hW => by
        go_simp⟩
      simp only [Act.put, List.setIfInBounds_toArray, List.set_cons_zero, List.set_cons_succ]
      refine RegD.wpAnyD_take 3 (oi := ?oi3x5) (v := .slice bt toks.length ct) ?hi3x5 ?hB3x5 ?hQ3x5 ?hy3x5 hHeld ?rest3x5
      case hi3x5 => rfl
      case hB3x5 => kernel_rfl
      case hQ3x5 => exact fun _ _ _ h => h
      case hy3x5 => exact .inl ⟨by rfl, fun W hW => by
        have a0 := hW.1.box.c1
        go_simp⟩
      simp only [Act.put, List.setIfInBounds_toArray, List.set_cons_zero, List.set_cons_succ]
      refine RegD.wpAnyD_take 4 (oi := ?oi4x6) (v := .pointer (some ⟨gx, 1, none⟩)) ?hi4x6 ?hB4x6 ?hQ4x6 ?hy4x6 hHeld ?rest4x6
      case hi4x6 => rfl
      case hB4x6 => kernel_rfl
      case hQ4x6 => exact fun _ _ _ h => h
      case hy4x6 => exact .inl ⟨by rfl, fun W hW => by
        go_simp⟩
      simp only [Act.put, List.setIfInBounds_toArray, List.set_cons_zero, List.set_cons_succ]
      refine RegD.wpAnyD_take 5 (oi := ?oi5x7) (v := .int .i64 ti) ?hi5x7 ?hB5x7 ?hQ5x7 ?hy5x7 hHeld ?rest5x7
      case hi5x7 => rfl
      case hB5x7 => kernel_rfl
      case hQ5x7 => exact fun _ _ _ h => h
      case hy5x7 => exact .inl ⟨by rfl, fun W hW => by
        have a0 := hW.2.c1
        go_simp⟩
      simp only [Act.put, List.setIfInBounds_toArray, List.set_cons_zero, List.set_cons_succ]
      refine RegD.wpAnyD_take 6 (oi := ?oi6x8) (v := .pointer (some ⟨gh, 0, none⟩)) ?hi6x8 ?hB6x8 ?hQ6x8 ?hy6x8 hHeld ?rest6x8
      case hi6x8 => rfl
      case hB6x8 => kernel_rfl
      case hQ6x8 => exact fun _ _ _ h => h
      case hy6x8 => exact .inl ⟨by rfl, fun W hW => by
        go_simp⟩
      simp only [Act.put, List.setIfInBounds_toArray, List.set_cons_zero, List.set_cons_succ]
      refine RegD.wpAnyD_take 7 (oi := ?oi7x9) (v := .pointer (some ⟨gh, 0, none⟩)) ?hi7x9 ?hB7x9 ?hQ7x9 ?hy7x9 hHeld ?rest7x9
      case hi7x9 => rfl
      case hB7x9 => kernel_rfl
      case hQ7x9 => exact fun _ _ _ h => h
      case hy7x9 => exact .inl ⟨by rfl, fun W hW => by
        go_simp⟩
      simp only [Act.put, List.setIfInBounds_toArray, List.set_cons_zero, List.set_cons_succ]
      refine RegD.wpAnyD_take 8 (oi := ?oi8x10) (v := .pointer (some ⟨gh, 1, none⟩)) ?hi8x10 ?hB8x10 ?hQ8x10 ?hy8x10 hHeld ?rest8x10
      case hi8x10 => rfl
      case hB8x10 => kernel_rfl
      case hQ8x10 => exact fun _ _ _ h => h
      case hy8x10 => exact .inl ⟨by rfl, fun W hW => by
        go_simp⟩
      simp only [Act.put, List.setIfInBounds_toArray, List.set_cons_zero, List.set_cons_succ]
      refine RegD.wpAnyD_take 9 (oi := ?oi9x11) (v := .slice bt toks.length ct) ?hi9x11 ?hB9x11 ?hQ9x11 ?hy9x11 hHeld ?rest9x11
      case hi9x11 => rfl
      case hB9x11 => kernel_rfl
      case hQ9x11 => exact fun _ _ _ h => h
      case hy9x11 => exact .inl ⟨by rfl, fun W hW => by
        have a0 := hW.1.box.c1
        go_simp⟩
      simp only [Act.put, List.setIfInBounds_toArray, List.set_cons_zero, List.set_cons_succ]
      refine RegD.wpAnyD_take 10 (oi := ?oi10x12) (v := .int .i64 toks.length) ?hi10x12 ?hB10x12 ?hQ10x12 ?hy10x12 hHeld ?rest10x12
      case hi10x12 => rfl
      case hB10x12 => kernel_rfl
      case hQ10x12 => exact fun _ _ _ h => h
      case hy10x12 => exact .inl ⟨by rfl, fun W hW => by
        go_simp⟩
      simp only [Act.put, List.setIfInBounds_toArray, List.set_cons_zero, List.set_cons_succ]
      refine RegD.wpAnyD_one 11 (o := ?o11x13) ?ho11x13 ?hr11x13 ?h11x13
      case ho11x13 => rfl
      case hr11x13 => kernel_rfl
      intro K hK
      go_simp
      go_at_call 14
      refine (pickN_is ti toks.length HTP.out (by have h1 := hHeld.1.tn; have h2 := HN.out.1; omega) _).mono ?_
      rintro e1 w1 ⟨q, hq, -, rfl, hw⟩
      obtain rfl := hw
      have hqI : (q : Int) < (toks.length : Int) := by omega
      obtain ⟨gt, rfl, hct⟩ := hHeld.1.toks.cell q hq
      have HCT : Hid _ := hct
      have HQL : Hid (q < toks.length) := hq
      have HSZ : Hid (toks[q].size ≤ 5000) := hHeld.1.ts _ (List.getElem_mem hq)
      clear hct
      generalize toks[q] = tq at *
      go_wp2_with fail
      refine hK.out _ _ (hHeld) ?_
      clear hK hHeld
      intro hHeld
      clear K
      refine RegD.wpAnyD_take 12 (oi := ?oi12x15) (v := .pointer (some ⟨gt, q, none⟩)) ?hi12x15 ?hB12x15 ?hQ12x15 ?hy12x15 hHeld ?rest12x15
      case hi12x15 => rfl
      case hB12x15 => kernel_rfl
      case hQ12x15 => exact fun _ _ _ h => h
      case hy12x15 => exact .inl ⟨by rfl, fun W hW => by
        go_simp⟩
      simp only [Act.put, List.setIfInBounds_toArray, List.set_cons_zero, List.set_cons_succ]
      have HHF : Hid _ := hHeld.1
      have HXF : Hid _ := hHeld.2
      refine RegD.wpAnyD_take 13 (oi := ?oi13x16) (v := .string tq) ?hi13x16 ?hB13x16 ?hQ13x16 ?hy13x16 hHeld ?rest13x16
      case hi13x16 => rfl
      case hB13x16 => kernel_rfl
      case hQ13x16 => exact fun _ _ _ h => h
      case hy13x16 => exact .inl ⟨by rfl, fun W hW => by
        have a0 := hHeld.1.toks.cellOf hW.1.toks HCT.out HQL.out
        go_simp⟩
      simp only [Act.put, List.setIfInBounds_toArray, List.set_cons_zero, List.set_cons_succ]
      clear hHeld
      refine RegD.wpAnyD_late 14 (o := ?o14x17) ?ho14x17 ?hr14x17 ?hd14x17 ?h14x17
      case ho14x17 => rfl
      case hr14x17 => kernel_rfl
      case hd14x17 => kernel_rfl
      intro K hK
      go_simp
      refine hK.out _ _ ?_
      clear hK K
      refine RegD.wpAnyD_done (by kernel_rfl) ?_ _
      go_wp2_with fail
      go_meet
      case rel => exact ⟨_, rfl, HSZ, HHF, HXF⟩
  case rest =>
    obtain ⟨t, rfl, HTS, HH3, HX3⟩ := hcut
    generalize wc = W3 at *
    clear HH0 HX0 HB0 g1
    go_wp2_with fail
    refine (readP_is r.key t W3 HTS.out HH3.out.sv.libs).mono ?_
    rintro e4 w4 ⟨hb4, ⟨tk, tf, tg, te⟩, nt, hot, rfl⟩
    have HOT : Hid (Tok.Out (tag r.key) t.data.toList ⟨tk, tf, tg, te⟩ nt) := hot
    have HTF : Hid (okN tf) := tok_okN hot
    have hb5 : Below w4.heap.size w4 (w4.alloc (.cells #[.int .i64 tk, .int .i64 tf, .int .i64 tg, .int .i64 te] 142)) := (Below.refl _ _).alloc (Nat.le_refl _) _
    have HH4 : Hid (Held w0 n c N gh gv gs gd b1 b2 b3 r p v (.slice bt toks.length ct) toks S F G (w4.alloc (.cells #[.int .i64 tk, .int .i64 tf, .int .i64 tg, .int .i64 te] 142))) := (HH3.out.on hb4).on hb5
    have HX4 : Hid (XB (w4.alloc (.cells #[.int .i64 tk, .int .i64 tf, .int .i64 tg, .int .i64 te] 142)) gx a ti m) := (HX3.out.on hb4).on hb5
    have HT4 : Hid (TB (w4.alloc (.cells #[.int .i64 tk, .int .i64 tf, .int .i64 tg, .int .i64 te] 142)) w4.heap.size ⟨tk, tf, tg, te⟩) := TB.made w4 ⟨tk, tf, tg, te⟩ _
    have HGT : Hid (gx < w4.heap.size) := Nat.lt_of_lt_of_le HX3.out.lt hb4.size
    have HNV : Hid (NotIn v w4.heap.size ∧ NotIn (.slice bt toks.length ct) w4.heap.size) := ⟨NotIn.past (HH3.out.on hb4).sv.sp.fam (Nat.le_refl _), (HH3.out.on hb4).toks.past (Nat.le_refl _)⟩
    clear hot hb4 hb5
    unfold tokV
    go_upto_region 5 with fail
    generalize hW4 : (w4.alloc (.cells #[.int .i64 tk, .int .i64 tf, .int .i64 tg, .int .i64 te] 142)) = W4 at *
    clear hW4
    generalize w4.heap.size = gt at *
    go_upto_region 7 with fail
    have x0 := HX4.out.c0
    go_upto_block 0 with fail
    clear x0
    by_cases hd : 0 ≤ a ∧ a ≤ 6
    · have HEV : Hid (Evo p.st p.st) := Evo.same HH4.out.sv.sp.ok.good
      have HGG : Hid (gt ≠ gd ∧ gt ≠ gs ∧ gt ≠ b1 ∧ gt ≠ b2 ∧ gt ≠ b3 ∧ gt ≠ gh ∧ gx ≠ gd ∧ gx ≠ gs ∧ gx ≠ b1 ∧ gx ≠ b2 ∧ gx ≠ b3 ∧ gx ≠ gh ∧ gt ≠ gx ∧ gh ≠ gd ∧ gh ≠ gs) := by
        have h1 := HGX.out
        have h2 := HGT.out
        have h3 := HH4.out.far.ord
        have h4 := HH4.out.sv.ord
        have h5 := HH4.out.sv.sp.ord
        refine ⟨?_, ?_, ?_, ?_, ?_, ?_, ?_, ?_, ?_, ?_, ?_, ?_, ?_, ?_, ?_⟩ <;> omega
      go_cut [10, 11] from 40 to 163 (fun g e wx => ∃ (x : ByteArray) (q : Nat) (p' : Pub) (v' : Value) (S' : Int → Option Value) (G' : List UInt8 → Option Value) (tf' : Int), g = .string x ∧ e = errQ q ∧ Hid (x.size ≤ 5000) ∧ Hid (Held w0 (n + 1) c (N + 22) gh gv gs gd b1 b2 b3 r p' v' (.slice bt toks.length ct) toks S' F G' wx) ∧ Hid (Evo p.st p'.st) ∧ Hid (XB wx gx a ti m) ∧ Hid (wx.cell? ⟨gt, 1, none⟩ = some (.int .i64 tf') ∧ okN tf' ∧ gt < wx.heap.size) ∧ Hid (0 < a → a < 4 → q = 0 → S' tf' = none))
      case first =>
        rcases (by omega : a = 0 ∨ a = 1 ∨ a = 2 ∨ a = 3 ∨ a = 4 ∨ a = 5 ∨ a = 6) with rfl | rfl | rfl | rfl | rfl | rfl | rfl
        · go_upto_region 10 with fail
          refine RegD.wp_region_D (fun W => XB W gx 0 ti m ∧ HAt W gh gv (.slice bt toks.length ct) b1 b2 b3 ∧ TB W gt ⟨tk, tf, tg, te⟩) 12 (by kernel_rfl) (⟨HX4.out.on (Below.refl _ _).drew, HH4.out.box.keep (Keep.of [] (Below.refl _ _).drew) (by simp), HT4.out.on (Below.refl _ _).drew⟩) (fun hHeld => ?_)
          refine RegD.wpAnyD_take 0 (oi := ?oi0x21) (v := .pointer (some ⟨gh, 0, none⟩)) ?hi0x21 ?hB0x21 ?hQ0x21 ?hy0x21 hHeld ?rest0x21
          case hi0x21 => rfl
          case hB0x21 => kernel_rfl
          case hQ0x21 => exact fun _ _ _ h => h
          case hy0x21 => exact .inl ⟨by rfl, fun W hW => by
            go_simp⟩
          simp only [Act.put, List.setIfInBounds_toArray, List.set_cons_zero, List.set_cons_succ]
          refine RegD.wpAnyD_take 1 (oi := ?oi1x22) (v := .pointer (some ⟨gh, 0, none⟩)) ?hi1x22 ?hB1x22 ?hQ1x22 ?hy1x22 hHeld ?rest1x22
          case hi1x22 => rfl
          case hB1x22 => kernel_rfl
          case hQ1x22 => exact fun _ _ _ h => h
          case hy1x22 => exact .inl ⟨by rfl, fun W hW => by
            go_simp⟩
          simp only [Act.put, List.setIfInBounds_toArray, List.set_cons_zero, List.set_cons_succ]
          refine RegD.wpAnyD_take 2 (oi := ?oi2x23) (v := .pointer (some ⟨gh, 0, none⟩)) ?hi2x23 ?hB2x23 ?hQ2x23 ?hy2x23 hHeld ?rest2x23
          case hi2x23 => rfl
          case hB2x23 => kernel_rfl
          case hQ2x23 => exact fun _ _ _ h => h
          case hy2x23 => exact .inl ⟨by rfl, fun W hW => by
            go_simp⟩
          simp only [Act.put, List.setIfInBounds_toArray, List.set_cons_zero, List.set_cons_succ]
          refine RegD.wpAnyD_take 3 (oi := ?oi3x24) (v := .pointer (some ⟨gv, 0, none⟩)) ?hi3x24 ?hB3x24 ?hQ3x24 ?hy3x24 hHeld ?rest3x24
          case hi3x24 => rfl
          case hB3x24 => kernel_rfl
          case hQ3x24 => exact fun _ _ _ h => h
          case hy3x24 => exact .inl ⟨by rfl, fun W hW => by
            have a0 := hW.2.1.c0
            go_simp⟩
          simp only [Act.put, List.setIfInBounds_toArray, List.set_cons_zero, List.set_cons_succ]
          refine RegD.wpAnyD_take 4 (oi := ?oi4x25) (v := .pointer (some ⟨gx, 2, none⟩)) ?hi4x25 ?hB4x25 ?hQ4x25 ?hy4x25 hHeld ?rest4x25
          case hi4x25 => rfl
          case hB4x25 => kernel_rfl
          case hQ4x25 => exact fun _ _ _ h => h
          case hy4x25 => exact .inl ⟨by rfl, fun W hW => by
            go_simp⟩
          simp only [Act.put, List.setIfInBounds_toArray, List.set_cons_zero, List.set_cons_succ]
          refine RegD.wpAnyD_take 5 (oi := ?oi5x26) (v := .int .i64 m) ?hi5x26 ?hB5x26 ?hQ5x26 ?hy5x26 hHeld ?rest5x26
          case hi5x26 => rfl
          case hB5x26 => kernel_rfl
          case hQ5x26 => exact fun _ _ _ h => h
          case hy5x26 => exact .inl ⟨by rfl, fun W hW => by
            have a0 := hW.1.c2
            go_simp⟩
          simp only [Act.put, List.setIfInBounds_toArray, List.set_cons_zero, List.set_cons_succ]
          refine RegD.wpAnyD_one 6 (o := ?o6x27) ?ho6x27 ?hr6x27 ?h6x27
          case ho6x27 => rfl
          case hr6x27 => kernel_rfl
          intro K hK
          go_simp
          go_at_call 92
          refine (scopeOf_is m _).mono ?_
          rintro e6 w6 ⟨⟨sx, rfl, hsx⟩, hb6⟩
          obtain ⟨l, lm, hol⟩ := Sc.out_ex sx.data.toList
          have HH6 : Hid (Held w0 n c N gh gv gs gd b1 b2 b3 r p v (.slice bt toks.length ct) toks S F G w6) := (HH4.out.on (Below.refl _ _).drew).on hb6
          have HOL : Hid _ := hol
          have HSX : Hid (sx.size ≤ 20) := hsx
          go_wp2_with fail
          refine hK.out _ _ (⟨hHeld.1.on hb6, hHeld.2.1.keep (Keep.of [] hb6) (by simp), hHeld.2.2.on hb6⟩) ?_
          clear hK hHeld
          intro hHeld
          clear K
          clear hb6 hol hsx
          refine RegD.wpAnyD_one 7 (o := ?o7x29) ?ho7x29 ?hr7x29 ?h7x29
          case ho7x29 => rfl
          case hr7x29 => kernel_rfl
          intro K hK
          go_simp
          go_at_call 27
          refine (grant_is N w6 gv gs gd r p v sApp sAnn sx l lm HH6.out.sv (by decide) (by decide) (by have := HSX.out; omega) HOL.out (by have := HN.out; omega)).mono ?_
          rintro e7 w7 ⟨rfl, v7, hto⟩
          have hnn : (nameB sApp.data.toList && nameB sAnn.data.toList) = true := by decide
          rw [hnn] at hto ⊢
          have HSZ : Hid ((grantM (txtB r) p true sApp sAnn ⟨(joined l).toArray⟩ lm).2.1.size ≤ 5000) := grantM_size HH6.out.sv.sp.ok.good (by decide) (by decide) (fun h => lst_jn HOL.out h) true
          have HE7 : Hid (Evo p.st (grantM (txtB r) p true sApp sAnn ⟨(joined l).toArray⟩ lm).1.st) := evo_grant HH6.out.sv.sp.ok.good _ _ _ _ _
          have HH7 : Hid _ := HH6.out.call hto HE7.out
          have HK7 : Hid (Keep [gd, gs] w6 w7) := hto.keep
          clear hto hnn
          generalize grantM (txtB r) p true sApp sAnn ⟨(joined l).toArray⟩ lm = Q at *
          obtain ⟨q7, x7, n7⟩ := Q
          go_wp2_with fail
          refine hK.out _ _ (⟨hHeld.1.keep HK7.out (by have := HGG.out; simp; omega), hHeld.2.1.keep HK7.out (by have := HGG.out; simp; omega), hHeld.2.2.keep HK7.out (by have := HGG.out; simp; omega)⟩) ?_
          clear hK hHeld
          intro hHeld
          clear K
          have HX7 : Hid _ := hHeld.1
          have HT7 : Hid _ := hHeld.2.2
          refine RegD.wpAnyD_take 8 (oi := ?oi8x31) (v := .tuple #[.string x7, errQ n7]) ?hi8x31 ?hB8x31 ?hQ8x31 ?hy8x31 hHeld ?rest8x31
          case hi8x31 => rfl
          case hB8x31 => kernel_rfl
          case hQ8x31 => exact fun _ _ _ h => h
          case hy8x31 => exact .inl ⟨by rfl, fun W hW => by
            go_simp⟩
          simp only [Act.put, List.setIfInBounds_toArray, List.set_cons_zero, List.set_cons_succ]
          refine RegD.wpAnyD_take 9 (oi := ?oi9x32) (v := .string x7) ?hi9x32 ?hB9x32 ?hQ9x32 ?hy9x32 hHeld ?rest9x32
          case hi9x32 => rfl
          case hB9x32 => kernel_rfl
          case hQ9x32 => exact fun _ _ _ h => h
          case hy9x32 => exact .inl ⟨by rfl, fun W hW => by
            go_simp⟩
          simp only [Act.put, List.setIfInBounds_toArray, List.set_cons_zero, List.set_cons_succ]
          refine RegD.wpAnyD_take 10 (oi := ?oi10x33) (v := errQ n7) ?hi10x33 ?hB10x33 ?hQ10x33 ?hy10x33 hHeld ?rest10x33
          case hi10x33 => rfl
          case hB10x33 => kernel_rfl
          case hQ10x33 => exact fun _ _ _ h => h
          case hy10x33 => exact .inl ⟨by rfl, fun W hW => by
            go_simp⟩
          simp only [Act.put, List.setIfInBounds_toArray, List.set_cons_zero, List.set_cons_succ]
          refine RegD.wpAnyD_take 11 (oi := ?oi11x34) (v := .string x7) ?hi11x34 ?hB11x34 ?hQ11x34 ?hy11x34 hHeld ?rest11x34
          case hi11x34 => rfl
          case hB11x34 => kernel_rfl
          case hQ11x34 => exact fun _ _ _ h => h
          case hy11x34 => exact .inl ⟨by rfl, fun W hW => by
            go_simp⟩
          simp only [Act.put, List.setIfInBounds_toArray, List.set_cons_zero, List.set_cons_succ]
          clear hHeld
          refine RegD.wpAnyD_late 12 (o := ?o12x35) ?ho12x35 ?hr12x35 ?hd12x35 ?h12x35
          case ho12x35 => rfl
          case hr12x35 => kernel_rfl
          case hd12x35 => kernel_rfl
          intro K hK
          go_simp
          refine hK.out _ _ ?_
          clear hK K
          refine RegD.wpAnyD_done (by kernel_rfl) ?_ _
          go_wp2_with fail
          go_meet
          case rel => exact ⟨x7, n7, q7, v7, S, G, tf, rfl, rfl, HSZ, HH7.out.mono (by omega) (Nat.le_refl _) (Nat.le_refl _), HE7, HX7, ⟨HT7.out.c1, HTF.out, HT7.out.lt⟩, fun h => absurd h (by omega)⟩
        · obtain ⟨HRB⟩ : Nonempty (Hid True) := ⟨trivial⟩
          go_upto_region 12 with fail
          refine RegD.wp_region_D (fun W => XB W gx 1 ti m ∧ HAt W gh gv (.slice bt toks.length ct) b1 b2 b3 ∧ TB W gt ⟨tk, tf, tg, te⟩) 17 (by kernel_rfl) (⟨HX4.out.on (Below.refl _ _).drew, HH4.out.box.keep (Keep.of [] (Below.refl _ _).drew) (by simp), HT4.out.on (Below.refl _ _).drew⟩) (fun hHeld => ?_)
          refine RegD.wpAnyD_take 0 (oi := ?oi0x39) (v := .pointer (some ⟨gh, 0, none⟩)) ?hi0x39 ?hB0x39 ?hQ0x39 ?hy0x39 hHeld ?rest0x39
          case hi0x39 => rfl
          case hB0x39 => kernel_rfl
          case hQ0x39 => exact fun _ _ _ h => h
          case hy0x39 => exact .inl ⟨by rfl, fun W hW => by
            go_simp⟩
          simp only [Act.put, List.setIfInBounds_toArray, List.set_cons_zero, List.set_cons_succ]
          refine RegD.wpAnyD_take 1 (oi := ?oi1x40) (v := .pointer (some ⟨gh, 0, none⟩)) ?hi1x40 ?hB1x40 ?hQ1x40 ?hy1x40 hHeld ?rest1x40
          case hi1x40 => rfl
          case hB1x40 => kernel_rfl
          case hQ1x40 => exact fun _ _ _ h => h
          case hy1x40 => exact .inl ⟨by rfl, fun W hW => by
            go_simp⟩
          simp only [Act.put, List.setIfInBounds_toArray, List.set_cons_zero, List.set_cons_succ]
          refine RegD.wpAnyD_take 2 (oi := ?oi2x41) (v := .pointer (some ⟨gh, 0, none⟩)) ?hi2x41 ?hB2x41 ?hQ2x41 ?hy2x41 hHeld ?rest2x41
          case hi2x41 => rfl
          case hB2x41 => kernel_rfl
          case hQ2x41 => exact fun _ _ _ h => h
          case hy2x41 => exact .inl ⟨by rfl, fun W hW => by
            go_simp⟩
          simp only [Act.put, List.setIfInBounds_toArray, List.set_cons_zero, List.set_cons_succ]
          refine RegD.wpAnyD_take 3 (oi := ?oi3x42) (v := .pointer (some ⟨gv, 0, none⟩)) ?hi3x42 ?hB3x42 ?hQ3x42 ?hy3x42 hHeld ?rest3x42
          case hi3x42 => rfl
          case hB3x42 => kernel_rfl
          case hQ3x42 => exact fun _ _ _ h => h
          case hy3x42 => exact .inl ⟨by rfl, fun W hW => by
            have a0 := hW.2.1.c0
            go_simp⟩
          simp only [Act.put, List.setIfInBounds_toArray, List.set_cons_zero, List.set_cons_succ]
          refine RegD.wpAnyD_take 4 (oi := ?oi4x43) (v := .string t) ?hi4x43 ?hB4x43 ?hQ4x43 ?hy4x43 hHeld ?rest4x43
          case hi4x43 => rfl
          case hB4x43 => kernel_rfl
          case hQ4x43 => exact fun _ _ _ h => h
          case hy4x43 => exact .inl ⟨by rfl, fun W hW => by
            go_simp⟩
          simp only [Act.put, List.setIfInBounds_toArray, List.set_cons_zero, List.set_cons_succ]
          refine RegD.wpAnyD_take 5 (oi := ?oi5x44) (v := .pointer (some ⟨gx, 2, none⟩)) ?hi5x44 ?hB5x44 ?hQ5x44 ?hy5x44 hHeld ?rest5x44
          case hi5x44 => rfl
          case hB5x44 => kernel_rfl
          case hQ5x44 => exact fun _ _ _ h => h
          case hy5x44 => exact .inl ⟨by rfl, fun W hW => by
            go_simp⟩
          simp only [Act.put, List.setIfInBounds_toArray, List.set_cons_zero, List.set_cons_succ]
          refine RegD.wpAnyD_take 6 (oi := ?oi6x45) (v := .int .i64 m) ?hi6x45 ?hB6x45 ?hQ6x45 ?hy6x45 hHeld ?rest6x45
          case hi6x45 => rfl
          case hB6x45 => kernel_rfl
          case hQ6x45 => exact fun _ _ _ h => h
          case hy6x45 => exact .inl ⟨by rfl, fun W hW => by
            have a0 := hW.1.c2
            go_simp⟩
          simp only [Act.put, List.setIfInBounds_toArray, List.set_cons_zero, List.set_cons_succ]
          refine RegD.wpAnyD_take 8 (oi := ?oi8x46) (v := .pointer (some ⟨gx, 2, none⟩)) ?hi8x46 ?hB8x46 ?hQ8x46 ?hy8x46 hHeld ?rest8x46
          case hi8x46 => rfl
          case hB8x46 => kernel_rfl
          case hQ8x46 => exact fun _ _ _ h => h
          case hy8x46 => exact .inl ⟨by rfl, fun W hW => by
            go_simp⟩
          simp only [Act.put, List.setIfInBounds_toArray, List.set_cons_zero, List.set_cons_succ]
          refine RegD.wpAnyD_take 9 (oi := ?oi9x47) (v := .int .i64 m) ?hi9x47 ?hB9x47 ?hQ9x47 ?hy9x47 hHeld ?rest9x47
          case hi9x47 => rfl
          case hB9x47 => kernel_rfl
          case hQ9x47 => exact fun _ _ _ h => h
          case hy9x47 => exact .inl ⟨by rfl, fun W hW => by
            have a0 := hW.1.c2
            go_simp⟩
          simp only [Act.put, List.setIfInBounds_toArray, List.set_cons_zero, List.set_cons_succ]
          refine RegD.wpAnyD_take 10 (oi := ?oi10x48) (v := .int .i64 (IntKind.i64.wrap (m.tdiv 3))) ?hi10x48 ?hB10x48 ?hQ10x48 ?hy10x48 hHeld ?rest10x48
          case hi10x48 => rfl
          case hB10x48 => kernel_rfl
          case hQ10x48 => exact fun _ _ _ h => h
          case hy10x48 => exact .inl ⟨by rfl, fun W hW => by
            go_simp⟩
          simp only [Act.put, List.setIfInBounds_toArray, List.set_cons_zero, List.set_cons_succ]
          refine RegD.wpAnyD_one 7 (o := ?o7x49) ?ho7x49 ?hr7x49 ?h7x49
          case ho7x49 => rfl
          case hr7x49 => kernel_rfl
          intro K hK
          go_simp
          go_at_call 93
          refine (requestOf_is m _).mono ?_
          rintro e6 w5 ⟨rfl, hb6⟩
          have HH5 : Hid (Held w0 n c N gh gv gs gd b1 b2 b3 r p v (.slice bt toks.length ct) toks S F G w5) := (HH4.out.on (Below.refl _ _).drew).on hb6
          go_wp2_with fail
          refine hK.out _ _ (⟨hHeld.1.on hb6, hHeld.2.1.keep (Keep.of [] hb6) (by simp), hHeld.2.2.on hb6⟩) ?_
          clear hK hHeld
          intro hHeld
          clear K
          clear hb6
          refine RegD.wpAnyD_one 11 (o := ?o11x51) ?ho11x51 ?hr11x51 ?h11x51
          case ho11x51 => rfl
          case hr11x51 => kernel_rfl
          intro K hK
          go_simp
          go_at_call 92
          refine (scopeOf_is _ _).mono ?_
          rintro e6 w6 ⟨⟨sx, rfl, hsx⟩, hb6⟩
          obtain ⟨l, lm, hol⟩ := Sc.out_ex sx.data.toList
          have HH6 : Hid (Held w0 n c N gh gv gs gd b1 b2 b3 r p v (.slice bt toks.length ct) toks S F G w6) := HH5.out.on hb6
          have HOL : Hid _ := hol
          have HSX : Hid (sx.size ≤ 20) := hsx
          go_wp2_with fail
          refine hK.out _ _ (⟨hHeld.1.on hb6, hHeld.2.1.keep (Keep.of [] hb6) (by simp), hHeld.2.2.on hb6⟩) ?_
          clear hK hHeld
          intro hHeld
          clear K
          clear hb6 hol hsx HH5
          obtain ⟨b, hb⟩ := rot_b HH6.out.sv.sp.ok.good ⟨tk, tf, tg, te⟩ nt HOL.out (r := r)
          have HRW : Hid (RotW r p.st ⟨tk, tf, tg, te⟩ nt ⟨(joined l).toArray⟩ lm b) := hb
          clear hb
          refine RegD.wpAnyD_one 12 (o := ?o12x53) ?ho12x53 ?hr12x53 ?h12x53
          case ho12x53 => rfl
          case hr12x53 => kernel_rfl
          intro K hK
          go_simp
          go_at_call 29
          refine (rotate_is N w6 gv gs gd r p v t (reqQ m) sx ⟨tk, tf, tg, te⟩ nt l lm b HH6.out.sv HTS.out (by have := (reqQ_name m).2; omega) (by have := HSX.out; omega) HOT.out HOL.out HRW.out (by have := HN.out; omega)).mono ?_
          rintro e7 w7 ⟨rfl, v7, hto⟩
          rw [(reqQ_name m).1] at hto ⊢
          have HSZ : Hid ((rotateM (txtB r) r p true (reqQ m) ⟨tk, tf, tg, te⟩ nt ⟨(joined l).toArray⟩ lm b).2.1.size ≤ 5000) := rotateM_size HH6.out.sv.sp.ok.good (reqQ_name m).1 (fun h => lst_jn HOL.out h)
          have HE7 : Hid (Evo p.st (rotateM (txtB r) r p true (reqQ m) ⟨tk, tf, tg, te⟩ nt ⟨(joined l).toArray⟩ lm b).1.st) := evo_rotate HH6.out.sv.sp.ok.good _ _ _ _ _ _ _ HRW.out
          have HLO : Hid ((rotateM (txtB r) r p true (reqQ m) ⟨tk, tf, tg, te⟩ nt ⟨(joined l).toArray⟩ lm b).2.2 = 15 → Lost (rotateM (txtB r) r p true (reqQ m) ⟨tk, tf, tg, te⟩ nt ⟨(joined l).toArray⟩ lm b).1.st tf) := fun h => rotate_lost HH6.out.sv.sp.ok.good (out_15 HOL.out) h
          have HTO : Hid ((rotateM (txtB r) r p true (reqQ m) ⟨tk, tf, tg, te⟩ nt ⟨(joined l).toArray⟩ lm b).2.2 = 0 → (nt = 0 ∧ Took (rotateM (txtB r) r p true (reqQ m) ⟨tk, tf, tg, te⟩ nt ⟨(joined l).toArray⟩ lm b).1.st tf tg (reqQ m) ∧ ∀ q, Took p.st tf tg q → reqQ m = q) ∧ ¬ Lost p.st tf) := fun h => ⟨rotate_took HH6.out.sv.sp.ok.good h, lost_no (rotate_look h)⟩
          have HH7 : Hid _ := HH6.out.call hto HE7.out
          have HK7 : Hid (Keep [gd, gs] w6 w7) := hto.keep
          clear hto HRW
          generalize rotateM (txtB r) r p true (reqQ m) ⟨tk, tf, tg, te⟩ nt ⟨(joined l).toArray⟩ lm b = Q at *
          obtain ⟨q7, x7, n7⟩ := Q
          go_wp2_with fail
          refine hK.out _ _ (⟨hHeld.1.keep HK7.out (by have := HGG.out; simp; omega), hHeld.2.1.keep HK7.out (by have := HGG.out; simp; omega), hHeld.2.2.keep HK7.out (by have := HGG.out; simp; omega)⟩) ?_
          clear hK hHeld
          intro hHeld
          clear K
          have HX7 : Hid _ := hHeld.1
          have HT7 : Hid _ := hHeld.2.2
          refine RegD.wpAnyD_take 13 (oi := ?oi13x55) (v := .tuple #[.string x7, errQ n7]) ?hi13x55 ?hB13x55 ?hQ13x55 ?hy13x55 hHeld ?rest13x55
          case hi13x55 => rfl
          case hB13x55 => kernel_rfl
          case hQ13x55 => exact fun _ _ _ h => h
          case hy13x55 => exact .inl ⟨by rfl, fun W hW => by
            go_simp⟩
          simp only [Act.put, List.setIfInBounds_toArray, List.set_cons_zero, List.set_cons_succ]
          refine RegD.wpAnyD_take 14 (oi := ?oi14x56) (v := .string x7) ?hi14x56 ?hB14x56 ?hQ14x56 ?hy14x56 hHeld ?rest14x56
          case hi14x56 => rfl
          case hB14x56 => kernel_rfl
          case hQ14x56 => exact fun _ _ _ h => h
          case hy14x56 => exact .inl ⟨by rfl, fun W hW => by
            go_simp⟩
          simp only [Act.put, List.setIfInBounds_toArray, List.set_cons_zero, List.set_cons_succ]
          refine RegD.wpAnyD_take 15 (oi := ?oi15x57) (v := errQ n7) ?hi15x57 ?hB15x57 ?hQ15x57 ?hy15x57 hHeld ?rest15x57
          case hi15x57 => rfl
          case hB15x57 => kernel_rfl
          case hQ15x57 => exact fun _ _ _ h => h
          case hy15x57 => exact .inl ⟨by rfl, fun W hW => by
            go_simp⟩
          simp only [Act.put, List.setIfInBounds_toArray, List.set_cons_zero, List.set_cons_succ]
          refine RegD.wpAnyD_take 16 (oi := ?oi16x58) (v := .string x7) ?hi16x58 ?hB16x58 ?hQ16x58 ?hy16x58 hHeld ?rest16x58
          case hi16x58 => rfl
          case hB16x58 => kernel_rfl
          case hQ16x58 => exact fun _ _ _ h => h
          case hy16x58 => exact .inl ⟨by rfl, fun W hW => by
            go_simp⟩
          simp only [Act.put, List.setIfInBounds_toArray, List.set_cons_zero, List.set_cons_succ]
          clear hHeld
          refine RegD.wpAnyD_late 17 (o := ?o17x59) ?ho17x59 ?hr17x59 ?hd17x59 ?h17x59
          case ho17x59 => rfl
          case hr17x59 => kernel_rfl
          case hd17x59 => kernel_rfl
          intro K hK
          go_simp
          refine hK.out _ _ ?_
          clear hK K
          refine RegD.wpAnyD_done (by kernel_rfl) ?_ _
          go_wp2_with fail
          refine (tellQ n7 _ HH7.out.sv.sp.err).mono ?_
          rintro e8 w8 ⟨rfl, hb8⟩
          have HH8 : Hid _ := HH7.out.on hb8
          have HX8 : Hid _ := HX7.out.on hb8
          have HT8 : Hid _ := HT7.out.on hb8
          have HS3 : Hid (∀ i y, S i = some y → Lost p.st i) := fun i y h => (HH6.out.s1 i y h).2
          have HS4 : Hid (∀ x y, G x = some y → ∃ t q, y = .string q ∧ Tok.Out (tag r.key) x t 0 ∧ Took p.st t.f t.g q) := HH6.out.s3
          clear hb8 HH7 HX7 HT7 HX4 HH4 HT4 HH6
          by_cases h15 : n7 = 15
          · subst h15
            have HL8 : Hid _ := HLO.out rfl
            go_upto_region 14 with fail
            refine RegD.wp_region_D (fun W => HAt W gh gv (.slice bt toks.length ct) b1 b2 b3 ∧ TB W gt ⟨tk, tf, tg, te⟩) 6 (by kernel_rfl) (⟨HH8.out.box.keep (Keep.of [] (Below.refl _ _).drew) (by simp), HT8.out.on (Below.refl _ _).drew⟩) (fun hHeld => ?_)
            refine RegD.wpAnyD_take 0 (oi := ?oi0x63) (v := .pointer (some ⟨gh, 0, none⟩)) ?hi0x63 ?hB0x63 ?hQ0x63 ?hy0x63 hHeld ?rest0x63
            case hi0x63 => rfl
            case hB0x63 => kernel_rfl
            case hQ0x63 => exact fun _ _ _ h => h
            case hy0x63 => exact .inl ⟨by rfl, fun W hW => by
              go_simp⟩
            simp only [Act.put, List.setIfInBounds_toArray, List.set_cons_zero, List.set_cons_succ]
            refine RegD.wpAnyD_take 1 (oi := ?oi1x64) (v := .pointer (some ⟨gh, 0, none⟩)) ?hi1x64 ?hB1x64 ?hQ1x64 ?hy1x64 hHeld ?rest1x64
            case hi1x64 => rfl
            case hB1x64 => kernel_rfl
            case hQ1x64 => exact fun _ _ _ h => h
            case hy1x64 => exact .inl ⟨by rfl, fun W hW => by
              go_simp⟩
            simp only [Act.put, List.setIfInBounds_toArray, List.set_cons_zero, List.set_cons_succ]
            refine RegD.wpAnyD_take 2 (oi := ?oi2x65) (v := .pointer (some ⟨gh, 2, none⟩)) ?hi2x65 ?hB2x65 ?hQ2x65 ?hy2x65 hHeld ?rest2x65
            case hi2x65 => rfl
            case hB2x65 => kernel_rfl
            case hQ2x65 => exact fun _ _ _ h => h
            case hy2x65 => exact .inl ⟨by rfl, fun W hW => by
              go_simp⟩
            simp only [Act.put, List.setIfInBounds_toArray, List.set_cons_zero, List.set_cons_succ]
            refine RegD.wpAnyD_take 3 (oi := ?oi3x66) (v := .map (some b1)) ?hi3x66 ?hB3x66 ?hQ3x66 ?hy3x66 hHeld ?rest3x66
            case hi3x66 => rfl
            case hB3x66 => kernel_rfl
            case hQ3x66 => exact fun _ _ _ h => h
            case hy3x66 => exact .inl ⟨by rfl, fun W hW => by
              have a0 := hW.1.c2
              go_simp⟩
            simp only [Act.put, List.setIfInBounds_toArray, List.set_cons_zero, List.set_cons_succ]
            refine RegD.wpAnyD_take 4 (oi := ?oi4x67) (v := .pointer (some ⟨gt, 1, none⟩)) ?hi4x67 ?hB4x67 ?hQ4x67 ?hy4x67 hHeld ?rest4x67
            case hi4x67 => rfl
            case hB4x67 => kernel_rfl
            case hQ4x67 => exact fun _ _ _ h => h
            case hy4x67 => exact .inl ⟨by rfl, fun W hW => by
              go_simp⟩
            simp only [Act.put, List.setIfInBounds_toArray, List.set_cons_zero, List.set_cons_succ]
            refine RegD.wpAnyD_take 5 (oi := ?oi5x68) (v := .int .i64 tf) ?hi5x68 ?hB5x68 ?hQ5x68 ?hy5x68 hHeld ?rest5x68
            case hi5x68 => rfl
            case hB5x68 => kernel_rfl
            case hQ5x68 => exact fun _ _ _ h => h
            case hy5x68 => exact .inl ⟨by rfl, fun W hW => by
              have a0 := hW.2.c1
              go_simp⟩
            simp only [Act.put, List.setIfInBounds_toArray, List.set_cons_zero, List.set_cons_succ]
            obtain ⟨w9, hrun, hm9, hg9⟩ := (HH8.out.on (Below.refl _ _).drew).m1.store intLaw litI_inj Tryz.underlying92 (by have h1 := HN.out; unfold maxLen; omega) (key := .int .i64 tf) (val := .bool true) (Go.Maps.keyOf_int_mk Tryz.underlying3 (wf_ok HTF.out)) (by exact trivial) (plainElem_bool Tryz.underlying4 true)
            have HH9 : Hid _ := (HH8.out.on (Below.refl _ _).drew).stole tf HL8.out hm9 hg9
            have HK9 : Hid (Keep [b1] w8.drew w9) := Keep.grown hg9
            clear hm9 hg9 hHeld
            refine RegD.wpAnyD_late 6 (o := ?o6x69) ?ho6x69 ?hr6x69 ?hd6x69 ?h6x69
            case ho6x69 => rfl
            case hr6x69 => kernel_rfl
            case hd6x69 => kernel_rfl
            intro K hK
            go_simp
            refine hK.out _ _ ?_
            clear hK K
            refine RegD.wpAnyD_done (by kernel_rfl) ?_ _
            have HX9 : Hid _ := (HX8.out.on (Below.refl _ _).drew).keep HK9.out (by have := HGG.out; simp; omega)
            have HT9 : Hid _ := (HT8.out.on (Below.refl _ _).drew).keep HK9.out (by have := HGG.out; simp; omega)
            clear hrun
            rw [errQ_succ]
            go_wp2_with fail
            go_meet
            case rel => exact ⟨x7, 15, q7, v7, _, G, tf, rfl, rfl, HSZ, HH9, HE7, HX9, ⟨HT9.out.c1, HTF.out, HT9.out.lt⟩, fun _ _ h => by cases h⟩
          · have h15I : ¬ (n7 : Int) = 15 := by omega
            by_cases h00 : n7 = 0
            · subst h00
              obtain ⟨⟨hnt, htk, huq⟩, hnl⟩ := HTO.out rfl
              subst hnt
              have HTK : Hid _ := htk
              have HUQ : Hid _ := huq
              have HNL : Hid _ := hnl
              clear htk huq hnl HTO HLO
              rw [show errQ 0 = .nilIface from rfl]
              have HLG : Hid (∀ W, HasMap litS Tryz.prog 9 9 W b3 n G → (Instr.lookup 94 (.map (some b3)) (.string t) true).run Tryz.prog W = .ok (.tuple #[(G t.data.toList).getD (.string ⟨#[]⟩), .bool (G t.data.toList).isSome]) W) := fun W hW => hW.look_ok strLaw Tryz.underlying94 (zeroS W) (plainElem_string Tryz.underlying9 (by decide)) (Go.WideMaps.keyOf_string_mk Tryz.underlying9 (by have := HTS.out; unfold maxLen; omega))
              have h4 := HH8.out.box.c4
              have hlk := HLG.out _ HH8.out.m3
              have HSN : Hid (S tf = none) := by
                show S tf = none
                cases hs : S tf with
                | none => rfl
                | some y => exact absurd (HS3.out tf y hs) HNL.out
              cases hG : G t.data.toList with
              | none =>
                rw [hG] at hlk
                simp only [Option.getD_none, Option.isSome_none] at hlk
                have HHA : Hid _ := HH8.out
                have HXA : Hid _ := HX8.out
                have HTA : Hid _ := HT8.out
                clear hG
                go_upto_region 19 with fail
                refine RegD.wp_region_D (fun W => HAt W gh gv (.slice bt toks.length ct) b1 b2 b3 ∧ XB W gx 1 ti m) 8 (by kernel_rfl) (⟨HHA.out.box.keep (Keep.of [] (Below.refl _ _).drew) (by simp), HXA.out.on (Below.refl _ _).drew⟩) (fun hHeld => ?_)
                refine RegD.wpAnyD_take 0 (oi := ?oi0x73) (v := .pointer (some ⟨gh, 0, none⟩)) ?hi0x73 ?hB0x73 ?hQ0x73 ?hy0x73 hHeld ?rest0x73
                case hi0x73 => rfl
                case hB0x73 => kernel_rfl
                case hQ0x73 => exact fun _ _ _ h => h
                case hy0x73 => exact .inl ⟨by rfl, fun W hW => by
                  go_simp⟩
                simp only [Act.put, List.setIfInBounds_toArray, List.set_cons_zero, List.set_cons_succ]
                refine RegD.wpAnyD_take 1 (oi := ?oi1x74) (v := .pointer (some ⟨gh, 0, none⟩)) ?hi1x74 ?hB1x74 ?hQ1x74 ?hy1x74 hHeld ?rest1x74
                case hi1x74 => rfl
                case hB1x74 => kernel_rfl
                case hQ1x74 => exact fun _ _ _ h => h
                case hy1x74 => exact .inl ⟨by rfl, fun W hW => by
                  go_simp⟩
                simp only [Act.put, List.setIfInBounds_toArray, List.set_cons_zero, List.set_cons_succ]
                refine RegD.wpAnyD_take 2 (oi := ?oi2x75) (v := .pointer (some ⟨gh, 4, none⟩)) ?hi2x75 ?hB2x75 ?hQ2x75 ?hy2x75 hHeld ?rest2x75
                case hi2x75 => rfl
                case hB2x75 => kernel_rfl
                case hQ2x75 => exact fun _ _ _ h => h
                case hy2x75 => exact .inl ⟨by rfl, fun W hW => by
                  go_simp⟩
                simp only [Act.put, List.setIfInBounds_toArray, List.set_cons_zero, List.set_cons_succ]
                refine RegD.wpAnyD_take 3 (oi := ?oi3x76) (v := .map (some b3)) ?hi3x76 ?hB3x76 ?hQ3x76 ?hy3x76 hHeld ?rest3x76
                case hi3x76 => rfl
                case hB3x76 => kernel_rfl
                case hQ3x76 => exact fun _ _ _ h => h
                case hy3x76 => exact .inl ⟨by rfl, fun W hW => by
                  have a0 := hW.1.c4
                  go_simp⟩
                simp only [Act.put, List.setIfInBounds_toArray, List.set_cons_zero, List.set_cons_succ]
                refine RegD.wpAnyD_take 4 (oi := ?oi4x77) (v := .string t) ?hi4x77 ?hB4x77 ?hQ4x77 ?hy4x77 hHeld ?rest4x77
                case hi4x77 => rfl
                case hB4x77 => kernel_rfl
                case hQ4x77 => exact fun _ _ _ h => h
                case hy4x77 => exact .inl ⟨by rfl, fun W hW => by
                  go_simp⟩
                simp only [Act.put, List.setIfInBounds_toArray, List.set_cons_zero, List.set_cons_succ]
                refine RegD.wpAnyD_take 5 (oi := ?oi5x78) (v := .pointer (some ⟨gx, 2, none⟩)) ?hi5x78 ?hB5x78 ?hQ5x78 ?hy5x78 hHeld ?rest5x78
                case hi5x78 => rfl
                case hB5x78 => kernel_rfl
                case hQ5x78 => exact fun _ _ _ h => h
                case hy5x78 => exact .inl ⟨by rfl, fun W hW => by
                  go_simp⟩
                simp only [Act.put, List.setIfInBounds_toArray, List.set_cons_zero, List.set_cons_succ]
                refine RegD.wpAnyD_take 6 (oi := ?oi6x79) (v := .int .i64 m) ?hi6x79 ?hB6x79 ?hQ6x79 ?hy6x79 hHeld ?rest6x79
                case hi6x79 => rfl
                case hB6x79 => kernel_rfl
                case hQ6x79 => exact fun _ _ _ h => h
                case hy6x79 => exact .inl ⟨by rfl, fun W hW => by
                  have a0 := hW.2.c2
                  go_simp⟩
                simp only [Act.put, List.setIfInBounds_toArray, List.set_cons_zero, List.set_cons_succ]
                refine RegD.wpAnyD_one 7 (o := ?o7x80) ?ho7x80 ?hr7x80 ?h7x80
                case ho7x80 => rfl
                case hr7x80 => kernel_rfl
                intro K hK
                go_simp
                go_at_call 93
                refine (requestOf_is m _).mono ?_
                rintro e9 wb ⟨rfl, hb9⟩
                have HHB : Hid _ := (HHA.out.on (Below.refl _ _).drew).on hb9
                have HXB : Hid _ := (HXA.out.on (Below.refl _ _).drew).on hb9
                have HTB : Hid _ := (HTA.out.on (Below.refl _ _).drew).on hb9
                go_wp2_with fail
                refine hK.out _ _ (⟨hHeld.1.keep (Keep.of [] hb9) (by simp), hHeld.2.on hb9⟩) ?_
                clear hK hHeld
                intro hHeld
                clear K
                clear hb9 hHeld
                obtain ⟨wd, hrun, hm9, hg9⟩ := HHB.out.m3.store strLaw litS_inj Tryz.underlying94 (by have h1 := HN.out; unfold maxLen; omega) (key := .string t) (val := .string (reqQ m)) (Go.WideMaps.keyOf_string_mk Tryz.underlying9 (by have := HTS.out; unfold maxLen; omega)) (by exact trivial) (plainElem_string Tryz.underlying9 (by have := (reqQ_name m).2; unfold maxLen; omega))
                have HHD : Hid _ := HHB.out.took t.data.toList ⟨tk, tf, tg, te⟩ (reqQ m) HOT.out HTK.out hm9 hg9
                have HKD : Hid (Keep [b3] wb wd) := Keep.grown hg9
                clear hm9 hg9
                refine RegD.wpAnyD_late 8 (o := ?o8x82) ?ho8x82 ?hr8x82 ?hd8x82 ?h8x82
                case ho8x82 => rfl
                case hr8x82 => kernel_rfl
                case hd8x82 => kernel_rfl
                intro K hK
                go_simp
                refine hK.out _ _ ?_
                clear hK K
                refine RegD.wpAnyD_done (by kernel_rfl) ?_ _
                have HXD : Hid _ := HXB.out.keep HKD.out (by have := HGG.out; simp; omega)
                have HTD : Hid _ := HTB.out.keep HKD.out (by have := HGG.out; simp; omega)
                clear hrun
                go_wp2_with fail
                go_meet
                case rel => exact ⟨x7, 0, q7, v7, S, _, tf, rfl, rfl, HSZ, HHD, HE7, HXD, ⟨HTD.out.c1, HTF.out, HTD.out.lt⟩, fun _ _ _ => HSN.out⟩
              | some y =>
                obtain ⟨t', q', rfl, ho', htk'⟩ := HS4.out t.data.toList y hG
                obtain ⟨rfl, -⟩ := Tok.out_inj ho' HOT.out
                obtain rfl := HUQ.out q' htk'
                rw [hG] at hlk
                simp only [Option.getD_some, Option.isSome_some] at hlk
                clear hG ho' htk'
                have x2 := HX8.out.c2
                go_wp2_with fail
                refine (requestOf_is m _).mono ?_
                rintro e9 w9 ⟨rfl, hb9⟩
                have HHA : Hid _ := HH8.out.on hb9
                have HXA : Hid _ := HX8.out.on hb9
                have HTA : Hid _ := HT8.out.on hb9
                clear hb9 hlk h4 x2
                go_upto_region 19 with fail
                refine RegD.wp_region_D (fun W => HAt W gh gv (.slice bt toks.length ct) b1 b2 b3 ∧ XB W gx 1 ti m) 8 (by kernel_rfl) (⟨HHA.out.box.keep (Keep.of [] (Below.refl _ _).drew) (by simp), HXA.out.on (Below.refl _ _).drew⟩) (fun hHeld => ?_)
                refine RegD.wpAnyD_take 0 (oi := ?oi0x86) (v := .pointer (some ⟨gh, 0, none⟩)) ?hi0x86 ?hB0x86 ?hQ0x86 ?hy0x86 hHeld ?rest0x86
                case hi0x86 => rfl
                case hB0x86 => kernel_rfl
                case hQ0x86 => exact fun _ _ _ h => h
                case hy0x86 => exact .inl ⟨by rfl, fun W hW => by
                  go_simp⟩
                simp only [Act.put, List.setIfInBounds_toArray, List.set_cons_zero, List.set_cons_succ]
                refine RegD.wpAnyD_take 1 (oi := ?oi1x87) (v := .pointer (some ⟨gh, 0, none⟩)) ?hi1x87 ?hB1x87 ?hQ1x87 ?hy1x87 hHeld ?rest1x87
                case hi1x87 => rfl
                case hB1x87 => kernel_rfl
                case hQ1x87 => exact fun _ _ _ h => h
                case hy1x87 => exact .inl ⟨by rfl, fun W hW => by
                  go_simp⟩
                simp only [Act.put, List.setIfInBounds_toArray, List.set_cons_zero, List.set_cons_succ]
                refine RegD.wpAnyD_take 2 (oi := ?oi2x88) (v := .pointer (some ⟨gh, 4, none⟩)) ?hi2x88 ?hB2x88 ?hQ2x88 ?hy2x88 hHeld ?rest2x88
                case hi2x88 => rfl
                case hB2x88 => kernel_rfl
                case hQ2x88 => exact fun _ _ _ h => h
                case hy2x88 => exact .inl ⟨by rfl, fun W hW => by
                  go_simp⟩
                simp only [Act.put, List.setIfInBounds_toArray, List.set_cons_zero, List.set_cons_succ]
                refine RegD.wpAnyD_take 3 (oi := ?oi3x89) (v := .map (some b3)) ?hi3x89 ?hB3x89 ?hQ3x89 ?hy3x89 hHeld ?rest3x89
                case hi3x89 => rfl
                case hB3x89 => kernel_rfl
                case hQ3x89 => exact fun _ _ _ h => h
                case hy3x89 => exact .inl ⟨by rfl, fun W hW => by
                  have a0 := hW.1.c4
                  go_simp⟩
                simp only [Act.put, List.setIfInBounds_toArray, List.set_cons_zero, List.set_cons_succ]
                refine RegD.wpAnyD_take 4 (oi := ?oi4x90) (v := .string t) ?hi4x90 ?hB4x90 ?hQ4x90 ?hy4x90 hHeld ?rest4x90
                case hi4x90 => rfl
                case hB4x90 => kernel_rfl
                case hQ4x90 => exact fun _ _ _ h => h
                case hy4x90 => exact .inl ⟨by rfl, fun W hW => by
                  go_simp⟩
                simp only [Act.put, List.setIfInBounds_toArray, List.set_cons_zero, List.set_cons_succ]
                refine RegD.wpAnyD_take 5 (oi := ?oi5x91) (v := .pointer (some ⟨gx, 2, none⟩)) ?hi5x91 ?hB5x91 ?hQ5x91 ?hy5x91 hHeld ?rest5x91
                case hi5x91 => rfl
                case hB5x91 => kernel_rfl
                case hQ5x91 => exact fun _ _ _ h => h
                case hy5x91 => exact .inl ⟨by rfl, fun W hW => by
                  go_simp⟩
                simp only [Act.put, List.setIfInBounds_toArray, List.set_cons_zero, List.set_cons_succ]
                refine RegD.wpAnyD_take 6 (oi := ?oi6x92) (v := .int .i64 m) ?hi6x92 ?hB6x92 ?hQ6x92 ?hy6x92 hHeld ?rest6x92
                case hi6x92 => rfl
                case hB6x92 => kernel_rfl
                case hQ6x92 => exact fun _ _ _ h => h
                case hy6x92 => exact .inl ⟨by rfl, fun W hW => by
                  have a0 := hW.2.c2
                  go_simp⟩
                simp only [Act.put, List.setIfInBounds_toArray, List.set_cons_zero, List.set_cons_succ]
                refine RegD.wpAnyD_one 7 (o := ?o7x93) ?ho7x93 ?hr7x93 ?h7x93
                case ho7x93 => rfl
                case hr7x93 => kernel_rfl
                intro K hK
                go_simp
                go_at_call 93
                refine (requestOf_is m _).mono ?_
                rintro e9 wb ⟨rfl, hb9⟩
                have HHB : Hid _ := (HHA.out.on (Below.refl _ _).drew).on hb9
                have HXB : Hid _ := (HXA.out.on (Below.refl _ _).drew).on hb9
                have HTB : Hid _ := (HTA.out.on (Below.refl _ _).drew).on hb9
                go_wp2_with fail
                refine hK.out _ _ (⟨hHeld.1.keep (Keep.of [] hb9) (by simp), hHeld.2.on hb9⟩) ?_
                clear hK hHeld
                intro hHeld
                clear K
                clear hb9 hHeld
                obtain ⟨wd, hrun, hm9, hg9⟩ := HHB.out.m3.store strLaw litS_inj Tryz.underlying94 (by have h1 := HN.out; unfold maxLen; omega) (key := .string t) (val := .string (reqQ m)) (Go.WideMaps.keyOf_string_mk Tryz.underlying9 (by have := HTS.out; unfold maxLen; omega)) (by exact trivial) (plainElem_string Tryz.underlying9 (by have := (reqQ_name m).2; unfold maxLen; omega))
                have HHD : Hid _ := HHB.out.took t.data.toList ⟨tk, tf, tg, te⟩ (reqQ m) HOT.out HTK.out hm9 hg9
                have HKD : Hid (Keep [b3] wb wd) := Keep.grown hg9
                clear hm9 hg9
                refine RegD.wpAnyD_late 8 (o := ?o8x95) ?ho8x95 ?hr8x95 ?hd8x95 ?h8x95
                case ho8x95 => rfl
                case hr8x95 => kernel_rfl
                case hd8x95 => kernel_rfl
                intro K hK
                go_simp
                refine hK.out _ _ ?_
                clear hK K
                refine RegD.wpAnyD_done (by kernel_rfl) ?_ _
                have HXD : Hid _ := HXB.out.keep HKD.out (by have := HGG.out; simp; omega)
                have HTD : Hid _ := HTB.out.keep HKD.out (by have := HGG.out; simp; omega)
                clear hrun
                go_wp2_with fail
                go_meet
                case rel => exact ⟨x7, 0, q7, v7, S, _, tf, rfl, rfl, HSZ, HHD, HE7, HXD, ⟨HTD.out.c1, HTF.out, HTD.out.lt⟩, fun _ _ _ => HSN.out⟩
            · obtain ⟨n8, rfl⟩ : ∃ n8, n7 = n8 + 1 := ⟨n7 - 1, by omega⟩
              clear HTO HLO h00
              rw [errQ_succ]
              go_wp2_with fail
              go_meet
              case rel => exact ⟨x7, n8 + 1, q7, v7, S, G, tf, rfl, by rw [errQ_succ, Int.natCast_add]; rfl, HSZ, HH8.out.mono (by omega) (Nat.le_refl _) (Nat.le_refl _), HE7, HX8, ⟨HT8.out.c1, HTF.out, HT8.out.lt⟩, fun _ _ h => by omega⟩
        · have HST : Hid ((mintM (txtB r) r p ⟨tk, tf, tg, te⟩ nt).2 = 0 → S tf = none) := fun h => by
            cases hs : S tf with
            | none => rfl
            | some y => exact absurd (HH4.out.s1 tf y hs).2 (lost_no (mint_look h))
          have HSZ : Hid ((mintM (txtB r) r p ⟨tk, tf, tg, te⟩ nt).1.size ≤ 5000) := mintM_size HH4.out.sv.sp.ok.good HH4.out.sv.rul
          have h0 := HH4.out.box.c0
          go_wp2_with fail
          refine (mint_is N _ gv gs gd r p v t ⟨tk, tf, tg, te⟩ nt HH4.out.sv HTS.out HOT.out).mono ?_
          rintro e7 w7 ⟨rfl, hb7⟩
          have HH7 : Hid _ := HH4.out.on hb7
          have HX7 : Hid _ := HX4.out.on hb7
          have HT7 : Hid _ := HT4.out.on hb7
          clear hb7 h0
          generalize mintM (txtB r) r p ⟨tk, tf, tg, te⟩ nt = Q at *
          obtain ⟨x7, n7⟩ := Q
          go_wp2_with fail
          go_meet
          case rel => exact ⟨x7, n7, p, v, S, G, tf, rfl, rfl, HSZ, HH7.out.mono (by omega) (Nat.le_refl _) (by omega), HEV, HX7, ⟨HT7.out.c1, HTF.out, HT7.out.lt⟩, fun _ _ h => HST.out h⟩
        · have HST : Hid ((showM r p ⟨tk, tf, tg, te⟩ nt).2 = 0 → S tf = none) := fun h => by
            cases hs : S tf with
            | none => rfl
            | some y => exact absurd (HH4.out.s1 tf y hs).2 (lost_no (show_look h))
          have h0 := HH4.out.box.c0
          go_wp2_with fail
          refine (show_is N _ gv gs gd r p v t ⟨tk, tf, tg, te⟩ nt HH4.out.sv HTS.out HOT.out).mono ?_
          rintro e7 w7 ⟨rfl, hb7⟩
          have HH7 : Hid _ := HH4.out.on hb7
          have HX7 : Hid _ := HX4.out.on hb7
          have HT7 : Hid _ := HT4.out.on hb7
          clear hb7 h0
          generalize showM r p ⟨tk, tf, tg, te⟩ nt = Q at *
          obtain ⟨f7, n7⟩ := Q
          go_wp2_with fail
          go_meet
          case rel => exact ⟨⟨#[]⟩, n7, p, v, S, G, tf, rfl, rfl, by show (0 : Nat) ≤ 5000; omega, HH7.out.mono (by omega) (Nat.le_refl _) (by omega), HEV, HX7, ⟨HT7.out.c1, HTF.out, HT7.out.lt⟩, fun _ _ h => HST.out h⟩
        · go_upto_region 25 with fail
          refine RegD.wp_region_D (fun W => XB W gx 4 ti m ∧ HAt W gh gv (.slice bt toks.length ct) b1 b2 b3 ∧ TB W gt ⟨tk, tf, tg, te⟩) 8 (by kernel_rfl) (⟨HX4.out.on (Below.refl _ _).drew, HH4.out.box.keep (Keep.of [] (Below.refl _ _).drew) (by simp), HT4.out.on (Below.refl _ _).drew⟩) (fun hHeld => ?_)
          refine RegD.wpAnyD_take 0 (oi := ?oi0x99) (v := .pointer (some ⟨gh, 0, none⟩)) ?hi0x99 ?hB0x99 ?hQ0x99 ?hy0x99 hHeld ?rest0x99
          case hi0x99 => rfl
          case hB0x99 => kernel_rfl
          case hQ0x99 => exact fun _ _ _ h => h
          case hy0x99 => exact .inl ⟨by rfl, fun W hW => by
            go_simp⟩
          simp only [Act.put, List.setIfInBounds_toArray, List.set_cons_zero, List.set_cons_succ]
          refine RegD.wpAnyD_take 1 (oi := ?oi1x100) (v := .pointer (some ⟨gh, 0, none⟩)) ?hi1x100 ?hB1x100 ?hQ1x100 ?hy1x100 hHeld ?rest1x100
          case hi1x100 => rfl
          case hB1x100 => kernel_rfl
          case hQ1x100 => exact fun _ _ _ h => h
          case hy1x100 => exact .inl ⟨by rfl, fun W hW => by
            go_simp⟩
          simp only [Act.put, List.setIfInBounds_toArray, List.set_cons_zero, List.set_cons_succ]
          refine RegD.wpAnyD_take 2 (oi := ?oi2x101) (v := .pointer (some ⟨gh, 0, none⟩)) ?hi2x101 ?hB2x101 ?hQ2x101 ?hy2x101 hHeld ?rest2x101
          case hi2x101 => rfl
          case hB2x101 => kernel_rfl
          case hQ2x101 => exact fun _ _ _ h => h
          case hy2x101 => exact .inl ⟨by rfl, fun W hW => by
            go_simp⟩
          simp only [Act.put, List.setIfInBounds_toArray, List.set_cons_zero, List.set_cons_succ]
          refine RegD.wpAnyD_take 3 (oi := ?oi3x102) (v := .pointer (some ⟨gv, 0, none⟩)) ?hi3x102 ?hB3x102 ?hQ3x102 ?hy3x102 hHeld ?rest3x102
          case hi3x102 => rfl
          case hB3x102 => kernel_rfl
          case hQ3x102 => exact fun _ _ _ h => h
          case hy3x102 => exact .inl ⟨by rfl, fun W hW => by
            have a0 := hW.2.1.c0
            go_simp⟩
          simp only [Act.put, List.setIfInBounds_toArray, List.set_cons_zero, List.set_cons_succ]
          refine RegD.wpAnyD_take 4 (oi := ?oi4x103) (v := .pointer (some ⟨gx, 2, none⟩)) ?hi4x103 ?hB4x103 ?hQ4x103 ?hy4x103 hHeld ?rest4x103
          case hi4x103 => rfl
          case hB4x103 => kernel_rfl
          case hQ4x103 => exact fun _ _ _ h => h
          case hy4x103 => exact .inl ⟨by rfl, fun W hW => by
            go_simp⟩
          simp only [Act.put, List.setIfInBounds_toArray, List.set_cons_zero, List.set_cons_succ]
          refine RegD.wpAnyD_take 5 (oi := ?oi5x104) (v := .int .i64 m) ?hi5x104 ?hB5x104 ?hQ5x104 ?hy5x104 hHeld ?rest5x104
          case hi5x104 => rfl
          case hB5x104 => kernel_rfl
          case hQ5x104 => exact fun _ _ _ h => h
          case hy5x104 => exact .inl ⟨by rfl, fun W hW => by
            have a0 := hW.1.c2
            go_simp⟩
          simp only [Act.put, List.setIfInBounds_toArray, List.set_cons_zero, List.set_cons_succ]
          refine RegD.wpAnyD_one 6 (o := ?o6x105) ?ho6x105 ?hr6x105 ?h6x105
          case ho6x105 => rfl
          case hr6x105 => kernel_rfl
          intro K hK
          go_simp
          go_at_call 14
          refine (pickN_is m 5 (by omega) (by omega) _).mono ?_
          rintro e6 w6 ⟨i, hi, -, rfl, hw⟩
          obtain rfl := hw
          have HH6 : Hid (Held w0 n c N gh gv gs gd b1 b2 b3 r p v (.slice bt toks.length ct) toks S F G W4.drew) := HH4.out.on (Below.refl _ _).drew
          go_wp2_with fail
          refine hK.out _ _ (hHeld) ?_
          clear hK hHeld
          intro hHeld
          clear K
          clear hi
          refine RegD.wpAnyD_one 7 (o := ?o7x107) ?ho7x107 ?hr7x107 ?h7x107
          case ho7x107 => rfl
          case hr7x107 => kernel_rfl
          intro K hK
          go_simp
          go_at_call 35
          refine (kill_is N W4.drew gv gs gd r p v i HH6.out.sv (by have := HN.out; omega)).mono ?_
          rintro e7 w7 ⟨rfl, v7, hto⟩
          have HE7 : Hid (Evo p.st (killM p i).1.st) := evo_kill HH6.out.sv.sp.ok.good _
          have HH7 : Hid _ := HH6.out.call hto HE7.out
          have HK7 : Hid (Keep [gd, gs] W4.drew w7) := hto.keep
          have HVT := hto.notIn HNV.out.1 (show gt < W4.drew.heap.size from HT4.out.lt)
          clear hto
          generalize killM p i = Q at *
          obtain ⟨q7, n7⟩ := Q
          go_wp2_with fail
          refine hK.out _ _ (⟨hHeld.1.keep HK7.out (by have := HGG.out; simp; omega), hHeld.2.1.keep HK7.out (by have := HGG.out; simp; omega), hHeld.2.2.keep HK7.out (by have := HGG.out; simp; omega)⟩) ?_
          clear hK hHeld
          intro hHeld
          clear K
          have HX7 : Hid _ := hHeld.1
          have HT7 : Hid _ := hHeld.2.2
          clear hHeld
          refine RegD.wpAnyD_late 8 (o := ?o8x109) ?ho8x109 ?hr8x109 ?hd8x109 ?h8x109
          case ho8x109 => rfl
          case hr8x109 => kernel_rfl
          case hd8x109 => kernel_rfl
          intro K hK
          go_simp
          refine hK.out _ _ ?_
          clear hK K
          refine RegD.wpAnyD_done (by kernel_rfl) ?_ _
          have t0 := HT7.out.c0; have t1 := HT7.out.c1; have t2 := HT7.out.c2; have t3 := HT7.out.c3; have tz := HT7.out.fz
          have HV7 : Hid (NotIn v7 gt) := HVT
          have HKE : Hid (Keep [gt] w7 (w7.setCells gt 0 (tokCs zero))) := Keep.setCells gt (tokCs zero) 0 w7
          have HHE : Hid (Held w0 n c (N + 22) gh gv gs gd b1 b2 b3 r q7 v7 (.slice bt toks.length ct) toks S F G (w7.setCells gt 0 (tokCs zero))) := HH7.out.elsewhere HKE.out (by
            have h1 := HGG.out; have h2 := HGX.out; have h3 := HGT.out; have h4 := HV7.out; have h5 := HNV.out
            simp
            exact ⟨by omega, by omega, h4, h5.2⟩)
          have HXE : Hid (XB (w7.setCells gt 0 (tokCs zero)) gx 4 ti m) := HX7.out.keep HKE.out (by have := HGG.out; simp; omega)
          have HTE : Hid (TB (w7.setCells gt 0 (tokCs zero)) gt zero) := HT7.out.set
          go_wp2_with fail
          go_meet
          case rel => exact ⟨⟨#[]⟩, n7, q7, v7, S, G, 0, rfl, rfl, by show (0 : Nat) ≤ 5000; omega, HHE.out.mono (by omega) (Nat.le_refl _) (Nat.le_refl _), HE7, HXE, ⟨HTE.out.c1, okN0, HTE.out.lt⟩, fun _ h => absurd h (by omega)⟩
        · go_upto_region 28 with fail
          refine RegD.wp_region_D (fun W => XB W gx 5 ti m ∧ HAt W gh gv (.slice bt toks.length ct) b1 b2 b3 ∧ TB W gt ⟨tk, tf, tg, te⟩) 8 (by kernel_rfl) (⟨HX4.out.on (Below.refl _ _).drew, HH4.out.box.keep (Keep.of [] (Below.refl _ _).drew) (by simp), HT4.out.on (Below.refl _ _).drew⟩) (fun hHeld => ?_)
          refine RegD.wpAnyD_take 0 (oi := ?oi0x113) (v := .pointer (some ⟨gh, 0, none⟩)) ?hi0x113 ?hB0x113 ?hQ0x113 ?hy0x113 hHeld ?rest0x113
          case hi0x113 => rfl
          case hB0x113 => kernel_rfl
          case hQ0x113 => exact fun _ _ _ h => h
          case hy0x113 => exact .inl ⟨by rfl, fun W hW => by
            go_simp⟩
          simp only [Act.put, List.setIfInBounds_toArray, List.set_cons_zero, List.set_cons_succ]
          refine RegD.wpAnyD_take 1 (oi := ?oi1x114) (v := .pointer (some ⟨gh, 0, none⟩)) ?hi1x114 ?hB1x114 ?hQ1x114 ?hy1x114 hHeld ?rest1x114
          case hi1x114 => rfl
          case hB1x114 => kernel_rfl
          case hQ1x114 => exact fun _ _ _ h => h
          case hy1x114 => exact .inl ⟨by rfl, fun W hW => by
            go_simp⟩
          simp only [Act.put, List.setIfInBounds_toArray, List.set_cons_zero, List.set_cons_succ]
          refine RegD.wpAnyD_take 2 (oi := ?oi2x115) (v := .pointer (some ⟨gh, 0, none⟩)) ?hi2x115 ?hB2x115 ?hQ2x115 ?hy2x115 hHeld ?rest2x115
          case hi2x115 => rfl
          case hB2x115 => kernel_rfl
          case hQ2x115 => exact fun _ _ _ h => h
          case hy2x115 => exact .inl ⟨by rfl, fun W hW => by
            go_simp⟩
          simp only [Act.put, List.setIfInBounds_toArray, List.set_cons_zero, List.set_cons_succ]
          refine RegD.wpAnyD_take 3 (oi := ?oi3x116) (v := .pointer (some ⟨gv, 0, none⟩)) ?hi3x116 ?hB3x116 ?hQ3x116 ?hy3x116 hHeld ?rest3x116
          case hi3x116 => rfl
          case hB3x116 => kernel_rfl
          case hQ3x116 => exact fun _ _ _ h => h
          case hy3x116 => exact .inl ⟨by rfl, fun W hW => by
            have a0 := hW.2.1.c0
            go_simp⟩
          simp only [Act.put, List.setIfInBounds_toArray, List.set_cons_zero, List.set_cons_succ]
          refine RegD.wpAnyD_take 4 (oi := ?oi4x117) (v := .pointer (some ⟨gx, 2, none⟩)) ?hi4x117 ?hB4x117 ?hQ4x117 ?hy4x117 hHeld ?rest4x117
          case hi4x117 => rfl
          case hB4x117 => kernel_rfl
          case hQ4x117 => exact fun _ _ _ h => h
          case hy4x117 => exact .inl ⟨by rfl, fun W hW => by
            go_simp⟩
          simp only [Act.put, List.setIfInBounds_toArray, List.set_cons_zero, List.set_cons_succ]
          refine RegD.wpAnyD_take 5 (oi := ?oi5x118) (v := .int .i64 m) ?hi5x118 ?hB5x118 ?hQ5x118 ?hy5x118 hHeld ?rest5x118
          case hi5x118 => rfl
          case hB5x118 => kernel_rfl
          case hQ5x118 => exact fun _ _ _ h => h
          case hy5x118 => exact .inl ⟨by rfl, fun W hW => by
            have a0 := hW.1.c2
            go_simp⟩
          simp only [Act.put, List.setIfInBounds_toArray, List.set_cons_zero, List.set_cons_succ]
          refine RegD.wpAnyD_one 6 (o := ?o6x119) ?ho6x119 ?hr6x119 ?h6x119
          case ho6x119 => rfl
          case hr6x119 => kernel_rfl
          intro K hK
          go_simp
          go_at_call 14
          refine (pickN_is m 9 (by omega) (by omega) _).mono ?_
          rintro e6 w6 ⟨i, hi, -, rfl, hw⟩
          obtain rfl := hw
          have HH6 : Hid (Held w0 n c N gh gv gs gd b1 b2 b3 r p v (.slice bt toks.length ct) toks S F G W4.drew) := HH4.out.on (Below.refl _ _).drew
          go_wp2_with fail
          refine hK.out _ _ (hHeld) ?_
          clear hK hHeld
          intro hHeld
          clear K
          clear hi
          refine RegD.wpAnyD_one 7 (o := ?o7x121) ?ho7x121 ?hr7x121 ?h7x121
          case ho7x121 => rfl
          case hr7x121 => kernel_rfl
          intro K hK
          go_simp
          go_at_call 37
          refine (tick_is N W4.drew gv gs gd r p v i HH6.out.sv (by have := HN.out; omega)).mono ?_
          rintro e7 w7 ⟨rfl, v7, hto⟩
          have HE7 : Hid (Evo p.st (tickM p i).1.st) := evo_tick HH6.out.sv.sp.ok.good _
          have HH7 : Hid _ := HH6.out.call hto HE7.out
          have HK7 : Hid (Keep [gd, gs] W4.drew w7) := hto.keep
          have HVT := hto.notIn HNV.out.1 (show gt < W4.drew.heap.size from HT4.out.lt)
          clear hto
          generalize tickM p i = Q at *
          obtain ⟨q7, n7⟩ := Q
          go_wp2_with fail
          refine hK.out _ _ (⟨hHeld.1.keep HK7.out (by have := HGG.out; simp; omega), hHeld.2.1.keep HK7.out (by have := HGG.out; simp; omega), hHeld.2.2.keep HK7.out (by have := HGG.out; simp; omega)⟩) ?_
          clear hK hHeld
          intro hHeld
          clear K
          have HX7 : Hid _ := hHeld.1
          have HT7 : Hid _ := hHeld.2.2
          clear hHeld
          refine RegD.wpAnyD_late 8 (o := ?o8x123) ?ho8x123 ?hr8x123 ?hd8x123 ?h8x123
          case ho8x123 => rfl
          case hr8x123 => kernel_rfl
          case hd8x123 => kernel_rfl
          intro K hK
          go_simp
          refine hK.out _ _ ?_
          clear hK K
          refine RegD.wpAnyD_done (by kernel_rfl) ?_ _
          have t0 := HT7.out.c0; have t1 := HT7.out.c1; have t2 := HT7.out.c2; have t3 := HT7.out.c3; have tz := HT7.out.fz
          have HV7 : Hid (NotIn v7 gt) := HVT
          have HKE : Hid (Keep [gt] w7 (w7.setCells gt 0 (tokCs zero))) := Keep.setCells gt (tokCs zero) 0 w7
          have HHE : Hid (Held w0 n c (N + 22) gh gv gs gd b1 b2 b3 r q7 v7 (.slice bt toks.length ct) toks S F G (w7.setCells gt 0 (tokCs zero))) := HH7.out.elsewhere HKE.out (by
            have h1 := HGG.out; have h2 := HGX.out; have h3 := HGT.out; have h4 := HV7.out; have h5 := HNV.out
            simp
            exact ⟨by omega, by omega, h4, h5.2⟩)
          have HXE : Hid (XB (w7.setCells gt 0 (tokCs zero)) gx 5 ti m) := HX7.out.keep HKE.out (by have := HGG.out; simp; omega)
          have HTE : Hid (TB (w7.setCells gt 0 (tokCs zero)) gt zero) := HT7.out.set
          go_wp2_with fail
          go_meet
          case rel => exact ⟨⟨#[]⟩, n7, q7, v7, S, G, 0, rfl, rfl, by show (0 : Nat) ≤ 5000; omega, HHE.out.mono (by omega) (Nat.le_refl _) (Nat.le_refl _), HE7, HXE, ⟨HTE.out.c1, okN0, HTE.out.lt⟩, fun _ h => absurd h (by omega)⟩
        · have h0 := HH4.out.box.c0
          go_wp2_with fail
          refine (sweep_is N _ gv gs gd r p v HH4.out.sv (by have := HN.out; omega)).mono ?_
          rintro e7 w7 ⟨rfl, v7, hto⟩
          have HE7 : Hid (Evo p.st (sweepM r p).1.st) := evo_sweep HH4.out.sv.sp.ok.good
          have HH7 : Hid _ := HH4.out.call hto HE7.out
          have HK7 : Hid (Keep [gd, gs] W4 w7) := hto.keep
          have HVT := hto.notIn HNV.out.1 HT4.out.lt
          have HX7 : Hid _ := HX4.out.keep HK7.out (by have := HGG.out; simp; omega)
          have HT7 : Hid _ := HT4.out.keep HK7.out (by have := HGG.out; simp; omega)
          clear hto h0
          generalize sweepM r p = Q at *
          obtain ⟨q7, i7, n7⟩ := Q
          have t0 := HT7.out.c0; have t1 := HT7.out.c1; have t2 := HT7.out.c2; have t3 := HT7.out.c3; have tz := HT7.out.fz
          have HV7 : Hid (NotIn v7 gt) := HVT
          have HKE : Hid (Keep [gt] w7 (w7.setCells gt 0 (tokCs zero))) := Keep.setCells gt (tokCs zero) 0 w7
          have HHE : Hid (Held w0 n c (N + 22) gh gv gs gd b1 b2 b3 r q7 v7 (.slice bt toks.length ct) toks S F G (w7.setCells gt 0 (tokCs zero))) := HH7.out.elsewhere HKE.out (by
            have h1 := HGG.out; have h2 := HGX.out; have h3 := HGT.out; have h4 := HV7.out; have h5 := HNV.out
            simp
            exact ⟨by omega, by omega, h4, h5.2⟩)
          have HXE : Hid (XB (w7.setCells gt 0 (tokCs zero)) gx 6 ti m) := HX7.out.keep HKE.out (by have := HGG.out; simp; omega)
          have HTE : Hid (TB (w7.setCells gt 0 (tokCs zero)) gt zero) := HT7.out.set
          go_wp2_with fail
          go_meet
          case rel => exact ⟨⟨#[]⟩, n7, q7, v7, S, G, 0, rfl, rfl, by show (0 : Nat) ≤ 5000; omega, HHE.out.mono (by omega) (Nat.le_refl _) (Nat.le_refl _), HE7, HXE, ⟨HTE.out.c1, okN0, HTE.out.lt⟩, fun _ h => absurd h (by omega)⟩
      case rest =>
        obtain ⟨x, q, p', v', S', G', tf', rfl, rfl, HXS, HH8, HE8, HX8, HT8, HST⟩ := hcut
        generalize wc = wa at *
        clear HX4 HH4 HT4 HEV HGT HNV HTS HOT HTF HH3 HX3
        have HHD : Hid (Held w0 (n + 1) c (N + 22) gh gv gs gd b1 b2 b3 r p' v' (.slice bt toks.length ct) toks S' F G' wa.drew) := HH8.out.on (Below.refl _ _).drew
        have HXD : Hid (XB wa.drew gx a ti m) := HX8.out.on (Below.refl _ _).drew
        have HTD : Hid (wa.drew.cell? ⟨gt, 1, none⟩ = some (.int .i64 tf')) := HT8.out.1
        have HLB : Hid (∀ W, HasMap litI Tryz.prog 3 4 W b1 (n + 1) S' → 0 < a → a < 4 → q = 0 → (Instr.lookup 92 (.map (some b1)) (.int .i64 tf') false).run Tryz.prog W = .ok (.bool false) W) := fun W hW h1 h2 h3 => by
          have := hW.look intLaw Tryz.underlying92 (zeroB W) (plainElem_bool Tryz.underlying4 false) (key := .int .i64 tf') (x := tf') (Go.Maps.keyOf_int_mk Tryz.underlying3 (wf_ok HT8.out.2.1))
          rw [HST.out h1 h2 h3] at this
          exact this
        go_upto_region 33 with fail
        go_cut [184] from 164 to 184 (fun y wx => y = .bool false ∧ Hid (Held w0 (n + 1) c (N + 22) gh gv gs gd b1 b2 b3 r p' v' (.slice bt toks.length ct) toks S' F G' wx))
        case first =>
          by_cases ha1 : 0 < a
          · by_cases ha2 : a < 4
            · cases q with
              | zero =>
                rw [show errQ 0 = .nilIface from rfl]
                replace HLB : Hid (∀ W, HasMap litI Tryz.prog 3 4 W b1 (n + 1) S' → (Instr.lookup 92 (.map (some b1)) (.int .i64 tf') false).run Tryz.prog W = .ok (.bool false) W) := fun W hW => HLB.out W hW ha1 ha2 rfl
                refine RegD.wp_region_D (fun W => XB W gx a ti m ∧ HAt W gh gv (.slice bt toks.length ct) b1 b2 b3 ∧ W.cell? ⟨gt, 1, none⟩ = some (.int .i64 tf') ∧ HasMap litI Tryz.prog 3 4 W b1 (n + 1) S') 20 (by kernel_rfl) (⟨HXD.out, HHD.out.box, HTD.out, HHD.out.m1⟩) (fun hHeld => ?_)
                refine RegD.wpAnyD_take 0 (oi := ?oi0x127) (v := .pointer (some ⟨gx, 0, none⟩)) ?hi0x127 ?hB0x127 ?hQ0x127 ?hy0x127 hHeld ?rest0x127
                case hi0x127 => rfl
                case hB0x127 => kernel_rfl
                case hQ0x127 => exact fun _ _ _ h => h
                case hy0x127 => exact .inl ⟨by rfl, fun W hW => by
                  go_simp⟩
                simp only [Act.put, List.setIfInBounds_toArray, List.set_cons_zero, List.set_cons_succ]
                refine RegD.wpAnyD_take 1 (oi := ?oi1x128) (v := .int .i64 a) ?hi1x128 ?hB1x128 ?hQ1x128 ?hy1x128 hHeld ?rest1x128
                case hi1x128 => rfl
                case hB1x128 => kernel_rfl
                case hQ1x128 => exact fun _ _ _ h => h
                case hy1x128 => exact .inl ⟨by rfl, fun W hW => by
                  have a0 := hW.1.c0
                  go_simp⟩
                simp only [Act.put, List.setIfInBounds_toArray, List.set_cons_zero, List.set_cons_succ]
                refine RegD.wpAnyD_take 2 (oi := ?oi2x129) (v := .bool true) ?hi2x129 ?hB2x129 ?hQ2x129 ?hy2x129 hHeld ?rest2x129
                case hi2x129 => rfl
                case hB2x129 => kernel_rfl
                case hQ2x129 => exact fun _ _ _ h => h
                case hy2x129 => exact .inl ⟨by rfl, fun W hW => by
                  go_simp⟩
                simp only [Act.put, List.setIfInBounds_toArray, List.set_cons_zero, List.set_cons_succ]
                refine RegD.wpAnyD_take 3 (oi := ?oi3x130) (v := .bool true) ?hi3x130 ?hB3x130 ?hQ3x130 ?hy3x130 hHeld ?rest3x130
                case hi3x130 => rfl
                case hB3x130 => kernel_rfl
                case hQ3x130 => exact fun _ _ _ h => h
                case hy3x130 => exact .inl ⟨by rfl, fun W hW => by
                  go_simp⟩
                simp only [Act.put, List.setIfInBounds_toArray, List.set_cons_zero, List.set_cons_succ]
                refine RegD.wpAnyD_take 4 (oi := ?oi4x131) (v := .pointer (some ⟨gx, 0, none⟩)) ?hi4x131 ?hB4x131 ?hQ4x131 ?hy4x131 hHeld ?rest4x131
                case hi4x131 => rfl
                case hB4x131 => kernel_rfl
                case hQ4x131 => exact fun _ _ _ h => h
                case hy4x131 => exact .inl ⟨by rfl, fun W hW => by
                  go_simp⟩
                simp only [Act.put, List.setIfInBounds_toArray, List.set_cons_zero, List.set_cons_succ]
                refine RegD.wpAnyD_take 5 (oi := ?oi5x132) (v := .int .i64 a) ?hi5x132 ?hB5x132 ?hQ5x132 ?hy5x132 hHeld ?rest5x132
                case hi5x132 => rfl
                case hB5x132 => kernel_rfl
                case hQ5x132 => exact fun _ _ _ h => h
                case hy5x132 => exact .inl ⟨by rfl, fun W hW => by
                  have a0 := hW.1.c0
                  go_simp⟩
                simp only [Act.put, List.setIfInBounds_toArray, List.set_cons_zero, List.set_cons_succ]
                refine RegD.wpAnyD_take 6 (oi := ?oi6x133) (v := .bool true) ?hi6x133 ?hB6x133 ?hQ6x133 ?hy6x133 hHeld ?rest6x133
                case hi6x133 => rfl
                case hB6x133 => kernel_rfl
                case hQ6x133 => exact fun _ _ _ h => h
                case hy6x133 => exact .inl ⟨by rfl, fun W hW => by
                  go_simp⟩
                simp only [Act.put, List.setIfInBounds_toArray, List.set_cons_zero, List.set_cons_succ]
                refine RegD.wpAnyD_take 7 (oi := ?oi7x134) (v := .bool true) ?hi7x134 ?hB7x134 ?hQ7x134 ?hy7x134 hHeld ?rest7x134
                case hi7x134 => rfl
                case hB7x134 => kernel_rfl
                case hQ7x134 => exact fun _ _ _ h => h
                case hy7x134 => exact .inl ⟨by rfl, fun W hW => by
                  go_simp⟩
                simp only [Act.put, List.setIfInBounds_toArray, List.set_cons_zero, List.set_cons_succ]
                refine RegD.wpAnyD_take 8 (oi := ?oi8x135) (v := .bool true) ?hi8x135 ?hB8x135 ?hQ8x135 ?hy8x135 hHeld ?rest8x135
                case hi8x135 => rfl
                case hB8x135 => kernel_rfl
                case hQ8x135 => exact fun _ _ _ h => h
                case hy8x135 => exact .inl ⟨by rfl, fun W hW => by
                  go_simp⟩
                simp only [Act.put, List.setIfInBounds_toArray, List.set_cons_zero, List.set_cons_succ]
                refine RegD.wpAnyD_take 9 (oi := ?oi9x136) (v := .nilIface) ?hi9x136 ?hB9x136 ?hQ9x136 ?hy9x136 hHeld ?rest9x136
                case hi9x136 => rfl
                case hB9x136 => kernel_rfl
                case hQ9x136 => exact fun _ _ _ h => h
                case hy9x136 => exact .inl ⟨by rfl, fun W hW => by
                  go_simp⟩
                simp only [Act.put, List.setIfInBounds_toArray, List.set_cons_zero, List.set_cons_succ]
                refine RegD.wpAnyD_take 10 (oi := ?oi10x137) (v := .bool true) ?hi10x137 ?hB10x137 ?hQ10x137 ?hy10x137 hHeld ?rest10x137
                case hi10x137 => rfl
                case hB10x137 => kernel_rfl
                case hQ10x137 => exact fun _ _ _ h => h
                case hy10x137 => exact .inl ⟨by rfl, fun W hW => by
                  go_simp⟩
                simp only [Act.put, List.setIfInBounds_toArray, List.set_cons_zero, List.set_cons_succ]
                refine RegD.wpAnyD_take 11 (oi := ?oi11x138) (v := .bool true) ?hi11x138 ?hB11x138 ?hQ11x138 ?hy11x138 hHeld ?rest11x138
                case hi11x138 => rfl
                case hB11x138 => kernel_rfl
                case hQ11x138 => exact fun _ _ _ h => h
                case hy11x138 => exact .inl ⟨by rfl, fun W hW => by
                  go_simp⟩
                simp only [Act.put, List.setIfInBounds_toArray, List.set_cons_zero, List.set_cons_succ]
                refine RegD.wpAnyD_take 12 (oi := ?oi12x139) (v := .bool true) ?hi12x139 ?hB12x139 ?hQ12x139 ?hy12x139 hHeld ?rest12x139
                case hi12x139 => rfl
                case hB12x139 => kernel_rfl
                case hQ12x139 => exact fun _ _ _ h => h
                case hy12x139 => exact .inl ⟨by rfl, fun W hW => by
                  go_simp⟩
                simp only [Act.put, List.setIfInBounds_toArray, List.set_cons_zero, List.set_cons_succ]
                refine RegD.wpAnyD_take 13 (oi := ?oi13x140) (v := .pointer (some ⟨gh, 0, none⟩)) ?hi13x140 ?hB13x140 ?hQ13x140 ?hy13x140 hHeld ?rest13x140
                case hi13x140 => rfl
                case hB13x140 => kernel_rfl
                case hQ13x140 => exact fun _ _ _ h => h
                case hy13x140 => exact .inl ⟨by rfl, fun W hW => by
                  go_simp⟩
                simp only [Act.put, List.setIfInBounds_toArray, List.set_cons_zero, List.set_cons_succ]
                refine RegD.wpAnyD_take 14 (oi := ?oi14x141) (v := .pointer (some ⟨gh, 0, none⟩)) ?hi14x141 ?hB14x141 ?hQ14x141 ?hy14x141 hHeld ?rest14x141
                case hi14x141 => rfl
                case hB14x141 => kernel_rfl
                case hQ14x141 => exact fun _ _ _ h => h
                case hy14x141 => exact .inl ⟨by rfl, fun W hW => by
                  go_simp⟩
                simp only [Act.put, List.setIfInBounds_toArray, List.set_cons_zero, List.set_cons_succ]
                refine RegD.wpAnyD_take 15 (oi := ?oi15x142) (v := .pointer (some ⟨gh, 2, none⟩)) ?hi15x142 ?hB15x142 ?hQ15x142 ?hy15x142 hHeld ?rest15x142
                case hi15x142 => rfl
                case hB15x142 => kernel_rfl
                case hQ15x142 => exact fun _ _ _ h => h
                case hy15x142 => exact .inl ⟨by rfl, fun W hW => by
                  go_simp⟩
                simp only [Act.put, List.setIfInBounds_toArray, List.set_cons_zero, List.set_cons_succ]
                refine RegD.wpAnyD_take 16 (oi := ?oi16x143) (v := .map (some b1)) ?hi16x143 ?hB16x143 ?hQ16x143 ?hy16x143 hHeld ?rest16x143
                case hi16x143 => rfl
                case hB16x143 => kernel_rfl
                case hQ16x143 => exact fun _ _ _ h => h
                case hy16x143 => exact .inl ⟨by rfl, fun W hW => by
                  have a0 := hW.2.1.c2
                  go_simp⟩
                simp only [Act.put, List.setIfInBounds_toArray, List.set_cons_zero, List.set_cons_succ]
                refine RegD.wpAnyD_take 17 (oi := ?oi17x144) (v := .pointer (some ⟨gt, 1, none⟩)) ?hi17x144 ?hB17x144 ?hQ17x144 ?hy17x144 hHeld ?rest17x144
                case hi17x144 => rfl
                case hB17x144 => kernel_rfl
                case hQ17x144 => exact fun _ _ _ h => h
                case hy17x144 => exact .inl ⟨by rfl, fun W hW => by
                  go_simp⟩
                simp only [Act.put, List.setIfInBounds_toArray, List.set_cons_zero, List.set_cons_succ]
                refine RegD.wpAnyD_take 18 (oi := ?oi18x145) (v := .int .i64 tf') ?hi18x145 ?hB18x145 ?hQ18x145 ?hy18x145 hHeld ?rest18x145
                case hi18x145 => rfl
                case hB18x145 => kernel_rfl
                case hQ18x145 => exact fun _ _ _ h => h
                case hy18x145 => exact .inl ⟨by rfl, fun W hW => by
                  have a0 := hW.2.2.1
                  go_simp⟩
                simp only [Act.put, List.setIfInBounds_toArray, List.set_cons_zero, List.set_cons_succ]
                refine RegD.wpAnyD_take 19 (oi := ?oi19x146) (v := .bool false) ?hi19x146 ?hB19x146 ?hQ19x146 ?hy19x146 hHeld ?rest19x146
                case hi19x146 => rfl
                case hB19x146 => kernel_rfl
                case hQ19x146 => exact fun _ _ _ h => h
                case hy19x146 => exact .inl ⟨by rfl, fun W hW => by
                  have a0 := HLB.out _ hW.2.2.2
                  go_simp⟩
                simp only [Act.put, List.setIfInBounds_toArray, List.set_cons_zero, List.set_cons_succ]
                clear hHeld
                refine RegD.wpAnyD_late 20 (o := ?o20x147) ?ho20x147 ?hr20x147 ?hd20x147 ?h20x147
                case ho20x147 => rfl
                case hr20x147 => kernel_rfl
                case hd20x147 => kernel_rfl
                intro K hK
                go_simp
                refine hK.out _ _ ?_
                clear hK K
                refine RegD.wpAnyD_done (by kernel_rfl) ?_ _
                go_wp2_with fail
                go_meet
                case rel => exact ⟨rfl, HHD⟩
              | succ q =>
                rw [errQ_succ]
                refine RegD.wp_region_D (fun W => XB W gx a ti m ∧ HAt W gh gv (.slice bt toks.length ct) b1 b2 b3 ∧ W.cell? ⟨gt, 1, none⟩ = some (.int .i64 tf') ∧ HasMap litI Tryz.prog 3 4 W b1 (n + 1) S') 20 (by kernel_rfl) (⟨HXD.out, HHD.out.box, HTD.out, HHD.out.m1⟩) (fun hHeld => ?_)
                refine RegD.wpAnyD_take 0 (oi := ?oi0x151) (v := .pointer (some ⟨gx, 0, none⟩)) ?hi0x151 ?hB0x151 ?hQ0x151 ?hy0x151 hHeld ?rest0x151
                case hi0x151 => rfl
                case hB0x151 => kernel_rfl
                case hQ0x151 => exact fun _ _ _ h => h
                case hy0x151 => exact .inl ⟨by rfl, fun W hW => by
                  go_simp⟩
                simp only [Act.put, List.setIfInBounds_toArray, List.set_cons_zero, List.set_cons_succ]
                refine RegD.wpAnyD_take 1 (oi := ?oi1x152) (v := .int .i64 a) ?hi1x152 ?hB1x152 ?hQ1x152 ?hy1x152 hHeld ?rest1x152
                case hi1x152 => rfl
                case hB1x152 => kernel_rfl
                case hQ1x152 => exact fun _ _ _ h => h
                case hy1x152 => exact .inl ⟨by rfl, fun W hW => by
                  have a0 := hW.1.c0
                  go_simp⟩
                simp only [Act.put, List.setIfInBounds_toArray, List.set_cons_zero, List.set_cons_succ]
                refine RegD.wpAnyD_take 2 (oi := ?oi2x153) (v := .bool true) ?hi2x153 ?hB2x153 ?hQ2x153 ?hy2x153 hHeld ?rest2x153
                case hi2x153 => rfl
                case hB2x153 => kernel_rfl
                case hQ2x153 => exact fun _ _ _ h => h
                case hy2x153 => exact .inl ⟨by rfl, fun W hW => by
                  go_simp⟩
                simp only [Act.put, List.setIfInBounds_toArray, List.set_cons_zero, List.set_cons_succ]
                refine RegD.wpAnyD_take 3 (oi := ?oi3x154) (v := .bool true) ?hi3x154 ?hB3x154 ?hQ3x154 ?hy3x154 hHeld ?rest3x154
                case hi3x154 => rfl
                case hB3x154 => kernel_rfl
                case hQ3x154 => exact fun _ _ _ h => h
                case hy3x154 => exact .inl ⟨by rfl, fun W hW => by
                  go_simp⟩
                simp only [Act.put, List.setIfInBounds_toArray, List.set_cons_zero, List.set_cons_succ]
                refine RegD.wpAnyD_take 4 (oi := ?oi4x155) (v := .pointer (some ⟨gx, 0, none⟩)) ?hi4x155 ?hB4x155 ?hQ4x155 ?hy4x155 hHeld ?rest4x155
                case hi4x155 => rfl
                case hB4x155 => kernel_rfl
                case hQ4x155 => exact fun _ _ _ h => h
                case hy4x155 => exact .inl ⟨by rfl, fun W hW => by
                  go_simp⟩
                simp only [Act.put, List.setIfInBounds_toArray, List.set_cons_zero, List.set_cons_succ]
                refine RegD.wpAnyD_take 5 (oi := ?oi5x156) (v := .int .i64 a) ?hi5x156 ?hB5x156 ?hQ5x156 ?hy5x156 hHeld ?rest5x156
                case hi5x156 => rfl
                case hB5x156 => kernel_rfl
                case hQ5x156 => exact fun _ _ _ h => h
                case hy5x156 => exact .inl ⟨by rfl, fun W hW => by
                  have a0 := hW.1.c0
                  go_simp⟩
                simp only [Act.put, List.setIfInBounds_toArray, List.set_cons_zero, List.set_cons_succ]
                refine RegD.wpAnyD_take 6 (oi := ?oi6x157) (v := .bool true) ?hi6x157 ?hB6x157 ?hQ6x157 ?hy6x157 hHeld ?rest6x157
                case hi6x157 => rfl
                case hB6x157 => kernel_rfl
                case hQ6x157 => exact fun _ _ _ h => h
                case hy6x157 => exact .inl ⟨by rfl, fun W hW => by
                  go_simp⟩
                simp only [Act.put, List.setIfInBounds_toArray, List.set_cons_zero, List.set_cons_succ]
                refine RegD.wpAnyD_take 7 (oi := ?oi7x158) (v := .bool true) ?hi7x158 ?hB7x158 ?hQ7x158 ?hy7x158 hHeld ?rest7x158
                case hi7x158 => rfl
                case hB7x158 => kernel_rfl
                case hQ7x158 => exact fun _ _ _ h => h
                case hy7x158 => exact .inl ⟨by rfl, fun W hW => by
                  go_simp⟩
                simp only [Act.put, List.setIfInBounds_toArray, List.set_cons_zero, List.set_cons_succ]
                refine RegD.wpAnyD_take 8 (oi := ?oi8x159) (v := .bool true) ?hi8x159 ?hB8x159 ?hQ8x159 ?hy8x159 hHeld ?rest8x159
                case hi8x159 => rfl
                case hB8x159 => kernel_rfl
                case hQ8x159 => exact fun _ _ _ h => h
                case hy8x159 => exact .inl ⟨by rfl, fun W hW => by
                  go_simp⟩
                simp only [Act.put, List.setIfInBounds_toArray, List.set_cons_zero, List.set_cons_succ]
                refine RegD.wpAnyD_take 9 (oi := ?oi9x160) (v := .iface 47 (.int .i64 ((q : Int) + 1))) ?hi9x160 ?hB9x160 ?hQ9x160 ?hy9x160 hHeld ?rest9x160
                case hi9x160 => rfl
                case hB9x160 => kernel_rfl
                case hQ9x160 => exact fun _ _ _ h => h
                case hy9x160 => exact .inl ⟨by rfl, fun W hW => by
                  go_simp⟩
                simp only [Act.put, List.setIfInBounds_toArray, List.set_cons_zero, List.set_cons_succ]
                refine RegD.wpAnyD_take 10 (oi := ?oi10x161) (v := .bool false) ?hi10x161 ?hB10x161 ?hQ10x161 ?hy10x161 hHeld ?rest10x161
                case hi10x161 => rfl
                case hB10x161 => kernel_rfl
                case hQ10x161 => exact fun _ _ _ h => h
                case hy10x161 => exact .inl ⟨by rfl, fun W hW => by
                  go_simp⟩
                simp only [Act.put, List.setIfInBounds_toArray, List.set_cons_zero, List.set_cons_succ]
                refine RegD.wpAnyD_take 11 (oi := ?oi11x162) (v := .bool false) ?hi11x162 ?hB11x162 ?hQ11x162 ?hy11x162 hHeld ?rest11x162
                case hi11x162 => rfl
                case hB11x162 => kernel_rfl
                case hQ11x162 => exact fun _ _ _ h => h
                case hy11x162 => exact .inl ⟨by rfl, fun W hW => by
                  go_simp⟩
                simp only [Act.put, List.setIfInBounds_toArray, List.set_cons_zero, List.set_cons_succ]
                refine RegD.wpAnyD_take 12 (oi := ?oi12x163) (v := .bool false) ?hi12x163 ?hB12x163 ?hQ12x163 ?hy12x163 hHeld ?rest12x163
                case hi12x163 => rfl
                case hB12x163 => kernel_rfl
                case hQ12x163 => exact fun _ _ _ h => h
                case hy12x163 => exact .inl ⟨by rfl, fun W hW => by
                  go_simp⟩
                simp only [Act.put, List.setIfInBounds_toArray, List.set_cons_zero, List.set_cons_succ]
                refine RegD.wpAnyD_take 13 (oi := ?oi13x164) (v := undef) ?hi13x164 ?hB13x164 ?hQ13x164 ?hy13x164 hHeld ?rest13x164
                case hi13x164 => rfl
                case hB13x164 => kernel_rfl
                case hQ13x164 => exact fun _ _ _ h => h
                case hy13x164 => exact .inr ⟨by rfl, rfl⟩
                simp only [Act.put, List.setIfInBounds_toArray, List.set_cons_zero, List.set_cons_succ]
                refine RegD.wpAnyD_take 14 (oi := ?oi14x165) (v := undef) ?hi14x165 ?hB14x165 ?hQ14x165 ?hy14x165 hHeld ?rest14x165
                case hi14x165 => rfl
                case hB14x165 => kernel_rfl
                case hQ14x165 => exact fun _ _ _ h => h
                case hy14x165 => exact .inr ⟨by rfl, rfl⟩
                simp only [Act.put, List.setIfInBounds_toArray, List.set_cons_zero, List.set_cons_succ]
                refine RegD.wpAnyD_take 15 (oi := ?oi15x166) (v := undef) ?hi15x166 ?hB15x166 ?hQ15x166 ?hy15x166 hHeld ?rest15x166
                case hi15x166 => rfl
                case hB15x166 => kernel_rfl
                case hQ15x166 => exact fun _ _ _ h => h
                case hy15x166 => exact .inr ⟨by rfl, rfl⟩
                simp only [Act.put, List.setIfInBounds_toArray, List.set_cons_zero, List.set_cons_succ]
                refine RegD.wpAnyD_take 16 (oi := ?oi16x167) (v := undef) ?hi16x167 ?hB16x167 ?hQ16x167 ?hy16x167 hHeld ?rest16x167
                case hi16x167 => rfl
                case hB16x167 => kernel_rfl
                case hQ16x167 => exact fun _ _ _ h => h
                case hy16x167 => exact .inr ⟨by rfl, rfl⟩
                simp only [Act.put, List.setIfInBounds_toArray, List.set_cons_zero, List.set_cons_succ]
                refine RegD.wpAnyD_take 17 (oi := ?oi17x168) (v := undef) ?hi17x168 ?hB17x168 ?hQ17x168 ?hy17x168 hHeld ?rest17x168
                case hi17x168 => rfl
                case hB17x168 => kernel_rfl
                case hQ17x168 => exact fun _ _ _ h => h
                case hy17x168 => exact .inr ⟨by rfl, rfl⟩
                simp only [Act.put, List.setIfInBounds_toArray, List.set_cons_zero, List.set_cons_succ]
                refine RegD.wpAnyD_take 18 (oi := ?oi18x169) (v := undef) ?hi18x169 ?hB18x169 ?hQ18x169 ?hy18x169 hHeld ?rest18x169
                case hi18x169 => rfl
                case hB18x169 => kernel_rfl
                case hQ18x169 => exact fun _ _ _ h => h
                case hy18x169 => exact .inr ⟨by rfl, rfl⟩
                simp only [Act.put, List.setIfInBounds_toArray, List.set_cons_zero, List.set_cons_succ]
                refine RegD.wpAnyD_take 19 (oi := ?oi19x170) (v := undef) ?hi19x170 ?hB19x170 ?hQ19x170 ?hy19x170 hHeld ?rest19x170
                case hi19x170 => rfl
                case hB19x170 => kernel_rfl
                case hQ19x170 => exact fun _ _ _ h => h
                case hy19x170 => exact .inr ⟨by rfl, rfl⟩
                simp only [Act.put, List.setIfInBounds_toArray, List.set_cons_zero, List.set_cons_succ]
                clear hHeld
                refine RegD.wpAnyD_late 20 (o := ?o20x171) ?ho20x171 ?hr20x171 ?hd20x171 ?h20x171
                case ho20x171 => rfl
                case hr20x171 => kernel_rfl
                case hd20x171 => kernel_rfl
                intro K hK
                go_simp
                refine hK.out _ _ ?_
                clear hK K
                refine RegD.wpAnyD_done (by kernel_rfl) ?_ _
                go_wp2_with fail
                go_meet
                case rel => exact ⟨rfl, HHD⟩
            · skip
              refine RegD.wp_region_D (fun W => XB W gx a ti m ∧ HAt W gh gv (.slice bt toks.length ct) b1 b2 b3 ∧ W.cell? ⟨gt, 1, none⟩ = some (.int .i64 tf') ∧ HasMap litI Tryz.prog 3 4 W b1 (n + 1) S') 20 (by kernel_rfl) (⟨HXD.out, HHD.out.box, HTD.out, HHD.out.m1⟩) (fun hHeld => ?_)
              refine RegD.wpAnyD_take 0 (oi := ?oi0x175) (v := .pointer (some ⟨gx, 0, none⟩)) ?hi0x175 ?hB0x175 ?hQ0x175 ?hy0x175 hHeld ?rest0x175
              case hi0x175 => rfl
              case hB0x175 => kernel_rfl
              case hQ0x175 => exact fun _ _ _ h => h
              case hy0x175 => exact .inl ⟨by rfl, fun W hW => by
                go_simp⟩
              simp only [Act.put, List.setIfInBounds_toArray, List.set_cons_zero, List.set_cons_succ]
              refine RegD.wpAnyD_take 1 (oi := ?oi1x176) (v := .int .i64 a) ?hi1x176 ?hB1x176 ?hQ1x176 ?hy1x176 hHeld ?rest1x176
              case hi1x176 => rfl
              case hB1x176 => kernel_rfl
              case hQ1x176 => exact fun _ _ _ h => h
              case hy1x176 => exact .inl ⟨by rfl, fun W hW => by
                have a0 := hW.1.c0
                go_simp⟩
              simp only [Act.put, List.setIfInBounds_toArray, List.set_cons_zero, List.set_cons_succ]
              refine RegD.wpAnyD_take 2 (oi := ?oi2x177) (v := .bool true) ?hi2x177 ?hB2x177 ?hQ2x177 ?hy2x177 hHeld ?rest2x177
              case hi2x177 => rfl
              case hB2x177 => kernel_rfl
              case hQ2x177 => exact fun _ _ _ h => h
              case hy2x177 => exact .inl ⟨by rfl, fun W hW => by
                go_simp⟩
              simp only [Act.put, List.setIfInBounds_toArray, List.set_cons_zero, List.set_cons_succ]
              refine RegD.wpAnyD_take 3 (oi := ?oi3x178) (v := .bool true) ?hi3x178 ?hB3x178 ?hQ3x178 ?hy3x178 hHeld ?rest3x178
              case hi3x178 => rfl
              case hB3x178 => kernel_rfl
              case hQ3x178 => exact fun _ _ _ h => h
              case hy3x178 => exact .inl ⟨by rfl, fun W hW => by
                go_simp⟩
              simp only [Act.put, List.setIfInBounds_toArray, List.set_cons_zero, List.set_cons_succ]
              refine RegD.wpAnyD_take 4 (oi := ?oi4x179) (v := .pointer (some ⟨gx, 0, none⟩)) ?hi4x179 ?hB4x179 ?hQ4x179 ?hy4x179 hHeld ?rest4x179
              case hi4x179 => rfl
              case hB4x179 => kernel_rfl
              case hQ4x179 => exact fun _ _ _ h => h
              case hy4x179 => exact .inl ⟨by rfl, fun W hW => by
                go_simp⟩
              simp only [Act.put, List.setIfInBounds_toArray, List.set_cons_zero, List.set_cons_succ]
              refine RegD.wpAnyD_take 5 (oi := ?oi5x180) (v := .int .i64 a) ?hi5x180 ?hB5x180 ?hQ5x180 ?hy5x180 hHeld ?rest5x180
              case hi5x180 => rfl
              case hB5x180 => kernel_rfl
              case hQ5x180 => exact fun _ _ _ h => h
              case hy5x180 => exact .inl ⟨by rfl, fun W hW => by
                have a0 := hW.1.c0
                go_simp⟩
              simp only [Act.put, List.setIfInBounds_toArray, List.set_cons_zero, List.set_cons_succ]
              refine RegD.wpAnyD_take 6 (oi := ?oi6x181) (v := .bool false) ?hi6x181 ?hB6x181 ?hQ6x181 ?hy6x181 hHeld ?rest6x181
              case hi6x181 => rfl
              case hB6x181 => kernel_rfl
              case hQ6x181 => exact fun _ _ _ h => h
              case hy6x181 => exact .inl ⟨by rfl, fun W hW => by
                go_simp⟩
              simp only [Act.put, List.setIfInBounds_toArray, List.set_cons_zero, List.set_cons_succ]
              refine RegD.wpAnyD_take 7 (oi := ?oi7x182) (v := .bool false) ?hi7x182 ?hB7x182 ?hQ7x182 ?hy7x182 hHeld ?rest7x182
              case hi7x182 => rfl
              case hB7x182 => kernel_rfl
              case hQ7x182 => exact fun _ _ _ h => h
              case hy7x182 => exact .inl ⟨by rfl, fun W hW => by
                go_simp⟩
              simp only [Act.put, List.setIfInBounds_toArray, List.set_cons_zero, List.set_cons_succ]
              refine RegD.wpAnyD_take 8 (oi := ?oi8x183) (v := .bool false) ?hi8x183 ?hB8x183 ?hQ8x183 ?hy8x183 hHeld ?rest8x183
              case hi8x183 => rfl
              case hB8x183 => kernel_rfl
              case hQ8x183 => exact fun _ _ _ h => h
              case hy8x183 => exact .inl ⟨by rfl, fun W hW => by
                go_simp⟩
              simp only [Act.put, List.setIfInBounds_toArray, List.set_cons_zero, List.set_cons_succ]
              refine RegD.wpAnyD_take 9 (oi := ?oi9x184) (v := undef) ?hi9x184 ?hB9x184 ?hQ9x184 ?hy9x184 hHeld ?rest9x184
              case hi9x184 => rfl
              case hB9x184 => kernel_rfl
              case hQ9x184 => exact fun _ _ _ h => h
              case hy9x184 => exact .inr ⟨by rfl, rfl⟩
              simp only [Act.put, List.setIfInBounds_toArray, List.set_cons_zero, List.set_cons_succ]
              refine RegD.wpAnyD_take 10 (oi := ?oi10x185) (v := undef) ?hi10x185 ?hB10x185 ?hQ10x185 ?hy10x185 hHeld ?rest10x185
              case hi10x185 => rfl
              case hB10x185 => kernel_rfl
              case hQ10x185 => exact fun _ _ _ h => h
              case hy10x185 => exact .inr ⟨by rfl, rfl⟩
              simp only [Act.put, List.setIfInBounds_toArray, List.set_cons_zero, List.set_cons_succ]
              refine RegD.wpAnyD_take 11 (oi := ?oi11x186) (v := .bool false) ?hi11x186 ?hB11x186 ?hQ11x186 ?hy11x186 hHeld ?rest11x186
              case hi11x186 => rfl
              case hB11x186 => kernel_rfl
              case hQ11x186 => exact fun _ _ _ h => h
              case hy11x186 => exact .inl ⟨by rfl, fun W hW => by
                go_simp⟩
              simp only [Act.put, List.setIfInBounds_toArray, List.set_cons_zero, List.set_cons_succ]
              refine RegD.wpAnyD_take 12 (oi := ?oi12x187) (v := .bool false) ?hi12x187 ?hB12x187 ?hQ12x187 ?hy12x187 hHeld ?rest12x187
              case hi12x187 => rfl
              case hB12x187 => kernel_rfl
              case hQ12x187 => exact fun _ _ _ h => h
              case hy12x187 => exact .inl ⟨by rfl, fun W hW => by
                go_simp⟩
              simp only [Act.put, List.setIfInBounds_toArray, List.set_cons_zero, List.set_cons_succ]
              refine RegD.wpAnyD_take 13 (oi := ?oi13x188) (v := undef) ?hi13x188 ?hB13x188 ?hQ13x188 ?hy13x188 hHeld ?rest13x188
              case hi13x188 => rfl
              case hB13x188 => kernel_rfl
              case hQ13x188 => exact fun _ _ _ h => h
              case hy13x188 => exact .inr ⟨by rfl, rfl⟩
              simp only [Act.put, List.setIfInBounds_toArray, List.set_cons_zero, List.set_cons_succ]
              refine RegD.wpAnyD_take 14 (oi := ?oi14x189) (v := undef) ?hi14x189 ?hB14x189 ?hQ14x189 ?hy14x189 hHeld ?rest14x189
              case hi14x189 => rfl
              case hB14x189 => kernel_rfl
              case hQ14x189 => exact fun _ _ _ h => h
              case hy14x189 => exact .inr ⟨by rfl, rfl⟩
              simp only [Act.put, List.setIfInBounds_toArray, List.set_cons_zero, List.set_cons_succ]
              refine RegD.wpAnyD_take 15 (oi := ?oi15x190) (v := undef) ?hi15x190 ?hB15x190 ?hQ15x190 ?hy15x190 hHeld ?rest15x190
              case hi15x190 => rfl
              case hB15x190 => kernel_rfl
              case hQ15x190 => exact fun _ _ _ h => h
              case hy15x190 => exact .inr ⟨by rfl, rfl⟩
              simp only [Act.put, List.setIfInBounds_toArray, List.set_cons_zero, List.set_cons_succ]
              refine RegD.wpAnyD_take 16 (oi := ?oi16x191) (v := undef) ?hi16x191 ?hB16x191 ?hQ16x191 ?hy16x191 hHeld ?rest16x191
              case hi16x191 => rfl
              case hB16x191 => kernel_rfl
              case hQ16x191 => exact fun _ _ _ h => h
              case hy16x191 => exact .inr ⟨by rfl, rfl⟩
              simp only [Act.put, List.setIfInBounds_toArray, List.set_cons_zero, List.set_cons_succ]
              refine RegD.wpAnyD_take 17 (oi := ?oi17x192) (v := undef) ?hi17x192 ?hB17x192 ?hQ17x192 ?hy17x192 hHeld ?rest17x192
              case hi17x192 => rfl
              case hB17x192 => kernel_rfl
              case hQ17x192 => exact fun _ _ _ h => h
              case hy17x192 => exact .inr ⟨by rfl, rfl⟩
              simp only [Act.put, List.setIfInBounds_toArray, List.set_cons_zero, List.set_cons_succ]
              refine RegD.wpAnyD_take 18 (oi := ?oi18x193) (v := undef) ?hi18x193 ?hB18x193 ?hQ18x193 ?hy18x193 hHeld ?rest18x193
              case hi18x193 => rfl
              case hB18x193 => kernel_rfl
              case hQ18x193 => exact fun _ _ _ h => h
              case hy18x193 => exact .inr ⟨by rfl, rfl⟩
              simp only [Act.put, List.setIfInBounds_toArray, List.set_cons_zero, List.set_cons_succ]
              refine RegD.wpAnyD_take 19 (oi := ?oi19x194) (v := undef) ?hi19x194 ?hB19x194 ?hQ19x194 ?hy19x194 hHeld ?rest19x194
              case hi19x194 => rfl
              case hB19x194 => kernel_rfl
              case hQ19x194 => exact fun _ _ _ h => h
              case hy19x194 => exact .inr ⟨by rfl, rfl⟩
              simp only [Act.put, List.setIfInBounds_toArray, List.set_cons_zero, List.set_cons_succ]
              clear hHeld
              refine RegD.wpAnyD_late 20 (o := ?o20x195) ?ho20x195 ?hr20x195 ?hd20x195 ?h20x195
              case ho20x195 => rfl
              case hr20x195 => kernel_rfl
              case hd20x195 => kernel_rfl
              intro K hK
              go_simp
              refine hK.out _ _ ?_
              clear hK K
              refine RegD.wpAnyD_done (by kernel_rfl) ?_ _
              go_wp2_with fail
              go_meet
              case rel => exact ⟨rfl, HHD⟩
          · skip
            refine RegD.wp_region_D (fun W => XB W gx a ti m ∧ HAt W gh gv (.slice bt toks.length ct) b1 b2 b3 ∧ W.cell? ⟨gt, 1, none⟩ = some (.int .i64 tf') ∧ HasMap litI Tryz.prog 3 4 W b1 (n + 1) S') 20 (by kernel_rfl) (⟨HXD.out, HHD.out.box, HTD.out, HHD.out.m1⟩) (fun hHeld => ?_)
            refine RegD.wpAnyD_take 0 (oi := ?oi0x199) (v := .pointer (some ⟨gx, 0, none⟩)) ?hi0x199 ?hB0x199 ?hQ0x199 ?hy0x199 hHeld ?rest0x199
            case hi0x199 => rfl
            case hB0x199 => kernel_rfl
            case hQ0x199 => exact fun _ _ _ h => h
            case hy0x199 => exact .inl ⟨by rfl, fun W hW => by
              go_simp⟩
            simp only [Act.put, List.setIfInBounds_toArray, List.set_cons_zero, List.set_cons_succ]
            refine RegD.wpAnyD_take 1 (oi := ?oi1x200) (v := .int .i64 a) ?hi1x200 ?hB1x200 ?hQ1x200 ?hy1x200 hHeld ?rest1x200
            case hi1x200 => rfl
            case hB1x200 => kernel_rfl
            case hQ1x200 => exact fun _ _ _ h => h
            case hy1x200 => exact .inl ⟨by rfl, fun W hW => by
              have a0 := hW.1.c0
              go_simp⟩
            simp only [Act.put, List.setIfInBounds_toArray, List.set_cons_zero, List.set_cons_succ]
            refine RegD.wpAnyD_take 2 (oi := ?oi2x201) (v := .bool false) ?hi2x201 ?hB2x201 ?hQ2x201 ?hy2x201 hHeld ?rest2x201
            case hi2x201 => rfl
            case hB2x201 => kernel_rfl
            case hQ2x201 => exact fun _ _ _ h => h
            case hy2x201 => exact .inl ⟨by rfl, fun W hW => by
              go_simp⟩
            simp only [Act.put, List.setIfInBounds_toArray, List.set_cons_zero, List.set_cons_succ]
            refine RegD.wpAnyD_take 3 (oi := ?oi3x202) (v := .bool false) ?hi3x202 ?hB3x202 ?hQ3x202 ?hy3x202 hHeld ?rest3x202
            case hi3x202 => rfl
            case hB3x202 => kernel_rfl
            case hQ3x202 => exact fun _ _ _ h => h
            case hy3x202 => exact .inl ⟨by rfl, fun W hW => by
              go_simp⟩
            simp only [Act.put, List.setIfInBounds_toArray, List.set_cons_zero, List.set_cons_succ]
            refine RegD.wpAnyD_take 4 (oi := ?oi4x203) (v := undef) ?hi4x203 ?hB4x203 ?hQ4x203 ?hy4x203 hHeld ?rest4x203
            case hi4x203 => rfl
            case hB4x203 => kernel_rfl
            case hQ4x203 => exact fun _ _ _ h => h
            case hy4x203 => exact .inr ⟨by rfl, rfl⟩
            simp only [Act.put, List.setIfInBounds_toArray, List.set_cons_zero, List.set_cons_succ]
            refine RegD.wpAnyD_take 5 (oi := ?oi5x204) (v := undef) ?hi5x204 ?hB5x204 ?hQ5x204 ?hy5x204 hHeld ?rest5x204
            case hi5x204 => rfl
            case hB5x204 => kernel_rfl
            case hQ5x204 => exact fun _ _ _ h => h
            case hy5x204 => exact .inr ⟨by rfl, rfl⟩
            simp only [Act.put, List.setIfInBounds_toArray, List.set_cons_zero, List.set_cons_succ]
            refine RegD.wpAnyD_take 6 (oi := ?oi6x205) (v := undef) ?hi6x205 ?hB6x205 ?hQ6x205 ?hy6x205 hHeld ?rest6x205
            case hi6x205 => rfl
            case hB6x205 => kernel_rfl
            case hQ6x205 => exact fun _ _ _ h => h
            case hy6x205 => exact .inr ⟨by rfl, rfl⟩
            simp only [Act.put, List.setIfInBounds_toArray, List.set_cons_zero, List.set_cons_succ]
            refine RegD.wpAnyD_take 7 (oi := ?oi7x206) (v := .bool false) ?hi7x206 ?hB7x206 ?hQ7x206 ?hy7x206 hHeld ?rest7x206
            case hi7x206 => rfl
            case hB7x206 => kernel_rfl
            case hQ7x206 => exact fun _ _ _ h => h
            case hy7x206 => exact .inl ⟨by rfl, fun W hW => by
              go_simp⟩
            simp only [Act.put, List.setIfInBounds_toArray, List.set_cons_zero, List.set_cons_succ]
            refine RegD.wpAnyD_take 8 (oi := ?oi8x207) (v := .bool false) ?hi8x207 ?hB8x207 ?hQ8x207 ?hy8x207 hHeld ?rest8x207
            case hi8x207 => rfl
            case hB8x207 => kernel_rfl
            case hQ8x207 => exact fun _ _ _ h => h
            case hy8x207 => exact .inl ⟨by rfl, fun W hW => by
              go_simp⟩
            simp only [Act.put, List.setIfInBounds_toArray, List.set_cons_zero, List.set_cons_succ]
            refine RegD.wpAnyD_take 9 (oi := ?oi9x208) (v := undef) ?hi9x208 ?hB9x208 ?hQ9x208 ?hy9x208 hHeld ?rest9x208
            case hi9x208 => rfl
            case hB9x208 => kernel_rfl
            case hQ9x208 => exact fun _ _ _ h => h
            case hy9x208 => exact .inr ⟨by rfl, rfl⟩
            simp only [Act.put, List.setIfInBounds_toArray, List.set_cons_zero, List.set_cons_succ]
            refine RegD.wpAnyD_take 10 (oi := ?oi10x209) (v := undef) ?hi10x209 ?hB10x209 ?hQ10x209 ?hy10x209 hHeld ?rest10x209
            case hi10x209 => rfl
            case hB10x209 => kernel_rfl
            case hQ10x209 => exact fun _ _ _ h => h
            case hy10x209 => exact .inr ⟨by rfl, rfl⟩
            simp only [Act.put, List.setIfInBounds_toArray, List.set_cons_zero, List.set_cons_succ]
            refine RegD.wpAnyD_take 11 (oi := ?oi11x210) (v := .bool false) ?hi11x210 ?hB11x210 ?hQ11x210 ?hy11x210 hHeld ?rest11x210
            case hi11x210 => rfl
            case hB11x210 => kernel_rfl
            case hQ11x210 => exact fun _ _ _ h => h
            case hy11x210 => exact .inl ⟨by rfl, fun W hW => by
              go_simp⟩
            simp only [Act.put, List.setIfInBounds_toArray, List.set_cons_zero, List.set_cons_succ]
            refine RegD.wpAnyD_take 12 (oi := ?oi12x211) (v := .bool false) ?hi12x211 ?hB12x211 ?hQ12x211 ?hy12x211 hHeld ?rest12x211
            case hi12x211 => rfl
            case hB12x211 => kernel_rfl
            case hQ12x211 => exact fun _ _ _ h => h
            case hy12x211 => exact .inl ⟨by rfl, fun W hW => by
              go_simp⟩
            simp only [Act.put, List.setIfInBounds_toArray, List.set_cons_zero, List.set_cons_succ]
            refine RegD.wpAnyD_take 13 (oi := ?oi13x212) (v := undef) ?hi13x212 ?hB13x212 ?hQ13x212 ?hy13x212 hHeld ?rest13x212
            case hi13x212 => rfl
            case hB13x212 => kernel_rfl
            case hQ13x212 => exact fun _ _ _ h => h
            case hy13x212 => exact .inr ⟨by rfl, rfl⟩
            simp only [Act.put, List.setIfInBounds_toArray, List.set_cons_zero, List.set_cons_succ]
            refine RegD.wpAnyD_take 14 (oi := ?oi14x213) (v := undef) ?hi14x213 ?hB14x213 ?hQ14x213 ?hy14x213 hHeld ?rest14x213
            case hi14x213 => rfl
            case hB14x213 => kernel_rfl
            case hQ14x213 => exact fun _ _ _ h => h
            case hy14x213 => exact .inr ⟨by rfl, rfl⟩
            simp only [Act.put, List.setIfInBounds_toArray, List.set_cons_zero, List.set_cons_succ]
            refine RegD.wpAnyD_take 15 (oi := ?oi15x214) (v := undef) ?hi15x214 ?hB15x214 ?hQ15x214 ?hy15x214 hHeld ?rest15x214
            case hi15x214 => rfl
            case hB15x214 => kernel_rfl
            case hQ15x214 => exact fun _ _ _ h => h
            case hy15x214 => exact .inr ⟨by rfl, rfl⟩
            simp only [Act.put, List.setIfInBounds_toArray, List.set_cons_zero, List.set_cons_succ]
            refine RegD.wpAnyD_take 16 (oi := ?oi16x215) (v := undef) ?hi16x215 ?hB16x215 ?hQ16x215 ?hy16x215 hHeld ?rest16x215
            case hi16x215 => rfl
            case hB16x215 => kernel_rfl
            case hQ16x215 => exact fun _ _ _ h => h
            case hy16x215 => exact .inr ⟨by rfl, rfl⟩
            simp only [Act.put, List.setIfInBounds_toArray, List.set_cons_zero, List.set_cons_succ]
            refine RegD.wpAnyD_take 17 (oi := ?oi17x216) (v := undef) ?hi17x216 ?hB17x216 ?hQ17x216 ?hy17x216 hHeld ?rest17x216
            case hi17x216 => rfl
            case hB17x216 => kernel_rfl
            case hQ17x216 => exact fun _ _ _ h => h
            case hy17x216 => exact .inr ⟨by rfl, rfl⟩
            simp only [Act.put, List.setIfInBounds_toArray, List.set_cons_zero, List.set_cons_succ]
            refine RegD.wpAnyD_take 18 (oi := ?oi18x217) (v := undef) ?hi18x217 ?hB18x217 ?hQ18x217 ?hy18x217 hHeld ?rest18x217
            case hi18x217 => rfl
            case hB18x217 => kernel_rfl
            case hQ18x217 => exact fun _ _ _ h => h
            case hy18x217 => exact .inr ⟨by rfl, rfl⟩
            simp only [Act.put, List.setIfInBounds_toArray, List.set_cons_zero, List.set_cons_succ]
            refine RegD.wpAnyD_take 19 (oi := ?oi19x218) (v := undef) ?hi19x218 ?hB19x218 ?hQ19x218 ?hy19x218 hHeld ?rest19x218
            case hi19x218 => rfl
            case hB19x218 => kernel_rfl
            case hQ19x218 => exact fun _ _ _ h => h
            case hy19x218 => exact .inr ⟨by rfl, rfl⟩
            simp only [Act.put, List.setIfInBounds_toArray, List.set_cons_zero, List.set_cons_succ]
            clear hHeld
            refine RegD.wpAnyD_late 20 (o := ?o20x219) ?ho20x219 ?hr20x219 ?hd20x219 ?h20x219
            case ho20x219 => rfl
            case hr20x219 => kernel_rfl
            case hd20x219 => kernel_rfl
            intro K hK
            go_simp
            refine hK.out _ _ ?_
            clear hK K
            refine RegD.wpAnyD_done (by kernel_rfl) ?_ _
            go_wp2_with fail
            go_meet
            case rel => exact ⟨rfl, HHD⟩
        case rest =>
          obtain ⟨rfl, HH9⟩ := hcut
          clear HXD HTD HHD HLB HST HX8 HT8
          generalize wc = wd at *
          obtain ⟨bx, hbx⟩ : ∃ bx : Bool, x.toList.isEmpty = bx := ⟨_, rfl⟩
          go_upto_if 186 with fail
          clear hbx
          go_cut [] from 186 to 196 (fun wx => ∃ (vt' : Value) (toks' : List ByteArray), Hid (Held w0 (n + 2) c (N + 22) gh gv gs gd b1 b2 b3 r p' v' vt' toks' S' F G' wx))
          case first =>
            cases bx with
            | true =>
              go_wp2_with fail
              go_meet
              case rel => exact ⟨_, _, HH9.out.mono (by omega) (Nat.le_refl _) (Nat.le_refl _)⟩
            | false =>
              have k1 := HH9.out.box.c1
              have hal : Below wd.heap.size wd (wd.alloc (.cells #[.string x] 9)) := (Below.refl _ _).alloc (Nat.le_refl _) _
              have HHA : Hid _ := HH9.out.on hal
              clear hal
              obtain ⟨i0, hi, hz0, hz1, hz2⟩ := info_strS
              have HLT : Hid (gv + 1 ≤ (wd.alloc (.cells #[.string x] 9)).heap.size) := HHA.out.sv.box.lt
              have hlx : toks.length ≤ 1000000 := by have h1 := HHA.out.tn; have h2 := HN.out; omega
              go_wp2_with (at_builtin; refine wpList_append_wordsK _ rfl _ _ 66 rfl 9 i0 Tryz.underlying66 hi hz0 hz1 hz2 (gv + 1) _ toks rfl HHA.out.toks HLT.out ⟨wd.heap.size, 0, none⟩ 1 x rfl ((World.cell?_alloc_at _ _ _ _ rfl).trans rfl) hlx ?_)
              intro vn wn hwn hsn hkn hnn han
              have hkn2 : ∀ l : List Nat, (∀ g o n' c', (Value.slice bt toks.length ct) = .slice (some ⟨g, o, none⟩) n' c' → g ∈ l) → Keep l (wd.alloc (.cells #[.string x] 9)) wn := fun l hl => hkn l (fun g o e => hl g o _ _ (by rw [e]))
              have HBX : Hid _ := HHA.out.noteBox hkn2
              have HNT : Hid _ := HHA.out.note HXS.out hwn hkn2 (fun b hb => hnn b (by simpa using hb)) (fun y h1 h2 => han y h1 (fun b hb => h2 b (by simpa using hb)))
              clear hwn hsn hkn hkn2 hnn han hi hz0 hz1 hz2 hlx k1
              obtain ⟨bn, cn, rfl⟩ := HNT.out.toks.slice
              have e1 : (toks ++ [x]).length = toks.length + 1 := by simp
              rw [e1] at HNT
              clear e1
              have m1 := HBX.out.c1
              have m2 := HBX.out.fz
              go_wp2_with fail
              go_meet
              case rel => exact ⟨_, _, HNT⟩
          case rest =>
            obtain ⟨vt', toks', HHE⟩ := hcut
            generalize wc = we at *
            go_wp2_with fail
            refine (narrows_is w0 (n + 2) c (N + 22) gh gv gs gd b1 b2 b3 r p' v' vt' toks' S' F G' Fn p.st _ HHE.out ⟨HQ.out.fn, HQ.out.scp, HE8.out, HQ.out.len⟩ (by have := HN.out; omega)).mono ?_
            rintro e9 w9 ⟨rfl, F', Fn', hh, hs⟩
            have HHF : Hid _ := hh
            have HSF : Hid _ := hs
            clear hh hs
            go_wp2_with fail
            go_ret
            exact ⟨rfl, p', v', vt', toks', S', F', G', Fn', HHF.out, HSF.out⟩
    · have e0 : (a == 0) = false := by simp; omega
      have e1 : (a == 1) = false := by simp; omega
      have e2 : (a == 2) = false := by simp; omega
      have e3 : (a == 3) = false := by simp; omega
      have e4 : (a == 4) = false := by simp; omega
      have e5 : (a == 5) = false := by simp; omega
      have e6 : (a == 6) = false := by simp; omega
      clear hd
      go_wp2_with fail
      go_ret
      exact ⟨rfl, p, v, _, toks, S, F, G, Fn, HH4.out.mono (by omega) (by omega) (by omega), HQ.out⟩
end Go.Proofs.YtlailakofhenkabGreatDoor
