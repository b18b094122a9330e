/-
  Own texts put together: SvP11.
-/
import Derived.Test.YtlailakofhenkabGreatDoorB27
namespace Go.Proofs.YtlailakofhenkabGreatDoor
open Go Go.RowKit Tok Sc Ev
theorem may_mint {s : St} {r : Rul} {f : Fam} (hf : mayF f) (hg : Ev.Good s) (hr : RulOk r) : Tok.may ⟨2, f.id, f.gen, laterI s.clock r.access⟩ := ⟨.inr ⟨rfl, later_ok hg.clock hr.access⟩, hf.1.1, hf.1.2.1⟩
set_option maxRecDepth 100000 in
set_option maxHeartbeats 8000000 in
theorem mint_is (N : Nat) (w : World) (gv gs gd : Nat) (r : Rul) (p : Pub) (v : Value) (text : ByteArray) (t : T) (n : Nat) (h : SvIs N w gv gs gd r p v) (ht : text.size ≤ 5000) (hto : Tok.Out (tag r.key) text.data.toList t n) :
    Calls Tryz.prog 31 #[.pointer (some ⟨gv, 0, none⟩), .string text] w fun x w' => x = .returned (.tuple #[.string (mintM (txtB r) r p t n).1, errQ (mintM (txtB r) r p t n).2]) ∧ Below w.heap.size w w' := by
  have HS : Hid (SvIs N w gv gs gd r p v) := h
  have hlk := look_is N w gv gs gd r p v text 1 t n (lookM r p.st 1 t n) h ht hto rfl
  have HGD : Hid (Ev.Good p.st) := h.sp.ok.good
  have HFM : Hid (lookM r p.st 1 t n = 0 → mayF (famM p.st t)) := fun he => fam_may h.sp.ok.good (look_fam (look_ok he).1).2.2.1
  clear h hto ht
  unfold mintM
  generalize lookM r p.st 1 t n = e at *
  generalize famM p.st t = f at *
  cases e with
  | succ e =>
    rw [if_neg (by omega), if_neg (by omega)] at hlk
    rw [if_pos (by omega)]
    unfold tokV famV famCs zero zeroF at hlk
    simp only at hlk
    go_enter Tryz.func31, Tryz.ntmps31
    go_wp2_with fail
    refine hlk.mono ?_
    rintro e2 w2 ⟨rfl, hb2⟩
    have HB2 : Hid (Below w.heap.size w w2) := hb2
    rw [errQ_succ]
    clear hlk hb2
    go_wp2_with fail
    go_ret2
    refine ⟨rfl, ?_⟩
    repeat (first | exact HB2.out | refine Below.alloc ?_ (by have := HB2.out.size; simp; try omega) _)
  | zero =>
    rw [if_pos rfl, if_pos rfl] at hlk
    rw [if_neg (by omega)]
    have HF : Hid (mayF f) := HFM.out (by trivial)
    have HWT : Hid (∀ W : World, SvIs N W gv gs gd r p v → Calls Tryz.prog 81 #[.int .i64 r.key, .agg #[.int .i64 2, .int .i64 f.id, .int .i64 f.gen, .int .i64 (laterI p.st.clock r.access)]] W fun e w' => e = .returned (.tuple #[.string (txtB r ⟨2, f.id, f.gen, laterI p.st.clock r.access⟩), .nilIface]) ∧ Below W.heap.size W w') := fun W hW => writeP_yes r.key ⟨2, f.id, f.gen, laterI p.st.clock r.access⟩ W (may_mint HF.out HGD.out hW.rul) hW.libs.base
    obtain ⟨tk, tf, tg, te⟩ := t
    obtain ⟨f1, f2, f3, f4, f5, f6, f7, f8, f9⟩ := f
    simp only at HWT ⊢
    unfold tokV famV famCs at hlk
    simp only at hlk
    have fin : ∀ (w1 : World) (hb2 : Below w.heap.size w w1), Below w.heap.size w ((w1.alloc (.cells #[.int .i64 tk, .int .i64 tf, .int .i64 tg, .int .i64 te] 142)).alloc (.cells #[.int .i64 f1, .string f2, .string f3, .string f4, .int .i64 f5, .int .i64 f6, .int .i64 f7, .string f8, .bool f9] 40)) ∧ SvIs N ((w1.alloc (.cells #[.int .i64 tk, .int .i64 tf, .int .i64 tg, .int .i64 te] 142)).alloc (.cells #[.int .i64 f1, .string f2, .string f3, .string f4, .int .i64 f5, .int .i64 f6, .int .i64 f7, .string f8, .bool f9] 40)) gv gs gd r p v ∧ TB ((w1.alloc (.cells #[.int .i64 tk, .int .i64 tf, .int .i64 tg, .int .i64 te] 142)).alloc (.cells #[.int .i64 f1, .string f2, .string f3, .string f4, .int .i64 f5, .int .i64 f6, .int .i64 f7, .string f8, .bool f9] 40)) w1.heap.size ⟨tk, tf, tg, te⟩ ∧ FB ((w1.alloc (.cells #[.int .i64 tk, .int .i64 tf, .int .i64 tg, .int .i64 te] 142)).alloc (.cells #[.int .i64 f1, .string f2, .string f3, .string f4, .int .i64 f5, .int .i64 f6, .int .i64 f7, .string f8, .bool f9] 40)) (w1.heap.size + 1) ⟨f1, f2, f3, f4, f5, f6, f7, f8, f9⟩ := fun w1 hb2 => by
      have hb3 : Below w1.heap.size w1 ((w1.alloc (.cells #[.int .i64 tk, .int .i64 tf, .int .i64 tg, .int .i64 te] 142)).alloc (.cells #[.int .i64 f1, .string f2, .string f3, .string f4, .int .i64 f5, .int .i64 f6, .int .i64 f7, .string f8, .bool f9] 40)) := ((Below.refl _ _).alloc (Nat.le_refl _) _).alloc (by simp) _
      have hsz : (w1.alloc (.cells #[.int .i64 tk, .int .i64 tf, .int .i64 tg, .int .i64 te] 142)).heap.size = w1.heap.size + 1 := by simp
      exact ⟨hb2.trans (hb3.mono hb2.size), (HS.out.on hb2).on hb3, (TB.made w1 ⟨tk, tf, tg, te⟩ _).on ((Below.refl _ _).alloc (Nat.le_refl _) _), by rw [← hsz]; exact FB.made _ ⟨f1, f2, f3, f4, f5, f6, f7, f8, f9⟩ _⟩
    by_cases hg : tg < f5
    · rw [if_pos hg]
      go_enter Tryz.func31, Tryz.ntmps31
      go_wp2_with fail
      refine hlk.mono ?_
      rintro e2 w1 ⟨rfl, hb2⟩
      rw [show errQ 0 = .nilIface from rfl]
      have HX : Hid _ := fin w1 hb2
      clear hlk hb2 fin
      go_upto_region 4 with fail
      have t2 := HX.out.2.2.1.c2
      have z4 := HX.out.2.2.2.c4
      simp only at t2 z4
      have HB3 : Hid _ := HX.out.1
      clear HX HWT
      generalize hWW : ((w1.alloc (.cells #[.int .i64 tk, .int .i64 tf, .int .i64 tg, .int .i64 te] 142)).alloc (.cells #[.int .i64 f1, .string f2, .string f3, .string f4, .int .i64 f5, .int .i64 f6, .int .i64 f7, .string f8, .bool f9] 40)) = W3 at *
      clear hWW
      generalize w1.heap.size = gq at *
      go_wp2_with fail
      go_ret2
      exact ⟨rfl, HB3.out⟩
    · rw [if_neg hg]
      go_enter Tryz.func31, Tryz.ntmps31
      go_wp2_with fail
      refine hlk.mono ?_
      rintro e2 w1 ⟨rfl, hb2⟩
      rw [show errQ 0 = .nilIface from rfl]
      have HX : Hid _ := fin w1 hb2
      clear hlk hb2 fin
      go_upto_region 4 with fail
      have t2 := HX.out.2.2.1.c2
      have z4 := HX.out.2.2.2.c4
      simp only at t2 z4
      generalize hWW : ((w1.alloc (.cells #[.int .i64 tk, .int .i64 tf, .int .i64 tg, .int .i64 te] 142)).alloc (.cells #[.int .i64 f1, .string f2, .string f3, .string f4, .int .i64 f5, .int .i64 f6, .int .i64 f7, .string f8, .bool f9] 40)) = W3 at *
      clear hWW
      generalize w1.heap.size = gq at *
      go_upto_region 6 with fail
      have HB3 : Hid _ := HX.out.1
      clear t2 z4
      refine RegD.wp_region_D (fun W => FB W (gq + 1) ⟨f1, f2, f3, f4, f5, f6, f7, f8, f9⟩ ∧ SvIs N W gv gs gd r p v ∧ Below w.heap.size w W) 22 (by kernel_rfl) (⟨HX.out.2.2.2.on (Below.refl _ _).drew, HX.out.2.1.on (Below.refl _ _).drew, HX.out.1.drew⟩) (fun hHeld => ?_)
      refine RegD.wpAnyD_take 0 (oi := ?oi0x2) (v := .pointer (some ⟨gv, 0, none⟩)) ?hi0x2 ?hB0x2 ?hQ0x2 ?hy0x2 hHeld ?rest0x2
      case hi0x2 => rfl
      case hB0x2 => kernel_rfl
      case hQ0x2 => exact fun _ _ _ h => h
      case hy0x2 => exact .inl ⟨by rfl, fun W hW => by
        go_simp⟩
      simp only [Act.put, List.setIfInBounds_toArray, List.set_cons_zero, List.set_cons_succ]
      refine RegD.wpAnyD_take 1 (oi := ?oi1x3) (v := .pointer (some ⟨gv, 0, none⟩)) ?hi1x3 ?hB1x3 ?hQ1x3 ?hy1x3 hHeld ?rest1x3
      case hi1x3 => rfl
      case hB1x3 => kernel_rfl
      case hQ1x3 => exact fun _ _ _ h => h
      case hy1x3 => exact .inl ⟨by rfl, fun W hW => by
        go_simp⟩
      simp only [Act.put, List.setIfInBounds_toArray, List.set_cons_zero, List.set_cons_succ]
      refine RegD.wpAnyD_take 2 (oi := ?oi2x4) (v := .pointer (some ⟨gv, 1, none⟩)) ?hi2x4 ?hB2x4 ?hQ2x4 ?hy2x4 hHeld ?rest2x4
      case hi2x4 => rfl
      case hB2x4 => kernel_rfl
      case hQ2x4 => exact fun _ _ _ h => h
      case hy2x4 => exact .inl ⟨by rfl, fun W hW => by
        go_simp⟩
      simp only [Act.put, List.setIfInBounds_toArray, List.set_cons_zero, List.set_cons_succ]
      refine RegD.wpAnyD_take 3 (oi := ?oi3x5) (v := .pointer (some ⟨gv, 1, none⟩)) ?hi3x5 ?hB3x5 ?hQ3x5 ?hy3x5 hHeld ?rest3x5
      case hi3x5 => rfl
      case hB3x5 => kernel_rfl
      case hQ3x5 => exact fun _ _ _ h => h
      case hy3x5 => exact .inl ⟨by rfl, fun W hW => by
        go_simp⟩
      simp only [Act.put, List.setIfInBounds_toArray, List.set_cons_zero, List.set_cons_succ]
      refine RegD.wpAnyD_take 4 (oi := ?oi4x6) (v := .int .i64 r.key) ?hi4x6 ?hB4x6 ?hQ4x6 ?hy4x6 hHeld ?rest4x6
      case hi4x6 => rfl
      case hB4x6 => kernel_rfl
      case hQ4x6 => exact fun _ _ _ h => h
      case hy4x6 => exact .inl ⟨by rfl, fun W hW => by
        have a0 := hW.2.1.box.c1
        go_simp⟩
      simp only [Act.put, List.setIfInBounds_toArray, List.set_cons_zero, List.set_cons_succ]
      refine RegD.wpAnyD_take 5 (oi := ?oi5x7) (v := .pointer (some ⟨gq + 1, 0, none⟩)) ?hi5x7 ?hB5x7 ?hQ5x7 ?hy5x7 hHeld ?rest5x7
      case hi5x7 => rfl
      case hB5x7 => kernel_rfl
      case hQ5x7 => exact fun _ _ _ h => h
      case hy5x7 => exact .inl ⟨by rfl, fun W hW => by
        go_simp⟩
      simp only [Act.put, List.setIfInBounds_toArray, List.set_cons_zero, List.set_cons_succ]
      refine RegD.wpAnyD_take 6 (oi := ?oi6x8) (v := .int .i64 f1) ?hi6x8 ?hB6x8 ?hQ6x8 ?hy6x8 hHeld ?rest6x8
      case hi6x8 => rfl
      case hB6x8 => kernel_rfl
      case hQ6x8 => exact fun _ _ _ h => h
      case hy6x8 => exact .inl ⟨by rfl, fun W hW => by
        have a0 := hW.1.c0
        go_simp⟩
      simp only [Act.put, List.setIfInBounds_toArray, List.set_cons_zero, List.set_cons_succ]
      refine RegD.wpAnyD_take 7 (oi := ?oi7x9) (v := .pointer (some ⟨gq + 1, 4, none⟩)) ?hi7x9 ?hB7x9 ?hQ7x9 ?hy7x9 hHeld ?rest7x9
      case hi7x9 => rfl
      case hB7x9 => kernel_rfl
      case hQ7x9 => exact fun _ _ _ h => h
      case hy7x9 => exact .inl ⟨by rfl, fun W hW => by
        go_simp⟩
      simp only [Act.put, List.setIfInBounds_toArray, List.set_cons_zero, List.set_cons_succ]
      refine RegD.wpAnyD_take 8 (oi := ?oi8x10) (v := .int .i64 f5) ?hi8x10 ?hB8x10 ?hQ8x10 ?hy8x10 hHeld ?rest8x10
      case hi8x10 => rfl
      case hB8x10 => kernel_rfl
      case hQ8x10 => exact fun _ _ _ h => h
      case hy8x10 => exact .inl ⟨by rfl, fun W hW => by
        have a0 := hW.1.c4
        go_simp⟩
      simp only [Act.put, List.setIfInBounds_toArray, List.set_cons_zero, List.set_cons_succ]
      refine RegD.wpAnyD_take 9 (oi := ?oi9x11) (v := .pointer (some ⟨gv, 0, none⟩)) ?hi9x11 ?hB9x11 ?hQ9x11 ?hy9x11 hHeld ?rest9x11
      case hi9x11 => rfl
      case hB9x11 => kernel_rfl
      case hQ9x11 => exact fun _ _ _ h => h
      case hy9x11 => exact .inl ⟨by rfl, fun W hW => by
        go_simp⟩
      simp only [Act.put, List.setIfInBounds_toArray, List.set_cons_zero, List.set_cons_succ]
      refine RegD.wpAnyD_take 12 (oi := ?oi12x12) (v := .pointer (some ⟨gv, 0, none⟩)) ?hi12x12 ?hB12x12 ?hQ12x12 ?hy12x12 hHeld ?rest12x12
      case hi12x12 => rfl
      case hB12x12 => kernel_rfl
      case hQ12x12 => exact fun _ _ _ h => h
      case hy12x12 => exact .inl ⟨by rfl, fun W hW => by
        go_simp⟩
      simp only [Act.put, List.setIfInBounds_toArray, List.set_cons_zero, List.set_cons_succ]
      refine RegD.wpAnyD_take 13 (oi := ?oi13x13) (v := .pointer (some ⟨gv, 0, none⟩)) ?hi13x13 ?hB13x13 ?hQ13x13 ?hy13x13 hHeld ?rest13x13
      case hi13x13 => rfl
      case hB13x13 => kernel_rfl
      case hQ13x13 => exact fun _ _ _ h => h
      case hy13x13 => exact .inl ⟨by rfl, fun W hW => by
        go_simp⟩
      simp only [Act.put, List.setIfInBounds_toArray, List.set_cons_zero, List.set_cons_succ]
      refine RegD.wpAnyD_take 14 (oi := ?oi14x14) (v := .pointer (some ⟨gv, 1, none⟩)) ?hi14x14 ?hB14x14 ?hQ14x14 ?hy14x14 hHeld ?rest14x14
      case hi14x14 => rfl
      case hB14x14 => kernel_rfl
      case hQ14x14 => exact fun _ _ _ h => h
      case hy14x14 => exact .inl ⟨by rfl, fun W hW => by
        go_simp⟩
      simp only [Act.put, List.setIfInBounds_toArray, List.set_cons_zero, List.set_cons_succ]
      refine RegD.wpAnyD_take 15 (oi := ?oi15x15) (v := .pointer (some ⟨gv, 4, none⟩)) ?hi15x15 ?hB15x15 ?hQ15x15 ?hy15x15 hHeld ?rest15x15
      case hi15x15 => rfl
      case hB15x15 => kernel_rfl
      case hQ15x15 => exact fun _ _ _ h => h
      case hy15x15 => exact .inl ⟨by rfl, fun W hW => by
        go_simp⟩
      simp only [Act.put, List.setIfInBounds_toArray, List.set_cons_zero, List.set_cons_succ]
      refine RegD.wpAnyD_take 16 (oi := ?oi16x16) (v := .int .i64 r.access) ?hi16x16 ?hB16x16 ?hQ16x16 ?hy16x16 hHeld ?rest16x16
      case hi16x16 => rfl
      case hB16x16 => kernel_rfl
      case hQ16x16 => exact fun _ _ _ h => h
      case hy16x16 => exact .inl ⟨by rfl, fun W hW => by
        have a0 := hW.2.1.box.c4
        go_simp⟩
      simp only [Act.put, List.setIfInBounds_toArray, List.set_cons_zero, List.set_cons_succ]
      refine RegD.wpAnyD_one 10 (o := ?o10x17) ?ho10x17 ?hr10x17 ?h10x17
      case ho10x17 => rfl
      case hr10x17 => kernel_rfl
      intro K hK
      go_simp
      go_at_call 43
      refine (svState_is N _ gv gs gd r p v hHeld.2.1).mono ?_
      rintro e3 w3 ⟨v3, rfl, hf3, hb3⟩
      obtain ⟨b3, c3, rfl⟩ := RowsK.slice hf3
      unfold stV
      go_wp2_with fail
      refine hK.out _ _ (⟨hHeld.1.on hb3, hHeld.2.1.on hb3, hHeld.2.2.trans (hb3.mono hHeld.2.2.size)⟩) ?_
      clear hK hHeld
      intro hHeld
      clear K
      clear hf3 hb3
      have hfd : ∀ W : World, (Instr.field 36 (.agg #[.int .i64 p.st.clock, .int .i64 p.st.next, .slice b3 p.st.fams.length c3]) 0).run Tryz.prog W = .ok (.int .i64 p.st.clock) W := fun _ => by kernel_rfl
      refine RegD.wpAnyD_take 11 (oi := ?oi11x19) (v := .int .i64 p.st.clock) ?hi11x19 ?hB11x19 ?hQ11x19 ?hy11x19 hHeld ?rest11x19
      case hi11x19 => rfl
      case hB11x19 => kernel_rfl
      case hQ11x19 => exact fun _ _ _ h => h
      case hy11x19 => exact .inl ⟨by rfl, fun W hW => by
        go_simp⟩
      simp only [Act.put, List.setIfInBounds_toArray, List.set_cons_zero, List.set_cons_succ]
      clear hfd
      refine RegD.wpAnyD_one 17 (o := ?o17x20) ?ho17x20 ?hr17x20 ?h17x20
      case ho17x20 => rfl
      case hr17x20 => kernel_rfl
      intro K hK
      go_simp
      go_at_call 82
      refine (later_is _ _ HGD.out.clock hHeld.2.1.rul.access _).mono ?_
      rintro e4 w4 ⟨rfl, rfl⟩
      go_wp2_with fail
      refine hK.out _ _ (hHeld) ?_
      clear hK hHeld
      intro hHeld
      clear K
      refine RegD.wpAnyD_take 18 (oi := ?oi18x22) (v := .agg #[.int .i64 2, .int .i64 f1, .int .i64 f5, .int .i64 (laterI p.st.clock r.access)]) ?hi18x22 ?hB18x22 ?hQ18x22 ?hy18x22 hHeld ?rest18x22
      case hi18x22 => rfl
      case hB18x22 => kernel_rfl
      case hQ18x22 => exact fun _ _ _ h => h
      case hy18x22 => exact .inl ⟨by rfl, fun W hW => by
        go_simp⟩
      simp only [Act.put, List.setIfInBounds_toArray, List.set_cons_zero, List.set_cons_succ]
      refine RegD.wpAnyD_one 19 (o := ?o19x23) ?ho19x23 ?hr19x23 ?h19x23
      case ho19x23 => rfl
      case hr19x23 => kernel_rfl
      intro K hK
      go_simp
      go_at_call 81
      refine (HWT.out _ hHeld.2.1).mono ?_
      rintro e5 w5 ⟨rfl, hb5⟩
      go_wp2_with fail
      refine hK.out _ _ (⟨hHeld.1.on hb5, hHeld.2.1.on hb5, hHeld.2.2.trans (hb5.mono hHeld.2.2.size)⟩) ?_
      clear hK hHeld
      intro hHeld
      clear K
      clear hb5
      refine RegD.wpAnyD_take 20 (oi := ?oi20x25) (v := .string (txtB r ⟨2, f1, f5, laterI p.st.clock r.access⟩)) ?hi20x25 ?hB20x25 ?hQ20x25 ?hy20x25 hHeld ?rest20x25
      case hi20x25 => rfl
      case hB20x25 => kernel_rfl
      case hQ20x25 => exact fun _ _ _ h => h
      case hy20x25 => exact .inl ⟨by rfl, fun W hW => by
        go_simp⟩
      simp only [Act.put, List.setIfInBounds_toArray, List.set_cons_zero, List.set_cons_succ]
      refine RegD.wpAnyD_take 21 (oi := ?oi21x26) (v := .nilIface) ?hi21x26 ?hB21x26 ?hQ21x26 ?hy21x26 hHeld ?rest21x26
      case hi21x26 => rfl
      case hB21x26 => kernel_rfl
      case hQ21x26 => exact fun _ _ _ h => h
      case hy21x26 => exact .inl ⟨by rfl, fun W hW => by
        go_simp⟩
      simp only [Act.put, List.setIfInBounds_toArray, List.set_cons_zero, List.set_cons_succ]
      have HBB : Hid _ := hHeld.2.2
      clear hHeld
      refine RegD.wpAnyD_late 22 (o := ?o22x27) ?ho22x27 ?hr22x27 ?hd22x27 ?h22x27
      case ho22x27 => rfl
      case hr22x27 => kernel_rfl
      case hd22x27 => kernel_rfl
      intro K hK
      go_simp
      refine hK.out _ _ ?_
      clear hK K
      refine RegD.wpAnyD_late 23 (o := ?o23x29) ?ho23x29 ?hr23x29 ?hd23x29 ?h23x29
      case ho23x29 => rfl
      case hr23x29 => kernel_rfl
      case hd23x29 => kernel_rfl
      intro K hK
      go_simp
      refine hK.out _ _ ?_
      clear hK K
      refine RegD.wpAnyD_done (by kernel_rfl) ?_ _
      go_wp2_with fail
      go_ret2
      exact ⟨rfl, HBB.out⟩
theorem show_end {w w1 : World} {g : Nat} {f0 f : Fam} (hb : Below w.heap.size w w1) (h2 : FB w1 g f0) (hg : w.heap.size ≤ g) : Below w.heap.size w (w1.setCells g 0 (famCs f)) ∧ FB (w1.setCells g 0 (famCs f)) g f := ⟨hb.trans (below_setCellsW hg _ 0 _), h2.set⟩
set_option maxRecDepth 100000 in
set_option maxHeartbeats 8000000 in
theorem show_is (N : Nat) (w : World) (gv gs gd : Nat) (r : Rul) (p : Pub) (v : Value) (text : ByteArray) (t : T) (n : Nat) (h : SvIs N w gv gs gd r p v) (ht : text.size ≤ 5000) (hto : Tok.Out (tag r.key) text.data.toList t n) :
    Calls Tryz.prog 33 #[.pointer (some ⟨gv, 0, none⟩), .string text] w fun x w' => x = .returned (.tuple #[famV (showM r p t n).1, errQ (showM r p t n).2]) ∧ Below w.heap.size w w' := by
  have HB0 : Hid (Below w.heap.size w (w.alloc (.cells #[.int .i64 0, .string ⟨#[]⟩, .string ⟨#[]⟩, .string ⟨#[]⟩, .int .i64 0, .int .i64 0, .int .i64 0, .string ⟨#[]⟩, .bool false] 40))) := (Below.refl _ _).alloc (Nat.le_refl _) _
  have HF0 : Hid (FB (w.alloc (.cells #[.int .i64 0, .string ⟨#[]⟩, .string ⟨#[]⟩, .string ⟨#[]⟩, .int .i64 0, .int .i64 0, .int .i64 0, .string ⟨#[]⟩, .bool false] 40)) w.heap.size zeroF) := FB.made w zeroF _
  have HS : Hid (SvIs N (w.alloc (.cells #[.int .i64 0, .string ⟨#[]⟩, .string ⟨#[]⟩, .string ⟨#[]⟩, .int .i64 0, .int .i64 0, .int .i64 0, .string ⟨#[]⟩, .bool false] 40)) gv gs gd r p v) := h.on HB0.out
  have hlk := look_is N _ gv gs gd r p v text 2 t n (lookM r p.st 2 t n) HS.out ht hto rfl
  clear h hto ht
  unfold showM
  generalize lookM r p.st 2 t n = e at *
  generalize famM p.st t = f at *
  cases e with
  | succ e =>
    rw [if_neg (by omega), if_neg (by omega)] at hlk
    rw [if_pos (by omega)]
    unfold tokV famV famCs zero zeroF at hlk
    simp only at hlk
    go_enter Tryz.func33, Tryz.ntmps33
    go_wp2_with fail
    refine hlk.mono ?_
    rintro e2 w2 ⟨rfl, hb2⟩
    rw [errQ_succ]
    have HBE : Hid (Below w.heap.size w ((w2.alloc (.cells #[.int .i64 0, .int .i64 0, .int .i64 0, .int .i64 0] 142)).alloc (.cells #[.int .i64 0, .string ⟨#[]⟩, .string ⟨#[]⟩, .string ⟨#[]⟩, .int .i64 0, .int .i64 0, .int .i64 0, .string ⟨#[]⟩, .bool false] 40))) := ((HB0.out.trans (hb2.mono HB0.out.size)).alloc (Nat.le_trans HB0.out.size hb2.size) _).alloc (by have h1 := HB0.out.size; have h2 := hb2.size; simp at *; omega) _
    have HFE : Hid (FB ((w2.alloc (.cells #[.int .i64 0, .int .i64 0, .int .i64 0, .int .i64 0] 142)).alloc (.cells #[.int .i64 0, .string ⟨#[]⟩, .string ⟨#[]⟩, .string ⟨#[]⟩, .int .i64 0, .int .i64 0, .int .i64 0, .string ⟨#[]⟩, .bool false] 40)) w.heap.size zeroF) := (HF0.out.on hb2).on (((Below.refl _ _).alloc (Nat.le_refl _) _).alloc (by simp) _)
    have HEN : Hid _ := show_end (f := zeroF) HBE.out HFE.out (Nat.le_refl _)
    have z0 := HFE.out.c0; have z1 := HFE.out.c1; have z2 := HFE.out.c2; have z3 := HFE.out.c3; have z4 := HFE.out.c4; have z5 := HFE.out.c5; have z6 := HFE.out.c6; have z7 := HFE.out.c7; have z8 := HFE.out.c8; have zf := HFE.out.fz
    clear hlk hb2
    go_wp2_with fail
    generalize hWW : World.setCell _ ⟨w.heap.size, 8, none⟩ _ = WW
    have hW2 : ((w2.alloc (.cells #[.int .i64 0, .int .i64 0, .int .i64 0, .int .i64 0] 142)).alloc (.cells #[.int .i64 0, .string ⟨#[]⟩, .string ⟨#[]⟩, .string ⟨#[]⟩, .int .i64 0, .int .i64 0, .int .i64 0, .string ⟨#[]⟩, .bool false] 40)).setCells w.heap.size 0 (famCs zeroF) = WW := hWW
    have hbe := HEN.out.1
    have hfe := HEN.out.2
    rw [hW2] at hbe hfe
    have q0 := hfe.c0; have q1 := hfe.c1; have q2 := hfe.c2; have q3 := hfe.c3; have q4 := hfe.c4; have q5 := hfe.c5; have q6 := hfe.c6; have q7 := hfe.c7; have q8 := hfe.c8
    clear hW2 hWW HEN z0 z1 z2 z3 z4 z5 z6 z7 z8 zf hfe
    exact bodyPost_ret (v := .tuple #[.agg #[.int .i64 0, .string ⟨#[]⟩, .string ⟨#[]⟩, .string ⟨#[]⟩, .int .i64 0, .int .i64 0, .int .i64 0, .string ⟨#[]⟩, .bool false], .iface 47 (.int .i64 ((e + 1 : Nat) : Int))]) (by simp [results, Tryz.results33, go_sem, q0, q1, q2, q3, q4, q5, q6, q7, q8, zeroF]) rfl ⟨by simp [famV, famCs, zeroF, errQ_succ], hbe⟩
  | zero =>
    rw [if_pos rfl, if_pos rfl] at hlk
    rw [if_neg (by omega)]
    obtain ⟨tk, tf, tg, te⟩ := t
    obtain ⟨f1, f2, f3, f4, f5, f6, f7, f8, f9⟩ := f
    unfold tokV famV famCs at hlk
    simp only at hlk
    have fin : ∀ (w1 : World) (hb2 : Below (w.alloc (.cells #[.int .i64 0, .string ⟨#[]⟩, .string ⟨#[]⟩, .string ⟨#[]⟩, .int .i64 0, .int .i64 0, .int .i64 0, .string ⟨#[]⟩, .bool false] 40)).heap.size (w.alloc (.cells #[.int .i64 0, .string ⟨#[]⟩, .string ⟨#[]⟩, .string ⟨#[]⟩, .int .i64 0, .int .i64 0, .int .i64 0, .string ⟨#[]⟩, .bool false] 40)) w1), Below w.heap.size w ((w1.alloc (.cells #[.int .i64 tk, .int .i64 tf, .int .i64 tg, .int .i64 te] 142)).alloc (.cells #[.int .i64 f1, .string f2, .string f3, .string f4, .int .i64 f5, .int .i64 f6, .int .i64 f7, .string f8, .bool f9] 40)) ∧ SvIs N ((w1.alloc (.cells #[.int .i64 tk, .int .i64 tf, .int .i64 tg, .int .i64 te] 142)).alloc (.cells #[.int .i64 f1, .string f2, .string f3, .string f4, .int .i64 f5, .int .i64 f6, .int .i64 f7, .string f8, .bool f9] 40)) gv gs gd r p v ∧ TB ((w1.alloc (.cells #[.int .i64 tk, .int .i64 tf, .int .i64 tg, .int .i64 te] 142)).alloc (.cells #[.int .i64 f1, .string f2, .string f3, .string f4, .int .i64 f5, .int .i64 f6, .int .i64 f7, .string f8, .bool f9] 40)) w1.heap.size ⟨tk, tf, tg, te⟩ ∧ FB ((w1.alloc (.cells #[.int .i64 tk, .int .i64 tf, .int .i64 tg, .int .i64 te] 142)).alloc (.cells #[.int .i64 f1, .string f2, .string f3, .string f4, .int .i64 f5, .int .i64 f6, .int .i64 f7, .string f8, .bool f9] 40)) (w1.heap.size + 1) ⟨f1, f2, f3, f4, f5, f6, f7, f8, f9⟩ ∧ FB ((w1.alloc (.cells #[.int .i64 tk, .int .i64 tf, .int .i64 tg, .int .i64 te] 142)).alloc (.cells #[.int .i64 f1, .string f2, .string f3, .string f4, .int .i64 f5, .int .i64 f6, .int .i64 f7, .string f8, .bool f9] 40)) w.heap.size zeroF := fun w1 hb2 => by
      have hb3 : Below w1.heap.size w1 ((w1.alloc (.cells #[.int .i64 tk, .int .i64 tf, .int .i64 tg, .int .i64 te] 142)).alloc (.cells #[.int .i64 f1, .string f2, .string f3, .string f4, .int .i64 f5, .int .i64 f6, .int .i64 f7, .string f8, .bool f9] 40)) := ((Below.refl _ _).alloc (Nat.le_refl _) _).alloc (by simp) _
      have hsz : (w1.alloc (.cells #[.int .i64 tk, .int .i64 tf, .int .i64 tg, .int .i64 te] 142)).heap.size = w1.heap.size + 1 := by simp
      exact ⟨HB0.out.trans ((hb2.trans (hb3.mono hb2.size)).mono HB0.out.size), (HS.out.on hb2).on hb3, (TB.made w1 ⟨tk, tf, tg, te⟩ _).on ((Below.refl _ _).alloc (Nat.le_refl _) _), by rw [← hsz]; exact FB.made _ ⟨f1, f2, f3, f4, f5, f6, f7, f8, f9⟩ _, (HF0.out.on hb2).on hb3⟩
    have go : ∀ (b : Bool), b = decide (te < p.st.clock) → True := fun _ _ => trivial
    clear go
    by_cases hg : te < p.st.clock
    · rw [if_pos hg]
      go_enter Tryz.func33, Tryz.ntmps33
      go_wp2_with fail
      refine hlk.mono ?_
      rintro e2 w1 ⟨rfl, hb2⟩
      rw [show errQ 0 = .nilIface from rfl]
      have HX : Hid _ := fin w1 hb2
      clear hlk hb2 fin
      go_upto_region 4 with fail
      generalize hWW : ((w1.alloc (.cells #[.int .i64 tk, .int .i64 tf, .int .i64 tg, .int .i64 te] 142)).alloc (.cells #[.int .i64 f1, .string f2, .string f3, .string f4, .int .i64 f5, .int .i64 f6, .int .i64 f7, .string f8, .bool f9] 40)) = W3 at *
      clear hWW
      generalize w1.heap.size = gq at *
      refine RegD.wp_region_D (fun W => TB W gq ⟨tk, tf, tg, te⟩ ∧ SvIs N W gv gs gd r p v ∧ Below w.heap.size w W ∧ FB W w.heap.size zeroF) 5 (by kernel_rfl) (⟨HX.out.2.2.1.on (Below.refl _ _).drew, HX.out.2.1.on (Below.refl _ _).drew, HX.out.1.drew, HX.out.2.2.2.2.on (Below.refl _ _).drew⟩) (fun hHeld => ?_)
      refine RegD.wpAnyD_take 0 (oi := ?oi0x33) (v := .pointer (some ⟨gv, 0, none⟩)) ?hi0x33 ?hB0x33 ?hQ0x33 ?hy0x33 hHeld ?rest0x33
      case hi0x33 => rfl
      case hB0x33 => kernel_rfl
      case hQ0x33 => exact fun _ _ _ h => h
      case hy0x33 => exact .inl ⟨by rfl, fun W hW => by
        go_simp⟩
      simp only [Act.put, List.setIfInBounds_toArray, List.set_cons_zero, List.set_cons_succ]
      refine RegD.wpAnyD_take 3 (oi := ?oi3x34) (v := .pointer (some ⟨gq, 3, none⟩)) ?hi3x34 ?hB3x34 ?hQ3x34 ?hy3x34 hHeld ?rest3x34
      case hi3x34 => rfl
      case hB3x34 => kernel_rfl
      case hQ3x34 => exact fun _ _ _ h => h
      case hy3x34 => exact .inl ⟨by rfl, fun W hW => by
        go_simp⟩
      simp only [Act.put, List.setIfInBounds_toArray, List.set_cons_zero, List.set_cons_succ]
      refine RegD.wpAnyD_take 4 (oi := ?oi4x35) (v := .int .i64 te) ?hi4x35 ?hB4x35 ?hQ4x35 ?hy4x35 hHeld ?rest4x35
      case hi4x35 => rfl
      case hB4x35 => kernel_rfl
      case hQ4x35 => exact fun _ _ _ h => h
      case hy4x35 => exact .inl ⟨by rfl, fun W hW => by
        have a0 := hW.1.c3
        go_simp⟩
      simp only [Act.put, List.setIfInBounds_toArray, List.set_cons_zero, List.set_cons_succ]
      refine RegD.wpAnyD_one 1 (o := ?o1x36) ?ho1x36 ?hr1x36 ?h1x36
      case ho1x36 => rfl
      case hr1x36 => kernel_rfl
      intro K hK
      go_simp
      go_at_call 43
      refine (svState_is N _ gv gs gd r p v hHeld.2.1).mono ?_
      rintro e3 w3 ⟨v3, rfl, hf3, hb3⟩
      obtain ⟨b3, c3, rfl⟩ := RowsK.slice hf3
      unfold stV
      go_wp2_with fail
      refine hK.out _ _ (⟨hHeld.1.on hb3, hHeld.2.1.on hb3, hHeld.2.2.1.trans (hb3.mono hHeld.2.2.1.size), hHeld.2.2.2.on hb3⟩) ?_
      clear hK hHeld
      intro hHeld
      clear K
      clear hf3 hb3
      have hfd : ∀ W : World, (Instr.field 36 (.agg #[.int .i64 p.st.clock, .int .i64 p.st.next, .slice b3 p.st.fams.length c3]) 0).run Tryz.prog W = .ok (.int .i64 p.st.clock) W := fun _ => by kernel_rfl
      refine RegD.wpAnyD_take 2 (oi := ?oi2x38) (v := .int .i64 p.st.clock) ?hi2x38 ?hB2x38 ?hQ2x38 ?hy2x38 hHeld ?rest2x38
      case hi2x38 => rfl
      case hB2x38 => kernel_rfl
      case hQ2x38 => exact fun _ _ _ h => h
      case hy2x38 => exact .inl ⟨by rfl, fun W hW => by
        go_simp⟩
      simp only [Act.put, List.setIfInBounds_toArray, List.set_cons_zero, List.set_cons_succ]
      clear hfd
      have HFE : Hid _ := hHeld.2.2.2
      have HEN : Hid _ := show_end (f := zeroF) hHeld.2.2.1 HFE.out (Nat.le_refl _)
      clear hHeld
      refine RegD.wpAnyD_late 5 (o := ?o5x39) ?ho5x39 ?hr5x39 ?hd5x39 ?h5x39
      case ho5x39 => rfl
      case hr5x39 => kernel_rfl
      case hd5x39 => kernel_rfl
      intro K hK
      go_simp
      refine hK.out _ _ ?_
      clear hK K
      refine RegD.wpAnyD_done (by kernel_rfl) ?_ _
      have z0 := HFE.out.c0; have z1 := HFE.out.c1; have z2 := HFE.out.c2; have z3 := HFE.out.c3; have z4 := HFE.out.c4; have z5 := HFE.out.c5; have z6 := HFE.out.c6; have z7 := HFE.out.c7; have z8 := HFE.out.c8; have zf := HFE.out.fz
      go_wp2_with fail
      generalize hWW : World.setCell _ ⟨w.heap.size, 8, none⟩ _ = WW
      have hW2 : w3.setCells w.heap.size 0 (famCs zeroF) = WW := hWW
      have hbe := HEN.out.1
      have hfe := HEN.out.2
      rw [hW2] at hbe hfe
      have q0 := hfe.c0; have q1 := hfe.c1; have q2 := hfe.c2; have q3 := hfe.c3; have q4 := hfe.c4; have q5 := hfe.c5; have q6 := hfe.c6; have q7 := hfe.c7; have q8 := hfe.c8
      clear hW2 hWW HEN z0 z1 z2 z3 z4 z5 z6 z7 z8 zf hfe
      exact bodyPost_ret (v := .tuple #[.agg #[.int .i64 0, .string ⟨#[]⟩, .string ⟨#[]⟩, .string ⟨#[]⟩, .int .i64 0, .int .i64 0, .int .i64 0, .string ⟨#[]⟩, .bool false], .iface 47 (.int .i64 10)]) (by simp [results, Tryz.results33, go_sem, q0, q1, q2, q3, q4, q5, q6, q7, q8, zeroF]) rfl ⟨by simp [famV, famCs, zeroF, errQ_succ], hbe⟩
    · rw [if_neg hg]
      go_enter Tryz.func33, Tryz.ntmps33
      go_wp2_with fail
      refine hlk.mono ?_
      rintro e2 w1 ⟨rfl, hb2⟩
      rw [show errQ 0 = .nilIface from rfl]
      have HX : Hid _ := fin w1 hb2
      clear hlk hb2 fin
      go_upto_region 4 with fail
      generalize hWW : ((w1.alloc (.cells #[.int .i64 tk, .int .i64 tf, .int .i64 tg, .int .i64 te] 142)).alloc (.cells #[.int .i64 f1, .string f2, .string f3, .string f4, .int .i64 f5, .int .i64 f6, .int .i64 f7, .string f8, .bool f9] 40)) = W3 at *
      clear hWW
      generalize w1.heap.size = gq at *
      refine RegD.wp_region_D (fun W => TB W gq ⟨tk, tf, tg, te⟩ ∧ SvIs N W gv gs gd r p v ∧ Below w.heap.size w W ∧ FB W w.heap.size zeroF ∧ FB W (gq + 1) ⟨f1, f2, f3, f4, f5, f6, f7, f8, f9⟩) 5 (by kernel_rfl) (⟨HX.out.2.2.1.on (Below.refl _ _).drew, HX.out.2.1.on (Below.refl _ _).drew, HX.out.1.drew, HX.out.2.2.2.2.on (Below.refl _ _).drew, HX.out.2.2.2.1.on (Below.refl _ _).drew⟩) (fun hHeld => ?_)
      refine RegD.wpAnyD_take 0 (oi := ?oi0x43) (v := .pointer (some ⟨gv, 0, none⟩)) ?hi0x43 ?hB0x43 ?hQ0x43 ?hy0x43 hHeld ?rest0x43
      case hi0x43 => rfl
      case hB0x43 => kernel_rfl
      case hQ0x43 => exact fun _ _ _ h => h
      case hy0x43 => exact .inl ⟨by rfl, fun W hW => by
        go_simp⟩
      simp only [Act.put, List.setIfInBounds_toArray, List.set_cons_zero, List.set_cons_succ]
      refine RegD.wpAnyD_take 3 (oi := ?oi3x44) (v := .pointer (some ⟨gq, 3, none⟩)) ?hi3x44 ?hB3x44 ?hQ3x44 ?hy3x44 hHeld ?rest3x44
      case hi3x44 => rfl
      case hB3x44 => kernel_rfl
      case hQ3x44 => exact fun _ _ _ h => h
      case hy3x44 => exact .inl ⟨by rfl, fun W hW => by
        go_simp⟩
      simp only [Act.put, List.setIfInBounds_toArray, List.set_cons_zero, List.set_cons_succ]
      refine RegD.wpAnyD_take 4 (oi := ?oi4x45) (v := .int .i64 te) ?hi4x45 ?hB4x45 ?hQ4x45 ?hy4x45 hHeld ?rest4x45
      case hi4x45 => rfl
      case hB4x45 => kernel_rfl
      case hQ4x45 => exact fun _ _ _ h => h
      case hy4x45 => exact .inl ⟨by rfl, fun W hW => by
        have a0 := hW.1.c3
        go_simp⟩
      simp only [Act.put, List.setIfInBounds_toArray, List.set_cons_zero, List.set_cons_succ]
      refine RegD.wpAnyD_one 1 (o := ?o1x46) ?ho1x46 ?hr1x46 ?h1x46
      case ho1x46 => rfl
      case hr1x46 => kernel_rfl
      intro K hK
      go_simp
      go_at_call 43
      refine (svState_is N _ gv gs gd r p v hHeld.2.1).mono ?_
      rintro e3 w3 ⟨v3, rfl, hf3, hb3⟩
      obtain ⟨b3, c3, rfl⟩ := RowsK.slice hf3
      unfold stV
      go_wp2_with fail
      refine hK.out _ _ (⟨hHeld.1.on hb3, hHeld.2.1.on hb3, hHeld.2.2.1.trans (hb3.mono hHeld.2.2.1.size), hHeld.2.2.2.1.on hb3, hHeld.2.2.2.2.on hb3⟩) ?_
      clear hK hHeld
      intro hHeld
      clear K
      clear hf3 hb3
      have hfd : ∀ W : World, (Instr.field 36 (.agg #[.int .i64 p.st.clock, .int .i64 p.st.next, .slice b3 p.st.fams.length c3]) 0).run Tryz.prog W = .ok (.int .i64 p.st.clock) W := fun _ => by kernel_rfl
      refine RegD.wpAnyD_take 2 (oi := ?oi2x48) (v := .int .i64 p.st.clock) ?hi2x48 ?hB2x48 ?hQ2x48 ?hy2x48 hHeld ?rest2x48
      case hi2x48 => rfl
      case hB2x48 => kernel_rfl
      case hQ2x48 => exact fun _ _ _ h => h
      case hy2x48 => exact .inl ⟨by rfl, fun W hW => by
        go_simp⟩
      simp only [Act.put, List.setIfInBounds_toArray, List.set_cons_zero, List.set_cons_succ]
      clear hfd
      have HFE : Hid _ := hHeld.2.2.2.1
      have d0 := hHeld.2.2.2.2.c0; have d1 := hHeld.2.2.2.2.c1; have d2 := hHeld.2.2.2.2.c2; have d3 := hHeld.2.2.2.2.c3; have d4 := hHeld.2.2.2.2.c4; have d5 := hHeld.2.2.2.2.c5; have d6 := hHeld.2.2.2.2.c6; have d7 := hHeld.2.2.2.2.c7; have d8 := hHeld.2.2.2.2.c8
      simp only at d0 d1 d2 d3 d4 d5 d6 d7 d8
      have HEN : Hid _ := show_end (f := ⟨f1, f2, f3, f4, f5, f6, f7, f8, f9⟩) hHeld.2.2.1 HFE.out (Nat.le_refl _)
      clear hHeld
      refine RegD.wpAnyD_late 5 (o := ?o5x49) ?ho5x49 ?hr5x49 ?hd5x49 ?h5x49
      case ho5x49 => rfl
      case hr5x49 => kernel_rfl
      case hd5x49 => kernel_rfl
      intro K hK
      go_simp
      refine hK.out _ _ ?_
      clear hK K
      refine RegD.wpAnyD_done (by kernel_rfl) ?_ _
      have z0 := HFE.out.c0; have z1 := HFE.out.c1; have z2 := HFE.out.c2; have z3 := HFE.out.c3; have z4 := HFE.out.c4; have z5 := HFE.out.c5; have z6 := HFE.out.c6; have z7 := HFE.out.c7; have z8 := HFE.out.c8; have zf := HFE.out.fz
      go_wp2_with fail
      generalize hWW : World.setCell _ ⟨w.heap.size, 8, none⟩ _ = WW
      have hW2 : w3.setCells w.heap.size 0 (famCs ⟨f1, f2, f3, f4, f5, f6, f7, f8, f9⟩) = WW := hWW
      have hbe := HEN.out.1
      have hfe := HEN.out.2
      rw [hW2] at hbe hfe
      have q0 := hfe.c0; have q1 := hfe.c1; have q2 := hfe.c2; have q3 := hfe.c3; have q4 := hfe.c4; have q5 := hfe.c5; have q6 := hfe.c6; have q7 := hfe.c7; have q8 := hfe.c8
      clear hW2 hWW HEN z0 z1 z2 z3 z4 z5 z6 z7 z8 zf hfe d0 d1 d2 d3 d4 d5 d6 d7 d8
      exact bodyPost_ret (v := .tuple #[.agg #[.int .i64 f1, .string f2, .string f3, .string f4, .int .i64 f5, .int .i64 f6, .int .i64 f7, .string f8, .bool f9], .nilIface]) (by simp [results, Tryz.results33, go_sem, q0, q1, q2, q3, q4, q5, q6, q7, q8]) rfl ⟨by simp [famV, famCs, errQ], hbe⟩
end Go.Proofs.YtlailakofhenkabGreatDoor
