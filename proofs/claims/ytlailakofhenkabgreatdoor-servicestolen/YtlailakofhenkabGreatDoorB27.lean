/-
  Own texts put together: SvP10.
-/
import Derived.Test.YtlailakofhenkabGreatDoorB26
namespace Go.Proofs.YtlailakofhenkabGreatDoor
open Go Go.RowKit Tok Sc Ev
set_option maxHeartbeats 2000000 in
theorem overPred (gv gs b1 b4 : Nat) (r : Rul) (now : Int) (w : World) (hA : SvAt w gv gs r) (hr : RulOk r) (h1 : b1 < w.heap.size) (h4 : b4 < w.heap.size) (c1 : w.cell? ⟨b1, 0, none⟩ = some (.pointer (some ⟨gv, 0, none⟩))) (c4 : w.cell? ⟨b4, 0, none⟩ = some (.int .i64 now)) :
    PredF 88 #[.pointer (some ⟨b1, 0, none⟩), .pointer (some ⟨b4, 0, none⟩)] (overB r now) w := fun W f hm hb => by
  have d1 : W.cell? ⟨b1, 0, none⟩ = some (.pointer (some ⟨gv, 0, none⟩)) := (hb.cell (p := ⟨b1, 0, none⟩) h1).trans c1
  have d4 : W.cell? ⟨b4, 0, none⟩ = some (.int .i64 now) := (hb.cell (p := ⟨b4, 0, none⟩) h4).trans c4
  have hb1 : b1 < W.heap.size := Nat.lt_of_lt_of_le h1 hb.size
  have hb4 : b4 < W.heap.size := Nat.lt_of_lt_of_le h4 hb.size
  have HA : Hid (SvAt W gv gs r) := hA.on hb
  have HO : Hid (∀ W' : World, SvAt W' gv gs r → Calls Tryz.prog 89 #[.pointer (some ⟨gv, 0, none⟩), famV f, .int .i64 now] W' fun e w' => e = .returned (.bool (oldF r now f)) ∧ Below W'.heap.size W' w') := fun W' hW => old_is W' gv gs r f now hW hr hm
  clear hA hr c1 c4 hb hm
  have ho := HO.out
  unfold overB
  obtain ⟨f1, f2, f3, f4, f5, f6, f7, f8, f9⟩ := f
  have HB0 : Hid (Below W.heap.size W (W.alloc (.cells #[.int .i64 f1, .string f2, .string f3, .string f4, .int .i64 f5, .int .i64 f6, .int .i64 f7, .string f8, .bool f9] 40))) := (Below.refl _ _).alloc (Nat.le_refl _) _
  unfold famV famCs at ho
  simp only at ho
  have HO2 : Hid _ := ho
  clear ho HO
  have n1 : b1 ≠ W.heap.size := by omega
  have n4 : b4 ≠ W.heap.size := by omega
  show Calls Tryz.prog 88 #[.agg #[.int .i64 f1, .string f2, .string f3, .string f4, .int .i64 f5, .int .i64 f6, .int .i64 f7, .string f8, .bool f9], .pointer (some ⟨b1, 0, none⟩), .pointer (some ⟨b4, 0, none⟩)] W _
  cases f9 with
  | true =>
    go_enter Tryz.func88, Tryz.ntmps88
    go_wp2_with fail
    go_ret
    exact ⟨rfl, HB0.out⟩
  | false =>
    go_enter Tryz.func88, Tryz.ntmps88
    go_wp2_with fail
    refine (HO2.out _ (HA.out.on HB0.out)).mono ?_
    rintro e1 w1 ⟨rfl, hb5⟩
    have HB1 : Hid (Below W.heap.size W w1) := HB0.out.trans (hb5.mono HB0.out.size)
    clear hb5
    go_wp2_with fail
    go_ret
    exact ⟨by simp, HB1.out⟩
theorem overCalls : ∀ args w, (callFunc 88 args).run Tryz.prog w = .ok (.enter 88 args) w := enters_of Tryz.func88 (by kernel_rfl) rfl
set_option maxRecDepth 100000 in
set_option maxHeartbeats 8000000 in
theorem sweep_is (N : Nat) (w : World) (gv gs gd : Nat) (r : Rul) (p : Pub) (v : Value) (h : SvIs N w gv gs gd r p v) (hN : N < 98000) :
    Calls Tryz.prog 39 #[.pointer (some ⟨gv, 0, none⟩)] w fun e w' => e = .returned (.tuple #[.int .i64 (sweepM r p).2.1, errQ (sweepM r p).2.2]) ∧ ∃ v', SPto N gs gd v w w' (sweepM r p).1 v' := by
  have HB0 : Hid (Below w.heap.size w (w.alloc (.cells #[.pointer (some ⟨gv, 0, none⟩)] 56))) := (Below.refl _ _).alloc (Nat.le_refl _) _
  have HS0 : Hid (SvIs N (w.alloc (.cells #[.pointer (some ⟨gv, 0, none⟩)] 56)) gv gs gd r p v) := h.on HB0.out
  have c0 : (w.alloc (.cells #[.pointer (some ⟨gv, 0, none⟩)] 56)).cell? ⟨w.heap.size, 0, none⟩ = some (.pointer (some ⟨gv, 0, none⟩)) := (World.cell?_alloc_at _ _ _ _ rfl).trans rfl
  have HC0 : Hid _ := c0
  have HLT : Hid (w.heap.size < (w.alloc (.cells #[.pointer (some ⟨gv, 0, none⟩)] 56)).heap.size) := by show _ < _; simp
  have HFM : Hid (∀ f, p.st.fams.find? (overB r p.st.clock) = some f → okN f.id) := fun f hf => (h.sp.ok.good.may f (List.mem_of_find?_eq_some hf)).1.1.1
  have HFI : Hid (∀ (W : World) (va : Value) (B4 : Nat), SvIs N W gv gs gd r p v → Fams 0 W va p.st.fams → w.heap.size < W.heap.size → B4 < W.heap.size → W.cell? ⟨w.heap.size, 0, none⟩ = some (.pointer (some ⟨gv, 0, none⟩)) → W.cell? ⟨B4, 0, none⟩ = some (.int .i64 p.st.clock) → Calls Tryz.prog 83 #[va, .func (.func 88) #[] #[.pointer (some ⟨w.heap.size, 0, none⟩), .pointer (some ⟨B4, 0, none⟩)]] W fun e w' => e = .returned (.tuple #[famV ((p.st.fams.find? (overB r p.st.clock)).getD zeroF), .bool (p.st.fams.find? (overB r p.st.clock)).isSome]) ∧ Below W.heap.size W w') := fun W va B4 hW hf h1 h4 d1 d4 =>
    first_is p.st.fams va 88 #[.pointer (some ⟨w.heap.size, 0, none⟩), .pointer (some ⟨B4, 0, none⟩)] (overB r p.st.clock) W hf (fun f hm => (hW.sp.ok.good.may f hm).1) (by have := hW.sp.ok.good.len; omega) (overPred gv gs w.heap.size B4 r p.st.clock W hW.box hW.rul h1 h4 d1 d4) overCalls
  clear h
  unfold sweepM
  generalize p.st.fams.find? (overB r p.st.clock) = ff at *
  cases ff with
  | none =>
    go_enter Tryz.func39, Tryz.ntmps39
    go_wp2_with fail
    refine (svState_is N _ gv gs gd r p v HS0.out).mono ?_
    rintro e1 w1 ⟨v1, rfl, hf1, hb1⟩
    obtain ⟨b1, c1, rfl⟩ := RowsK.slice hf1
    unfold stV
    have hb2 : Below w1.heap.size w1 (w1.alloc (.cells #[.int .i64 p.st.clock, .int .i64 p.st.next, .slice b1 p.st.fams.length c1] 36)) := (Below.refl _ _).alloc (Nat.le_refl _) _
    have HB2 : Hid (Below w.heap.size w (w1.alloc (.cells #[.int .i64 p.st.clock, .int .i64 p.st.next, .slice b1 p.st.fams.length c1] 36))) := (HB0.out.trans (hb1.mono HB0.out.size)).trans (hb2.mono (Nat.le_trans HB0.out.size hb1.size))
    have HS2 : Hid (SvIs N (w1.alloc (.cells #[.int .i64 p.st.clock, .int .i64 p.st.next, .slice b1 p.st.fams.length c1] 36)) gv gs gd r p v) := (HS0.out.on hb1).on hb2
    have HR2 : Hid (Fams 0 (w1.alloc (.cells #[.int .i64 p.st.clock, .int .i64 p.st.next, .slice b1 p.st.fams.length c1] 36)) (.slice b1 p.st.fams.length c1) p.st.fams) := (hf1.below hb2 (Nat.le_refl _)).mono (Nat.zero_le _)
    have HL2 : Hid (w.heap.size < (w1.alloc (.cells #[.int .i64 p.st.clock, .int .i64 p.st.next, .slice b1 p.st.fams.length c1] 36)).heap.size) := Nat.lt_of_lt_of_le (Nat.lt_of_lt_of_le HLT.out hb1.size) hb2.size
    have HC2 : Hid ((w1.alloc (.cells #[.int .i64 p.st.clock, .int .i64 p.st.next, .slice b1 p.st.fams.length c1] 36)).cell? ⟨w.heap.size, 0, none⟩ = some (.pointer (some ⟨gv, 0, none⟩))) := (hb2.cell (p := ⟨w.heap.size, 0, none⟩) (Nat.lt_of_lt_of_le HLT.out hb1.size)).trans ((hb1.cell (p := ⟨w.heap.size, 0, none⟩) HLT.out).trans HC0.out)
    have s0 : (w1.alloc (.cells #[.int .i64 p.st.clock, .int .i64 p.st.next, .slice b1 p.st.fams.length c1] 36)).cell? ⟨w1.heap.size, 0, none⟩ = some (.int .i64 p.st.clock) := (World.cell?_alloc_at _ _ _ _ rfl).trans rfl
    have HS0C : Hid _ := s0
    have s2 : (w1.alloc (.cells #[.int .i64 p.st.clock, .int .i64 p.st.next, .slice b1 p.st.fams.length c1] 36)).cell? ⟨w1.heap.size, 2, none⟩ = some (.slice b1 p.st.fams.length c1) := (World.cell?_alloc_at _ _ _ _ rfl).trans rfl
    clear hf1 hb1 hb2 c0 s0
    go_wp2_with fail
    refine (HFI.out _ _ _ HS2.out HR2.out HL2.out (by simp) HC2.out HS0C.out).mono ?_
    rintro e3 w3 ⟨rfl, hb3⟩
    have HB4 : Hid _ := hb3
    clear hb3 s2
    unfold famV famCs
    simp only [Option.getD_none, Option.isSome_none]
    go_wp2_with fail
    go_ret2
    exact ⟨rfl, _, (SPto.same (N := N) HS2.out.sp (HB4.out.alloc HB4.out.size _)).pre HB2.out⟩
  | some f =>
    have HID : Hid (okN f.id) := HFM.out f rfl
    obtain ⟨f1, f2, f3, f4, f5, f6, f7, f8, f9⟩ := f
    simp only at HID ⊢
    have HADD : Hid (∀ W : World, SvIs N W gv gs gd r p v → Calls Tryz.prog 17 #[.pointer (some ⟨gs, 0, none⟩), .agg #[.int .i64 2, .int .i64 0, .string ⟨#[]⟩, .string ⟨#[]⟩, .string ⟨#[]⟩, .int .i64 0, .int .i64 0, .int .i64 0, .string ⟨#[]⟩, .bool false, .int .i64 f1, .int .i64 0]] W fun e w' => e = .returned (errQ (addP p (dropE f1) true).2) ∧ ∃ v', SPto N gs gd v W w' (addP p (dropE f1) true).1 v') := fun W hW => addM_is N W gs gd p v (dropE f1) (may_drop HID.out) hW.sp (by omega)
    generalize addP p (dropE f1) true = Q at HADD ⊢
    obtain ⟨q, n⟩ := Q
    simp only at HADD ⊢
    go_enter Tryz.func39, Tryz.ntmps39
    go_wp2_with fail
    refine (svState_is N _ gv gs gd r p v HS0.out).mono ?_
    rintro e1 w1 ⟨v1, rfl, hf1, hb1⟩
    obtain ⟨b1, c1, rfl⟩ := RowsK.slice hf1
    unfold stV
    have hb2 : Below w1.heap.size w1 (w1.alloc (.cells #[.int .i64 p.st.clock, .int .i64 p.st.next, .slice b1 p.st.fams.length c1] 36)) := (Below.refl _ _).alloc (Nat.le_refl _) _
    have HB2 : Hid (Below w.heap.size w (w1.alloc (.cells #[.int .i64 p.st.clock, .int .i64 p.st.next, .slice b1 p.st.fams.length c1] 36))) := (HB0.out.trans (hb1.mono HB0.out.size)).trans (hb2.mono (Nat.le_trans HB0.out.size hb1.size))
    have HS2 : Hid (SvIs N (w1.alloc (.cells #[.int .i64 p.st.clock, .int .i64 p.st.next, .slice b1 p.st.fams.length c1] 36)) gv gs gd r p v) := (HS0.out.on hb1).on hb2
    have HR2 : Hid (Fams 0 (w1.alloc (.cells #[.int .i64 p.st.clock, .int .i64 p.st.next, .slice b1 p.st.fams.length c1] 36)) (.slice b1 p.st.fams.length c1) p.st.fams) := (hf1.below hb2 (Nat.le_refl _)).mono (Nat.zero_le _)
    have HL2 : Hid (w.heap.size < (w1.alloc (.cells #[.int .i64 p.st.clock, .int .i64 p.st.next, .slice b1 p.st.fams.length c1] 36)).heap.size) := Nat.lt_of_lt_of_le (Nat.lt_of_lt_of_le HLT.out hb1.size) hb2.size
    have HC2 : Hid ((w1.alloc (.cells #[.int .i64 p.st.clock, .int .i64 p.st.next, .slice b1 p.st.fams.length c1] 36)).cell? ⟨w.heap.size, 0, none⟩ = some (.pointer (some ⟨gv, 0, none⟩))) := (hb2.cell (p := ⟨w.heap.size, 0, none⟩) (Nat.lt_of_lt_of_le HLT.out hb1.size)).trans ((hb1.cell (p := ⟨w.heap.size, 0, none⟩) HLT.out).trans HC0.out)
    have s0 : (w1.alloc (.cells #[.int .i64 p.st.clock, .int .i64 p.st.next, .slice b1 p.st.fams.length c1] 36)).cell? ⟨w1.heap.size, 0, none⟩ = some (.int .i64 p.st.clock) := (World.cell?_alloc_at _ _ _ _ rfl).trans rfl
    have HS0C : Hid _ := s0
    have s2 : (w1.alloc (.cells #[.int .i64 p.st.clock, .int .i64 p.st.next, .slice b1 p.st.fams.length c1] 36)).cell? ⟨w1.heap.size, 2, none⟩ = some (.slice b1 p.st.fams.length c1) := (World.cell?_alloc_at _ _ _ _ rfl).trans rfl
    clear hf1 hb1 hb2 c0 s0
    go_wp2_with fail
    refine (HFI.out _ _ _ HS2.out HR2.out HL2.out (by simp) HC2.out HS0C.out).mono ?_
    rintro e3 w3 ⟨rfl, hb3⟩
    have HB4 : Hid _ := hb3
    clear hb3 s2
    unfold famV famCs
    simp only [Option.getD_some, Option.isSome_some]
    go_upto_region 6 with fail
    have HF5 : Hid (FB (w3.alloc (.cells #[.int .i64 f1, .string f2, .string f3, .string f4, .int .i64 f5, .int .i64 f6, .int .i64 f7, .string f8, .bool f9] 40)) w3.heap.size ⟨f1, f2, f3, f4, f5, f6, f7, f8, f9⟩) := FB.made w3 ⟨f1, f2, f3, f4, f5, f6, f7, f8, f9⟩ _
    have hb5 : Below w3.heap.size w3 (w3.alloc (.cells #[.int .i64 f1, .string f2, .string f3, .string f4, .int .i64 f5, .int .i64 f6, .int .i64 f7, .string f8, .bool f9] 40)) := (Below.refl _ _).alloc (Nat.le_refl _) _
    have HS5 : Hid _ := (HS2.out.on HB4.out).on hb5
    have HB5 : Hid (Below w.heap.size w (w3.alloc (.cells #[.int .i64 f1, .string f2, .string f3, .string f4, .int .i64 f5, .int .i64 f6, .int .i64 f7, .string f8, .bool f9] 40))) := (HB2.out.trans (HB4.out.mono HB2.out.size)).trans (hb5.mono (Nat.le_trans HB2.out.size HB4.out.size))
    have HC5 : Hid ((w3.alloc (.cells #[.int .i64 f1, .string f2, .string f3, .string f4, .int .i64 f5, .int .i64 f6, .int .i64 f7, .string f8, .bool f9] 40)).cell? ⟨w.heap.size, 0, none⟩ = some (.pointer (some ⟨gv, 0, none⟩))) := (hb5.cell (p := ⟨w.heap.size, 0, none⟩) (Nat.lt_of_lt_of_le HL2.out HB4.out.size)).trans ((HB4.out.cell (p := ⟨w.heap.size, 0, none⟩) HL2.out).trans HC2.out)
    have HL5 : Hid (w.heap.size < (w3.alloc (.cells #[.int .i64 f1, .string f2, .string f3, .string f4, .int .i64 f5, .int .i64 f6, .int .i64 f7, .string f8, .bool f9] 40)).heap.size) := Nat.lt_of_lt_of_le (Nat.lt_of_lt_of_le HL2.out HB4.out.size) hb5.size
    have HGQ : Hid (w3.heap.size ≠ gd ∧ w3.heap.size ≠ gs) := by
      have h1 := (HS2.out.on HB4.out).sp.lt
      have h2 := HS2.out.sp.ord
      show _ ∧ _
      omega
    clear hb5 HFI HFM HS0 HC0 HLT HB0
    generalize hW5 : (w3.alloc (.cells #[.int .i64 f1, .string f2, .string f3, .string f4, .int .i64 f5, .int .i64 f6, .int .i64 f7, .string f8, .bool f9] 40)) = W5 at *
    clear hW5
    generalize w3.heap.size = gq at *
    have z0F := HF5.out.c0
    refine RegD.wp_region_D (fun W => W.cell? ⟨gq, 0, none⟩ = some (.int .i64 f1) ∧ W.cell? ⟨w.heap.size, 0, none⟩ = some (.pointer (some ⟨gv, 0, none⟩)) ∧ SvAt W gv gs r) 7 (by kernel_rfl) (⟨HF5.out.c0, HC5.out, HS5.out.box.on (Below.refl _ _).drew⟩) (fun hHeld => ?_)
    refine RegD.wpAnyD_take 0 (oi := ?oi0x2) (v := .pointer (some ⟨gv, 0, none⟩)) ?hi0x2 ?hB0x2 ?hQ0x2 ?hy0x2 hHeld ?rest0x2
    case hi0x2 => rfl
    case hB0x2 => kernel_rfl
    case hQ0x2 => exact fun _ _ _ h => h
    case hy0x2 => exact .inl ⟨by rfl, fun W hW => by
      have a0 := hW.2.1
      go_simp⟩
    simp only [Act.put, List.setIfInBounds_toArray, List.set_cons_zero, List.set_cons_succ]
    refine RegD.wpAnyD_take 1 (oi := ?oi1x3) (v := .pointer (some ⟨gv, 0, none⟩)) ?hi1x3 ?hB1x3 ?hQ1x3 ?hy1x3 hHeld ?rest1x3
    case hi1x3 => rfl
    case hB1x3 => kernel_rfl
    case hQ1x3 => exact fun _ _ _ h => h
    case hy1x3 => exact .inl ⟨by rfl, fun W hW => by
      go_simp⟩
    simp only [Act.put, List.setIfInBounds_toArray, List.set_cons_zero, List.set_cons_succ]
    refine RegD.wpAnyD_take 2 (oi := ?oi2x4) (v := .pointer (some ⟨gv, 0, none⟩)) ?hi2x4 ?hB2x4 ?hQ2x4 ?hy2x4 hHeld ?rest2x4
    case hi2x4 => rfl
    case hB2x4 => kernel_rfl
    case hQ2x4 => exact fun _ _ _ h => h
    case hy2x4 => exact .inl ⟨by rfl, fun W hW => by
      go_simp⟩
    simp only [Act.put, List.setIfInBounds_toArray, List.set_cons_zero, List.set_cons_succ]
    refine RegD.wpAnyD_take 3 (oi := ?oi3x5) (v := .pointer (some ⟨gs, 0, none⟩)) ?hi3x5 ?hB3x5 ?hQ3x5 ?hy3x5 hHeld ?rest3x5
    case hi3x5 => rfl
    case hB3x5 => kernel_rfl
    case hQ3x5 => exact fun _ _ _ h => h
    case hy3x5 => exact .inl ⟨by rfl, fun W hW => by
      have a0 := hW.2.2.c0
      go_simp⟩
    simp only [Act.put, List.setIfInBounds_toArray, List.set_cons_zero, List.set_cons_succ]
    refine RegD.wpAnyD_take 4 (oi := ?oi4x6) (v := .pointer (some ⟨gq, 0, none⟩)) ?hi4x6 ?hB4x6 ?hQ4x6 ?hy4x6 hHeld ?rest4x6
    case hi4x6 => rfl
    case hB4x6 => kernel_rfl
    case hQ4x6 => exact fun _ _ _ h => h
    case hy4x6 => exact .inl ⟨by rfl, fun W hW => by
      go_simp⟩
    simp only [Act.put, List.setIfInBounds_toArray, List.set_cons_zero, List.set_cons_succ]
    refine RegD.wpAnyD_take 5 (oi := ?oi5x7) (v := .int .i64 f1) ?hi5x7 ?hB5x7 ?hQ5x7 ?hy5x7 hHeld ?rest5x7
    case hi5x7 => rfl
    case hB5x7 => kernel_rfl
    case hQ5x7 => exact fun _ _ _ h => h
    case hy5x7 => exact .inl ⟨by rfl, fun W hW => by
      have a0 := hW.1
      go_simp⟩
    simp only [Act.put, List.setIfInBounds_toArray, List.set_cons_zero, List.set_cons_succ]
    refine RegD.wpAnyD_take 6 (oi := ?oi6x8) (v := .agg #[.int .i64 2, .int .i64 0, .string ⟨#[]⟩, .string ⟨#[]⟩, .string ⟨#[]⟩, .int .i64 0, .int .i64 0, .int .i64 0, .string ⟨#[]⟩, .bool false, .int .i64 f1, .int .i64 0]) ?hi6x8 ?hB6x8 ?hQ6x8 ?hy6x8 hHeld ?rest6x8
    case hi6x8 => rfl
    case hB6x8 => kernel_rfl
    case hQ6x8 => exact fun _ _ _ h => h
    case hy6x8 => exact .inl ⟨by rfl, fun W hW => by
      go_simp⟩
    simp only [Act.put, List.setIfInBounds_toArray, List.set_cons_zero, List.set_cons_succ]
    clear hHeld z0F
    refine RegD.wpAnyD_late 7 (o := ?o7x9) ?ho7x9 ?hr7x9 ?hd7x9 ?h7x9
    case ho7x9 => rfl
    case hr7x9 => kernel_rfl
    case hd7x9 => kernel_rfl
    intro K hK
    go_simp
    go_at_call 17
    refine (HADD.out _ (HS5.out.on (Below.refl _ _).drew)).mono ?_
    rintro e6 w6 ⟨rfl, v6, hto⟩
    have HTO : Hid _ := SPto.pre HB5.out.drew hto
    have HK6 : Hid (Keep [gd, gs] W5.drew w6) := hto.keep
    clear hto
    go_wp2_with fail
    refine hK.out _ _ ?_
    clear hK K
    refine RegD.wpAnyD_late 8 (o := ?o8x11) ?ho8x11 ?hr8x11 ?hd8x11 ?h8x11
    case ho8x11 => rfl
    case hr8x11 => kernel_rfl
    case hd8x11 => kernel_rfl
    intro K hK
    go_simp
    refine hK.out _ _ ?_
    clear hK K
    refine RegD.wpAnyD_done (by kernel_rfl) ?_ _
    cases n with
    | zero =>
      rw [show errQ 0 = .nilIface from rfl]
      have z0 := ((HF5.out.on (Below.refl _ _).drew).keep HK6.out (by have := HGQ.out; simp; omega)).c0
      simp only at z0
      go_wp2_with fail
      go_ret2
      exact ⟨rfl, _, HTO.out⟩
    | succ n =>
      rw [errQ_succ]
      go_wp2_with fail
      go_ret2
      exact ⟨rfl, _, HTO.out⟩
end Go.Proofs.YtlailakofhenkabGreatDoor
