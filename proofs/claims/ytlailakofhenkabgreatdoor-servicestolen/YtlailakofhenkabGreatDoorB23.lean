/-
  Own texts put together: SvP3.
-/
import Derived.Test.YtlailakofhenkabGreatDoorB21
import Derived.Test.YtlailakofhenkabGreatDoorB22
import Derived.Test.YtlailakofhenkabGreatDoorB15
namespace Go.Proofs.YtlailakofhenkabGreatDoor
open Go Go.RowKit Tok Sc Ev
structure SvAt (w : World) (gv gs : Nat) (r : Rul) : Prop where
  c0 : w.cell? ⟨gv, 0, none⟩ = some (.pointer (some ⟨gs, 0, none⟩))
  c1 : w.cell? ⟨gv, 1, none⟩ = some (.int .i64 r.key)
  c2 : w.cell? ⟨gv, 2, none⟩ = some (.int .i64 r.idle)
  c3 : w.cell? ⟨gv, 3, none⟩ = some (.int .i64 r.life)
  c4 : w.cell? ⟨gv, 4, none⟩ = some (.int .i64 r.access)
  lt : gv < w.heap.size
theorem SvAt.keep {l : List Nat} {w w' : World} {gv gs : Nat} {r : Rul} (h : SvAt w gv gs r) (hk : Keep l w w') (hn : gv ∉ l) : SvAt w' gv gs r := by
  have hc : ∀ i, w'.cell? ⟨gv, i, none⟩ = w.cell? ⟨gv, i, none⟩ := fun i => hk.cell (p := ⟨gv, i, none⟩) h.lt hn
  exact ⟨(hc 0).trans h.c0, (hc 1).trans h.c1, (hc 2).trans h.c2, (hc 3).trans h.c3, (hc 4).trans h.c4, Nat.lt_of_lt_of_le h.lt hk.size⟩
theorem SvAt.on {w w' : World} {gv gs : Nat} {r : Rul} (h : SvAt w gv gs r) (hb : Below w.heap.size w w') : SvAt w' gv gs r := h.keep (Keep.of [] hb) (by simp)
def txtB (r : Rul) (t : T) : ByteArray := ⟨(textOf r.key t).toArray⟩
def OldsR (n : Nat) : Prop := Bigs n ∧ BigsR n
theorem LibsR.belowO {B : Nat} {w w' : World} (h : LibsR w) (hb : Below B w w') (ho : OldsR B) : LibsR w' where
  base := h.base.below hb ho.1
  big := h.big.le hb.size
  len := by
    obtain ⟨m, hm⟩ := h.len
    exact ⟨m, (hb.cell (p := ⟨2, 0, none⟩) ho.2.1).trans hm⟩
  syn := by
    obtain ⟨m, hm, k⟩ := h.syn
    exact ⟨m, (hb.cell (p := ⟨4, 0, none⟩) ho.2.2.1).trans hm, k⟩
  rng := by
    obtain ⟨m, hm, k⟩ := h.rng
    exact ⟨m, (hb.cell (p := ⟨5, 0, none⟩) ho.2.2.2).trans hm, k⟩
theorem LibsR.on {w w' : World} (h : LibsR w) (hb : Below w.heap.size w w') : LibsR w' := h.below hb rfl
structure SvIs (N : Nat) (w : World) (gv gs gd : Nat) (r : Rul) (p : Pub) (v : Value) : Prop where
  sp : SP N w gs gd p v
  box : SvAt w gv gs r
  libs : LibsR w
  rul : RulOk r
  ord : gs < gv
  out : NotIn v gv
  old : OldsR gd
theorem SvIs.on {N : Nat} {w w' : World} {gv gs gd : Nat} {r : Rul} {p : Pub} {v : Value} (h : SvIs N w gv gs gd r p v) (hb : Below w.heap.size w w') : SvIs N w' gv gs gd r p v :=
  ⟨h.sp.on hb, h.box.on hb, h.libs.on hb, h.rul, h.ord, h.out, h.old⟩
theorem SvIs.to {N : Nat} {w w' : World} {gv gs gd : Nat} {r : Rul} {p q : Pub} {v v' : Value} (h : SvIs N w gv gs gd r p v) (ht : SPto N gs gd v w w' q v') : SvIs (N + 22) w' gv gs gd r q v' := by
  have h1 := h.sp.ord
  have h2 := h.sp.lt
  have h3 := h.ord
  exact ⟨ht.prog, h.box.keep ht.keep (by simp; omega), h.libs.belowO (ht.keep.below (B := gd) (by omega) (fun x hx => by simp at hx; omega)) h.old, h.rul, h.ord, ht.notIn h.out h.box.lt, h.old⟩
theorem SvIs.mono {N M : Nat} {w : World} {gv gs gd : Nat} {r : Rul} {p : Pub} {v : Value} (h : SvIs N w gv gs gd r p v) (hm : N ≤ M) : SvIs M w gv gs gd r p v := ⟨h.sp.mono hm, h.box, h.libs, h.rul, h.ord, h.out, h.old⟩
set_option maxRecDepth 100000 in
set_option maxHeartbeats 8000000 in
theorem old_is (w : World) (gv gs : Nat) (r : Rul) (f : Fam) (now : Int) (hA : SvAt w gv gs r) (hr : RulOk r) (hf : mayF f) :
    Calls Tryz.prog 89 #[.pointer (some ⟨gv, 0, none⟩), famV f, .int .i64 now] w fun e w' => e = .returned (.bool (oldF r now f)) ∧ Below w.heap.size w w' := by
  obtain ⟨f1, f2, f3, f4, f5, f6, f7, f8, f9⟩ := f
  have HB0 : Hid (Below w.heap.size w (w.alloc (.cells #[.int .i64 f1, .string f2, .string f3, .string f4, .int .i64 f5, .int .i64 f6, .int .i64 f7, .string f8, .bool f9] 40))) := (Below.refl _ _).alloc (Nat.le_refl _) _
  have HF0 : Hid (FB (w.alloc (.cells #[.int .i64 f1, .string f2, .string f3, .string f4, .int .i64 f5, .int .i64 f6, .int .i64 f7, .string f8, .bool f9] 40)) w.heap.size ⟨f1, f2, f3, f4, f5, f6, f7, f8, f9⟩) := FB.made w ⟨f1, f2, f3, f4, f5, f6, f7, f8, f9⟩ _
  have HA0 : Hid (SvAt (w.alloc (.cells #[.int .i64 f1, .string f2, .string f3, .string f4, .int .i64 f5, .int .i64 f6, .int .i64 f7, .string f8, .bool f9] 40)) gv gs r) := hA.on HB0.out
  have HU : Hid (okN f7) := hf.1.2.2.2
  have HMD : Hid (okN f6) := hf.1.2.2.1
  have HRU : Hid (RulOk r) := hr
  have hgv := hA.lt
  unfold famV famCs
  simp only
  clear hA hr hf
  by_cases h1 : laterI f7 r.idle < now
  · have HE : Hid (oldF r now ⟨f1, f2, f3, f4, f5, f6, f7, f8, f9⟩ = true) := by show _ = true; unfold oldF; simp [h1]
    go_enter Tryz.func89, Tryz.ntmps89
    go_upto_region 1 with fail
    refine RegD.wp_region_D (fun W => FB W w.heap.size ⟨f1, f2, f3, f4, f5, f6, f7, f8, f9⟩ ∧ SvAt W gv gs r) 22 (by kernel_rfl) (⟨HF0.out.on (Below.refl _ _).drew, HA0.out.on (Below.refl _ _).drew⟩) (fun hHeld => ?_)
    refine RegD.wpAnyD_take 0 (oi := ?oi0x2) (v := .int .i64 now) ?hi0x2 ?hB0x2 ?hQ0x2 ?hy0x2 hHeld ?rest0x2
    case hi0x2 => rfl
    case hB0x2 => kernel_rfl
    case hQ0x2 => exact fun _ _ _ h => h
    case hy0x2 => exact .inl ⟨by rfl, fun W hW => by
      go_simp⟩
    simp only [Act.put, List.setIfInBounds_toArray, List.set_cons_zero, List.set_cons_succ]
    refine RegD.wpAnyD_take 1 (oi := ?oi1x3) (v := .pointer (some ⟨w.heap.size, 6, none⟩)) ?hi1x3 ?hB1x3 ?hQ1x3 ?hy1x3 hHeld ?rest1x3
    case hi1x3 => rfl
    case hB1x3 => kernel_rfl
    case hQ1x3 => exact fun _ _ _ h => h
    case hy1x3 => exact .inl ⟨by rfl, fun W hW => by
      go_simp⟩
    simp only [Act.put, List.setIfInBounds_toArray, List.set_cons_zero, List.set_cons_succ]
    refine RegD.wpAnyD_take 2 (oi := ?oi2x4) (v := .int .i64 f7) ?hi2x4 ?hB2x4 ?hQ2x4 ?hy2x4 hHeld ?rest2x4
    case hi2x4 => rfl
    case hB2x4 => kernel_rfl
    case hQ2x4 => exact fun _ _ _ h => h
    case hy2x4 => exact .inl ⟨by rfl, fun W hW => by
      have a0 := hW.1.c6
      go_simp⟩
    simp only [Act.put, List.setIfInBounds_toArray, List.set_cons_zero, List.set_cons_succ]
    refine RegD.wpAnyD_take 3 (oi := ?oi3x5) (v := .pointer (some ⟨gv, 0, none⟩)) ?hi3x5 ?hB3x5 ?hQ3x5 ?hy3x5 hHeld ?rest3x5
    case hi3x5 => rfl
    case hB3x5 => kernel_rfl
    case hQ3x5 => exact fun _ _ _ h => h
    case hy3x5 => exact .inl ⟨by rfl, fun W hW => by
      go_simp⟩
    simp only [Act.put, List.setIfInBounds_toArray, List.set_cons_zero, List.set_cons_succ]
    refine RegD.wpAnyD_take 4 (oi := ?oi4x6) (v := .pointer (some ⟨gv, 0, none⟩)) ?hi4x6 ?hB4x6 ?hQ4x6 ?hy4x6 hHeld ?rest4x6
    case hi4x6 => rfl
    case hB4x6 => kernel_rfl
    case hQ4x6 => exact fun _ _ _ h => h
    case hy4x6 => exact .inl ⟨by rfl, fun W hW => by
      go_simp⟩
    simp only [Act.put, List.setIfInBounds_toArray, List.set_cons_zero, List.set_cons_succ]
    refine RegD.wpAnyD_take 5 (oi := ?oi5x7) (v := .pointer (some ⟨gv, 1, none⟩)) ?hi5x7 ?hB5x7 ?hQ5x7 ?hy5x7 hHeld ?rest5x7
    case hi5x7 => rfl
    case hB5x7 => kernel_rfl
    case hQ5x7 => exact fun _ _ _ h => h
    case hy5x7 => exact .inl ⟨by rfl, fun W hW => by
      go_simp⟩
    simp only [Act.put, List.setIfInBounds_toArray, List.set_cons_zero, List.set_cons_succ]
    refine RegD.wpAnyD_take 6 (oi := ?oi6x8) (v := .pointer (some ⟨gv, 2, none⟩)) ?hi6x8 ?hB6x8 ?hQ6x8 ?hy6x8 hHeld ?rest6x8
    case hi6x8 => rfl
    case hB6x8 => kernel_rfl
    case hQ6x8 => exact fun _ _ _ h => h
    case hy6x8 => exact .inl ⟨by rfl, fun W hW => by
      go_simp⟩
    simp only [Act.put, List.setIfInBounds_toArray, List.set_cons_zero, List.set_cons_succ]
    refine RegD.wpAnyD_take 7 (oi := ?oi7x9) (v := .int .i64 r.idle) ?hi7x9 ?hB7x9 ?hQ7x9 ?hy7x9 hHeld ?rest7x9
    case hi7x9 => rfl
    case hB7x9 => kernel_rfl
    case hQ7x9 => exact fun _ _ _ h => h
    case hy7x9 => exact .inl ⟨by rfl, fun W hW => by
      have a0 := hW.2.c2
      go_simp⟩
    simp only [Act.put, List.setIfInBounds_toArray, List.set_cons_zero, List.set_cons_succ]
    refine RegD.wpAnyD_one 8 (o := ?o8x10) ?ho8x10 ?hr8x10 ?h8x10
    case ho8x10 => rfl
    case hr8x10 => kernel_rfl
    intro K hK
    go_simp
    go_at_call 82
    refine (later_is _ _ HU.out HRU.out.idle _).mono ?_
    rintro e1 w1 ⟨rfl, rfl⟩
    go_wp2_with fail
    refine hK.out _ _ (hHeld) ?_
    clear hK hHeld
    intro hHeld
    clear K
    refine RegD.wpAnyD_take 9 (oi := ?oi9x12) (v := .bool true) ?hi9x12 ?hB9x12 ?hQ9x12 ?hy9x12 hHeld ?rest9x12
    case hi9x12 => rfl
    case hB9x12 => kernel_rfl
    case hQ9x12 => exact fun _ _ _ h => h
    case hy9x12 => exact .inl ⟨by rfl, fun W hW => by
      go_simp⟩
    simp only [Act.put, List.setIfInBounds_toArray, List.set_cons_zero, List.set_cons_succ]
    refine RegD.wpAnyD_take 10 (oi := ?oi10x13) (v := .bool true) ?hi10x13 ?hB10x13 ?hQ10x13 ?hy10x13 hHeld ?rest10x13
    case hi10x13 => rfl
    case hB10x13 => kernel_rfl
    case hQ10x13 => exact fun _ _ _ h => h
    case hy10x13 => exact .inl ⟨by rfl, fun W hW => by
      go_simp⟩
    simp only [Act.put, List.setIfInBounds_toArray, List.set_cons_zero, List.set_cons_succ]
    refine RegD.wpAnyD_take 11 (oi := ?oi11x14) (v := undef) ?hi11x14 ?hB11x14 ?hQ11x14 ?hy11x14 hHeld ?rest11x14
    case hi11x14 => rfl
    case hB11x14 => kernel_rfl
    case hQ11x14 => exact fun _ _ _ h => h
    case hy11x14 => exact .inr ⟨by rfl, rfl⟩
    simp only [Act.put, List.setIfInBounds_toArray, List.set_cons_zero, List.set_cons_succ]
    refine RegD.wpAnyD_take 12 (oi := ?oi12x15) (v := undef) ?hi12x15 ?hB12x15 ?hQ12x15 ?hy12x15 hHeld ?rest12x15
    case hi12x15 => rfl
    case hB12x15 => kernel_rfl
    case hQ12x15 => exact fun _ _ _ h => h
    case hy12x15 => exact .inr ⟨by rfl, rfl⟩
    simp only [Act.put, List.setIfInBounds_toArray, List.set_cons_zero, List.set_cons_succ]
    refine RegD.wpAnyD_take 13 (oi := ?oi13x16) (v := undef) ?hi13x16 ?hB13x16 ?hQ13x16 ?hy13x16 hHeld ?rest13x16
    case hi13x16 => rfl
    case hB13x16 => kernel_rfl
    case hQ13x16 => exact fun _ _ _ h => h
    case hy13x16 => exact .inr ⟨by rfl, rfl⟩
    simp only [Act.put, List.setIfInBounds_toArray, List.set_cons_zero, List.set_cons_succ]
    refine RegD.wpAnyD_take 14 (oi := ?oi14x17) (v := undef) ?hi14x17 ?hB14x17 ?hQ14x17 ?hy14x17 hHeld ?rest14x17
    case hi14x17 => rfl
    case hB14x17 => kernel_rfl
    case hQ14x17 => exact fun _ _ _ h => h
    case hy14x17 => exact .inr ⟨by rfl, rfl⟩
    simp only [Act.put, List.setIfInBounds_toArray, List.set_cons_zero, List.set_cons_succ]
    refine RegD.wpAnyD_take 15 (oi := ?oi15x18) (v := undef) ?hi15x18 ?hB15x18 ?hQ15x18 ?hy15x18 hHeld ?rest15x18
    case hi15x18 => rfl
    case hB15x18 => kernel_rfl
    case hQ15x18 => exact fun _ _ _ h => h
    case hy15x18 => exact .inr ⟨by rfl, rfl⟩
    simp only [Act.put, List.setIfInBounds_toArray, List.set_cons_zero, List.set_cons_succ]
    refine RegD.wpAnyD_take 16 (oi := ?oi16x19) (v := undef) ?hi16x19 ?hB16x19 ?hQ16x19 ?hy16x19 hHeld ?rest16x19
    case hi16x19 => rfl
    case hB16x19 => kernel_rfl
    case hQ16x19 => exact fun _ _ _ h => h
    case hy16x19 => exact .inr ⟨by rfl, rfl⟩
    simp only [Act.put, List.setIfInBounds_toArray, List.set_cons_zero, List.set_cons_succ]
    refine RegD.wpAnyD_take 17 (oi := ?oi17x20) (v := undef) ?hi17x20 ?hB17x20 ?hQ17x20 ?hy17x20 hHeld ?rest17x20
    case hi17x20 => rfl
    case hB17x20 => kernel_rfl
    case hQ17x20 => exact fun _ _ _ h => h
    case hy17x20 => exact .inr ⟨by rfl, rfl⟩
    simp only [Act.put, List.setIfInBounds_toArray, List.set_cons_zero, List.set_cons_succ]
    refine RegD.wpAnyD_take 18 (oi := ?oi18x21) (v := undef) ?hi18x21 ?hB18x21 ?hQ18x21 ?hy18x21 hHeld ?rest18x21
    case hi18x21 => rfl
    case hB18x21 => kernel_rfl
    case hQ18x21 => exact fun _ _ _ h => h
    case hy18x21 => exact .inr ⟨by rfl, rfl⟩
    simp only [Act.put, List.setIfInBounds_toArray, List.set_cons_zero, List.set_cons_succ]
    refine RegD.wpAnyD_take 19 (oi := ?oi19x22) (v := undef) ?hi19x22 ?hB19x22 ?hQ19x22 ?hy19x22 hHeld ?rest19x22
    case hi19x22 => rfl
    case hB19x22 => kernel_rfl
    case hQ19x22 => exact fun _ _ _ h => h
    case hy19x22 => exact .inr ⟨by rfl, rfl⟩
    simp only [Act.put, List.setIfInBounds_toArray, List.set_cons_zero, List.set_cons_succ]
    refine RegD.wpAnyD_take 20 (oi := ?oi20x23) (v := undef) ?hi20x23 ?hB20x23 ?hQ20x23 ?hy20x23 hHeld ?rest20x23
    case hi20x23 => rfl
    case hB20x23 => kernel_rfl
    case hQ20x23 => exact fun _ _ _ h => h
    case hy20x23 => exact .inr ⟨by rfl, rfl⟩
    simp only [Act.put, List.setIfInBounds_toArray, List.set_cons_zero, List.set_cons_succ]
    refine RegD.wpAnyD_take 21 (oi := ?oi21x24) (v := .bool true) ?hi21x24 ?hB21x24 ?hQ21x24 ?hy21x24 hHeld ?rest21x24
    case hi21x24 => rfl
    case hB21x24 => kernel_rfl
    case hQ21x24 => exact fun _ _ _ h => h
    case hy21x24 => exact .inl ⟨by rfl, fun W hW => by
      go_simp⟩
    simp only [Act.put, List.setIfInBounds_toArray, List.set_cons_zero, List.set_cons_succ]
    have HBB : Hid (Below w.heap.size w (w.alloc (.cells #[.int .i64 f1, .string f2, .string f3, .string f4, .int .i64 f5, .int .i64 f6, .int .i64 f7, .string f8, .bool f9] 40)).drew) := HB0.out.drew
    clear hHeld
    refine RegD.wpAnyD_late 22 (o := ?o22x25) ?ho22x25 ?hr22x25 ?hd22x25 ?h22x25
    case ho22x25 => rfl
    case hr22x25 => kernel_rfl
    case hd22x25 => kernel_rfl
    intro K hK
    go_simp
    refine hK.out _ _ ?_
    clear hK K
    refine RegD.wpAnyD_done (by kernel_rfl) ?_ _
    go_wp2_with fail
    go_ret
    exact ⟨by rw [HE.out]; rfl, HBB.out⟩
  · by_cases h2 : laterI f6 r.life < now
    · have HE : Hid (oldF r now ⟨f1, f2, f3, f4, f5, f6, f7, f8, f9⟩ = true) := by show _ = true; unfold oldF; simp [h2]
      go_enter Tryz.func89, Tryz.ntmps89
      go_upto_region 1 with fail
      refine RegD.wp_region_D (fun W => FB W w.heap.size ⟨f1, f2, f3, f4, f5, f6, f7, f8, f9⟩ ∧ SvAt W gv gs r) 22 (by kernel_rfl) (⟨HF0.out.on (Below.refl _ _).drew, HA0.out.on (Below.refl _ _).drew⟩) (fun hHeld => ?_)
      refine RegD.wpAnyD_take 0 (oi := ?oi0x29) (v := .int .i64 now) ?hi0x29 ?hB0x29 ?hQ0x29 ?hy0x29 hHeld ?rest0x29
      case hi0x29 => rfl
      case hB0x29 => kernel_rfl
      case hQ0x29 => exact fun _ _ _ h => h
      case hy0x29 => exact .inl ⟨by rfl, fun W hW => by
        go_simp⟩
      simp only [Act.put, List.setIfInBounds_toArray, List.set_cons_zero, List.set_cons_succ]
      refine RegD.wpAnyD_take 1 (oi := ?oi1x30) (v := .pointer (some ⟨w.heap.size, 6, none⟩)) ?hi1x30 ?hB1x30 ?hQ1x30 ?hy1x30 hHeld ?rest1x30
      case hi1x30 => rfl
      case hB1x30 => kernel_rfl
      case hQ1x30 => exact fun _ _ _ h => h
      case hy1x30 => exact .inl ⟨by rfl, fun W hW => by
        go_simp⟩
      simp only [Act.put, List.setIfInBounds_toArray, List.set_cons_zero, List.set_cons_succ]
      refine RegD.wpAnyD_take 2 (oi := ?oi2x31) (v := .int .i64 f7) ?hi2x31 ?hB2x31 ?hQ2x31 ?hy2x31 hHeld ?rest2x31
      case hi2x31 => rfl
      case hB2x31 => kernel_rfl
      case hQ2x31 => exact fun _ _ _ h => h
      case hy2x31 => exact .inl ⟨by rfl, fun W hW => by
        have a0 := hW.1.c6
        go_simp⟩
      simp only [Act.put, List.setIfInBounds_toArray, List.set_cons_zero, List.set_cons_succ]
      refine RegD.wpAnyD_take 3 (oi := ?oi3x32) (v := .pointer (some ⟨gv, 0, none⟩)) ?hi3x32 ?hB3x32 ?hQ3x32 ?hy3x32 hHeld ?rest3x32
      case hi3x32 => rfl
      case hB3x32 => kernel_rfl
      case hQ3x32 => exact fun _ _ _ h => h
      case hy3x32 => exact .inl ⟨by rfl, fun W hW => by
        go_simp⟩
      simp only [Act.put, List.setIfInBounds_toArray, List.set_cons_zero, List.set_cons_succ]
      refine RegD.wpAnyD_take 4 (oi := ?oi4x33) (v := .pointer (some ⟨gv, 0, none⟩)) ?hi4x33 ?hB4x33 ?hQ4x33 ?hy4x33 hHeld ?rest4x33
      case hi4x33 => rfl
      case hB4x33 => kernel_rfl
      case hQ4x33 => exact fun _ _ _ h => h
      case hy4x33 => exact .inl ⟨by rfl, fun W hW => by
        go_simp⟩
      simp only [Act.put, List.setIfInBounds_toArray, List.set_cons_zero, List.set_cons_succ]
      refine RegD.wpAnyD_take 5 (oi := ?oi5x34) (v := .pointer (some ⟨gv, 1, none⟩)) ?hi5x34 ?hB5x34 ?hQ5x34 ?hy5x34 hHeld ?rest5x34
      case hi5x34 => rfl
      case hB5x34 => kernel_rfl
      case hQ5x34 => exact fun _ _ _ h => h
      case hy5x34 => exact .inl ⟨by rfl, fun W hW => by
        go_simp⟩
      simp only [Act.put, List.setIfInBounds_toArray, List.set_cons_zero, List.set_cons_succ]
      refine RegD.wpAnyD_take 6 (oi := ?oi6x35) (v := .pointer (some ⟨gv, 2, none⟩)) ?hi6x35 ?hB6x35 ?hQ6x35 ?hy6x35 hHeld ?rest6x35
      case hi6x35 => rfl
      case hB6x35 => kernel_rfl
      case hQ6x35 => exact fun _ _ _ h => h
      case hy6x35 => exact .inl ⟨by rfl, fun W hW => by
        go_simp⟩
      simp only [Act.put, List.setIfInBounds_toArray, List.set_cons_zero, List.set_cons_succ]
      refine RegD.wpAnyD_take 7 (oi := ?oi7x36) (v := .int .i64 r.idle) ?hi7x36 ?hB7x36 ?hQ7x36 ?hy7x36 hHeld ?rest7x36
      case hi7x36 => rfl
      case hB7x36 => kernel_rfl
      case hQ7x36 => exact fun _ _ _ h => h
      case hy7x36 => exact .inl ⟨by rfl, fun W hW => by
        have a0 := hW.2.c2
        go_simp⟩
      simp only [Act.put, List.setIfInBounds_toArray, List.set_cons_zero, List.set_cons_succ]
      refine RegD.wpAnyD_one 8 (o := ?o8x37) ?ho8x37 ?hr8x37 ?h8x37
      case ho8x37 => rfl
      case hr8x37 => kernel_rfl
      intro K hK
      go_simp
      go_at_call 82
      refine (later_is _ _ HU.out HRU.out.idle _).mono ?_
      rintro e1 w1 ⟨rfl, rfl⟩
      go_wp2_with fail
      refine hK.out _ _ (hHeld) ?_
      clear hK hHeld
      intro hHeld
      clear K
      refine RegD.wpAnyD_take 9 (oi := ?oi9x39) (v := .bool false) ?hi9x39 ?hB9x39 ?hQ9x39 ?hy9x39 hHeld ?rest9x39
      case hi9x39 => rfl
      case hB9x39 => kernel_rfl
      case hQ9x39 => exact fun _ _ _ h => h
      case hy9x39 => exact .inl ⟨by rfl, fun W hW => by
        go_simp⟩
      simp only [Act.put, List.setIfInBounds_toArray, List.set_cons_zero, List.set_cons_succ]
      refine RegD.wpAnyD_take 10 (oi := ?oi10x40) (v := .bool false) ?hi10x40 ?hB10x40 ?hQ10x40 ?hy10x40 hHeld ?rest10x40
      case hi10x40 => rfl
      case hB10x40 => kernel_rfl
      case hQ10x40 => exact fun _ _ _ h => h
      case hy10x40 => exact .inl ⟨by rfl, fun W hW => by
        go_simp⟩
      simp only [Act.put, List.setIfInBounds_toArray, List.set_cons_zero, List.set_cons_succ]
      refine RegD.wpAnyD_take 11 (oi := ?oi11x41) (v := .int .i64 now) ?hi11x41 ?hB11x41 ?hQ11x41 ?hy11x41 hHeld ?rest11x41
      case hi11x41 => rfl
      case hB11x41 => kernel_rfl
      case hQ11x41 => exact fun _ _ _ h => h
      case hy11x41 => exact .inl ⟨by rfl, fun W hW => by
        go_simp⟩
      simp only [Act.put, List.setIfInBounds_toArray, List.set_cons_zero, List.set_cons_succ]
      refine RegD.wpAnyD_take 12 (oi := ?oi12x42) (v := .pointer (some ⟨w.heap.size, 5, none⟩)) ?hi12x42 ?hB12x42 ?hQ12x42 ?hy12x42 hHeld ?rest12x42
      case hi12x42 => rfl
      case hB12x42 => kernel_rfl
      case hQ12x42 => exact fun _ _ _ h => h
      case hy12x42 => exact .inl ⟨by rfl, fun W hW => by
        go_simp⟩
      simp only [Act.put, List.setIfInBounds_toArray, List.set_cons_zero, List.set_cons_succ]
      refine RegD.wpAnyD_take 13 (oi := ?oi13x43) (v := .int .i64 f6) ?hi13x43 ?hB13x43 ?hQ13x43 ?hy13x43 hHeld ?rest13x43
      case hi13x43 => rfl
      case hB13x43 => kernel_rfl
      case hQ13x43 => exact fun _ _ _ h => h
      case hy13x43 => exact .inl ⟨by rfl, fun W hW => by
        have a0 := hW.1.c5
        go_simp⟩
      simp only [Act.put, List.setIfInBounds_toArray, List.set_cons_zero, List.set_cons_succ]
      refine RegD.wpAnyD_take 14 (oi := ?oi14x44) (v := .pointer (some ⟨gv, 0, none⟩)) ?hi14x44 ?hB14x44 ?hQ14x44 ?hy14x44 hHeld ?rest14x44
      case hi14x44 => rfl
      case hB14x44 => kernel_rfl
      case hQ14x44 => exact fun _ _ _ h => h
      case hy14x44 => exact .inl ⟨by rfl, fun W hW => by
        go_simp⟩
      simp only [Act.put, List.setIfInBounds_toArray, List.set_cons_zero, List.set_cons_succ]
      refine RegD.wpAnyD_take 15 (oi := ?oi15x45) (v := .pointer (some ⟨gv, 0, none⟩)) ?hi15x45 ?hB15x45 ?hQ15x45 ?hy15x45 hHeld ?rest15x45
      case hi15x45 => rfl
      case hB15x45 => kernel_rfl
      case hQ15x45 => exact fun _ _ _ h => h
      case hy15x45 => exact .inl ⟨by rfl, fun W hW => by
        go_simp⟩
      simp only [Act.put, List.setIfInBounds_toArray, List.set_cons_zero, List.set_cons_succ]
      refine RegD.wpAnyD_take 16 (oi := ?oi16x46) (v := .pointer (some ⟨gv, 1, none⟩)) ?hi16x46 ?hB16x46 ?hQ16x46 ?hy16x46 hHeld ?rest16x46
      case hi16x46 => rfl
      case hB16x46 => kernel_rfl
      case hQ16x46 => exact fun _ _ _ h => h
      case hy16x46 => exact .inl ⟨by rfl, fun W hW => by
        go_simp⟩
      simp only [Act.put, List.setIfInBounds_toArray, List.set_cons_zero, List.set_cons_succ]
      refine RegD.wpAnyD_take 17 (oi := ?oi17x47) (v := .pointer (some ⟨gv, 3, none⟩)) ?hi17x47 ?hB17x47 ?hQ17x47 ?hy17x47 hHeld ?rest17x47
      case hi17x47 => rfl
      case hB17x47 => kernel_rfl
      case hQ17x47 => exact fun _ _ _ h => h
      case hy17x47 => exact .inl ⟨by rfl, fun W hW => by
        go_simp⟩
      simp only [Act.put, List.setIfInBounds_toArray, List.set_cons_zero, List.set_cons_succ]
      refine RegD.wpAnyD_take 18 (oi := ?oi18x48) (v := .int .i64 r.life) ?hi18x48 ?hB18x48 ?hQ18x48 ?hy18x48 hHeld ?rest18x48
      case hi18x48 => rfl
      case hB18x48 => kernel_rfl
      case hQ18x48 => exact fun _ _ _ h => h
      case hy18x48 => exact .inl ⟨by rfl, fun W hW => by
        have a0 := hW.2.c3
        go_simp⟩
      simp only [Act.put, List.setIfInBounds_toArray, List.set_cons_zero, List.set_cons_succ]
      refine RegD.wpAnyD_one 19 (o := ?o19x49) ?ho19x49 ?hr19x49 ?h19x49
      case ho19x49 => rfl
      case hr19x49 => kernel_rfl
      intro K hK
      go_simp
      go_at_call 82
      refine (later_is _ _ HMD.out HRU.out.life _).mono ?_
      rintro e2 w2 ⟨rfl, rfl⟩
      go_wp2_with fail
      refine hK.out _ _ (hHeld) ?_
      clear hK hHeld
      intro hHeld
      clear K
      refine RegD.wpAnyD_take 20 (oi := ?oi20x51) (v := .bool true) ?hi20x51 ?hB20x51 ?hQ20x51 ?hy20x51 hHeld ?rest20x51
      case hi20x51 => rfl
      case hB20x51 => kernel_rfl
      case hQ20x51 => exact fun _ _ _ h => h
      case hy20x51 => exact .inl ⟨by rfl, fun W hW => by
        go_simp⟩
      simp only [Act.put, List.setIfInBounds_toArray, List.set_cons_zero, List.set_cons_succ]
      refine RegD.wpAnyD_take 21 (oi := ?oi21x52) (v := .bool true) ?hi21x52 ?hB21x52 ?hQ21x52 ?hy21x52 hHeld ?rest21x52
      case hi21x52 => rfl
      case hB21x52 => kernel_rfl
      case hQ21x52 => exact fun _ _ _ h => h
      case hy21x52 => exact .inl ⟨by rfl, fun W hW => by
        go_simp⟩
      simp only [Act.put, List.setIfInBounds_toArray, List.set_cons_zero, List.set_cons_succ]
      have HBB : Hid (Below w.heap.size w (w.alloc (.cells #[.int .i64 f1, .string f2, .string f3, .string f4, .int .i64 f5, .int .i64 f6, .int .i64 f7, .string f8, .bool f9] 40)).drew) := HB0.out.drew
      clear hHeld
      refine RegD.wpAnyD_late 22 (o := ?o22x53) ?ho22x53 ?hr22x53 ?hd22x53 ?h22x53
      case ho22x53 => rfl
      case hr22x53 => kernel_rfl
      case hd22x53 => kernel_rfl
      intro K hK
      go_simp
      refine hK.out _ _ ?_
      clear hK K
      refine RegD.wpAnyD_done (by kernel_rfl) ?_ _
      go_wp2_with fail
      go_ret
      exact ⟨by rw [HE.out]; rfl, HBB.out⟩
    · have HE : Hid (oldF r now ⟨f1, f2, f3, f4, f5, f6, f7, f8, f9⟩ = false) := by show _ = false; unfold oldF; simp [h1, h2]
      go_enter Tryz.func89, Tryz.ntmps89
      go_upto_region 1 with fail
      refine RegD.wp_region_D (fun W => FB W w.heap.size ⟨f1, f2, f3, f4, f5, f6, f7, f8, f9⟩ ∧ SvAt W gv gs r) 22 (by kernel_rfl) (⟨HF0.out.on (Below.refl _ _).drew, HA0.out.on (Below.refl _ _).drew⟩) (fun hHeld => ?_)
      refine RegD.wpAnyD_take 0 (oi := ?oi0x57) (v := .int .i64 now) ?hi0x57 ?hB0x57 ?hQ0x57 ?hy0x57 hHeld ?rest0x57
      case hi0x57 => rfl
      case hB0x57 => kernel_rfl
      case hQ0x57 => exact fun _ _ _ h => h
      case hy0x57 => exact .inl ⟨by rfl, fun W hW => by
        go_simp⟩
      simp only [Act.put, List.setIfInBounds_toArray, List.set_cons_zero, List.set_cons_succ]
      refine RegD.wpAnyD_take 1 (oi := ?oi1x58) (v := .pointer (some ⟨w.heap.size, 6, none⟩)) ?hi1x58 ?hB1x58 ?hQ1x58 ?hy1x58 hHeld ?rest1x58
      case hi1x58 => rfl
      case hB1x58 => kernel_rfl
      case hQ1x58 => exact fun _ _ _ h => h
      case hy1x58 => exact .inl ⟨by rfl, fun W hW => by
        go_simp⟩
      simp only [Act.put, List.setIfInBounds_toArray, List.set_cons_zero, List.set_cons_succ]
      refine RegD.wpAnyD_take 2 (oi := ?oi2x59) (v := .int .i64 f7) ?hi2x59 ?hB2x59 ?hQ2x59 ?hy2x59 hHeld ?rest2x59
      case hi2x59 => rfl
      case hB2x59 => kernel_rfl
      case hQ2x59 => exact fun _ _ _ h => h
      case hy2x59 => exact .inl ⟨by rfl, fun W hW => by
        have a0 := hW.1.c6
        go_simp⟩
      simp only [Act.put, List.setIfInBounds_toArray, List.set_cons_zero, List.set_cons_succ]
      refine RegD.wpAnyD_take 3 (oi := ?oi3x60) (v := .pointer (some ⟨gv, 0, none⟩)) ?hi3x60 ?hB3x60 ?hQ3x60 ?hy3x60 hHeld ?rest3x60
      case hi3x60 => rfl
      case hB3x60 => kernel_rfl
      case hQ3x60 => exact fun _ _ _ h => h
      case hy3x60 => exact .inl ⟨by rfl, fun W hW => by
        go_simp⟩
      simp only [Act.put, List.setIfInBounds_toArray, List.set_cons_zero, List.set_cons_succ]
      refine RegD.wpAnyD_take 4 (oi := ?oi4x61) (v := .pointer (some ⟨gv, 0, none⟩)) ?hi4x61 ?hB4x61 ?hQ4x61 ?hy4x61 hHeld ?rest4x61
      case hi4x61 => rfl
      case hB4x61 => kernel_rfl
      case hQ4x61 => exact fun _ _ _ h => h
      case hy4x61 => exact .inl ⟨by rfl, fun W hW => by
        go_simp⟩
      simp only [Act.put, List.setIfInBounds_toArray, List.set_cons_zero, List.set_cons_succ]
      refine RegD.wpAnyD_take 5 (oi := ?oi5x62) (v := .pointer (some ⟨gv, 1, none⟩)) ?hi5x62 ?hB5x62 ?hQ5x62 ?hy5x62 hHeld ?rest5x62
      case hi5x62 => rfl
      case hB5x62 => kernel_rfl
      case hQ5x62 => exact fun _ _ _ h => h
      case hy5x62 => exact .inl ⟨by rfl, fun W hW => by
        go_simp⟩
      simp only [Act.put, List.setIfInBounds_toArray, List.set_cons_zero, List.set_cons_succ]
      refine RegD.wpAnyD_take 6 (oi := ?oi6x63) (v := .pointer (some ⟨gv, 2, none⟩)) ?hi6x63 ?hB6x63 ?hQ6x63 ?hy6x63 hHeld ?rest6x63
      case hi6x63 => rfl
      case hB6x63 => kernel_rfl
      case hQ6x63 => exact fun _ _ _ h => h
      case hy6x63 => exact .inl ⟨by rfl, fun W hW => by
        go_simp⟩
      simp only [Act.put, List.setIfInBounds_toArray, List.set_cons_zero, List.set_cons_succ]
      refine RegD.wpAnyD_take 7 (oi := ?oi7x64) (v := .int .i64 r.idle) ?hi7x64 ?hB7x64 ?hQ7x64 ?hy7x64 hHeld ?rest7x64
      case hi7x64 => rfl
      case hB7x64 => kernel_rfl
      case hQ7x64 => exact fun _ _ _ h => h
      case hy7x64 => exact .inl ⟨by rfl, fun W hW => by
        have a0 := hW.2.c2
        go_simp⟩
      simp only [Act.put, List.setIfInBounds_toArray, List.set_cons_zero, List.set_cons_succ]
      refine RegD.wpAnyD_one 8 (o := ?o8x65) ?ho8x65 ?hr8x65 ?h8x65
      case ho8x65 => rfl
      case hr8x65 => kernel_rfl
      intro K hK
      go_simp
      go_at_call 82
      refine (later_is _ _ HU.out HRU.out.idle _).mono ?_
      rintro e1 w1 ⟨rfl, rfl⟩
      go_wp2_with fail
      refine hK.out _ _ (hHeld) ?_
      clear hK hHeld
      intro hHeld
      clear K
      refine RegD.wpAnyD_take 9 (oi := ?oi9x67) (v := .bool false) ?hi9x67 ?hB9x67 ?hQ9x67 ?hy9x67 hHeld ?rest9x67
      case hi9x67 => rfl
      case hB9x67 => kernel_rfl
      case hQ9x67 => exact fun _ _ _ h => h
      case hy9x67 => exact .inl ⟨by rfl, fun W hW => by
        go_simp⟩
      simp only [Act.put, List.setIfInBounds_toArray, List.set_cons_zero, List.set_cons_succ]
      refine RegD.wpAnyD_take 10 (oi := ?oi10x68) (v := .bool false) ?hi10x68 ?hB10x68 ?hQ10x68 ?hy10x68 hHeld ?rest10x68
      case hi10x68 => rfl
      case hB10x68 => kernel_rfl
      case hQ10x68 => exact fun _ _ _ h => h
      case hy10x68 => exact .inl ⟨by rfl, fun W hW => by
        go_simp⟩
      simp only [Act.put, List.setIfInBounds_toArray, List.set_cons_zero, List.set_cons_succ]
      refine RegD.wpAnyD_take 11 (oi := ?oi11x69) (v := .int .i64 now) ?hi11x69 ?hB11x69 ?hQ11x69 ?hy11x69 hHeld ?rest11x69
      case hi11x69 => rfl
      case hB11x69 => kernel_rfl
      case hQ11x69 => exact fun _ _ _ h => h
      case hy11x69 => exact .inl ⟨by rfl, fun W hW => by
        go_simp⟩
      simp only [Act.put, List.setIfInBounds_toArray, List.set_cons_zero, List.set_cons_succ]
      refine RegD.wpAnyD_take 12 (oi := ?oi12x70) (v := .pointer (some ⟨w.heap.size, 5, none⟩)) ?hi12x70 ?hB12x70 ?hQ12x70 ?hy12x70 hHeld ?rest12x70
      case hi12x70 => rfl
      case hB12x70 => kernel_rfl
      case hQ12x70 => exact fun _ _ _ h => h
      case hy12x70 => exact .inl ⟨by rfl, fun W hW => by
        go_simp⟩
      simp only [Act.put, List.setIfInBounds_toArray, List.set_cons_zero, List.set_cons_succ]
      refine RegD.wpAnyD_take 13 (oi := ?oi13x71) (v := .int .i64 f6) ?hi13x71 ?hB13x71 ?hQ13x71 ?hy13x71 hHeld ?rest13x71
      case hi13x71 => rfl
      case hB13x71 => kernel_rfl
      case hQ13x71 => exact fun _ _ _ h => h
      case hy13x71 => exact .inl ⟨by rfl, fun W hW => by
        have a0 := hW.1.c5
        go_simp⟩
      simp only [Act.put, List.setIfInBounds_toArray, List.set_cons_zero, List.set_cons_succ]
      refine RegD.wpAnyD_take 14 (oi := ?oi14x72) (v := .pointer (some ⟨gv, 0, none⟩)) ?hi14x72 ?hB14x72 ?hQ14x72 ?hy14x72 hHeld ?rest14x72
      case hi14x72 => rfl
      case hB14x72 => kernel_rfl
      case hQ14x72 => exact fun _ _ _ h => h
      case hy14x72 => exact .inl ⟨by rfl, fun W hW => by
        go_simp⟩
      simp only [Act.put, List.setIfInBounds_toArray, List.set_cons_zero, List.set_cons_succ]
      refine RegD.wpAnyD_take 15 (oi := ?oi15x73) (v := .pointer (some ⟨gv, 0, none⟩)) ?hi15x73 ?hB15x73 ?hQ15x73 ?hy15x73 hHeld ?rest15x73
      case hi15x73 => rfl
      case hB15x73 => kernel_rfl
      case hQ15x73 => exact fun _ _ _ h => h
      case hy15x73 => exact .inl ⟨by rfl, fun W hW => by
        go_simp⟩
      simp only [Act.put, List.setIfInBounds_toArray, List.set_cons_zero, List.set_cons_succ]
      refine RegD.wpAnyD_take 16 (oi := ?oi16x74) (v := .pointer (some ⟨gv, 1, none⟩)) ?hi16x74 ?hB16x74 ?hQ16x74 ?hy16x74 hHeld ?rest16x74
      case hi16x74 => rfl
      case hB16x74 => kernel_rfl
      case hQ16x74 => exact fun _ _ _ h => h
      case hy16x74 => exact .inl ⟨by rfl, fun W hW => by
        go_simp⟩
      simp only [Act.put, List.setIfInBounds_toArray, List.set_cons_zero, List.set_cons_succ]
      refine RegD.wpAnyD_take 17 (oi := ?oi17x75) (v := .pointer (some ⟨gv, 3, none⟩)) ?hi17x75 ?hB17x75 ?hQ17x75 ?hy17x75 hHeld ?rest17x75
      case hi17x75 => rfl
      case hB17x75 => kernel_rfl
      case hQ17x75 => exact fun _ _ _ h => h
      case hy17x75 => exact .inl ⟨by rfl, fun W hW => by
        go_simp⟩
      simp only [Act.put, List.setIfInBounds_toArray, List.set_cons_zero, List.set_cons_succ]
      refine RegD.wpAnyD_take 18 (oi := ?oi18x76) (v := .int .i64 r.life) ?hi18x76 ?hB18x76 ?hQ18x76 ?hy18x76 hHeld ?rest18x76
      case hi18x76 => rfl
      case hB18x76 => kernel_rfl
      case hQ18x76 => exact fun _ _ _ h => h
      case hy18x76 => exact .inl ⟨by rfl, fun W hW => by
        have a0 := hW.2.c3
        go_simp⟩
      simp only [Act.put, List.setIfInBounds_toArray, List.set_cons_zero, List.set_cons_succ]
      refine RegD.wpAnyD_one 19 (o := ?o19x77) ?ho19x77 ?hr19x77 ?h19x77
      case ho19x77 => rfl
      case hr19x77 => kernel_rfl
      intro K hK
      go_simp
      go_at_call 82
      refine (later_is _ _ HMD.out HRU.out.life _).mono ?_
      rintro e2 w2 ⟨rfl, rfl⟩
      go_wp2_with fail
      refine hK.out _ _ (hHeld) ?_
      clear hK hHeld
      intro hHeld
      clear K
      refine RegD.wpAnyD_take 20 (oi := ?oi20x79) (v := .bool false) ?hi20x79 ?hB20x79 ?hQ20x79 ?hy20x79 hHeld ?rest20x79
      case hi20x79 => rfl
      case hB20x79 => kernel_rfl
      case hQ20x79 => exact fun _ _ _ h => h
      case hy20x79 => exact .inl ⟨by rfl, fun W hW => by
        go_simp⟩
      simp only [Act.put, List.setIfInBounds_toArray, List.set_cons_zero, List.set_cons_succ]
      refine RegD.wpAnyD_take 21 (oi := ?oi21x80) (v := .bool false) ?hi21x80 ?hB21x80 ?hQ21x80 ?hy21x80 hHeld ?rest21x80
      case hi21x80 => rfl
      case hB21x80 => kernel_rfl
      case hQ21x80 => exact fun _ _ _ h => h
      case hy21x80 => exact .inl ⟨by rfl, fun W hW => by
        go_simp⟩
      simp only [Act.put, List.setIfInBounds_toArray, List.set_cons_zero, List.set_cons_succ]
      have HBB : Hid (Below w.heap.size w (w.alloc (.cells #[.int .i64 f1, .string f2, .string f3, .string f4, .int .i64 f5, .int .i64 f6, .int .i64 f7, .string f8, .bool f9] 40)).drew) := HB0.out.drew
      clear hHeld
      refine RegD.wpAnyD_late 22 (o := ?o22x81) ?ho22x81 ?hr22x81 ?hd22x81 ?h22x81
      case ho22x81 => rfl
      case hr22x81 => kernel_rfl
      case hd22x81 => kernel_rfl
      intro K hK
      go_simp
      refine hK.out _ _ ?_
      clear hK K
      refine RegD.wpAnyD_done (by kernel_rfl) ?_ _
      go_wp2_with fail
      go_ret
      exact ⟨by rw [HE.out]; rfl, HBB.out⟩
set_option maxRecDepth 100000 in
set_option maxHeartbeats 8000000 in
theorem svState_is (N : Nat) (w : World) (gv gs gd : Nat) (r : Rul) (p : Pub) (v : Value) (h : SvIs N w gv gs gd r p v) :
    Calls Tryz.prog 43 #[.pointer (some ⟨gv, 0, none⟩)] w fun e w' => ∃ v', e = .returned (stV p.st.clock p.st.next v') ∧ Fams w.heap.size w' v' p.st.fams ∧ Below w.heap.size w w' := by
  have HB0 : Hid (Below w.heap.size w (w.alloc (.cells #[.int .i64 0, .int .i64 0, .slice none 0 0] 36))) := (Below.refl _ _).alloc (Nat.le_refl _) _
  have HS0 : Hid _ := h.on HB0.out
  have c0 := HS0.out.box.c0
  have hz : ∀ i, (w.alloc (.cells #[.int .i64 0, .int .i64 0, .slice none 0 0] 36)).cell? ⟨w.heap.size, i, none⟩ = (#[.int .i64 0, .int .i64 0, .slice none 0 0] : Array Value)[i]? := fun i => World.cell?_alloc_at _ _ _ _ rfl
  have HZ : Hid (∀ i, _) := hz
  have hzf : ∀ i, (w.alloc (.cells #[.int .i64 0, .int .i64 0, .slice none 0 0] 36)).frozen? ⟨w.heap.size, i, none⟩ = false := fun i => World.frozen?_alloc_at _ _ _ _ rfl
  have HZF : Hid (∀ i, _) := hzf
  have hs : (w.alloc (.cells #[.int .i64 0, .int .i64 0, .slice none 0 0] 36)).heap.size = w.heap.size + 1 := by simp
  have HSZ : Hid _ := hs
  clear h hz hzf hs
  unfold stV
  go_enter Tryz.func43, Tryz.ntmps43
  go_wp2_with fail
  refine (stateS_is _ _ _ _ _ _ HS0.out.sp).mono ?_
  rintro e1 w1 ⟨v1, rfl, hf1, hb1⟩
  obtain ⟨b1, c1, rfl⟩ := RowsK.slice hf1
  unfold stV
  have HB1 : Hid (Below w.heap.size w w1) := HB0.out.trans (hb1.mono HB0.out.size)
  have hlt : w.heap.size < (w.alloc (.cells #[.int .i64 0, .int .i64 0, .slice none 0 0] 36)).heap.size := by rw [HSZ.out]; omega
  have z0 := (hb1.cell (p := ⟨w.heap.size, 0, none⟩) hlt).trans ((HZ.out 0).trans rfl)
  have z1 := (hb1.cell (p := ⟨w.heap.size, 1, none⟩) hlt).trans ((HZ.out 1).trans rfl)
  have z2 := (hb1.cell (p := ⟨w.heap.size, 2, none⟩) hlt).trans ((HZ.out 2).trans rfl)
  have zf : ∀ i, w1.frozen? ⟨w.heap.size, i, none⟩ = false := fun i => (hb1.frozen (p := ⟨w.heap.size, i, none⟩) hlt).trans (HZF.out i)
  have HF1 : Hid (Fams (w.heap.size + 1) w1 (.slice b1 p.st.fams.length c1) p.st.fams) := by rw [← HSZ.out]; exact hf1
  clear hf1 hb1 hlt c0
  have HBF : Hid (Below w.heap.size w (((w1.setCell ⟨w.heap.size, 0, none⟩ (.int .i64 p.st.clock)).setCell ⟨w.heap.size, 1, none⟩ (.int .i64 p.st.next)).setCell ⟨w.heap.size, 2, none⟩ (.slice b1 p.st.fams.length c1))) := HB1.out.trans (below3 _ 0 1 2 _ _ _ _)
  have HFF : Hid (Fams w.heap.size (((w1.setCell ⟨w.heap.size, 0, none⟩ (.int .i64 p.st.clock)).setCell ⟨w.heap.size, 1, none⟩ (.int .i64 p.st.next)).setCell ⟨w.heap.size, 2, none⟩ (.slice b1 p.st.fams.length c1)) (.slice b1 p.st.fams.length c1) p.st.fams) :=
    RowsK.mono (((HF1.out.other (a := ⟨w.heap.size, 0, none⟩) (Nat.lt_succ_self _) _).other (a := ⟨w.heap.size, 1, none⟩) (Nat.lt_succ_self _) _).other (a := ⟨w.heap.size, 2, none⟩) (Nat.lt_succ_self _) _) (Nat.le_succ _)
  obtain ⟨q0, q1, q2⟩ := @three_set w1 w.heap.size (.int .i64 p.st.clock) (.int .i64 p.st.next) (.slice b1 p.st.fams.length c1) _ _ _ z0 z1 z2
  go_wp2_with fail
  have HBF2 := HBF.out
  have HFF2 := HFF.out
  clear HBF HFF z0 z1 z2 zf
  generalize World.setCell _ ⟨w.heap.size, 2, none⟩ _ = WW at *
  exact bodyPost_ret (v := .agg #[.int .i64 p.st.clock, .int .i64 p.st.next, .slice b1 p.st.fams.length c1]) (by simp [results, Tryz.results43, go_sem, q0, q1, q2]) rfl ⟨_, rfl, HFF2, HBF2⟩
set_option maxRecDepth 100000 in
set_option maxHeartbeats 8000000 in
theorem refresh_is (N : Nat) (w : World) (gv gs gd : Nat) (r : Rul) (p : Pub) (v : Value) (f : Fam) (h : SvIs N w gv gs gd r p v) (hf : mayF f) :
    Calls Tryz.prog 77 #[.pointer (some ⟨gv, 0, none⟩), famV f] w fun e w' => e = .returned (.tuple #[.string (txtB r ⟨1, f.id, f.gen, 0⟩), .nilIface]) ∧ Below w.heap.size w w' := by
  have hmt : Tok.may ⟨1, f.id, f.gen, 0⟩ := ⟨.inl ⟨rfl, rfl⟩, hf.1.1, hf.1.2.1⟩
  obtain ⟨f1, f2, f3, f4, f5, f6, f7, f8, f9⟩ := f
  have HB0 : Hid (Below w.heap.size w (w.alloc (.cells #[.int .i64 f1, .string f2, .string f3, .string f4, .int .i64 f5, .int .i64 f6, .int .i64 f7, .string f8, .bool f9] 40))) := (Below.refl _ _).alloc (Nat.le_refl _) _
  have HF0 : Hid (FB (w.alloc (.cells #[.int .i64 f1, .string f2, .string f3, .string f4, .int .i64 f5, .int .i64 f6, .int .i64 f7, .string f8, .bool f9] 40)) w.heap.size ⟨f1, f2, f3, f4, f5, f6, f7, f8, f9⟩) := FB.made w ⟨f1, f2, f3, f4, f5, f6, f7, f8, f9⟩ _
  have HA0 : Hid (SvAt (w.alloc (.cells #[.int .i64 f1, .string f2, .string f3, .string f4, .int .i64 f5, .int .i64 f6, .int .i64 f7, .string f8, .bool f9] 40)) gv gs r) := h.box.on HB0.out
  have HWT : Hid (∀ (W : World), Below (w.alloc (.cells #[.int .i64 f1, .string f2, .string f3, .string f4, .int .i64 f5, .int .i64 f6, .int .i64 f7, .string f8, .bool f9] 40)).drew.heap.size (w.alloc (.cells #[.int .i64 f1, .string f2, .string f3, .string f4, .int .i64 f5, .int .i64 f6, .int .i64 f7, .string f8, .bool f9] 40)).drew W → Calls Tryz.prog 81 #[.int .i64 r.key, .agg #[.int .i64 1, .int .i64 f1, .int .i64 f5, .int .i64 0]] W fun e w' => e = .returned (.tuple #[.string (txtB r ⟨1, f1, f5, 0⟩), .nilIface]) ∧ Below W.heap.size W w') := fun W hW => writeP_yes r.key ⟨1, f1, f5, 0⟩ W hmt (((h.libs.on HB0.out).on (Below.refl _ _).drew).on hW).base
  unfold famV famCs
  simp only
  clear h hf hmt
  go_enter Tryz.func77, Tryz.ntmps77
  go_upto_region 1 with fail
  refine RegD.wp_region_D (fun W => FB W w.heap.size ⟨f1, f2, f3, f4, f5, f6, f7, f8, f9⟩ ∧ SvAt W gv gs r) 14 (by kernel_rfl) (⟨HF0.out.on (Below.refl _ _).drew, HA0.out.on (Below.refl _ _).drew⟩) (fun hHeld => ?_)
  refine RegD.wpAnyD_take 0 (oi := ?oi0x85) (v := .pointer (some ⟨gv, 0, none⟩)) ?hi0x85 ?hB0x85 ?hQ0x85 ?hy0x85 hHeld ?rest0x85
  case hi0x85 => rfl
  case hB0x85 => kernel_rfl
  case hQ0x85 => exact fun _ _ _ h => h
  case hy0x85 => exact .inl ⟨by rfl, fun W hW => by
    go_simp⟩
  simp only [Act.put, List.setIfInBounds_toArray, List.set_cons_zero, List.set_cons_succ]
  refine RegD.wpAnyD_take 1 (oi := ?oi1x86) (v := .pointer (some ⟨gv, 0, none⟩)) ?hi1x86 ?hB1x86 ?hQ1x86 ?hy1x86 hHeld ?rest1x86
  case hi1x86 => rfl
  case hB1x86 => kernel_rfl
  case hQ1x86 => exact fun _ _ _ h => h
  case hy1x86 => exact .inl ⟨by rfl, fun W hW => by
    go_simp⟩
  simp only [Act.put, List.setIfInBounds_toArray, List.set_cons_zero, List.set_cons_succ]
  refine RegD.wpAnyD_take 2 (oi := ?oi2x87) (v := .pointer (some ⟨gv, 1, none⟩)) ?hi2x87 ?hB2x87 ?hQ2x87 ?hy2x87 hHeld ?rest2x87
  case hi2x87 => rfl
  case hB2x87 => kernel_rfl
  case hQ2x87 => exact fun _ _ _ h => h
  case hy2x87 => exact .inl ⟨by rfl, fun W hW => by
    go_simp⟩
  simp only [Act.put, List.setIfInBounds_toArray, List.set_cons_zero, List.set_cons_succ]
  refine RegD.wpAnyD_take 3 (oi := ?oi3x88) (v := .pointer (some ⟨gv, 1, none⟩)) ?hi3x88 ?hB3x88 ?hQ3x88 ?hy3x88 hHeld ?rest3x88
  case hi3x88 => rfl
  case hB3x88 => kernel_rfl
  case hQ3x88 => exact fun _ _ _ h => h
  case hy3x88 => exact .inl ⟨by rfl, fun W hW => by
    go_simp⟩
  simp only [Act.put, List.setIfInBounds_toArray, List.set_cons_zero, List.set_cons_succ]
  refine RegD.wpAnyD_take 4 (oi := ?oi4x89) (v := .int .i64 r.key) ?hi4x89 ?hB4x89 ?hQ4x89 ?hy4x89 hHeld ?rest4x89
  case hi4x89 => rfl
  case hB4x89 => kernel_rfl
  case hQ4x89 => exact fun _ _ _ h => h
  case hy4x89 => exact .inl ⟨by rfl, fun W hW => by
    have a0 := hW.2.c1
    go_simp⟩
  simp only [Act.put, List.setIfInBounds_toArray, List.set_cons_zero, List.set_cons_succ]
  refine RegD.wpAnyD_take 5 (oi := ?oi5x90) (v := .pointer (some ⟨w.heap.size, 0, none⟩)) ?hi5x90 ?hB5x90 ?hQ5x90 ?hy5x90 hHeld ?rest5x90
  case hi5x90 => rfl
  case hB5x90 => kernel_rfl
  case hQ5x90 => exact fun _ _ _ h => h
  case hy5x90 => exact .inl ⟨by rfl, fun W hW => by
    go_simp⟩
  simp only [Act.put, List.setIfInBounds_toArray, List.set_cons_zero, List.set_cons_succ]
  refine RegD.wpAnyD_take 6 (oi := ?oi6x91) (v := .int .i64 f1) ?hi6x91 ?hB6x91 ?hQ6x91 ?hy6x91 hHeld ?rest6x91
  case hi6x91 => rfl
  case hB6x91 => kernel_rfl
  case hQ6x91 => exact fun _ _ _ h => h
  case hy6x91 => exact .inl ⟨by rfl, fun W hW => by
    have a0 := hW.1.c0
    go_simp⟩
  simp only [Act.put, List.setIfInBounds_toArray, List.set_cons_zero, List.set_cons_succ]
  refine RegD.wpAnyD_take 7 (oi := ?oi7x92) (v := .pointer (some ⟨w.heap.size, 4, none⟩)) ?hi7x92 ?hB7x92 ?hQ7x92 ?hy7x92 hHeld ?rest7x92
  case hi7x92 => rfl
  case hB7x92 => kernel_rfl
  case hQ7x92 => exact fun _ _ _ h => h
  case hy7x92 => exact .inl ⟨by rfl, fun W hW => by
    go_simp⟩
  simp only [Act.put, List.setIfInBounds_toArray, List.set_cons_zero, List.set_cons_succ]
  refine RegD.wpAnyD_take 8 (oi := ?oi8x93) (v := .int .i64 f5) ?hi8x93 ?hB8x93 ?hQ8x93 ?hy8x93 hHeld ?rest8x93
  case hi8x93 => rfl
  case hB8x93 => kernel_rfl
  case hQ8x93 => exact fun _ _ _ h => h
  case hy8x93 => exact .inl ⟨by rfl, fun W hW => by
    have a0 := hW.1.c4
    go_simp⟩
  simp only [Act.put, List.setIfInBounds_toArray, List.set_cons_zero, List.set_cons_succ]
  refine RegD.wpAnyD_take 9 (oi := ?oi9x94) (v := .agg #[.int .i64 1, .int .i64 f1, .int .i64 f5, .int .i64 0]) ?hi9x94 ?hB9x94 ?hQ9x94 ?hy9x94 hHeld ?rest9x94
  case hi9x94 => rfl
  case hB9x94 => kernel_rfl
  case hQ9x94 => exact fun _ _ _ h => h
  case hy9x94 => exact .inl ⟨by rfl, fun W hW => by
    go_simp⟩
  simp only [Act.put, List.setIfInBounds_toArray, List.set_cons_zero, List.set_cons_succ]
  refine RegD.wpAnyD_one 10 (o := ?o10x95) ?ho10x95 ?hr10x95 ?h10x95
  case ho10x95 => rfl
  case hr10x95 => kernel_rfl
  intro K hK
  go_simp
  go_at_call 81
  refine (HWT.out _ (Below.refl _ _)).mono ?_
  rintro e1 w1 ⟨rfl, hb1⟩
  go_wp2_with fail
  have HBB : Hid (Below w.heap.size w w1) := HB0.out.drew.trans (hb1.mono (by simp))
  refine hK.out _ _ (⟨hHeld.1.on hb1, hHeld.2.on hb1⟩) ?_
  clear hK hHeld
  intro hHeld
  clear K
  clear hb1
  refine RegD.wpAnyD_take 11 (oi := ?oi11x97) (v := .string (txtB r ⟨1, f1, f5, 0⟩)) ?hi11x97 ?hB11x97 ?hQ11x97 ?hy11x97 hHeld ?rest11x97
  case hi11x97 => rfl
  case hB11x97 => kernel_rfl
  case hQ11x97 => exact fun _ _ _ h => h
  case hy11x97 => exact .inl ⟨by rfl, fun W hW => by
    go_simp⟩
  simp only [Act.put, List.setIfInBounds_toArray, List.set_cons_zero, List.set_cons_succ]
  refine RegD.wpAnyD_take 12 (oi := ?oi12x98) (v := .nilIface) ?hi12x98 ?hB12x98 ?hQ12x98 ?hy12x98 hHeld ?rest12x98
  case hi12x98 => rfl
  case hB12x98 => kernel_rfl
  case hQ12x98 => exact fun _ _ _ h => h
  case hy12x98 => exact .inl ⟨by rfl, fun W hW => by
    go_simp⟩
  simp only [Act.put, List.setIfInBounds_toArray, List.set_cons_zero, List.set_cons_succ]
  refine RegD.wpAnyD_take 13 (oi := ?oi13x99) (v := .string (txtB r ⟨1, f1, f5, 0⟩)) ?hi13x99 ?hB13x99 ?hQ13x99 ?hy13x99 hHeld ?rest13x99
  case hi13x99 => rfl
  case hB13x99 => kernel_rfl
  case hQ13x99 => exact fun _ _ _ h => h
  case hy13x99 => exact .inl ⟨by rfl, fun W hW => by
    go_simp⟩
  simp only [Act.put, List.setIfInBounds_toArray, List.set_cons_zero, List.set_cons_succ]
  clear hHeld
  refine RegD.wpAnyD_late 14 (o := ?o14x100) ?ho14x100 ?hr14x100 ?hd14x100 ?h14x100
  case ho14x100 => rfl
  case hr14x100 => kernel_rfl
  case hd14x100 => kernel_rfl
  intro K hK
  go_simp
  refine hK.out _ _ ?_
  clear hK K
  refine RegD.wpAnyD_done (by kernel_rfl) ?_ _
  go_wp2_with fail
  go_ret2
  exact ⟨rfl, HBB.out⟩
set_option maxRecDepth 100000 in
set_option maxHeartbeats 8000000 in
theorem svPut_is (N : Nat) (w : World) (gv gs gd : Nat) (r : Rul) (p : Pub) (v : Value) (f : Fam) (h : SvIs N w gv gs gd r p v) (hf : Ev.may (putE f)) (hN : N < 99000) :
    Calls Tryz.prog 130 #[.pointer (some ⟨gv, 0, none⟩), famV f] w fun e w' => e = .returned (errQ (addP p (putE f) true).2) ∧ ∃ v', SPto N gs gd v w w' (addP p (putE f) true).1 v' := by
  obtain ⟨f1, f2, f3, f4, f5, f6, f7, f8, f9⟩ := f
  have HB0 : Hid (Below w.heap.size w (w.alloc (.cells #[.int .i64 f1, .string f2, .string f3, .string f4, .int .i64 f5, .int .i64 f6, .int .i64 f7, .string f8, .bool f9] 40))) := (Below.refl _ _).alloc (Nat.le_refl _) _
  have HF0 : Hid (FB (w.alloc (.cells #[.int .i64 f1, .string f2, .string f3, .string f4, .int .i64 f5, .int .i64 f6, .int .i64 f7, .string f8, .bool f9] 40)) w.heap.size ⟨f1, f2, f3, f4, f5, f6, f7, f8, f9⟩) := FB.made w ⟨f1, f2, f3, f4, f5, f6, f7, f8, f9⟩ _
  have HA0 : Hid (SvAt (w.alloc (.cells #[.int .i64 f1, .string f2, .string f3, .string f4, .int .i64 f5, .int .i64 f6, .int .i64 f7, .string f8, .bool f9] 40)) gv gs r) := h.box.on HB0.out
  have HNE : Hid (w.heap.size ≠ gd ∧ w.heap.size ≠ gs) := by have h1 := h.sp.lt; have h2 := h.sp.ord; show _ ∧ _; omega
  have HNV : Hid (gv ≠ gd ∧ gv ≠ gs) := by have h1 := h.ord; have h2 := h.sp.ord; show _ ∧ _; omega
  have hadd := addM_is N (w.alloc (.cells #[.int .i64 f1, .string f2, .string f3, .string f4, .int .i64 f5, .int .i64 f6, .int .i64 f7, .string f8, .bool f9] 40)).drew gs gd p v (putE ⟨f1, f2, f3, f4, f5, f6, f7, f8, f9⟩) hf ((h.sp.on HB0.out).on (Below.refl _ _).drew) hN
  have HADD : Hid (∀ _ : Unit, Calls Tryz.prog 17 #[.pointer (some ⟨gs, 0, none⟩), .agg #[.int .i64 1, .int .i64 f1, .string f2, .string f3, .string f4, .int .i64 f5, .int .i64 f6, .int .i64 f7, .string f8, .bool f9, .int .i64 0, .int .i64 0]] (w.alloc (.cells #[.int .i64 f1, .string f2, .string f3, .string f4, .int .i64 f5, .int .i64 f6, .int .i64 f7, .string f8, .bool f9] 40)).drew fun e w' => e = .returned (errQ (addP p (putE ⟨f1, f2, f3, f4, f5, f6, f7, f8, f9⟩) true).2) ∧ ∃ v', SPto N gs gd v (w.alloc (.cells #[.int .i64 f1, .string f2, .string f3, .string f4, .int .i64 f5, .int .i64 f6, .int .i64 f7, .string f8, .bool f9] 40)).drew w' (addP p (putE ⟨f1, f2, f3, f4, f5, f6, f7, f8, f9⟩) true).1 v') := fun _ => hadd
  unfold famV famCs
  simp only
  clear h hf hadd
  generalize addP p (putE ⟨f1, f2, f3, f4, f5, f6, f7, f8, f9⟩) true = Q at *
  obtain ⟨q, n⟩ := Q
  simp only at HADD ⊢
  go_enter Tryz.func130, Tryz.ntmps130
  go_upto_region 1 with fail
  refine RegD.wp_region_D (fun W => FB W w.heap.size ⟨f1, f2, f3, f4, f5, f6, f7, f8, f9⟩ ∧ SvAt W gv gs r) 7 (by kernel_rfl) (⟨HF0.out.on (Below.refl _ _).drew, HA0.out.on (Below.refl _ _).drew⟩) (fun hHeld => ?_)
  refine RegD.wpAnyD_take 0 (oi := ?oi0x104) (v := .pointer (some ⟨gv, 0, none⟩)) ?hi0x104 ?hB0x104 ?hQ0x104 ?hy0x104 hHeld ?rest0x104
  case hi0x104 => rfl
  case hB0x104 => kernel_rfl
  case hQ0x104 => exact fun _ _ _ h => h
  case hy0x104 => exact .inl ⟨by rfl, fun W hW => by
    go_simp⟩
  simp only [Act.put, List.setIfInBounds_toArray, List.set_cons_zero, List.set_cons_succ]
  refine RegD.wpAnyD_take 1 (oi := ?oi1x105) (v := .pointer (some ⟨gv, 0, none⟩)) ?hi1x105 ?hB1x105 ?hQ1x105 ?hy1x105 hHeld ?rest1x105
  case hi1x105 => rfl
  case hB1x105 => kernel_rfl
  case hQ1x105 => exact fun _ _ _ h => h
  case hy1x105 => exact .inl ⟨by rfl, fun W hW => by
    go_simp⟩
  simp only [Act.put, List.setIfInBounds_toArray, List.set_cons_zero, List.set_cons_succ]
  refine RegD.wpAnyD_take 2 (oi := ?oi2x106) (v := .pointer (some ⟨gv, 0, none⟩)) ?hi2x106 ?hB2x106 ?hQ2x106 ?hy2x106 hHeld ?rest2x106
  case hi2x106 => rfl
  case hB2x106 => kernel_rfl
  case hQ2x106 => exact fun _ _ _ h => h
  case hy2x106 => exact .inl ⟨by rfl, fun W hW => by
    go_simp⟩
  simp only [Act.put, List.setIfInBounds_toArray, List.set_cons_zero, List.set_cons_succ]
  refine RegD.wpAnyD_take 3 (oi := ?oi3x107) (v := .pointer (some ⟨gs, 0, none⟩)) ?hi3x107 ?hB3x107 ?hQ3x107 ?hy3x107 hHeld ?rest3x107
  case hi3x107 => rfl
  case hB3x107 => kernel_rfl
  case hQ3x107 => exact fun _ _ _ h => h
  case hy3x107 => exact .inl ⟨by rfl, fun W hW => by
    have a0 := hW.2.c0
    go_simp⟩
  simp only [Act.put, List.setIfInBounds_toArray, List.set_cons_zero, List.set_cons_succ]
  refine RegD.wpAnyD_take 4 (oi := ?oi4x108) (v := .agg #[.int .i64 f1, .string f2, .string f3, .string f4, .int .i64 f5, .int .i64 f6, .int .i64 f7, .string f8, .bool f9]) ?hi4x108 ?hB4x108 ?hQ4x108 ?hy4x108 hHeld ?rest4x108
  case hi4x108 => rfl
  case hB4x108 => kernel_rfl
  case hQ4x108 => exact fun _ _ _ h => h
  case hy4x108 => exact .inl ⟨by rfl, fun W hW => by
    have a0 := hW.1.c0
    have a1 := hW.1.c1
    have a2 := hW.1.c2
    have a3 := hW.1.c3
    have a4 := hW.1.c4
    have a5 := hW.1.c5
    have a6 := hW.1.c6
    have a7 := hW.1.c7
    have a8 := hW.1.c8
    go_simp⟩
  simp only [Act.put, List.setIfInBounds_toArray, List.set_cons_zero, List.set_cons_succ]
  refine RegD.wpAnyD_take 5 (oi := ?oi5x109) (v := .agg #[.int .i64 1, .int .i64 f1, .string f2, .string f3, .string f4, .int .i64 f5, .int .i64 f6, .int .i64 f7, .string f8, .bool f9, .int .i64 0, .int .i64 0]) ?hi5x109 ?hB5x109 ?hQ5x109 ?hy5x109 hHeld ?rest5x109
  case hi5x109 => rfl
  case hB5x109 => kernel_rfl
  case hQ5x109 => exact fun _ _ _ h => h
  case hy5x109 => exact .inl ⟨by rfl, fun W hW => by
    go_simp⟩
  simp only [Act.put, List.setIfInBounds_toArray, List.set_cons_zero, List.set_cons_succ]
  refine RegD.wpAnyD_one 6 (o := ?o6x110) ?ho6x110 ?hr6x110 ?h6x110
  case ho6x110 => rfl
  case hr6x110 => kernel_rfl
  intro K hK
  go_simp
  go_at_call 17
  refine (HADD.out ()).mono ?_
  rintro e1 w1 ⟨rfl, v1, hto⟩
  have HTO : Hid _ := SPto.pre HB0.out.drew hto
  go_wp2_with fail
  refine hK.out _ _ (⟨hHeld.1.keep hto.keep (by have := HNE.out; simp; omega), hHeld.2.keep hto.keep (by have := HNV.out; simp; omega)⟩) ?_
  clear hK hHeld
  intro hHeld
  clear K
  clear hto hHeld
  refine RegD.wpAnyD_late 7 (o := ?o7x112) ?ho7x112 ?hr7x112 ?hd7x112 ?h7x112
  case ho7x112 => rfl
  case hr7x112 => kernel_rfl
  case hd7x112 => kernel_rfl
  intro K hK
  go_simp
  refine hK.out _ _ ?_
  clear hK K
  refine RegD.wpAnyD_done (by kernel_rfl) ?_ _
  go_wp2_with fail
  go_ret
  exact ⟨rfl, _, HTO.out⟩
end Go.Proofs.YtlailakofhenkabGreatDoor
