import Derived.Test.YteblegcojhcccaaDoorMacDigits
import Derived.Laws.Tables
namespace Go.Proofs.YteblegcojhcccaaDoor
open Go.RowKit Sip Hex
/-- The one cell of the library's table that the base 16 asks for. -/
def Tab16 (w : World) : Prop := w.cell? ⟨4, 15, none⟩ = some (.int .u8 4)
theorem trail16 (w : World) (hT : Tab16 w) : Calls Tryd.prog 94 #[.int .u64 16] w fun e w' => e = .returned (.int .i64 4) ∧ w' = w := by
  have h1 : IntKind.u64.wrap (bits .and .u64 16 (IntKind.u64.wrap (-16)) * 285870213051353865) / 288230376151711744 = 15 := by decide +kernel
  unfold Tab16 at hT
  go_enter Tryd.func94, Tryd.ntmps94
  go_wp2_with fail
  go_ret
  exact ⟨rfl, rfl⟩
theorem pow16 (w : World) : Calls Tryd.prog 84 #[.int .i64 16] w fun e w' => e = .returned (.bool true) ∧ w' = w := by
  have h1 : bits .and .i64 16 15 = 0 := by decide +kernel
  go_enter Tryd.func84, Tryd.ntmps84
  go_wp2_with fail
  go_ret
  exact ⟨rfl, rfl⟩
theorem trailing16 (w : World) (hT : Tab16 w) : Calls Tryd.prog 85 #[.int .u64 16] w fun e w' => e = .returned (.int .i64 4) ∧ w' = w := by
  go_enter Tryd.func85, Tryd.ntmps85
  go_wp2_with fail
  refine (trail16 w hT).mono ?_
  rintro e w' ⟨rfl, rfl⟩
  go_wp2_with fail
  go_ret
  exact ⟨rfl, rfl⟩
theorem digs36 (d : Nat) (h : d < 16) : ((⟨#[48, 49, 50, 51, 52, 53, 54, 55, 56, 57, 97, 98, 99, 100, 101, 102, 103, 104, 105, 106, 107, 108, 109, 110, 111, 112, 113, 114, 115, 116, 117, 118, 119, 120, 121, 122]⟩ : ByteArray)[d]'(Nat.lt_trans h (by decide))) = hexc d := by
  revert d
  decide
theorem buf_step {B : Nat} {w : World} {g : Nat} {pre D : List UInt8} {j : Nat} (h : RowAt B w g 65 65 (bs (pre ++ D))) (hp : pre.length = j + 1) (u : UInt8) :
    ∃ pre', pre'.length = j ∧ RowAt B (w.setCell ⟨g, j, none⟩ (.int .u8 (u.toNat : Int))) g 65 65 (bs (pre' ++ u :: D)) := by
  have hj : j < 65 := by have := h.len; simp [bs] at this; omega
  have hs := h.store hj (.int .u8 (u.toNat : Int))
  obtain ⟨p, x, rfl, hl⟩ : ∃ p x, pre = p ++ [x] ∧ p.length = j := by
    refine ⟨pre.take j, pre[j]'(by omega), ?_, by simp; omega⟩
    rw [← List.take_succ_eq_append_getElem (by omega), List.take_of_length_le (by omega)]
  refine ⟨p, hl, ?_⟩
  have hE : (bs (p ++ [x] ++ D)).set j (.int .u8 (u.toNat : Int)) = bs (p ++ u :: D) := by
    simp only [bs, List.map_append, List.map_cons, List.append_assoc, List.cons_append, List.nil_append]
    rw [List.set_append_right _ _ (by rw [List.length_map]; omega)]
    simp [hl]
  rw [hE] at hs
  exact hs
theorem zeros65 (B : Nat) (w : World) (hB : B ≤ w.heap.size) : RowAt B (w.alloc (.cells Tryd.zeroCells149 149)) w.heap.size 65 65 (bs (List.replicate 65 0)) := by
  have hz : Tryd.zeroCells149 = (bs (List.replicate 65 0)).toArray := by kernel_rfl
  have hl : (bs (List.replicate 65 0)).length = 65 := by decide
  refine ⟨hB, by simp, hl, by omega, by unfold maxLen; omega, fun j u hj => ?_, fun j hj => ?_⟩
  · rw [World.cell?_alloc_new, hz]; simpa using hj
  · refine ⟨?_, World.frozen?_alloc_at _ _ _ _ rfl⟩
    rw [World.cell?_alloc_new, hz, List.getElem?_toArray, List.getElem?_eq_getElem (by rw [hl]; exact hj)]
    rfl
theorem sliceFrom (g j : Nat) (hj : j < 65) (w : World) : (Instr.sliceAt 149 (.pointer (some ⟨g, 0, none⟩)) (some (.int .i64 (j : Int))) none none).run Tryd.prog w = .ok (.slice (some ⟨g, j, none⟩) (65 - j) (65 - j)) w := by
  have hj' : (j : Int) ≤ 65 := by omega
  have hne : ¬ 65 = j := by omega
  go_simp
set_option maxRecDepth 100000 in
set_option maxHeartbeats 2000000 in
theorem formatBits16 (n : Nat) (hn : n < 16 ^ 16) (w : World) (hT : Tab16 w) (hTs : 4 < w.heap.size) :
    Calls Tryd.prog 67 #[.slice none 0 0, .int .u64 n, .int .i64 16, .bool false, .bool false] w fun e w' => e = .returned (.tuple #[.slice none 0 0, .string ⟨(hexMin 15 n).toArray⟩]) ∧ Below w.heap.size w w' := by
  go_enter Tryd.func67, Tryd.ntmps67
  have HT : Hid (Tab16 w) := hT
  clear hT
  go_wp2_with fail
  refine (pow16 _).mono ?_
  rintro e w1 ⟨rfl, rfl⟩
  go_wp2_with fail
  refine (trailing16 _ ?_).mono ?_
  · exact (((Below.refl w.heap.size w).alloc (Nat.le_refl _) _).cell (p := ⟨4, 15, none⟩) hTs).trans HT.out
  rintro e w1 ⟨rfl, rfl⟩
  go_wp2_with fail
  go_loopg [1, 13] 16 (fun gk u i wr => ∃ (m d : Nat) (pre D : List UInt8), u = .int .u64 m ∧ i = .int .i64 ((65 - d : Nat) : Int) ∧ d + gk = 16 ∧ d ≤ 15 ∧ m < 16 ^ (16 - d) ∧ pre.length = 65 - d ∧ D.length = d ∧ RowAt w.heap.size wr w.heap.size 65 65 (bs (pre ++ D)) ∧ Below w.heap.size w wr ∧ hexMin 15 n = hexMin (15 - d) m ++ D)
  case atStart => exact ⟨n, 0, List.replicate 65 0, [], rfl, rfl, rfl, by omega, by simpa using hn, by simp, rfl, by simpa using zeros65 _ w (Nat.le_refl _), (Below.refl _ _).alloc (Nat.le_refl _) _, by simp⟩
  case round =>
    obtain ⟨m, d, pre, D, rfl, rfl, hgk, hd15, hm, hpre, hD, hrow, hb, he⟩ := hrel
    have HG : Hid (d + gk = 16) := hgk
    have HD : Hid (D.length = d) := hD
    have HE : Hid (hexMin 15 n = hexMin (15 - d) m ++ D) := he
    have HM : Hid (m < 16 ^ (16 - d)) := hm
    have HP : Hid (pre.length = 65 - d) := hpre
    obtain ⟨j, hj⟩ : ∃ j, 65 - d = j + 1 := ⟨64 - d, by omega⟩
    have HJ : Hid (65 - d = j + 1) := hj
    have hj64 : j < 65 := by omega
    have hm2 : m < 18446744073709551616 := Nat.lt_of_lt_of_le hm (Nat.le_trans (Nat.pow_le_pow_right (by decide) (by omega : 16 - d ≤ 16)) (by decide))
    have hth := hrow.there j hj64
    obtain ⟨old, hold⟩ := Option.isSome_iff_exists.1 hth.1
    have hfz := hth.2
    clear hgk hD he hm hpre hth
    rw [hj]
    clear hj
    by_cases h16 : 16 ≤ m
    · have ha := and15 m
      obtain ⟨r, hr⟩ : ∃ r, r = m % 16 := ⟨_, rfl⟩
      have hr16 : r < 16 := by omega
      rw [← hr] at ha
      have HR : Hid (r = m % 16) := hr
      clear hr
      obtain ⟨pre', hpl, hrow'⟩ := buf_step hrow (HP.out.trans HJ.out) (hexc r)
      have HW : Hid (RowAt w.heap.size (wr.setCell ⟨w.heap.size, j, none⟩ (.int .u8 ((hexc r).toNat : Int))) w.heap.size 65 65 (bs (pre' ++ hexc r :: D))) := hrow'
      clear hrow'
      have hdr : ((⟨#[48, 49, 50, 51, 52, 53, 54, 55, 56, 57, 97, 98, 99, 100, 101, 102, 103, 104, 105, 106, 107, 108, 109, 110, 111, 112, 113, 114, 115, 116, 117, 118, 119, 120, 121, 122]⟩ : ByteArray)[r]'(Nat.lt_trans hr16 (by decide))) = hexc r := digs36 r hr16
      have hd14 : d ≤ 14 := by
        have h := HM.out
        rcases Nat.lt_or_ge d 15 with h1 | h1
        · omega
        · have : 16 - d = 1 := by omega
          rw [this] at h; omega
      go_wp2_with fail
      go_roundg (gk - 1)
      case measure => have := HG.out; omega
      case rel =>
        refine ⟨m / 16, d + 1, pre', hexc r :: D, by simp, by have := HJ.out; rw [show 65 - (d + 1) = j by omega], by have := HG.out; omega, by omega, ?_, by have := HJ.out; omega, by have := HD.out; simp; omega, HW.out, hb.setCell (p := ⟨w.heap.size, j, none⟩) (Nat.le_refl _) _, ?_⟩
        · have h := HM.out
          rw [show 16 - d = (16 - (d + 1)) + 1 by omega, Nat.pow_succ] at h
          omega
        · refine HE.out.trans ?_
          rw [show 15 - d = (15 - (d + 1)) + 1 by omega, hexMin, if_neg (by omega), HR.out]
          simp
    · have hsl := sliceFrom w.heap.size j hj64
      obtain ⟨pre', hpl, hrow'⟩ := buf_step hrow (HP.out.trans HJ.out) (hexc m)
      have hdm : ((⟨#[48, 49, 50, 51, 52, 53, 54, 55, 56, 57, 97, 98, 99, 100, 101, 102, 103, 104, 105, 106, 107, 108, 109, 110, 111, 112, 113, 114, 115, 116, 117, 118, 119, 120, 121, 122]⟩ : ByteArray)[m]'(Nat.lt_trans (Nat.lt_of_not_le h16) (by decide))) = hexc m := digs36 m (by omega)
      have hcv : (convert 56 9 (.slice (some ⟨w.heap.size, j, none⟩) (65 - j) (65 - j))).run Tryd.prog (wr.setCell ⟨w.heap.size, j, none⟩ (.int .u8 ((hexc m).toNat : Int))) = .ok (.string ⟨(hexc m :: D).toArray⟩) (wr.setCell ⟨w.heap.size, j, none⟩ (.int .u8 ((hexc m).toNat : Int))) := by
        refine run_row_string _ _ _ 5 Tryd.underlying56 Tryd.underlying5 Tryd.underlying9 _ _ _ _ _ (by have := HD.out; have := HJ.out; simp; omega) (fun i hi => ?_)
        refine hrow'.holds (j + i) _ ?_
        have hl : (hexc m :: D).length = 65 - j := by have := HD.out; have := HJ.out; simp; omega
        simp only [bs, List.map_append]
        rw [List.getElem?_append_right (by rw [List.length_map]; omega), List.length_map, hpl, Nat.add_sub_cancel_left, List.getElem?_map, List.getElem?_eq_getElem (by omega)]
        simp [List.getD, List.getElem?_eq_getElem (show i < (hexc m :: D).length by omega)]
      have HF : Hid (hexMin 15 n = hexc m :: D) := by
        refine HE.out.trans ?_
        generalize 15 - d = f
        cases f with
        | zero => rw [hexMin, Nat.mod_eq_of_lt (by omega)]; rfl
        | succ f => rw [hexMin, if_pos (by omega)]; rfl
      clear hrow'
      go_wp2_with fail
      go_ret2
      exact ⟨by rw [HF.out]; rfl, hb.setCell (p := ⟨w.heap.size, j, none⟩) (Nat.le_refl _) _⟩
set_option maxHeartbeats 1000000 in
theorem fmt16_any (n : Nat) (hn : n < 16 ^ 16) (w : World) (hT : Tab16 w) (hTs : 4 < w.heap.size) :
    Calls Tryd.prog 35 #[.int .u64 n, .int .i64 16] w fun e w' => e = .returned (.string ⟨(hexMin 15 n).toArray⟩) ∧ Below w.heap.size w w' := by
  have HT : Hid (Tab16 w) := hT
  clear hT
  have hi : Calls Tryd.prog 46 #[.int .u64 n, .int .i64 16] w fun e w' => e = .returned (.string ⟨(hexMin 15 n).toArray⟩) ∧ Below w.heap.size w w' := by
    go_enter Tryd.func46, Tryd.ntmps46
    go_wp2_with fail
    refine (formatBits16 n hn w HT.out hTs).mono ?_
    rintro e w' ⟨rfl, hb⟩
    go_wp2_with fail
    go_ret
    exact ⟨rfl, hb⟩
  go_enter Tryd.func35, Tryd.ntmps35
  go_wp2_with fail
  refine hi.mono ?_
  rintro e w' ⟨rfl, hb⟩
  go_wp2_with fail
  go_ret
  exact ⟨rfl, hb⟩
end Go.Proofs.YteblegcojhcccaaDoor
