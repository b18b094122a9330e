import Derived.Test.YteblegcojhcccaaGreatDoorTokR5
import Derived.Test.YteblegcojhcccaaGreatDoorErrLaw
namespace Go.Proofs.YteblegcojhcccaaGreatDoor
open Go.RowKit Tok
theorem bareN (n : Nat) (w : World) (hL : Libs w) : Calls Tryz.prog 7 #[errP n, .int .i64 (errN n)] w fun e w' => e = .returned (.bool true) ∧ Below w.heap.size w w' := by
  match n with
  | 0 => exact (lawBare_nil 0 w).mono (by rintro e w' ⟨rfl, rfl⟩; exact ⟨rfl, Below.refl _ _⟩)
  | 1 => exact (lawBare_err 3 3 w hL.err).mono (by rintro e w' ⟨rfl, h⟩; exact ⟨rfl, h⟩)
  | n + 2 => exact (lawBare_err 5 5 w hL.err).mono (by rintro e w' ⟨rfl, h⟩; exact ⟨rfl, h⟩)
theorem quiet_bareN {W : World} (n : Nat) (hL : Libs W) : ∀ d os, Calls Tryz.prog 7 #[errP n, .int .i64 (errN n)] (Go.Sort.grow (redrawn W d) os) fun e w'' => e = .returned (.bool true) ∧ ∃ p : Regrown, w'' = Go.Sort.grow (redrawn W p.d) p.os :=
  fun d os => Calls.regrown_of (bareN n _ (hL.below (below_regrown W d os) hL.big))
set_option maxHeartbeats 1000000 in
theorem given_is (t : T) (w : World) : Calls Tryz.prog 8 #[tokV t] w fun e w' => e = .returned (tokV t) ∧ Below w.heap.size w w' := by
  obtain ⟨k, f, g, e⟩ := t
  unfold tokV
  simp only
  go_enter Tryz.func8, Tryz.ntmps8
  go_wp2_with fail
  refine bodyPost_ret (v := .agg #[.int .i64 k, .int .i64 f, .int .i64 g, .int .i64 e]) ?_ rfl ⟨rfl, ?_⟩
  · simp [results, Tryz.results8, go_sem]
  repeat (first | exact Below.refl _ _ | refine Below.alloc ?_ (by simp) _)
theorem quiet_given {W : World} (t : T) : ∀ d os, Calls Tryz.prog 8 #[tokV t] (Go.Sort.grow (redrawn W d) os) fun e w'' => e = .returned (tokV t) ∧ ∃ p : Regrown, w'' = Go.Sort.grow (redrawn W p.d) p.os :=
  fun _ _ => Calls.regrown_of (given_is t _)
theorem tag_size (key : Int) (l : List UInt8) : (⟨(tag key l).toArray⟩ : ByteArray).size = 16 := by simp [ByteArray.size, tag_len]
set_option maxRecDepth 100000 in
set_option maxHeartbeats 4000000 in
theorem tokenReadsLaw (key : Int) (s : ByteArray) (w : World) (hL : LibsR w) : Calls Tryz.prog 3 #[.int .i64 key, .string s] w fun e w' => e = .returned (.bool true) ∧ Below w.heap.size w w' := by
  have HL : Hid (LibsR w) := hL
  by_cases hs : s.size ≤ 150
  · have ht := refTag_any key s w (by omega) hL.base.t16 hL.base.big.2.1
    have n1 : ¬ 9223372036854775807 < s.size + 1 := by omega
    have n2 : ¬ 9223372036854775807 < s.size + 1 + 16 := by omega
    have htl := tag_len key s.data.toList
    clear hL
    go_enter Tryz.func3, Tryz.ntmps3
    go_wp2_with fail
    refine ht.mono ?_
    rintro e w1 ⟨rfl, hb1⟩
    have HB1 : Hid (Below w.heap.size w w1) := hb1
    clear ht hb1
    go_wp2_with fail
    have hx2 : (s ++ { data := #[46] } ++ { data := (tag key s.data.toList).toArray } : ByteArray).size ≤ 1000 := by
      rw [ByteArray.size_append, ByteArray.size_append, tag_size]
      have : (⟨#[46]⟩ : ByteArray).size = 1 := rfl
      omega
    generalize (s ++ { data := #[46] } ++ { data := (tag key s.data.toList).toArray } : ByteArray) = x2 at *
    have hs1 : s.size ≤ 1000 := by omega
    have hg0 : (w1.alloc (.cells #[.string s, .string x2] 9)).cell? ⟨w1.heap.size, 0, none⟩ = some (.string s) := by simp
    have hg1 : (w1.alloc (.cells #[.string s, .string x2] 9)).cell? ⟨w1.heap.size, 1, none⟩ = some (.string x2) := by simp
    have hgl : w1.heap.size < (w1.alloc (.cells #[.string s, .string x2] 9)).heap.size := by simp
    have hbl : Below w.heap.size w (w1.alloc (.cells #[.string s, .string x2] 9)) := HB1.out.alloc HB1.out.size _
    clear htl n1 n2
    go_loopg [23] 2 (fun gk i wr => ∃ k : Nat, k + gk = 2 ∧ i = .int .i64 k ∧ Below w.heap.size w wr ∧ w1.heap.size < wr.heap.size ∧ wr.cell? ⟨w1.heap.size, 0, none⟩ = some (.string s) ∧ wr.cell? ⟨w1.heap.size, 1, none⟩ = some (.string x2))
    case atStart => exact ⟨0, by omega, rfl, hbl, hgl, hg0, hg1⟩
    case round =>
      obtain ⟨k, hk, rfl, hb, hlt, hc0, hc1⟩ := hrel
      have HK : Hid (k + gk = 2) := hk
      have HB : Hid (Below w.heap.size w wr) := hb
      have HLT : Hid (w1.heap.size < wr.heap.size) := hlt
      have HC0 : Hid (wr.cell? ⟨w1.heap.size, 0, none⟩ = some (.string s)) := hc0
      have HC1 : Hid (wr.cell? ⟨w1.heap.size, 1, none⟩ = some (.string x2)) := hc1
      have hk2 : k ≤ 2 := by omega
      clear hg0 hg1 hgl hbl
      by_cases h2 : k < 2
      · obtain ⟨x, hx, hc⟩ : ∃ x : ByteArray, x.size ≤ 1000 ∧ wr.cell? ⟨w1.heap.size, k, none⟩ = some (.string x) := by
          rcases (show k = 0 ∨ k = 1 by omega) with rfl | rfl
          · exact ⟨s, hs1, hc0⟩
          · exact ⟨x2, hx2, hc1⟩
        clear hk hc0 hc1 hb
        go_wp2_with fail
        refine (readR_is key x _ hx (HL.out.below HB.out rfl)).mono ?_
        rintro e w3 ⟨hb3, t, n, ho, rfl⟩
        have HO : Hid (Out (tag key) x.data.toList t n) := ho
        have HB3 : Hid (Below wr.heap.size wr w3) := hb3
        clear ho hb3 hc
        unfold tokV
        simp only
        go_wp2_with fail
        have hb4 : Below wr.heap.size wr (w3.alloc (.cells #[.int .i64 t.k, .int .i64 t.f, .int .i64 t.g, .int .i64 t.e] 25)) := HB3.out.alloc HB3.out.size _
        have hx4 := BoxAt.made w3 t 25
        have HB4 : Hid (Below w.heap.size w (w3.alloc (.cells #[.int .i64 t.k, .int .i64 t.f, .int .i64 t.g, .int .i64 t.e] 25))) := HB.out.trans (hb4.mono HB.out.size)
        have HB4' : Hid (Below wr.heap.size wr (w3.alloc (.cells #[.int .i64 t.k, .int .i64 t.f, .int .i64 t.g, .int .i64 t.e] 25))) := hb4
        refine (readP_is key x _ hx (HL.out.below HB4.out rfl)).mono ?_
        rintro e w5 ⟨hb5, t', n', ho', rfl⟩
        obtain ⟨rfl, rfl⟩ := out_inj HO.out ho'
        have hx5 := hx4.on hb5 hx4.lt
        have HB5 : Hid (Below wr.heap.size wr w5) := HB4'.out.trans (hb5.mono (Nat.le_trans HB3.out.size (by simp)))
        have hw5 : w3.heap.size < w5.heap.size := hx5.lt
        clear hb4 hx4 hb5 ho'
        unfold tokV
        simp only
        go_wp2_with fail
        have hx6 := BoxAt.made w5 t 29
        have hx7 := hx5.on ((Below.refl w5.heap.size w5).alloc (Nat.le_refl _) (.cells #[.int .i64 t.k, .int .i64 t.f, .int .i64 t.g, .int .i64 t.e] 29)) hx5.lt
        have HB6 : Hid (Below wr.heap.size wr (w5.alloc (.cells #[.int .i64 t.k, .int .i64 t.f, .int .i64 t.g, .int .i64 t.e] 29))) := HB5.out.alloc HB5.out.size _
        have HL6 : Hid (LibsR (w5.alloc (.cells #[.int .i64 t.k, .int .i64 t.f, .int .i64 t.g, .int .i64 t.e] 29))) := HL.out.below (HB.out.trans (HB6.out.mono HB.out.size)) rfl
        have k0 := cell_regrown hx6.c0
        have k1 := cell_regrown hx6.c1
        have k2 := cell_regrown hx6.c2
        have k3 := cell_regrown hx6.c3
        have j0 := cell_regrown hx7.c0
        have j1 := cell_regrown hx7.c1
        have j2 := cell_regrown hx7.c2
        have j3 := cell_regrown hx7.c3
        have cB := quiet_bareN n HL6.out.base
        have cG := quiet_given (W := w5.alloc (.cells #[.int .i64 t.k, .int .i64 t.f, .int .i64 t.g, .int .i64 t.e] 29)) t
        unfold tokV at cG
        clear hx5 hx6 hx7
        refine wp_region_quiet_below mixed (by kernel_rfl) ?_
        repeat (quiet_step (first | exact cB _ _ | exact cG _ _))
        refine wpQuiet_nil ?_
        intro W2 hw'
        obtain ⟨⟨dq, osq⟩, hw''⟩ := hw'
        have hb2 := below_regrown (w5.alloc (.cells #[.int .i64 t.k, .int .i64 t.f, .int .i64 t.g, .int .i64 t.e] 29)) dq osq
        rw [← hw''] at hb2
        have HB7 : Hid (Below wr.heap.size wr W2) := HB6.out.trans (hb2.mono HB6.out.size)
        clear hw'' cB cG k0 k1 k2 k3 j0 j1 j2 j3 hb2
        go_wp2_with fail
        go_roundg (gk - 1)
        case measure => have := HK.out; omega
        case rel => exact ⟨k + 1, by have := HK.out; omega, by go_num, HB.out.trans (HB7.out.mono HB.out.size), Nat.lt_of_lt_of_le HLT.out HB7.out.size, (HB7.out.cell (p := ⟨w1.heap.size, 0, none⟩) HLT.out).trans HC0.out, (HB7.out.cell (p := ⟨w1.heap.size, 1, none⟩) HLT.out).trans HC1.out⟩
      · obtain rfl : k = 2 := by omega
        go_wp2_with fail
        go_ret
        exact ⟨rfl, HB.out⟩
  · have hs' : ¬ (s.size : Int) ≤ 150 := by omega
    go_enter Tryz.func3, Tryz.ntmps3
    go_wp2_with fail
    go_ret
    exact ⟨rfl, Below.refl _ _⟩
end Go.Proofs.YteblegcojhcccaaGreatDoor
