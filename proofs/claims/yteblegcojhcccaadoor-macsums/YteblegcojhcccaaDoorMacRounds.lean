import Derived.Test.YteblegcojhcccaaDoorSip
import Derived.BigQuiet
import Derived.RegionTactic
import Derived.BigRegion
import Derived.Deep.RegionWith
import Derived.Deep.CutRange
import Derived.Deep.LoopGhost
namespace Go.Proofs.YteblegcojhcccaaDoor
open Go.RowKit Sip
theorem rotl_any (x : Int) (k : Int) (w : World) (k0 : 0 < k) (k1 : k < 64):
    Calls Tryd.prog 33 #[.int .u64 x, .int .i64 k] w fun e w' => e = .returned (.int .u64 (rl x k)) ∧ w' = w := by
  have hk := and63 k k0 k1
  go_enter Tryd.func33, Tryd.ntmps33
  go_wp2
  go_ret
  exact ⟨rfl, rfl⟩
theorem rotl4 (x : Int) (w : World) : Calls Tryd.prog 33 #[.int .u64 x, .int .i64 4] w fun e w' => e = .returned (.int .u64 (rl x 4)) ∧ w' = w := rotl_any x 4 w (by decide) (by decide)
theorem rotl13 (x : Int) (w : World) : Calls Tryd.prog 33 #[.int .u64 x, .int .i64 13] w fun e w' => e = .returned (.int .u64 (rl x 13)) ∧ w' = w := rotl_any x 13 w (by decide) (by decide)
theorem rotl16 (x : Int) (w : World) : Calls Tryd.prog 33 #[.int .u64 x, .int .i64 16] w fun e w' => e = .returned (.int .u64 (rl x 16)) ∧ w' = w := rotl_any x 16 w (by decide) (by decide)
theorem rotl17 (x : Int) (w : World) : Calls Tryd.prog 33 #[.int .u64 x, .int .i64 17] w fun e w' => e = .returned (.int .u64 (rl x 17)) ∧ w' = w := rotl_any x 17 w (by decide) (by decide)
theorem rotl21 (x : Int) (w : World) : Calls Tryd.prog 33 #[.int .u64 x, .int .i64 21] w fun e w' => e = .returned (.int .u64 (rl x 21)) ∧ w' = w := rotl_any x 21 w (by decide) (by decide)
theorem rotl32 (x : Int) (w : World) : Calls Tryd.prog 33 #[.int .u64 x, .int .i64 32] w fun e w' => e = .returned (.int .u64 (rl x 32)) ∧ w' = w := rotl_any x 32 w (by decide) (by decide)
theorem turn_any (x : Int) (k : Int) (w : World) (k0 : 0 < k) (k1 : k < 64):
    Calls Tryd.prog 34 #[.int .u64 x, .int .i64 k] w fun e w' => e = .returned (.int .u64 (rl x k)) ∧ ∃ n, w' = w.drewN n := by
  go_enter Tryd.func34, Tryd.ntmps34
  go_wp2
  go_quiet (fail)
  go_wp2
  go_ret
  exact ⟨rfl, _, rfl⟩

structure IsSt (w : World) (g : Nat) (s : St) : Prop where
  a : w.cell? ⟨g, 0, none⟩ = some (.int .u64 s.a)
  b : w.cell? ⟨g, 1, none⟩ = some (.int .u64 s.b)
  c : w.cell? ⟨g, 2, none⟩ = some (.int .u64 s.c)
  d : w.cell? ⟨g, 3, none⟩ = some (.int .u64 s.d)
  fa : w.frozen? ⟨g, 0, none⟩ = false
  fb : w.frozen? ⟨g, 1, none⟩ = false
  fc : w.frozen? ⟨g, 2, none⟩ = false
  fd : w.frozen? ⟨g, 3, none⟩ = false
theorem IsSt.drew {w : World} {g : Nat} {s : St} (h : IsSt w g s) : IsSt w.drew g s := ⟨h.a, h.b, h.c, h.d, h.fa, h.fb, h.fc, h.fd⟩
theorem IsSt.setA {w : World} {g : Nat} {s : St} (h : IsSt w g s) (x : Int) : IsSt (w.setCell ⟨g, 0, none⟩ (.int .u64 x)) g ⟨x, s.b, s.c, s.d⟩ := by
  obtain ⟨ha, hb, hc, hd, fa, fb, fc, fd⟩ := h
  constructor <;> go_simp
theorem IsSt.setB {w : World} {g : Nat} {s : St} (h : IsSt w g s) (x : Int) : IsSt (w.setCell ⟨g, 1, none⟩ (.int .u64 x)) g ⟨s.a, x, s.c, s.d⟩ := by
  obtain ⟨ha, hb, hc, hd, fa, fb, fc, fd⟩ := h
  constructor <;> go_simp
theorem IsSt.setC {w : World} {g : Nat} {s : St} (h : IsSt w g s) (x : Int) : IsSt (w.setCell ⟨g, 2, none⟩ (.int .u64 x)) g ⟨s.a, s.b, x, s.d⟩ := by
  obtain ⟨ha, hb, hc, hd, fa, fb, fc, fd⟩ := h
  constructor <;> go_simp
theorem IsSt.setD {w : World} {g : Nat} {s : St} (h : IsSt w g s) (x : Int) : IsSt (w.setCell ⟨g, 3, none⟩ (.int .u64 x)) g ⟨s.a, s.b, s.c, x⟩ := by
  obtain ⟨ha, hb, hc, hd, fa, fb, fc, fd⟩ := h
  constructor <;> go_simp

set_option maxRecDepth 100000 in
set_option maxHeartbeats 2000000 in
theorem rounds_any (s : St) (g n B : Nat) (hB : B ≤ g) (w : World) (hn : n < 100) (h : IsSt w g s) :
    Calls Tryd.prog 29 #[.pointer (some ⟨g, 0, none⟩), .int .i64 n] w fun e w' => e = .returned (.tuple #[]) ∧ IsSt w' g (rnds n s) ∧ Below B w w' := by
  go_enter Tryd.func29, Tryd.ntmps29
  go_wp2
  go_loopg [5] n (fun gg i wr => ∃ k : Nat, k ≤ n ∧ gg = n - k ∧ i = .int .i64 k ∧ IsSt wr g (rnds k s) ∧ Below B w wr)
  case atStart => exact ⟨0, Nat.zero_le _, rfl, rfl, h, Below.refl _ _⟩
  case round =>
    obtain ⟨k, hk, hgk, rfl, hst, hb⟩ := hrel
    have HG : Hid (gk = n - k) := hgk
    clear hgk
    have HR : Hid (rnd (rnds k s) = rnds (k + 1) s) := rfl
    generalize hq : rnds k s = q at *
    have HQ : Hid (rnds k s = q) := hq
    clear hq
    obtain ⟨a, b, c, d⟩ := q
    obtain ⟨ha, hbb, hc, hd, fa, fb, fc, fd⟩ := hst
    dsimp only at ha hbb hc hd
    by_cases hlt : k < n
    · go_wp2
      go_cut [] from 6 to 119 (fun wx => IsSt wx g ⟨(ad a b), b, c, d⟩ ∧ Below B w wx)
      case first =>
        go_region
        all_goals (go_wp2_with fail; go_meet)
        all_goals exact ⟨((⟨ha, hbb, hc, hd, fa, fb, fc, fd⟩ : IsSt _ g ⟨a, b, c, d⟩).setA _).drew, (hb.setCell (p := ⟨g, _, none⟩) hB _).drew⟩
      obtain ⟨a1, ha1⟩ : ∃ x, x = ad a b := ⟨_, rfl⟩
      rw [← ha1] at hcut
      have Ha1 : Hid (a1 = ad a b) := ha1
      clear ha1 ha hbb hc hd fa fb fc fd hb
      obtain ⟨⟨ha, hbb, hc, hd, fa, fb, fc, fd⟩, hb⟩ := hcut
      dsimp only at ha hbb hc hd
      go_wp2
      go_cut [] from 6 to 119 (fun wx => IsSt wx g ⟨a1, (xr (rl b 13) a1), c, d⟩ ∧ Below B w wx)
      case first =>
        go_region_with (go_at_call 33; refine (rotl13 _ _).mono ?_; rintro e w' ⟨rfl, rfl⟩)
        all_goals (go_wp2_with fail; go_meet)
        all_goals exact ⟨((⟨ha, hbb, hc, hd, fa, fb, fc, fd⟩ : IsSt _ g ⟨a1, b, c, d⟩).setB _).drew, (hb.setCell (p := ⟨g, _, none⟩) hB _).drew⟩
      obtain ⟨b1, hb1⟩ : ∃ x, x = xr (rl b 13) a1 := ⟨_, rfl⟩
      rw [← hb1] at hcut
      have Hb1 : Hid (b1 = xr (rl b 13) a1) := hb1
      clear hb1 ha hbb hc hd fa fb fc fd hb
      obtain ⟨⟨ha, hbb, hc, hd, fa, fb, fc, fd⟩, hb⟩ := hcut
      dsimp only at ha hbb hc hd
      go_upto_region 4 with fail
      go_cut [] from 6 to 119 (fun wx => IsSt wx g ⟨(rl a1 32), b1, c, d⟩ ∧ Below B w wx)
      case first =>
        go_wp2_with (go_at_call 33; refine (rotl32 _ _).mono ?_; rintro e w' ⟨rfl, rfl⟩)
        all_goals (go_wp2_with fail; go_meet)
        all_goals exact ⟨((⟨ha, hbb, hc, hd, fa, fb, fc, fd⟩ : IsSt _ g ⟨a1, b1, c, d⟩).setA _), (hb.setCell (p := ⟨g, _, none⟩) hB _)⟩
      obtain ⟨a2, ha2⟩ : ∃ x, x = rl a1 32 := ⟨_, rfl⟩
      rw [← ha2] at hcut
      have Ha2 : Hid (a2 = rl a1 32) := ha2
      clear ha2 ha hbb hc hd fa fb fc fd hb
      obtain ⟨⟨ha, hbb, hc, hd, fa, fb, fc, fd⟩, hb⟩ := hcut
      dsimp only at ha hbb hc hd
      go_wp2
      go_cut [] from 6 to 119 (fun wx => IsSt wx g ⟨a2, b1, (ad c d), d⟩ ∧ Below B w wx)
      case first =>
        go_region
        all_goals (go_wp2_with fail; go_meet)
        all_goals exact ⟨((⟨ha, hbb, hc, hd, fa, fb, fc, fd⟩ : IsSt _ g ⟨a2, b1, c, d⟩).setC _).drew, (hb.setCell (p := ⟨g, _, none⟩) hB _).drew⟩
      obtain ⟨c1, hc1⟩ : ∃ x, x = ad c d := ⟨_, rfl⟩
      rw [← hc1] at hcut
      have Hc1 : Hid (c1 = ad c d) := hc1
      clear hc1 ha hbb hc hd fa fb fc fd hb
      obtain ⟨⟨ha, hbb, hc, hd, fa, fb, fc, fd⟩, hb⟩ := hcut
      dsimp only at ha hbb hc hd
      go_wp2
      go_cut [] from 6 to 119 (fun wx => IsSt wx g ⟨a2, b1, c1, (xr (rl d 16) c1)⟩ ∧ Below B w wx)
      case first =>
        go_region_with (go_at_call 33; refine (rotl16 _ _).mono ?_; rintro e w' ⟨rfl, rfl⟩)
        all_goals (go_wp2_with fail; go_meet)
        all_goals exact ⟨((⟨ha, hbb, hc, hd, fa, fb, fc, fd⟩ : IsSt _ g ⟨a2, b1, c1, d⟩).setD _).drew, (hb.setCell (p := ⟨g, _, none⟩) hB _).drew⟩
      obtain ⟨d1, hd1⟩ : ∃ x, x = xr (rl d 16) c1 := ⟨_, rfl⟩
      rw [← hd1] at hcut
      have Hd1 : Hid (d1 = xr (rl d 16) c1) := hd1
      clear hd1 ha hbb hc hd fa fb fc fd hb
      obtain ⟨⟨ha, hbb, hc, hd, fa, fb, fc, fd⟩, hb⟩ := hcut
      dsimp only at ha hbb hc hd
      go_wp2
      go_cut [] from 6 to 119 (fun wx => IsSt wx g ⟨(ad a2 d1), b1, c1, d1⟩ ∧ Below B w wx)
      case first =>
        go_region
        all_goals (go_wp2_with fail; go_meet)
        all_goals exact ⟨((⟨ha, hbb, hc, hd, fa, fb, fc, fd⟩ : IsSt _ g ⟨a2, b1, c1, d1⟩).setA _).drew, (hb.setCell (p := ⟨g, _, none⟩) hB _).drew⟩
      obtain ⟨a3, ha3⟩ : ∃ x, x = ad a2 d1 := ⟨_, rfl⟩
      rw [← ha3] at hcut
      have Ha3 : Hid (a3 = ad a2 d1) := ha3
      clear ha3 ha hbb hc hd fa fb fc fd hb
      obtain ⟨⟨ha, hbb, hc, hd, fa, fb, fc, fd⟩, hb⟩ := hcut
      dsimp only at ha hbb hc hd
      go_wp2
      go_cut [] from 6 to 119 (fun wx => IsSt wx g ⟨a3, b1, c1, (xr (rl d1 21) a3)⟩ ∧ Below B w wx)
      case first =>
        go_region_with (go_at_call 33; refine (rotl21 _ _).mono ?_; rintro e w' ⟨rfl, rfl⟩)
        all_goals (go_wp2_with fail; go_meet)
        all_goals exact ⟨((⟨ha, hbb, hc, hd, fa, fb, fc, fd⟩ : IsSt _ g ⟨a3, b1, c1, d1⟩).setD _).drew, (hb.setCell (p := ⟨g, _, none⟩) hB _).drew⟩
      obtain ⟨d2, hd2⟩ : ∃ x, x = xr (rl d1 21) a3 := ⟨_, rfl⟩
      rw [← hd2] at hcut
      have Hd2 : Hid (d2 = xr (rl d1 21) a3) := hd2
      clear hd2 ha hbb hc hd fa fb fc fd hb
      obtain ⟨⟨ha, hbb, hc, hd, fa, fb, fc, fd⟩, hb⟩ := hcut
      dsimp only at ha hbb hc hd
      go_wp2
      go_cut [] from 6 to 119 (fun wx => IsSt wx g ⟨a3, b1, (ad c1 b1), d2⟩ ∧ Below B w wx)
      case first =>
        go_region
        all_goals (go_wp2_with fail; go_meet)
        all_goals exact ⟨((⟨ha, hbb, hc, hd, fa, fb, fc, fd⟩ : IsSt _ g ⟨a3, b1, c1, d2⟩).setC _).drew, (hb.setCell (p := ⟨g, _, none⟩) hB _).drew⟩
      obtain ⟨c2, hc2⟩ : ∃ x, x = ad c1 b1 := ⟨_, rfl⟩
      rw [← hc2] at hcut
      have Hc2 : Hid (c2 = ad c1 b1) := hc2
      clear hc2 ha hbb hc hd fa fb fc fd hb
      obtain ⟨⟨ha, hbb, hc, hd, fa, fb, fc, fd⟩, hb⟩ := hcut
      dsimp only at ha hbb hc hd
      go_wp2
      go_cut [] from 6 to 119 (fun wx => IsSt wx g ⟨a3, (xr (rl b1 17) c2), c2, d2⟩ ∧ Below B w wx)
      case first =>
        go_region_with (go_at_call 33; refine (rotl17 _ _).mono ?_; rintro e w' ⟨rfl, rfl⟩)
        all_goals (go_wp2_with fail; go_meet)
        all_goals exact ⟨((⟨ha, hbb, hc, hd, fa, fb, fc, fd⟩ : IsSt _ g ⟨a3, b1, c2, d2⟩).setB _).drew, (hb.setCell (p := ⟨g, _, none⟩) hB _).drew⟩
      obtain ⟨b2, hb2⟩ : ∃ x, x = xr (rl b1 17) c2 := ⟨_, rfl⟩
      rw [← hb2] at hcut
      have Hb2 : Hid (b2 = xr (rl b1 17) c2) := hb2
      clear hb2 ha hbb hc hd fa fb fc fd hb
      obtain ⟨⟨ha, hbb, hc, hd, fa, fb, fc, fd⟩, hb⟩ := hcut
      dsimp only at ha hbb hc hd
      go_wp2_with (go_at_call 33; refine (rotl32 _ _).mono ?_; rintro e w' ⟨rfl, rfl⟩)
      go_roundg (n - (k + 1))
      case measure => have := HG.out; omega
      case rel =>
        refine ⟨k + 1, by omega, rfl, by go_num, ?_, (hb.setCell (p := ⟨g, _, none⟩) hB _)⟩
        rw [← HR.out]
        have hE : rnd ⟨a, b, c, d⟩ = ⟨a3, b2, rl c2 32, d2⟩ := by
          rw [Hb2.out, Hc2.out, Hd2.out, Ha3.out, Hd1.out, Hc1.out, Ha2.out, Hb1.out, Ha1.out]; rfl
        rw [hE]
        exact (⟨ha, hbb, hc, hd, fa, fb, fc, fd⟩ : IsSt _ g ⟨a3, b2, c2, d2⟩).setC _
    · obtain rfl : k = n := by omega
      go_wp2
      go_end0
      exact ⟨rfl, by rw [HQ.out]; exact ⟨ha, hbb, hc, hd, fa, fb, fc, fd⟩, hb⟩
end Go.Proofs.YteblegcojhcccaaDoor
