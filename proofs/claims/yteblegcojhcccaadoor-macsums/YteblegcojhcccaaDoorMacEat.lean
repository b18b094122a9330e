import Derived.Test.YteblegcojhcccaaDoorMacRounds
namespace Go.Proofs.YteblegcojhcccaaDoor
open Go.RowKit Sip
set_option maxHeartbeats 1000000 in
theorem eat_any (s : St) (x : Int) (g B : Nat) (hB : B ≤ g) (w : World) (h : IsSt w g s) :
    Calls Tryd.prog 28 #[.int .u64 x, .pointer (some ⟨g, 0, none⟩)] w fun e w' => e = .returned (.tuple #[]) ∧ IsSt w' g (eatS s x) ∧ Below B w w' := by
  have HE : Hid (eatS s x = ⟨xr (rnds 2 ⟨s.a, s.b, s.c, xr s.d x⟩).a x, (rnds 2 ⟨s.a, s.b, s.c, xr s.d x⟩).b, (rnds 2 ⟨s.a, s.b, s.c, xr s.d x⟩).c, (rnds 2 ⟨s.a, s.b, s.c, xr s.d x⟩).d⟩) := rfl
  have h1 := h.setD (xr s.d x)
  have hr : Calls Tryd.prog 29 #[.pointer (some ⟨g, 0, none⟩), .int .i64 2] (w.setCell ⟨g, 3, none⟩ (.int .u64 (bits .xor .u64 s.d x))) _ := rounds_any ⟨s.a, s.b, s.c, xr s.d x⟩ g 2 B hB _ (by decide) h1
  generalize hR : rnds 2 ⟨s.a, s.b, s.c, xr s.d x⟩ = R at *
  have HR : Hid (_ = R) := hR
  clear hR h1
  have Hr : Hid (Calls Tryd.prog 29 #[.pointer (some ⟨g, 0, none⟩), .int .i64 2] (w.setCell ⟨g, 3, none⟩ (.int .u64 (bits .xor .u64 s.d x))) _) := hr
  clear hr
  obtain ⟨ha, hb, hc, hd, fa, fb, fc, fd⟩ := h
  go_enter Tryd.func28, Tryd.ntmps28
  go_wp2_with fail
  refine Hr.out.mono ?_
  rintro e w1 ⟨rfl, hst, hb1⟩
  clear ha hb hc hd fa fb fc fd
  have hst' := hst
  obtain ⟨ha, hb, hc, hd, fa, fb, fc, fd⟩ := hst'
  go_wp2
  go_end0
  refine ⟨rfl, ?_, ?_⟩
  · rw [HE.out]
    exact hst.setA _
  · exact (((Below.refl _ _).setCell (p := ⟨g, _, none⟩) hB _).trans hb1).setCell (p := ⟨g, _, none⟩) hB _
end Go.Proofs.YteblegcojhcccaaDoor
