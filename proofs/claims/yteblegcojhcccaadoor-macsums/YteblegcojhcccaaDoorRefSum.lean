import Derived.Test.YteblegcojhcccaaDoorRefRounds
import Derived.Test.YteblegcojhcccaaDoorRowApp
import Derived.Test.YteblegcojhcccaaDoorSipSum
import Derived.Deep.LoopGhost
namespace Go.Proofs.YteblegcojhcccaaDoor
open Go.RowKit Sip
def bs (l : List UInt8) : List Value := l.map fun b => .int .u8 (b.toNat : Int)
theorem bytesBelow (w : World) (e : TypeId) (s : ByteArray) : Below w.heap.size w (Lib.bytesWorld w e s) :=
  ⟨rfl, rfl, rfl, by rw [Lib.bytesWorld_size]; omega, fun k hk => Lib.bytesWorld_at_old w e s k hk⟩
theorem bytesRow (w : World) (e : TypeId) (s : ByteArray) (hs : s.size ≤ maxLen) : RowAt w.heap.size (Lib.bytesWorld w e s) w.heap.size (grownCap w s.size 0 e) s.size (bs s.data.toList) := by
  have hsz : (Lib.bytesCells w e s).size = grownCap w s.size 0 e := by
    have := grownCap_ge w s.size 0 e
    simp [Lib.bytesCells]; omega
  refine ⟨Nat.le_refl _, by rw [Lib.bytesWorld_size]; omega, by simp [bs], grownCap_ge _ _ _ _, grownCap_le_maxLen _ _ _ _ hs, fun j u hj => ?_, fun j hj => ?_⟩
  · simp only [World.cell?, Lib.bytesWorld_at_new]
    have hj' : j < s.size := by
      have := (List.getElem?_eq_some_iff.1 hj).1
      simpa [bs] using this
    simp [Lib.bytesCells, bs, Array.getElem?_append, hj'] at hj ⊢
    exact hj
  · simp [World.cell?, World.frozen?, Lib.bytesWorld_at_new, hsz, hj]
    omega
theorem IsSt.below {B : Nat} {w w' : World} {g : Nat} {s : St} (h : IsSt w g s) (hb : Below B w w') (hg : g < B) : IsSt w' g s :=
  ⟨(hb.cell (p := ⟨g, 0, none⟩) hg).trans h.a, (hb.cell (p := ⟨g, 1, none⟩) hg).trans h.b, (hb.cell (p := ⟨g, 2, none⟩) hg).trans h.c, (hb.cell (p := ⟨g, 3, none⟩) hg).trans h.d,
   (hb.frozen (p := ⟨g, 0, none⟩) hg).trans h.fa, (hb.frozen (p := ⟨g, 1, none⟩) hg).trans h.fb, (hb.frozen (p := ⟨g, 2, none⟩) hg).trans h.fc, (hb.frozen (p := ⟨g, 3, none⟩) hg).trans h.fd⟩
theorem info_u8 : (Tryd.prog.info? 5).map (fun i => (i.zero, i.size, i.bytes)) = some (some (.int .u8 0), 1, 1) := by kernel_rfl
set_option maxRecDepth 100000 in
set_option maxHeartbeats 1000000 in
theorem refSum_any (k0 k1 : Int) (s : ByteArray) (w : World) (hs : s.size ≤ 1000000) :
    Calls Tryd.prog 13 #[.int .u64 k0, .int .u64 k1, .string s] w fun e w' => e = .returned (.int .u64 (sip k0 k1 s.data.toList)) ∧ Below w.heap.size w w' := by
  have hcv := fun w => Lib.run_convert_string_bytes (P := Tryd.prog) w 9 56 5 s Tryd.underlying9 Tryd.underlying56 Tryd.underlying5
  obtain ⟨i0, hi, hz0, hz1, hz2⟩ := info_parts info_u8
  have hmax : s.size ≤ maxLen := by unfold maxLen; omega
  go_enter Tryd.func13, Tryd.ntmps13
  go_wp2_with fail
  have hrow := bytesRow w 5 s hmax
  have hbel := bytesBelow w 5 s
  generalize Lib.bytesWorld w 5 s = W at *
  generalize grownCap w s.size 0 5 = C at *
  go_loopg [7] (7 - s.size % 8) (fun gk v wr => ∃ (g c k : Nat), v = .slice (some ⟨g, 0, none⟩) (s.size + k) c ∧ k + gk = 7 - s.size % 8 ∧ RowAt w.heap.size wr g c (s.size + k) (bs (s.data.toList ++ List.replicate k 0)) ∧ Below w.heap.size w wr)
  case atStart => exact ⟨_, _, 0, rfl, by omega, by simpa using hrow, hbel⟩
  case round =>
    obtain ⟨g, c, k, rfl, hk, hrow2, hbel2⟩ := hrel
    have hsz := hbel2.size
    have HK : Hid (k + gk = 7 - s.size % 8) := hk
    clear hk
    by_cases h7 : (s.size + k) % 8 = 7
    · go_wp2_with (at_builtin; refine wpList_append_row _ rfl _ _ 56 rfl 5 i0 (.int .u8 0) 1 Tryd.underlying56 hi hz0 hz1 hz2 rfl w.heap.size g (s.size + k) c _ rfl (hrow2.alloc _) ⟨wr.heap.size, 0, none⟩ 1 (.int .u8 ((s.size : Int) % 256)) rfl ?c1 rfl ?c2 ?c3 ?_)
      case c1 => go_simp
      case c2 => have := HK.out; unfold maxLen; omega
      case c3 => have := HK.out; omega
      intro g2 c2 w2 hrow3 hb3
      have hb4 : Below w.heap.size w w2 := (hbel2.alloc hsz _).trans hb3
      have hk7 : k = 7 - s.size % 8 := by have := HK.out; omega
      have hP : bs (s.data.toList ++ List.replicate k 0) ++ [.int .u8 ((s.size : Int) % 256)] = bs (pad s.data.toList) := by
        simp [bs, pad, hk7]
      rw [hP] at hrow3
      have hrow4 : RowAt w.heap.size w2 g2 c2 (pad s.data.toList).length (bs (pad s.data.toList)) := by
        have e : s.size + k + 1 = (pad s.data.toList).length := by simp [pad, hk7]; omega
        rw [← e]
        refine ⟨hrow3.new, hrow3.lt, hrow3.len, hrow3.le, hrow3.max, hrow3.holds, hrow3.there⟩
      have hlen : (pad s.data.toList).length = s.size + k + 1 := by simp [pad, hk7]; omega
      obtain ⟨T, hT⟩ : ∃ T, (pad s.data.toList).length = 8 * T := ⟨(s.size + k + 1) / 8, by rw [hlen]; omega⟩
      have hn8 : s.size + k + 1 = 8 * T := by omega
      have HF : Hid (sip k0 k1 s.data.toList = close (feed T (Sip.start k0 k1) (pad s.data.toList))) := sip_pad k0 k1 s.data.toList T hT
      have HT : Hid ((pad s.data.toList).length = 8 * T) := hT
      have hg2 := hrow4.lt
      rw [HT.out] at hrow4
      rw [hn8]
      clear hrow3 hP hT hlen hk7 hrow2 hrow hbel2 hbel hcv hb3
      have HN : Hid (s.size + k + 1 = 8 * T) := hn8
      clear hn8
      generalize pad s.data.toList = L at *
      obtain ⟨N, hN⟩ : ∃ N, N = 8 * T := ⟨_, rfl⟩
      have HM : Hid (N = 8 * T) := hN
      have hNs : N ≤ 1000008 := by have := HN.out; have := HK.out; omega
      rw [← hN]
      rw [← hN] at hrow4
      clear hN
      go_wp2_with fail
      go_loopg [9] T (fun gk i wr => ∃ (j : Nat) (q : St), i = .int .i64 ((8 * j : Nat) : Int) ∧ j + gk = T ∧ IsSt wr w2.heap.size q ∧ RowAt w.heap.size wr g2 c2 N (bs L) ∧ Below w.heap.size w wr ∧ w2.heap.size < wr.heap.size ∧ feed gk q (L.drop (8 * j)) = feed T (Sip.start k0 k1) L)
      case atStart =>
        refine ⟨0, Sip.start k0 k1, rfl, by omega, ?_, hrow4.alloc _, hb4.alloc hb4.size _, by simp, by simp⟩
        constructor <;> go_simp <;> rfl
      case round =>
        obtain ⟨j, q, rfl, hj, hst, hrw, hbl, hgl, hfe⟩ := hrel
        have HJ : Hid (j + gk = T) := hj
        have HE : Hid (feed gk q (L.drop (8 * j)) = feed T (Sip.start k0 k1) L) := hfe
        clear hfe hj
        obtain ⟨I, hI⟩ : ∃ I, I = 8 * j := ⟨_, rfl⟩
        rw [← hI]
        have HI : Hid (I = 8 * j) := hI
        clear hI
        have hst' := hst
        obtain ⟨ha, hb, hc, hd, fa, fb, fc, fd⟩ := hst'
        by_cases hlt : I < N
        · have h8 : I + 8 ≤ N := by have := HI.out; have := HM.out; omega
          obtain ⟨X, hX⟩ : ∃ X, X = (L.drop I).take 8 := ⟨_, rfl⟩
          have hXl : X.length = 8 := by rw [hX]; simp; have := HT.out; have := HM.out; omega
          have hcell : ∀ d, d < 8 → wr.cell? ⟨g2, I + d, none⟩ = some (.int .u8 ((X.getD d 0).toNat : Int)) := by
            intro d hd8
            have hLl : I + d < L.length := by have := HT.out; have := HM.out; omega
            refine hrw.holds _ _ ?_
            rw [hX]
            simp [bs, List.getD, hd8, List.getElem?_drop, hLl]
          have HX : Hid (X = (L.drop I).take 8) := hX
          have HXl : Hid (X.length = 8) := hXl
          clear hX hXl
          go_wp2_with fail
          go_loop [10, 11] (fun m kk => ∃ e : Nat, e ≤ 8 ∧ kk = .int .i64 ((e : Int) - 1) ∧ m = .int .u64 (le (X.drop e))) (fun _ kk => (intOf kk + 1).toNat)
          case atStart => exact ⟨8, by omega, rfl, by rw [List.drop_of_length_le (by rw [HXl.out]; omega)]; rfl⟩
          case round =>
            obtain ⟨e, he, rfl, rfl⟩ := hrel
            cases e with
            | zero =>
              rw [List.drop_zero]
              generalize hx : (le X : Int) = x at *
              have Hx : Hid ((le X : Int) = x) := hx
              clear hx
              clear hcell
              go_wp2_with fail
              refine (refRounds_any ⟨q.a, q.b, q.c, xr q.d x⟩ 2 _ (by decide)).mono ?_
              rintro e w3 ⟨rfl, hb3⟩
              have hst3 := (hst.setD (xr q.d x)).below hb3 (by simp [World.setCell]; exact hgl)
              have hb5 : Below w.heap.size w w3 := (hbl.setCell (p := ⟨w2.heap.size, 3, none⟩) hb4.size _).trans (hb3.mono (by simp [World.setCell]; exact hbl.size))
              have hrw3 : RowAt w.heap.size w3 g2 c2 N (bs L) := (hrw.setCell (a := ⟨w2.heap.size, 3, none⟩) (by simp; omega) _).below hb3 (by simp [World.setCell]; omega)
              have hgl3 : w2.heap.size < w3.heap.size := Nat.lt_of_lt_of_le (by simp [World.setCell]; exact hgl) hb3.size
              have HE2 : Hid (eatS q x = ⟨xr (rnds 2 ⟨q.a, q.b, q.c, xr q.d x⟩).a x, (rnds 2 ⟨q.a, q.b, q.c, xr q.d x⟩).b, (rnds 2 ⟨q.a, q.b, q.c, xr q.d x⟩).c, (rnds 2 ⟨q.a, q.b, q.c, xr q.d x⟩).d⟩) := rfl
              generalize rnds 2 ⟨q.a, q.b, q.c, xr q.d x⟩ = R at *
              have HS3 : Hid (IsSt w3 w2.heap.size ⟨q.a, q.b, q.c, xr q.d x⟩) := hst3
              clear ha hb hc hd fa fb fc fd hst hb3
              obtain ⟨ha, hb, hc, hd, fa, fb, fc, fd⟩ := hst3
              go_wp2_with fail
              obtain ⟨g1, rfl⟩ : ∃ g1, gk = g1 + 1 := ⟨gk - 1, by have := HI.out; have := HM.out; have := HJ.out; omega⟩
              go_roundg g1
              case measure => omega
              case rel =>
                refine ⟨j + 1, eatS q x, by rw [HI.out]; go_num, by have := HJ.out; omega, ?_, ?_, ?_, ?_, ?_⟩
                · rw [HE2.out]
                  exact ((((HS3.out.setA _).setB _).setC _).setD _).setA _
                · exact ((((hrw3.setCell (by simp; omega) _).setCell (by simp; omega) _).setCell (by simp; omega) _).setCell (by simp; omega) _).setCell (by simp; omega) _
                · exact ((((hb5.setCell (p := ⟨w2.heap.size, _, none⟩) hb4.size _).setCell (p := ⟨w2.heap.size, _, none⟩) hb4.size _).setCell (p := ⟨w2.heap.size, _, none⟩) hb4.size _).setCell (p := ⟨w2.heap.size, _, none⟩) hb4.size _).setCell (p := ⟨w2.heap.size, _, none⟩) hb4.size _
                · simp [World.setCell]; exact hgl3
                · rw [← HE.out]
                  simp only [feed]
                  rw [← HI.out, ← HX.out, Hx.out, HI.out, List.drop_drop]
                  rfl
            | succ d =>
              have hcd := hcell d (by omega)
              rw [show (((d + 1 : Nat) : Int) - 1) = (d : Int) from by omega]
              go_wp2_with fail
              go_round
              case rel => exact ⟨d, by omega, rfl, by rw [horner X d HXl.out (by omega)]⟩
              case measure => simp [intOf]
        · have hgk : gk = 0 := by have := HI.out; have := HM.out; have := HJ.out; omega
          subst hgk
          have HQ : Hid (feed T (Sip.start k0 k1) L = q) := HE.out.symm
          go_wp2_with fail
          refine (refRounds_any ⟨q.a, q.b, xr q.c 255, q.d⟩ 4 _ (by decide)).mono ?_
          rintro e w3 ⟨rfl, hb3⟩
          have hst3 := (hst.setC (xr q.c 255)).below hb3 (by simp [World.setCell]; exact hgl)
          have hb5 : Below w.heap.size w w3 := (hbl.setCell (p := ⟨w2.heap.size, 2, none⟩) hb4.size _).trans (hb3.mono (by simp [World.setCell]; exact hbl.size))
          have HC : Hid (close q = xr (xr (xr (rnds 4 ⟨q.a, q.b, xr q.c 255, q.d⟩).a (rnds 4 ⟨q.a, q.b, xr q.c 255, q.d⟩).b) (rnds 4 ⟨q.a, q.b, xr q.c 255, q.d⟩).c) (rnds 4 ⟨q.a, q.b, xr q.c 255, q.d⟩).d) := rfl
          generalize rnds 4 ⟨q.a, q.b, xr q.c 255, q.d⟩ = R at *
          clear ha hb hc hd fa fb fc fd hst hb3
          obtain ⟨ha, hb, hc, hd, fa, fb, fc, fd⟩ := hst3
          go_wp2_with fail
          go_ret
          refine ⟨?_, ?_⟩
          · rw [HF.out, HQ.out, HC.out]; rfl
          · exact (((hb5.setCell (p := ⟨w2.heap.size, _, none⟩) hb4.size _).setCell (p := ⟨w2.heap.size, _, none⟩) hb4.size _).setCell (p := ⟨w2.heap.size, _, none⟩) hb4.size _).setCell (p := ⟨w2.heap.size, _, none⟩) hb4.size _
    · go_wp2_with (at_builtin; refine wpList_append_row _ rfl _ _ 56 rfl 5 i0 (.int .u8 0) 1 Tryd.underlying56 hi hz0 hz1 hz2 rfl w.heap.size g (s.size + k) c _ rfl (hrow2.alloc _) ⟨wr.heap.size, 0, none⟩ 1 (.int .u8 0) rfl ?c1 rfl ?c2 ?c3 ?_)
      case c1 => go_simp
      case c2 => have := HK.out; unfold maxLen; omega
      case c3 => have := HK.out; omega
      intro g2 c2 w2 hrow3 hb3
      have hk7 : k < 7 - s.size % 8 := by have := HK.out; omega
      go_wp2_with fail
      go_roundg (gk - 1)
      case measure => have := HK.out; omega
      case rel =>
        refine ⟨g2, c2, k + 1, rfl, by have := HK.out; omega, ?_, (hbel2.alloc hsz _).trans hb3⟩
        have hP : bs (s.data.toList ++ List.replicate k 0) ++ [.int .u8 0] = bs (s.data.toList ++ List.replicate (k + 1) 0) := by
          rw [List.replicate_succ']; simp [bs]
        rw [hP] at hrow3
        exact hrow3
end Go.Proofs.YteblegcojhcccaaDoor
