import Derived.Test.YteblegcojhcccaaDoorMacEat
import Derived.Test.YteblegcojhcccaaDoorMacWord
import Derived.Deep.LoopGhost
import Derived.Test.YteblegcojhcccaaDoorSipSum
namespace Go.Proofs.YteblegcojhcccaaDoor
open Go.RowKit Sip
theorem IsSt.drewN {w : World} {g : Nat} {s : St} (h : IsSt w g s) (n : Nat) : IsSt (w.drewN n) g s := ⟨h.a, h.b, h.c, h.d, h.fa, h.fb, h.fc, h.fd⟩
set_option maxHeartbeats 1000000 in
theorem macSum_any (k0 k1 : Int) (s : ByteArray) (w : World) (hs : s.size ≤ 9223372036854775807) :
    Calls Tryd.prog 12 #[.int .u64 k0, .int .u64 k1, .string s] w fun e w' => e = .returned (.int .u64 (sip k0 k1 s.data.toList)) ∧ Below w.heap.size w w' := by
  go_enter Tryd.func12, Tryd.ntmps12
  go_wp2_with fail
  go_loopg [2] s.size (fun gk v wr => ∃ (t : ByteArray) (q : St), v = .string t ∧ t.size ≤ gk ∧ t.size ≤ s.size ∧ IsSt wr w.heap.size q ∧ Below w.heap.size w wr ∧ w.heap.size < wr.heap.size ∧ sip k0 k1 s.data.toList = fin (s.size % 256) gk q t.data.toList)
  case atStart =>
    refine ⟨s, Sip.start k0 k1, rfl, Nat.le_refl _, Nat.le_refl _, ?_, (Below.refl _ _).alloc (Nat.le_refl _) _, by simp, by unfold sip; simp⟩
    constructor <;> go_simp <;> rfl
  case round =>
    obtain ⟨t, q, rfl, ht, hts, hst, hb, hgs, he⟩ := hrel
    have HE : Hid (sip k0 k1 s.data.toList = fin (s.size % 256) gk q t.data.toList) := he
    clear he
    by_cases h8 : 8 ≤ t.size
    · have hw := word_any (t.extract 0 8) wr (by simp; omega)
      go_wp2_with fail
      refine hw.mono ?_
      rintro e w1 ⟨rfl, n1, rfl⟩
      go_wp2_with fail
      refine (eat_any q _ w.heap.size w.heap.size (Nat.le_refl _) _ (hst.drewN n1)).mono ?_
      rintro e w2 ⟨rfl, hst2, hb2⟩
      go_wp2_with fail
      go_roundg (gk - 1)
      case measure => omega
      case rel =>
        refine ⟨_, _, rfl, ?_, ?_, hst2, (below_drewN hb n1).trans hb2, Nat.lt_of_lt_of_le hgs hb2.size, ?_⟩
        · simp; omega
        · simp; omega
        · obtain ⟨g1, rfl⟩ : ∃ g1, gk = g1 + 1 := ⟨gk - 1, by omega⟩
          rw [HE.out]
          simp only [fin, Nat.add_sub_cancel]
          rw [if_pos (by simpa using h8)]
          simp only [ByteArray.data_extract, Array.toList_extract]
          congr 1
          have hl : t.data.toList.length = t.size := by simp
          show _ = (t.data.toList.drop 8).take (t.size - 8)
          rw [List.take_of_length_le (by rw [List.length_drop]; omega)]
    · have hw := word_any t wr (by omega)
      go_wp2_with fail
      refine hw.mono ?_
      rintro e w1 ⟨rfl, n1, rfl⟩
      go_wp2_with fail
      have hl : t.data.toList.length = t.size := by simp
      have HF : Hid (sip k0 k1 s.data.toList = close (eatS q ((le t.data.toList + s.size % 256 * 256 ^ 7 : Nat) : Int))) := by
        refine HE.out.trans ?_
        cases gk with
        | zero => rfl
        | succ g1 => simp only [fin]; rw [if_neg (by omega)]
      rw [top_step _ _ (by omega)]
      generalize hX : ((le t.data.toList + s.size % 256 * 256 ^ 7 : Nat) : Int) = X at *
      clear hX
      refine (eat_any q X w.heap.size w.heap.size (Nat.le_refl _) _ (hst.drewN n1)).mono ?_
      rintro e w2 ⟨rfl, hst2, hb2⟩
      have HS2 : Hid (IsSt w2 w.heap.size (eatS q X)) := hst2
      have HB : Hid (Below w.heap.size w w2) := (below_drewN hb n1).trans hb2
      have hgs2 : w.heap.size < w2.heap.size := Nat.lt_of_lt_of_le hgs hb2.size
      clear hst hb2 hb hw
      generalize eatS q X = R at *
      obtain ⟨ha, hb, hc, hd, fa, fb, fc, fd⟩ := hst2
      go_wp2_with fail
      refine (rounds_any ⟨R.a, R.b, xr R.c 255, R.d⟩ w.heap.size 4 w.heap.size (Nat.le_refl _) _ (by decide) (HS2.out.setC _)).mono ?_
      rintro e w3 ⟨rfl, hst3, hb3⟩
      clear ha hb hc hd fa fb fc fd
      have HC : Hid (close R = xr (xr (xr (rnds 4 ⟨R.a, R.b, xr R.c 255, R.d⟩).a (rnds 4 ⟨R.a, R.b, xr R.c 255, R.d⟩).b) (rnds 4 ⟨R.a, R.b, xr R.c 255, R.d⟩).c) (rnds 4 ⟨R.a, R.b, xr R.c 255, R.d⟩).d) := rfl
      generalize rnds 4 ⟨R.a, R.b, xr R.c 255, R.d⟩ = T at *
      obtain ⟨ha, hb, hc, hd, fa, fb, fc, fd⟩ := hst3
      go_wp2_with fail
      go_ret
      refine ⟨?_, ?_⟩
      · rw [HF.out, HC.out]; rfl
      · exact (HB.out.setCell (p := ⟨w.heap.size, _, none⟩) (Nat.le_refl _) _).trans hb3
end Go.Proofs.YteblegcojhcccaaDoor
