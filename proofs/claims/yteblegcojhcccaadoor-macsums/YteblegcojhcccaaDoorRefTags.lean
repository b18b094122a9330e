import Derived.Test.YteblegcojhcccaaDoorTags
import Derived.Test.YteblegcojhcccaaDoorFmt16
namespace Go.Proofs.YteblegcojhcccaaDoor
open Go.RowKit Sip Hex
theorem Tab16.below {B : Nat} {w w' : World} (h : Tab16 w) (hb : Below B w w') (hB : 4 < B) : Tab16 w' := (hb.cell (p := ⟨4, 15, none⟩) hB).trans h
theorem repeat_one (c : Nat) : Lib.repeatL (⟨#[48]⟩ : ByteArray).data.toList c = List.replicate c 48 := by
  induction c with
  | zero => rfl
  | succ c ih => rw [Lib.repeatL, ih]; rfl
set_option maxHeartbeats 1000000 in
theorem refTag_any (key : Int) (s : ByteArray) (w : World) (hs : s.size ≤ 1000000) (hT : Tab16 w) (hTs : 4 < w.heap.size) :
    Calls Tryd.prog 15 #[.int .i64 key, .string s] w fun e w' => e = .returned (.string ⟨(tag key s.data.toList).toArray⟩) ∧ Below w.heap.size w w' := by
  have hbd := sip_bd (IntKind.u64.wrap key) (rl (IntKind.u64.wrap key) 32) s.data.toList
  obtain ⟨n, hn⟩ := Int.eq_ofNat_of_zero_le hbd.1
  have HT : Hid (tag key s.data.toList = hexsN 16 n) := by unfold tag Hid; rw [hn]; rfl
  have HN : Hid (sip (IntKind.u64.wrap key) (rl (IntKind.u64.wrap key) 32) s.data.toList = (n : Int)) := hn
  have hn2 : n < 16 ^ 16 := by omega
  have HTab : Hid (Tab16 w) := hT
  clear hn hbd hT
  go_enter Tryd.func15, Tryd.ntmps15
  go_wp2_with fail
  refine (refTurn32 _ _).mono ?_
  rintro e w1 ⟨rfl, n1, rfl⟩
  go_wp2_with fail
  refine (refSum_any _ _ s _ hs).mono ?_
  rintro e w2 ⟨rfl, hb2⟩
  rw [HN.out]
  have hb2' : Below w.heap.size w w2 := (below_drewN (Below.refl _ _) n1).trans hb2
  have hsz2 := hb2'.size
  go_wp2_with fail
  refine (fmt16_any n hn2 _ (HTab.out.below hb2' hTs) (Nat.lt_of_lt_of_le hTs hsz2)).mono ?_
  rintro e w3 ⟨rfl, hb3⟩
  have hmin := hexMin_le 15 n 16 (by decide) hn2 (by decide)
  have HP : Hid (List.replicate (16 - (hexMin 15 n).length) 48 ++ hexMin 15 n = hexsN 16 n) := hex_pad 15 n 16 (by decide) hn2 (by decide)
  generalize hexMin 15 n = X at *
  obtain ⟨c, hc⟩ : ∃ c, c = 16 - X.length := ⟨_, rfl⟩
  have HC : Hid (c = 16 - X.length) := hc
  have hc16 : c ≤ 16 := by omega
  clear hc
  go_wp2_with fail
  have HI : Hid ((16 : Int) - (X.length : Int) = (c : Int)) := by have := HC.out; unfold Hid; omega
  rw [HI.out]
  refine (Tryd.strings_Repeat _ c _ (by omega) (by simp [ByteArray.size]; omega)).mono ?_
  rintro e w4 ⟨rfl, hb4⟩
  rw [repeat_one]
  go_wp2_with fail
  go_ret
  refine ⟨?_, hb2'.trans ((hb3.mono hsz2).trans (hb4.mono (Nat.le_trans hsz2 hb3.size)))⟩
  rw [HT.out, ← HP.out, ← HC.out]
  rfl
end Go.Proofs.YteblegcojhcccaaDoor
