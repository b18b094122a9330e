/-
  Own texts put together: MacDigits, MacEat, MacWord, MacSum, Tags, MacSame, DiskWalk, StSeal.
-/
import Derived.Test.YtlailakofhenkabGreatDoorB9
import Derived.Test.YtlailakofhenkabGreatDoorB1
import Derived.Laws.BytesArg
import Derived.Deep.LoopGhost
import Derived.Test.YtlailakofhenkabGreatDoorShelf
import Derived.BigQuiet
import Derived.Test.YtlailakofhenkabGreatDoorB8
import Derived.Deep.RegionWith
import Derived.Deep.CutRange
import Derived.Test.YtlailakofhenkabGreatDoorB3
namespace Go.Proofs.YtlailakofhenkabGreatDoor
open Go.RowKit Sip Hex
theorem RowAt.store {B : Nat} {w : World} {g c n : Nat} {cs : List Value} (h : RowAt B w g c n cs) {j : Nat} (hj : j < n) (u : Value) : RowAt B (w.setCell ⟨g, j, none⟩ u) g c n (cs.set j u) := by
  have hle := h.le
  have hl := h.len
  have hth := h.there j (by omega)
  obtain ⟨old, hold⟩ := Option.isSome_iff_exists.1 hth.1
  refine ⟨h.new, by simp [World.setCell]; exact h.lt, by simp [h.len], h.le, h.max, fun i v hi => ?_, fun i hi => ?_⟩
  · by_cases hij : i = j
    · subst hij
      rw [List.getElem?_set_self (by omega)] at hi
      simp at hi; subst hi
      go_simp
    · rw [List.getElem?_set_ne (by omega)] at hi
      have := h.holds i v hi
      go_simp
  · have h2 := h.there i hi
    obtain ⟨v, hv⟩ := Option.isSome_iff_exists.1 h2.1
    refine ⟨?_, ?_⟩
    · by_cases hij : i = j
      · subst hij; go_simp
      · go_simp
    · simpa using h2.2
theorem run_row_string {P : Program} (w : World) (src dst e : TypeId) (hs : P.underlying src = some (.slice e)) (he : P.underlying e = some (.int .u8)) (hd : P.underlying dst = some .string) (b off len cap : Nat) (l : List UInt8) (hlen : l.length = len)
    (hcell : ∀ i, i < len → w.cell? ⟨b, off + i, none⟩ = some (.int .u8 ((l.getD i 0).toNat : Int))) :
    (convert src dst (.slice (some ⟨b, off, none⟩) len cap)).run P w = .ok (.string ⟨l.toArray⟩) w := by
  have h := run_convert_bytes_arg (P := P) w src e hs he b off len cap (l.map fun c => (c.toNat : Int)) (by simpa using hlen) (fun i hi => by
    rw [hcell i hi]
    have hi' : i < l.length := by omega
    simp [List.getD, hi']) dst hd
  rw [h]
  congr 2
  simp [strOfNums, Function.comp_def]
set_option maxRecDepth 100000 in
set_option maxHeartbeats 1000000 in
theorem digits_any (n : Nat) (hn : n < 16 ^ 16) (w : World) :
    Calls Tryz.prog 216 #[.int .u64 n] w fun e w' => e = .returned (.string ⟨(hexsN 16 n).toArray⟩) ∧ Below w.heap.size w w' := by
  go_enter Tryz.func216, Tryz.ntmps216
  go_wp2_with fail
  go_loopg [0, 5] 16 (fun gk x i wr => ∃ k : Nat, k + gk = 16 ∧ i = .int .i64 k ∧ x = .int .u64 (rot n k : Nat) ∧ RowAt w.heap.size wr w.heap.size 16 16 (bs ((hexsN 16 n).take k ++ List.replicate (16 - k) 0)) ∧ Below w.heap.size w wr)
  case atStart =>
    refine ⟨0, rfl, rfl, by rw [rot_zero n hn], ?_, (Below.refl _ _).alloc (Nat.le_refl _) _⟩
    refine ⟨Nat.le_refl _, by simp, by simp [bs], by omega, by unfold maxLen; omega, fun j u hj => ?_, fun j hj => ?_⟩
    · match j with
      | 0 | 1 | 2 | 3 | 4 | 5 | 6 | 7 | 8 | 9 | 10 | 11 | 12 | 13 | 14 | 15 => simp [bs] at hj; subst hj; go_simp
      | j + 16 => simp [bs] at hj
    · match j with
      | 0 | 1 | 2 | 3 | 4 | 5 | 6 | 7 | 8 | 9 | 10 | 11 | 12 | 13 | 14 | 15 => go_simp
      | j + 16 => omega
  case round =>
    obtain ⟨k, hk, rfl, rfl, hrow, hb⟩ := hrel
    have HK : Hid (k + gk = 16) := hk
    have hk16 : k ≤ 16 := by omega
    clear hk
    by_cases hlt : k < 16
    · go_wp2_with fail
      refine (rotl4 _ _).mono ?_
      rintro e w' ⟨rfl, rfl⟩
      have hs := rot_step n k hn hlt
      have hX := rot_lt n (k + 1) hn (by omega)
      have hrl : rl ((rot n k : Nat) : Int) 4 = ((rot n (k + 1) : Nat) : Int) := by rw [rl4 _ (rot_lt n k hn hk16), hs.1]
      rw [hrl]
      have HS : Hid (rot n (k + 1) % 16 = n / 16 ^ (15 - k) % 16) := hs.2
      clear hs hrl
      generalize hx : rot n (k + 1) = X at *
      have HX : Hid (rot n (k + 1) = X) := hx
      clear hx
      have ha := and15 X
      obtain ⟨d, hd⟩ : ∃ d, d = X % 16 := ⟨_, rfl⟩
      have hd16 : d < 16 := by omega
      rw [← hd] at ha
      have HD : Hid (d = X % 16) := hd
      clear hd
      have hth := hrow.there k hlt
      obtain ⟨old, hold⟩ := Option.isSome_iff_exists.1 hth.1
      have hfz := hth.2
      clear hth
      go_wp2_with fail
      go_roundg (gk - 1)
      case measure => have := HK.out; omega
      case rel =>
        refine ⟨k + 1, by have := HK.out; omega, by go_num, by rw [HX.out], ?_, hb.setCell (p := ⟨w.heap.size, k, none⟩) (Nat.le_refl _) _⟩
        have hget : ((⟨#[48, 49, 50, 51, 52, 53, 54, 55, 56, 57, 97, 98, 99, 100, 101, 102]⟩ : ByteArray)[d]'hd16) = hexc d := by
          clear HD ha
          revert d
          decide
        have hv : hexc d = hexc (n / 16 ^ (16 - 1 - k) % 16) := by rw [HD.out, HS.out]
        have hst := hrow.store hlt (.int .u8 ((hexc d).toNat : Int))
        rw [hget]
        have hE : (bs ((hexsN 16 n).take k ++ List.replicate (16 - k) 0)).set k (.int .u8 ((hexc d).toNat : Int)) = bs ((hexsN 16 n).take (k + 1) ++ List.replicate (16 - (k + 1)) 0) := by
          have hl : ((hexsN 16 n).take k).length = k := by rw [List.length_take, hexsN_length]; omega
          have hg := hexsN_get 16 n k hlt
          have ht : (hexsN 16 n).take (k + 1) = (hexsN 16 n).take k ++ [hexc d] := by
            rw [List.take_add_one, hg, hv]; rfl
          rw [ht, show 16 - k = (16 - (k + 1)) + 1 by omega, List.replicate_succ]
          simp only [bs, List.map_append, List.map_cons]
          rw [List.set_append_right _ _ (by rw [List.length_map, hl]; exact Nat.le_refl _), List.length_map, hl, Nat.sub_self]
          simp
        rw [hE] at hst
        exact hst
    · obtain rfl : k = 16 := by omega
      have hcv : (convert 164 9 (.slice (some ⟨w.heap.size, 0, none⟩) 16 16)).run Tryz.prog wr = .ok (.string ⟨(hexsN 16 n).toArray⟩) wr := by
        refine run_row_string wr _ _ 5 Tryz.underlying164 Tryz.underlying5 Tryz.underlying9 _ _ _ _ _ (hexsN_length 16 n) (fun i hi => ?_)
        rw [Nat.zero_add]
        refine hrow.holds i _ ?_
        have hl : (hexsN 16 n).length = 16 := hexsN_length 16 n
        rw [List.take_of_length_le (by omega)]
        simp [bs, List.getD, hl, hi]
      go_wp2_with fail
      go_ret
      exact ⟨rfl, hb⟩
end Go.Proofs.YtlailakofhenkabGreatDoor

namespace Go.Proofs.YtlailakofhenkabGreatDoor
open Go.RowKit Sip
set_option maxHeartbeats 1000000 in
theorem eat_any (s : St) (x : Int) (g B : Nat) (hB : B ≤ g) (w : World) (h : IsSt w g s) :
    Calls Tryz.prog 286 #[.int .u64 x, .pointer (some ⟨g, 0, none⟩)] w fun e w' => e = .returned (.tuple #[]) ∧ IsSt w' g (eatS s x) ∧ Below B w w' := by
  have HE : Hid (eatS s x = ⟨xr (rnds 2 ⟨s.a, s.b, s.c, xr s.d x⟩).a x, (rnds 2 ⟨s.a, s.b, s.c, xr s.d x⟩).b, (rnds 2 ⟨s.a, s.b, s.c, xr s.d x⟩).c, (rnds 2 ⟨s.a, s.b, s.c, xr s.d x⟩).d⟩) := rfl
  have h1 := h.setD (xr s.d x)
  have hr : Calls Tryz.prog 287 #[.pointer (some ⟨g, 0, none⟩), .int .i64 2] (w.setCell ⟨g, 3, none⟩ (.int .u64 (bits .xor .u64 s.d x))) _ := rounds_any ⟨s.a, s.b, s.c, xr s.d x⟩ g 2 B hB _ (by decide) h1
  generalize hR : rnds 2 ⟨s.a, s.b, s.c, xr s.d x⟩ = R at *
  have HR : Hid (_ = R) := hR
  clear hR h1
  have Hr : Hid (Calls Tryz.prog 287 #[.pointer (some ⟨g, 0, none⟩), .int .i64 2] (w.setCell ⟨g, 3, none⟩ (.int .u64 (bits .xor .u64 s.d x))) _) := hr
  clear hr
  obtain ⟨ha, hb, hc, hd, fa, fb, fc, fd⟩ := h
  go_enter Tryz.func286, Tryz.ntmps286
  go_wp2_with fail
  refine Hr.out.mono ?_
  rintro e w1 ⟨rfl, hst, hb1⟩
  clear ha hb hc hd fa fb fc fd
  have hst' := hst
  obtain ⟨ha, hb, hc, hd, fa, fb, fc, fd⟩ := hst'
  go_wp2
  go_end0
  refine ⟨rfl, ?_, ?_⟩
  · rw [HE.out]
    exact hst.setA _
  · exact (((Below.refl _ _).setCell (p := ⟨g, _, none⟩) hB _).trans hb1).setCell (p := ⟨g, _, none⟩) hB _
end Go.Proofs.YtlailakofhenkabGreatDoor

namespace Go.Proofs.YtlailakofhenkabGreatDoor
open Go.RowKit Sip
set_option maxHeartbeats 1000000 in
theorem word_any (s : ByteArray) (w : World) (hs : s.size ≤ 8) :
    Calls Tryz.prog 288 #[.string s] w fun e w' => e = .returned (.int .u64 (le s.data.toList)) ∧ ∃ n, w' = w.drewN n := by
  go_enter Tryz.func288, Tryz.ntmps288
  go_wp2
  go_loopw [3, 7] (fun x i wr => ∃ k m : Nat, k ≤ s.size ∧ i = .int .i64 k ∧ x = .int .u64 (le (s.data.toList.take k)) ∧ wr = w.drewN m) (fun _ i _ => s.size - (intOf i).toNat)
  case atStart => exact ⟨0, 0, Nat.zero_le _, rfl, rfl, rfl⟩
  case round =>
    obtain ⟨k, m, hk, rfl, rfl, rfl⟩ := hrel
    by_cases hlt : k < s.size
    · go_wp2
      go_roundw
      case rel =>
        refine ⟨k + 1, m, by omega, by go_num, ?_, rfl⟩
        have ht : s.data.toList.take (k + 1) = s.data.toList.take k ++ [s[k]] := by
          rw [List.take_succ_eq_append_getElem (by simpa using hlt)]; rfl
        have hl : (s.data.toList.take k).length = k := by rw [List.length_take]; simp; omega
        have hb := le_lt (s.data.toList.take k)
        rw [hl] at hb
        rw [ht, le_snoc, hl, or_step _ _ _ hb (by omega)]
      case measure => simp [intOf]; omega
    · obtain rfl : k = s.size := by omega
      go_wp2
      go_ret
      exact ⟨by rw [List.take_of_length_le (by simp)]; rfl, m, rfl⟩
end Go.Proofs.YtlailakofhenkabGreatDoor

namespace Go.Proofs.YtlailakofhenkabGreatDoor
open Go.RowKit Sip
theorem IsSt.drewN {w : World} {g : Nat} {s : St} (h : IsSt w g s) (n : Nat) : IsSt (w.drewN n) g s := ⟨h.a, h.b, h.c, h.d, h.fa, h.fb, h.fc, h.fd⟩
set_option maxHeartbeats 1000000 in
theorem macSum_any (k0 k1 : Int) (s : ByteArray) (w : World) (hs : s.size ≤ 9223372036854775807) :
    Calls Tryz.prog 217 #[.int .u64 k0, .int .u64 k1, .string s] w fun e w' => e = .returned (.int .u64 (sip k0 k1 s.data.toList)) ∧ Below w.heap.size w w' := by
  go_enter Tryz.func217, Tryz.ntmps217
  go_wp2_with fail
  go_loopg [2] s.size (fun gk v wr => ∃ (t : ByteArray) (q : St), v = .string t ∧ t.size ≤ gk ∧ t.size ≤ s.size ∧ IsSt wr w.heap.size q ∧ Below w.heap.size w wr ∧ w.heap.size < wr.heap.size ∧ sip k0 k1 s.data.toList = fin (s.size % 256) gk q t.data.toList)
  case atStart =>
    refine ⟨s, Sip.start k0 k1, rfl, Nat.le_refl _, Nat.le_refl _, ?_, (Below.refl _ _).alloc (Nat.le_refl _) _, by simp, by unfold sip; simp⟩
    constructor <;> go_simp <;> rfl
  case round =>
    obtain ⟨t, q, rfl, ht, hts, hst, hb, hgs, he⟩ := hrel
    have HE : Hid (sip k0 k1 s.data.toList = fin (s.size % 256) gk q t.data.toList) := he
    clear he
    by_cases h8 : 8 ≤ t.size
    · have hw := word_any (t.extract 0 8) wr (by simp; omega)
      go_wp2_with fail
      refine hw.mono ?_
      rintro e w1 ⟨rfl, n1, rfl⟩
      go_wp2_with fail
      refine (eat_any q _ w.heap.size w.heap.size (Nat.le_refl _) _ (hst.drewN n1)).mono ?_
      rintro e w2 ⟨rfl, hst2, hb2⟩
      go_wp2_with fail
      go_roundg (gk - 1)
      case measure => omega
      case rel =>
        refine ⟨_, _, rfl, ?_, ?_, hst2, (below_drewN hb n1).trans hb2, Nat.lt_of_lt_of_le hgs hb2.size, ?_⟩
        · simp; omega
        · simp; omega
        · obtain ⟨g1, rfl⟩ : ∃ g1, gk = g1 + 1 := ⟨gk - 1, by omega⟩
          rw [HE.out]
          simp only [fin, Nat.add_sub_cancel]
          rw [if_pos (by simpa using h8)]
          simp only [ByteArray.data_extract, Array.toList_extract]
          congr 1
          have hl : t.data.toList.length = t.size := by simp
          show _ = (t.data.toList.drop 8).take (t.size - 8)
          rw [List.take_of_length_le (by rw [List.length_drop]; omega)]
    · have hw := word_any t wr (by omega)
      go_wp2_with fail
      refine hw.mono ?_
      rintro e w1 ⟨rfl, n1, rfl⟩
      go_wp2_with fail
      have hl : t.data.toList.length = t.size := by simp
      have HF : Hid (sip k0 k1 s.data.toList = close (eatS q ((le t.data.toList + s.size % 256 * 256 ^ 7 : Nat) : Int))) := by
        refine HE.out.trans ?_
        cases gk with
        | zero => rfl
        | succ g1 => simp only [fin]; rw [if_neg (by omega)]
      rw [top_step _ _ (by omega)]
      generalize hX : ((le t.data.toList + s.size % 256 * 256 ^ 7 : Nat) : Int) = X at *
      clear hX
      refine (eat_any q X w.heap.size w.heap.size (Nat.le_refl _) _ (hst.drewN n1)).mono ?_
      rintro e w2 ⟨rfl, hst2, hb2⟩
      have HS2 : Hid (IsSt w2 w.heap.size (eatS q X)) := hst2
      have HB : Hid (Below w.heap.size w w2) := (below_drewN hb n1).trans hb2
      have hgs2 : w.heap.size < w2.heap.size := Nat.lt_of_lt_of_le hgs hb2.size
      clear hst hb2 hb hw
      generalize eatS q X = R at *
      obtain ⟨ha, hb, hc, hd, fa, fb, fc, fd⟩ := hst2
      go_wp2_with fail
      refine (rounds_any ⟨R.a, R.b, xr R.c 255, R.d⟩ w.heap.size 4 w.heap.size (Nat.le_refl _) _ (by decide) (HS2.out.setC _)).mono ?_
      rintro e w3 ⟨rfl, hst3, hb3⟩
      clear ha hb hc hd fa fb fc fd
      have HC : Hid (close R = xr (xr (xr (rnds 4 ⟨R.a, R.b, xr R.c 255, R.d⟩).a (rnds 4 ⟨R.a, R.b, xr R.c 255, R.d⟩).b) (rnds 4 ⟨R.a, R.b, xr R.c 255, R.d⟩).c) (rnds 4 ⟨R.a, R.b, xr R.c 255, R.d⟩).d) := rfl
      generalize rnds 4 ⟨R.a, R.b, xr R.c 255, R.d⟩ = T at *
      obtain ⟨ha, hb, hc, hd, fa, fb, fc, fd⟩ := hst3
      go_wp2_with fail
      go_ret
      refine ⟨?_, ?_⟩
      · rw [HF.out, HC.out]; rfl
      · exact (HB.out.setCell (p := ⟨w.heap.size, _, none⟩) (Nat.le_refl _) _).trans hb3
end Go.Proofs.YtlailakofhenkabGreatDoor

namespace Go.Proofs.YtlailakofhenkabGreatDoor
open Go.RowKit Sip Hex
def tag (key : Int) (l : List UInt8) : List UInt8 := hexsN 16 (sip (IntKind.u64.wrap key) (rl (IntKind.u64.wrap key) 32) l).toNat
theorem fin_bd (top f : Nat) (q : St) (l : List UInt8) : 0 ≤ fin top f q l ∧ fin top f q l < 18446744073709551616 := by
  induction f generalizing q l with
  | zero => exact xr_bd _ _
  | succ f ih =>
    unfold fin
    split
    · exact ih _ _
    · exact xr_bd _ _
theorem sip_bd (k0 k1 : Int) (l : List UInt8) : 0 ≤ sip k0 k1 l ∧ sip k0 k1 l < 18446744073709551616 := fin_bd _ _ _ _
set_option maxHeartbeats 1000000 in
theorem macTag_any (key : Int) (s : ByteArray) (w : World) (hs : s.size ≤ 9223372036854775807) :
    Calls Tryz.prog 137 #[.int .i64 key, .string s] w fun e w' => e = .returned (.string ⟨(tag key s.data.toList).toArray⟩) ∧ Below w.heap.size w w' := by
  have hbd := sip_bd (IntKind.u64.wrap key) (rl (IntKind.u64.wrap key) 32) s.data.toList
  obtain ⟨n, hn⟩ := Int.eq_ofNat_of_zero_le hbd.1
  have HT : Hid (tag key s.data.toList = hexsN 16 n) := by unfold tag Hid; rw [hn]; rfl
  have HN : Hid (sip (IntKind.u64.wrap key) (rl (IntKind.u64.wrap key) 32) s.data.toList = (n : Int)) := hn
  have hn2 : n < 16 ^ 16 := by omega
  clear hn hbd
  go_enter Tryz.func137, Tryz.ntmps137
  go_wp2_with fail
  refine (rotl32 _ _).mono ?_
  rintro e w1 ⟨rfl, rfl⟩
  go_wp2_with fail
  refine (macSum_any _ _ s _ hs).mono ?_
  rintro e w2 ⟨rfl, hb2⟩
  rw [HN.out]
  go_wp2_with fail
  refine (digits_any n hn2 _).mono ?_
  rintro e w3 ⟨rfl, hb3⟩
  go_wp2_with fail
  go_ret
  exact ⟨by rw [HT.out]; rfl, hb2.trans (hb3.mono hb2.size)⟩
end Go.Proofs.YtlailakofhenkabGreatDoor

namespace Go.Proofs.YtlailakofhenkabGreatDoor
open Go.RowKit Sip
theorem u8_bits_nat (op : BinOp) (f : Nat → Nat → Nat) (hf : ∀ a b, a < 256 → b < 256 → f a b < 256) (h : ∀ a b : BitVec 8, (match op with
    | .and => a &&& b
    | .or => a ||| b
    | .xor => a ^^^ b
    | _ => a &&& ~~~b).toNat = f a.toNat b.toNat) (a b : Nat) (ha : a < 256) (hb : b < 256) : bits op .u8 (a : Int) (b : Int) = ((f a b : Nat) : Int) := by
  have h1 : (BitVec.ofInt 8 (a : Int)).toNat = a := by
    rw [BitVec.ofInt_natCast, BitVec.toNat_ofNat]; exact Nat.mod_eq_of_lt (by omega)
  have h2 : (BitVec.ofInt 8 (b : Int)).toNat = b := by
    rw [BitVec.ofInt_natCast, BitVec.toNat_ofNat]; exact Nat.mod_eq_of_lt (by omega)
  show IntKind.u8.wrap ((_ : Nat) : Int) = _
  have := h (BitVec.ofInt 8 (a : Int)) (BitVec.ofInt 8 (b : Int))
  rw [h1, h2] at this
  have h3 := hf a b ha hb
  show IntKind.u8.wrap (((match op with
    | .and => (BitVec.ofInt 8 (a : Int)) &&& (BitVec.ofInt 8 (b : Int))
    | .or => (BitVec.ofInt 8 (a : Int)) ||| (BitVec.ofInt 8 (b : Int))
    | .xor => (BitVec.ofInt 8 (a : Int)) ^^^ (BitVec.ofInt 8 (b : Int))
    | _ => (BitVec.ofInt 8 (a : Int)) &&& ~~~(BitVec.ofInt 8 (b : Int))).toNat : Nat) : Int) = _
  rw [this, IntKind.wrap_u8]
  omega
theorem u8_or (a b : Nat) (ha : a < 256) (hb : b < 256) : bits .or .u8 (a : Int) (b : Int) = ((a ||| b : Nat) : Int) :=
  u8_bits_nat .or (· ||| ·) (fun a b h1 h2 => Nat.or_lt_two_pow (n := 8) h1 h2) (fun a b => by simp) a b ha hb
theorem u8_xor (a b : Nat) (ha : a < 256) (hb : b < 256) : bits .xor .u8 (a : Int) (b : Int) = ((a ^^^ b : Nat) : Int) :=
  u8_bits_nat .xor (· ^^^ ·) (fun a b h1 h2 => Nat.xor_lt_two_pow (n := 8) h1 h2) (fun a b => by simp) a b ha hb
theorem xor_zero_iff (a b : Nat) : a ^^^ b = 0 ↔ a = b := by
  constructor
  · intro h
    have : a ^^^ b ^^^ b = 0 ^^^ b := by rw [h]
    simpa [Nat.xor_assoc] using this
  · rintro rfl; simp
set_option maxRecDepth 100000 in
set_option maxHeartbeats 1000000 in
theorem same_any (a b : ByteArray) (w : World) (ha : a.size ≤ 9223372036854775807) (_hb : b.size ≤ 9223372036854775807) :
    Calls Tryz.prog 145 #[.string a, .string b] w fun e w' => e = .returned (.bool (decide (a.data.toList = b.data.toList))) ∧ ∃ n, w' = w.drewN n := by
  go_enter Tryz.func145, Tryz.ntmps145
  by_cases hne : a.size = b.size
  · go_wp2_with fail
    go_loopg [5, 14] a.size (fun gk u i wr => ∃ (k x m : Nat), k + gk = a.size ∧ i = .int .i64 k ∧ u = .int .u8 x ∧ x < 256 ∧ (x = 0 ↔ a.data.toList.take k = b.data.toList.take k) ∧ wr = w.drewN m)
    case atStart => exact ⟨0, 0, 0, by omega, rfl, rfl, by omega, by simp, rfl⟩
    case round =>
      obtain ⟨k, x, m, hk, rfl, rfl, hx, hxe, rfl⟩ := hrel
      have HK : Hid (k + gk = a.size) := hk
      have hka : k ≤ a.size := by omega
      have HX : Hid (x = 0 ↔ a.data.toList.take k = b.data.toList.take k) := hxe
      clear hk hxe
      by_cases hlt : k < a.size
      · have hltb : k < b.size := by omega
        go_wp2_with fail
        go_quiet (fail)
        go_wp2_with fail
        go_roundg (gk - 1)
        case measure => have := HK.out; omega
        case rel =>
          have h1 := a[k].toNat_lt
          have h2 := b[k].toNat_lt
          have hxl : a[k].toNat ^^^ b[k].toNat < 256 := Nat.xor_lt_two_pow (n := 8) h1 h2
          refine ⟨k + 1, x ||| (a[k].toNat ^^^ b[k].toNat), _, by have := HK.out; omega, by go_num, ?_, Nat.or_lt_two_pow (n := 8) hx hxl, ?_, rfl⟩
          · rw [u8_xor _ _ h1 h2, u8_or _ _ hx hxl]
          · have ta : a.data.toList.take (k + 1) = a.data.toList.take k ++ [a[k]] := by
              rw [List.take_succ_eq_append_getElem (by simpa using hlt)]; rfl
            have tb : b.data.toList.take (k + 1) = b.data.toList.take k ++ [b[k]] := by
              rw [List.take_succ_eq_append_getElem (by simpa using hltb)]; rfl
            have la : (a.data.toList.take k).length = (b.data.toList.take k).length := by
              have e1 : a.data.toList.length = a.size := by simp
              have e2 : b.data.toList.length = b.size := by simp
              rw [List.length_take, List.length_take, e1, e2, hne]
            rw [ta, tb, Nat.or_eq_zero_iff, xor_zero_iff, HX.out]
            constructor
            · rintro ⟨e1, e2⟩
              rw [e1, UInt8.toNat_inj.1 e2]
            · intro e
              have e' := List.append_inj e la
              exact ⟨e'.1, by rw [List.cons.inj e'.2 |>.1]⟩
      · obtain rfl : k = a.size := by omega
        go_wp2_with fail
        go_ret
        refine ⟨?_, m, rfl⟩
        have h := HX.out
        rw [List.take_of_length_le (by simp), List.take_of_length_le (by simp [hne])] at h
        refine congrArg (fun c => Ending.returned (.bool c)) ?_
        show ((x : Int) == 0) = _
        rw [Bool.eq_iff_iff, beq_iff_eq, decide_eq_true_iff, ← h]
        omega
  · have hd : ¬ a.data.toList = b.data.toList := by
      intro h
      have h2 : a.data.toList.length = b.data.toList.length := by rw [h]
      simp at h2
      exact hne h2
    go_wp2_with fail
    go_ret
    exact ⟨by rw [decide_eq_false hd]; rfl, 0, rfl⟩
end Go.Proofs.YtlailakofhenkabGreatDoor

namespace Go.Proofs.YtlailakofhenkabGreatDoor
open Go.RowKit
structure IsDisk (w : World) (g : Nat) (F : Int → ByteArray) (n : Int) (c : Bool) (l : Int) : Prop where
  blk : ∀ j : Nat, j < 90 → w.cell? ⟨g, j, none⟩ = some (.string (F j))
  wr : w.cell? ⟨g, 90, none⟩ = some (.int .i64 n)
  ct : w.cell? ⟨g, 91, none⟩ = some (.bool c)
  lf : w.cell? ⟨g, 92, none⟩ = some (.int .i64 l)
  fz : ∀ j : Nat, j < 93 → w.frozen? ⟨g, j, none⟩ = false
theorem IsDisk.below {B : Nat} {w w' : World} {g : Nat} {F : Int → ByteArray} {n : Int} {c : Bool} {l : Int} (h : IsDisk w g F n c l) (hb : Below B w w') (hg : g < B) : IsDisk w' g F n c l :=
  ⟨fun j hj => (hb.cell (p := ⟨g, j, none⟩) hg).trans (h.blk j hj), (hb.cell (p := ⟨g, 90, none⟩) hg).trans h.wr, (hb.cell (p := ⟨g, 91, none⟩) hg).trans h.ct, (hb.cell (p := ⟨g, 92, none⟩) hg).trans h.lf, fun j hj => (hb.frozen (p := ⟨g, j, none⟩) hg).trans (h.fz j hj)⟩
theorem grRefl (w : World) (g : Nat) : w.grownBy w (some g) := ⟨rfl, rfl, rfl, Nat.le_refl _, fun _ _ _ => rfl⟩
theorem grSet {w w1 : World} {g : Nat} (h : w.grownBy w1 (some g)) (o : Nat) (v : Value) : w.grownBy (w1.setCell ⟨g, o, none⟩ v) (some g) :=
  ⟨h.os, h.tape, h.output, by simp [World.setCell]; exact h.size, fun k hk hne => (Below.heap_setCell _ _ _ _ (by intro e; exact hne (by rw [e]))).trans (h.block k hk hne)⟩
theorem grBelow {w w1 w2 : World} {g : Nat} (h : w.grownBy w1 (some g)) (hb : Below w1.heap.size w1 w2) : w.grownBy w2 (some g) :=
  ⟨hb.os.trans h.os, hb.tape.trans h.tape, hb.output.trans h.output, Nat.le_trans h.size hb.size, fun k hk hne => (hb.block k (Nat.lt_of_lt_of_le hk h.size)).trans (h.block k hk hne)⟩
theorem there_any (k : Int) (w : World) : Calls Tryz.prog 189 #[.int .i64 k] w fun e w' => e = .returned (.bool (decide (0 ≤ k ∧ k < 90))) ∧ w' = w := by
  by_cases h0 : 0 ≤ k
  · by_cases h1 : k < 90
    · go_enter Tryz.func189, Tryz.ntmps189
      go_wp2_with fail
      go_ret
      exact ⟨by simp [h0, h1], rfl⟩
    · go_enter Tryz.func189, Tryz.ntmps189
      go_wp2_with fail
      go_ret
      exact ⟨by simp [h1], rfl⟩
  · go_enter Tryz.func189, Tryz.ntmps189
    go_wp2_with fail
    go_ret
    exact ⟨by simp; omega, rfl⟩
theorem off_any (g : Nat) (F : Int → ByteArray) (n : Int) (c : Bool) (l : Int) (w : World) (h : IsDisk w g F n c l) : Calls Tryz.prog 190 #[.pointer (some ⟨g, 0, none⟩)] w fun e w' => e = .returned (.bool (c && l == 0)) ∧ w' = w := by
  have hc := h.ct
  have hl := h.lf
  cases c
  · go_enter Tryz.func190, Tryz.ntmps190
    go_wp2_with fail
    go_ret
    exact ⟨rfl, rfl⟩
  · go_enter Tryz.func190, Tryz.ntmps190
    go_wp2_with fail
    go_ret
    exact ⟨rfl, rfl⟩
theorem read_yes (g : Nat) (F : Int → ByteArray) (n : Int) (c : Bool) (l : Int) (k : Nat) (w : World) (h : IsDisk w g F n c l) (hk : k < 90) : Calls Tryz.prog 182 #[.pointer (some ⟨g, 0, none⟩), .int .i64 k] w fun e w' => e = .returned (.tuple #[.string (F k), .nilIface]) ∧ w' = w := by
  have hc := h.blk k hk
  have hd : decide ((0 : Int) ≤ (k : Int) ∧ (k : Int) < 90) = true := by simp; omega
  go_enter Tryz.func182, Tryz.ntmps182
  go_wp2_with fail
  refine (there_any k _).mono ?_
  rintro e w' ⟨rfl, rfl⟩
  rw [hd]
  clear hd
  go_wp2_with fail
  go_ret2
  exact ⟨rfl, rfl⟩
def upd (F : Int → ByteArray) (k : Int) (s : ByteArray) : Int → ByteArray := fun j => if j = k then s else F j
theorem IsDisk.set {w : World} {g : Nat} {F : Int → ByteArray} {n : Int} {c : Bool} {l : Int} (h : IsDisk w g F n c l) {k : Nat} (hk : k < 90) (s : ByteArray) : IsDisk (w.setCell ⟨g, k, none⟩ (.string s)) g (upd F k s) n c l := by
  have hold := h.blk k hk
  refine ⟨fun j hj => ?_, ?_, ?_, ?_, fun j hj => ?_⟩
  · have hj2 := h.blk j hj
    by_cases e : j = k
    · subst e; go_simp; simp [upd]
    · have e' : ¬ (j : Int) = (k : Int) := by omega
      go_simp
      simp [upd, e']
  · have := h.wr; have hne : 90 ≠ k := by omega
    go_simp
  · have := h.ct; have hne : 91 ≠ k := by omega
    go_simp
  · have := h.lf; have hne : 92 ≠ k := by omega
    go_simp
  · simpa using h.fz j hj
theorem IsDisk.setWr {w : World} {g : Nat} {F : Int → ByteArray} {n : Int} {c : Bool} {l : Int} (h : IsDisk w g F n c l) (m : Int) : IsDisk (w.setCell ⟨g, 90, none⟩ (.int .i64 m)) g F m c l := by
  refine ⟨fun j hj => ?_, ?_, ?_, ?_, fun j hj => by simpa using h.fz j hj⟩
  · have hj2 := h.blk j hj; have hne : j ≠ 90 := by omega
    go_simp
  · have := h.wr; go_simp
  · have := h.ct; go_simp
  · have := h.lf; go_simp
theorem IsDisk.setLf {w : World} {g : Nat} {F : Int → ByteArray} {n : Int} {c : Bool} {l : Int} (h : IsDisk w g F n c l) (m : Int) : IsDisk (w.setCell ⟨g, 92, none⟩ (.int .i64 m)) g F n c m := by
  refine ⟨fun j hj => ?_, ?_, ?_, ?_, fun j hj => by simpa using h.fz j hj⟩
  · have hj2 := h.blk j hj; have hne : j ≠ 92 := by omega
    go_simp
  · have := h.wr; go_simp
  · have := h.ct; go_simp
  · have := h.lf; go_simp
theorem IsDisk.drew {w : World} {g : Nat} {F : Int → ByteArray} {n : Int} {c : Bool} {l : Int} (h : IsDisk w g F n c l) : IsDisk w.drew g F n c l := ⟨h.blk, h.wr, h.ct, h.lf, h.fz⟩
theorem write_off (g : Nat) (F : Int → ByteArray) (n : Int) (k : Int) (s : ByteArray) (w : World) (h : IsDisk w g F n true 0) (hk : 0 ≤ k ∧ k < 90) (hs : ¬ 240 < s.size) : Calls Tryz.prog 116 #[.pointer (some ⟨g, 0, none⟩), .int .i64 k, .string s] w fun e w' => e = .returned (.iface 47 (.int .i64 14)) ∧ w' = w := by
  have hs' : ¬ (240 : Int) < (s.size : Int) := by omega
  go_enter Tryz.func116, Tryz.ntmps116
  go_wp2_with fail
  refine (there_any k _).mono ?_
  rintro e w' ⟨rfl, rfl⟩
  rw [decide_eq_true hk]
  go_wp2_with fail
  refine (off_any g F n true 0 _ h).mono ?_
  rintro e w' ⟨rfl, rfl⟩
  go_wp2_with fail
  go_ret
  exact ⟨rfl, rfl⟩
theorem clone_any (s : ByteArray) (w : World) (hs : s.size ≤ 281474976710656) : Calls Tryz.prog 191 #[.string s] w fun e w' => e = .returned (.string s) ∧ Below w.heap.size w w' := by
  go_enter Tryz.func191, Tryz.ntmps191
  go_wp2_with fail
  refine (Tryz.stringslite_Clone s _ hs).mono ?_
  rintro e w' ⟨rfl, hb⟩
  go_wp2_with fail
  go_ret
  exact ⟨rfl, hb⟩
set_option maxHeartbeats 1000000 in
theorem write_plain (g : Nat) (F : Int → ByteArray) (n l : Int) (k : Nat) (s : ByteArray) (w : World) (h : IsDisk w g F n false l) (hg : g < w.heap.size) (hk : k < 90) (hs : ¬ 240 < s.size) (hn0 : 0 ≤ n) (hn : n < 100000) :
    Calls Tryz.prog 116 #[.pointer (some ⟨g, 0, none⟩), .int .i64 k, .string s] w fun e w' => e = .returned .nilIface ∧ IsDisk w' g (upd F k s) (n + 1) false l ∧ w.grownBy w' (some g) := by
  have hs' : ¬ (240 : Int) < (s.size : Int) := by omega
  have hd : decide ((0 : Int) ≤ (k : Int) ∧ (k : Int) < 90) = true := by simp; omega
  go_enter Tryz.func116, Tryz.ntmps116
  go_wp2_with fail
  refine (there_any k _).mono ?_
  rintro e w' ⟨rfl, rfl⟩
  rw [hd]
  clear hd
  go_wp2_with fail
  refine (off_any g F n false l _ h).mono ?_
  rintro e w' ⟨rfl, rfl⟩
  go_wp2_with fail
  have hold := h.blk k hk
  have hfz := h.fz k (by omega)
  go_cut [] from 21 to 45 (fun wx => IsDisk wx g (upd F k s) n false l ∧ w'.grownBy wx (some g))
  case first =>
    go_region_with (go_at_call 191; refine (clone_any s _ (by omega)).mono ?_; rintro e w2 ⟨rfl, hb2⟩; have k0 := (hb2.cell (p := ⟨g, k, none⟩) (by exact hg)).trans hold; have k1 := (hb2.frozen (p := ⟨g, k, none⟩) (by exact hg)).trans hfz)
    all_goals (go_wp2_with fail; go_meet)
    all_goals exact ⟨((h.drew).below hb2 hg).set hk s, grSet (grBelow (grRefl _ g) (((Below.refl _ _).drew).trans hb2)) k _⟩
  case rest =>
    obtain ⟨hdk, hb⟩ := hcut
    have hc := hdk.ct
    have hw := hdk.wr
    have f1 := hdk.fz 90 (by omega)
    go_wp2_with fail
    go_ret
    exact ⟨rfl, hdk.setWr _, grSet hb 90 _⟩
set_option maxHeartbeats 1000000 in
theorem write_cut (g : Nat) (F : Int → ByteArray) (n l : Int) (k : Nat) (s : ByteArray) (w : World) (h : IsDisk w g F n true l) (hl0 : 0 < l) (hl1 : l ≤ 9223372036854775807) (hg : g < w.heap.size) (hk : k < 90) (hs : ¬ 240 < s.size) (hn0 : 0 ≤ n) (hn : n < 100000) :
    Calls Tryz.prog 116 #[.pointer (some ⟨g, 0, none⟩), .int .i64 k, .string s] w fun e w' => e = .returned .nilIface ∧ IsDisk w' g (upd F k s) (n + 1) true (l - 1) ∧ w.grownBy w' (some g) := by
  have hs' : ¬ (240 : Int) < (s.size : Int) := by omega
  have hd : decide ((0 : Int) ≤ (k : Int) ∧ (k : Int) < 90) = true := by simp; omega
  go_enter Tryz.func116, Tryz.ntmps116
  go_wp2_with fail
  refine (there_any k _).mono ?_
  rintro e w' ⟨rfl, rfl⟩
  rw [hd]
  clear hd
  go_wp2_with fail
  refine (off_any g F n true l _ h).mono ?_
  rintro e w' ⟨rfl, rfl⟩
  have hle : (true && l == 0) = false := by simp; omega
  rw [hle]
  clear hle
  go_wp2_with fail
  have hold := h.blk k hk
  have hfz := h.fz k (by omega)
  go_cut [] from 21 to 45 (fun wx => IsDisk wx g (upd F k s) n true l ∧ w'.grownBy wx (some g))
  case first =>
    go_region_with (go_at_call 191; refine (clone_any s _ (by omega)).mono ?_; rintro e w2 ⟨rfl, hb2⟩; have k0 := (hb2.cell (p := ⟨g, k, none⟩) (by exact hg)).trans hold; have k1 := (hb2.frozen (p := ⟨g, k, none⟩) (by exact hg)).trans hfz)
    all_goals (go_wp2_with fail; go_meet)
    all_goals exact ⟨((h.drew).below hb2 hg).set hk s, grSet (grBelow (grRefl _ g) (((Below.refl _ _).drew).trans hb2)) k _⟩
  case rest =>
    obtain ⟨hdk, hb⟩ := hcut
    have hc := hdk.ct
    have hw := hdk.wr
    have f1 := hdk.fz 90 (by omega)
    have hl := hdk.lf
    have f2 := hdk.fz 92 (by omega)
    go_wp2_with fail
    go_ret
    exact ⟨rfl, (hdk.setWr _).setLf _, grSet (grSet hb 90 _) 92 _⟩
end Go.Proofs.YtlailakofhenkabGreatDoor

namespace Go.Proofs.YtlailakofhenkabGreatDoor
open Go Go.RowKit Tok Sc Ev
abbrev tag0 : List UInt8 → List UInt8 := tag 0
theorem tagOk0 : TagOk tag0 := ⟨fun l => Hex.hexsN_length _ _, fun l hm => by
  have := hexsN_hex _ _ _ hm
  simp [isHex] at this⟩
theorem joinW_is (xs : List ByteArray) (g c : Nat) (w : World) (hw : WordsAt w g xs) (hn : xs.length ≤ 10) (hc : xs.length ≤ c) (hl : (Lib.join (xs.map (·.data.toList)) [32]).length ≤ 5000) :
    Calls Tryz.prog 114 #[.slice (some ⟨g, 0, none⟩) xs.length c, .string ⟨#[32]⟩] w fun r w' => r = .returned (.string (bs8 (Lib.join (xs.map (·.data.toList)) [32]))) ∧ Below w.heap.size w w' :=
  Tryz.strings_Join g 0 c xs ⟨#[32]⟩ w hw.2 hw.1 (by omega) hc (Nat.le_trans hl (by omega))
theorem tag0_is (t : List UInt8) (w : World) (h : t.length ≤ 5000) : Calls Tryz.prog 137 #[.int .i64 0, .string (bs8 t)] w fun e w' => e = .returned (.string (bs8 (tag0 t))) ∧ Below w.heap.size w w' := macTag_any 0 (bs8 t) w (by rw [bsize]; omega)
set_option maxHeartbeats 1000000 in
theorem seal_is (xs : List ByteArray) (g c : Nat) (w : World) (hw : WordsAt w g xs) (hn : xs.length ≤ 10) (hc : xs.length ≤ c) (hl : (Lib.join (xs.map (·.data.toList)) [32]).length ≤ 5000) :
    Calls Tryz.prog 117 #[.slice (some ⟨g, 0, none⟩) xs.length c] w fun r w' => r = .returned (.string (bs8 (sealL tag0 (Lib.join (xs.map (·.data.toList)) [32])))) ∧ Below w.heap.size w w' := by
  have HJ := joinW_is xs g c w hw hn hc hl
  have HT := fun (W : World) => tag0_is (Lib.join (xs.map (·.data.toList)) [32]) W hl
  generalize Lib.join (xs.map (·.data.toList)) [32] = T at *
  have HS : Hid (sealL tag0 T = tag0 T ++ 32 :: T) := rfl
  have h16 : (tag0 T).length = 16 := tagOk0.len T
  have n1 : ¬ 9223372036854775807 < (tag0 T).length + 1 := by omega
  have n2 : ¬ 9223372036854775807 < (tag0 T).length + 1 + T.length := by omega
  generalize tag0 T = G at *
  clear hw hn hc
  go_enter Tryz.func117, Tryz.ntmps117
  go_wp2_with fail
  refine HJ.mono ?_
  rintro e1 w1 ⟨rfl, hb1⟩
  have HB1 : Hid (Below w.heap.size w w1) := hb1
  clear hb1 HJ
  go_wp2_with fail
  refine (HT _).mono ?_
  rintro e2 w2 ⟨rfl, hb2⟩
  have HB2 : Hid (Below w.heap.size w w2) := HB1.out.trans (hb2.mono HB1.out.size)
  clear hb2 HT
  go_wp2_with fail
  go_ret
  refine ⟨?_, HB2.out⟩
  rw [HS.out]
  show Ending.returned (.string ((⟨G.toArray⟩ : ByteArray) ++ ⟨#[32]⟩ ++ ⟨T.toArray⟩)) = _
  congr 2
  apply ByteArray.ext
  simp [ByteArray.data_append]
theorem same_self (G : List UInt8) (h : G.length = 16) (W : World) : Calls Tryz.prog 145 #[.string (bs8 G), .string (bs8 G)] W fun e w' => e = .returned (.bool true) ∧ ∃ n, w' = W.drewN n := by
  have := same_any (bs8 G) (bs8 G) W (by rw [bsize]; omega) (by rw [bsize]; omega)
  rwa [decide_eq_true (show (bs8 G).data.toList = (bs8 G).data.toList from rfl)] at this
theorem same_none (G : List UInt8) (h : G.length = 16) (W : World) : Calls Tryz.prog 145 #[.string ⟨#[]⟩, .string (bs8 G)] W fun e w' => e = .returned (.bool false) ∧ ∃ n, w' = W.drewN n := by
  have := same_any ⟨#[]⟩ (bs8 G) W (by rw [show (⟨#[]⟩ : ByteArray).size = 0 from rfl]; omega) (by rw [bsize]; omega)
  rwa [decide_eq_false (p := (⟨#[]⟩ : ByteArray).data.toList = (bs8 G).data.toList) (fun e => by
    have h2 := congrArg List.length e
    rw [show (bs8 G).data.toList = G from rfl, h] at h2
    simp at h2)] at this
set_option maxHeartbeats 1000000 in
theorem unseal_is (t : List UInt8) (w : World) (hl : t.length ≤ 5000) (hL : LenOk w) :
    Calls Tryz.prog 183 #[.string (bs8 (sealL tag0 t))] w fun r w' => r = .returned (.string (bs8 t)) ∧ Below w.heap.size w w' := by
  obtain ⟨m, hm⟩ := hL
  have hsl := seal_len tagOk0 t
  have hcut := Tryz.strings_Cut (bs8 (sealL tag0 t)) ⟨#[32]⟩ m w (by rw [bsize]; omega) hm
  rw [show (⟨#[32]⟩ : ByteArray).data.toList = [32] from rfl, show (bs8 (sealL tag0 t)).data.toList = sealL tag0 t from rfl, cut_seal tagOk0 t] at hcut
  have HT := fun (W : World) => tag0_is t W hl
  have h16 : (tag0 t).length = 16 := tagOk0.len t
  have HSM : ∀ (W : World), Calls Tryz.prog 145 #[.string (bs8 (tag0 t)), .string (bs8 (tag0 t))] W fun e w' => e = .returned (.bool true) ∧ ∃ n, w' = W.drewN n := same_self _ h16
  simp only at hcut
  generalize sealL tag0 t = S at *
  generalize tag0 t = G at *
  clear hm hsl h16
  go_enter Tryz.func183, Tryz.ntmps183
  go_wp2_with fail
  refine hcut.mono ?_
  rintro e1 w1 ⟨rfl, d1, rfl⟩
  have HB1 : Hid (Below w.heap.size w (w.drewN d1)) := below_drewN (Below.refl _ _) d1
  clear hcut
  go_wp2_with fail
  refine (HT _).mono ?_
  rintro e2 w2 ⟨rfl, hb2⟩
  have HB2 : Hid (Below w.heap.size w w2) := HB1.out.trans (hb2.mono HB1.out.size)
  clear hb2 HT
  go_wp2_with fail
  refine (HSM _).mono ?_
  rintro e3 w3 ⟨rfl, d3, rfl⟩
  have HB3 : Hid (Below w.heap.size w (w2.drewN d3)) := below_drewN HB2.out d3
  go_wp2_with fail
  go_ret
  exact ⟨rfl, HB3.out⟩
set_option maxHeartbeats 1000000 in
theorem unseal_none (w : World) (hL : LenOk w) :
    Calls Tryz.prog 183 #[.string ⟨#[]⟩] w fun r w' => r = .returned (.string ⟨#[]⟩) ∧ Below w.heap.size w w' := by
  obtain ⟨m, hm⟩ := hL
  have hcut := Tryz.strings_Cut ⟨#[]⟩ ⟨#[32]⟩ m w (by rw [show (⟨#[]⟩ : ByteArray).size = 0 from rfl]; omega) hm
  rw [show (⟨#[32]⟩ : ByteArray).data.toList = [32] from rfl, show (⟨#[]⟩ : ByteArray).data.toList = [] from rfl, cut_no (by simp)] at hcut
  have HT := fun (W : World) => tag0_is [] W (by simp)
  have h16 : (tag0 []).length = 16 := tagOk0.len []
  have HSM : ∀ (W : World), Calls Tryz.prog 145 #[.string ⟨#[]⟩, .string (bs8 (tag0 []))] W fun e w' => e = .returned (.bool false) ∧ ∃ n, w' = W.drewN n := same_none _ h16
  simp only at hcut
  generalize tag0 [] = G at *
  clear hm h16
  go_enter Tryz.func183, Tryz.ntmps183
  go_wp2_with fail
  refine hcut.mono ?_
  rintro e1 w1 ⟨rfl, d1, rfl⟩
  have HB1 : Hid (Below w.heap.size w (w.drewN d1)) := below_drewN (Below.refl _ _) d1
  clear hcut
  go_wp2_with fail
  refine (HT _).mono ?_
  rintro e2 w2 ⟨rfl, hb2⟩
  have HB2 : Hid (Below w.heap.size w w2) := HB1.out.trans (hb2.mono HB1.out.size)
  clear hb2 HT
  go_wp2_with fail
  refine (HSM _).mono ?_
  rintro e3 w3 ⟨rfl, d3, rfl⟩
  have HB3 : Hid (Below w.heap.size w (w2.drewN d3)) := below_drewN HB2.out d3
  go_wp2_with fail
  go_ret
  exact ⟨rfl, HB3.out⟩
set_option maxHeartbeats 1000000 in
theorem readBlock_is (g : Nat) (F : Int → ByteArray) (n : Int) (c : Bool) (l : Int) (k : Nat) (t : List UInt8) (w : World) (hd : IsDisk w g F n c l) (hk : k < 90) (hF : F k = bs8 (inBlock tag0 t)) (hl : t.length ≤ 5000) (hL : LenOk w) :
    Calls Tryz.prog 111 #[.pointer (some ⟨g, 0, none⟩), .int .i64 k] w fun r w' => r = .returned (.string (bs8 t)) ∧ Below w.heap.size w w' := by
  have HR := read_yes g F n c l k w hd hk
  rw [hF] at HR
  have HU : ∀ (W : World), LenOk W → Calls Tryz.prog 183 #[.string (bs8 (inBlock tag0 t))] W fun r w' => r = .returned (.string (bs8 t)) ∧ Below W.heap.size W w' := fun W hW => by
    unfold inBlock
    split
    · rename_i h0
      subst h0
      exact unseal_none W hW
    · exact unseal_is t W hl hW
  generalize inBlock tag0 t = X at *
  have HL : Hid (LenOk w) := hL
  clear hd hF hL
  go_enter Tryz.func111, Tryz.ntmps111
  go_wp2_with fail
  refine HR.mono ?_
  rintro e1 w1 ⟨rfl, rfl⟩
  clear HR
  go_wp2_with fail
  refine (HU _ HL.out).mono ?_
  rintro e2 w2 ⟨rfl, hb2⟩
  have HB2 : Hid (Below w1.heap.size w1 w2) := hb2
  clear hb2 HU
  go_wp2_with fail
  go_ret
  exact ⟨rfl, HB2.out⟩
end Go.Proofs.YtlailakofhenkabGreatDoor
