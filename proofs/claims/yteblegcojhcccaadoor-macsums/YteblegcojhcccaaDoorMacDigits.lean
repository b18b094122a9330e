import Derived.Test.YteblegcojhcccaaDoorRefSum
import Derived.Test.YteblegcojhcccaaDoorHex
import Derived.Laws.BytesArg
namespace Go.Proofs.YteblegcojhcccaaDoor
open Go.RowKit Sip Hex
theorem RowAt.store {B : Nat} {w : World} {g c n : Nat} {cs : List Value} (h : RowAt B w g c n cs) {j : Nat} (hj : j < n) (u : Value) : RowAt B (w.setCell ⟨g, j, none⟩ u) g c n (cs.set j u) := by
  have hle := h.le
  have hl := h.len
  have hth := h.there j (by omega)
  obtain ⟨old, hold⟩ := Option.isSome_iff_exists.1 hth.1
  refine ⟨h.new, by simp [World.setCell]; exact h.lt, by simp [h.len], h.le, h.max, fun i v hi => ?_, fun i hi => ?_⟩
  · by_cases hij : i = j
    · subst hij
      rw [List.getElem?_set_self (by omega)] at hi
      simp at hi; subst hi
      go_simp
    · rw [List.getElem?_set_ne (by omega)] at hi
      have := h.holds i v hi
      go_simp
  · have h2 := h.there i hi
    obtain ⟨v, hv⟩ := Option.isSome_iff_exists.1 h2.1
    refine ⟨?_, ?_⟩
    · by_cases hij : i = j
      · subst hij; go_simp
      · go_simp
    · simpa using h2.2
theorem run_row_string {P : Program} (w : World) (src dst e : TypeId) (hs : P.underlying src = some (.slice e)) (he : P.underlying e = some (.int .u8)) (hd : P.underlying dst = some .string) (b off len cap : Nat) (l : List UInt8) (hlen : l.length = len)
    (hcell : ∀ i, i < len → w.cell? ⟨b, off + i, none⟩ = some (.int .u8 ((l.getD i 0).toNat : Int))) :
    (convert src dst (.slice (some ⟨b, off, none⟩) len cap)).run P w = .ok (.string ⟨l.toArray⟩) w := by
  have h := run_convert_bytes_arg (P := P) w src e hs he b off len cap (l.map fun c => (c.toNat : Int)) (by simpa using hlen) (fun i hi => by
    rw [hcell i hi]
    have hi' : i < l.length := by omega
    simp [List.getD, hi']) dst hd
  rw [h]
  congr 2
  simp [strOfNums, Function.comp_def]
set_option maxRecDepth 100000 in
set_option maxHeartbeats 1000000 in
theorem digits_any (n : Nat) (hn : n < 16 ^ 16) (w : World) :
    Calls Tryd.prog 32 #[.int .u64 n] w fun e w' => e = .returned (.string ⟨(hexsN 16 n).toArray⟩) ∧ Below w.heap.size w w' := by
  go_enter Tryd.func32, Tryd.ntmps32
  go_wp2_with fail
  go_loopg [0, 5] 16 (fun gk x i wr => ∃ k : Nat, k + gk = 16 ∧ i = .int .i64 k ∧ x = .int .u64 (rot n k : Nat) ∧ RowAt w.heap.size wr w.heap.size 16 16 (bs ((hexsN 16 n).take k ++ List.replicate (16 - k) 0)) ∧ Below w.heap.size w wr)
  case atStart =>
    refine ⟨0, rfl, rfl, by rw [rot_zero n hn], ?_, (Below.refl _ _).alloc (Nat.le_refl _) _⟩
    refine ⟨Nat.le_refl _, by simp, by simp [bs], by omega, by unfold maxLen; omega, fun j u hj => ?_, fun j hj => ?_⟩
    · match j with
      | 0 | 1 | 2 | 3 | 4 | 5 | 6 | 7 | 8 | 9 | 10 | 11 | 12 | 13 | 14 | 15 => simp [bs] at hj; subst hj; go_simp
      | j + 16 => simp [bs] at hj
    · match j with
      | 0 | 1 | 2 | 3 | 4 | 5 | 6 | 7 | 8 | 9 | 10 | 11 | 12 | 13 | 14 | 15 => go_simp
      | j + 16 => omega
  case round =>
    obtain ⟨k, hk, rfl, rfl, hrow, hb⟩ := hrel
    have HK : Hid (k + gk = 16) := hk
    have hk16 : k ≤ 16 := by omega
    clear hk
    by_cases hlt : k < 16
    · go_wp2_with fail
      refine (rotl4 _ _).mono ?_
      rintro e w' ⟨rfl, rfl⟩
      have hs := rot_step n k hn hlt
      have hX := rot_lt n (k + 1) hn (by omega)
      have hrl : rl ((rot n k : Nat) : Int) 4 = ((rot n (k + 1) : Nat) : Int) := by rw [rl4 _ (rot_lt n k hn hk16), hs.1]
      rw [hrl]
      have HS : Hid (rot n (k + 1) % 16 = n / 16 ^ (15 - k) % 16) := hs.2
      clear hs hrl
      generalize hx : rot n (k + 1) = X at *
      have HX : Hid (rot n (k + 1) = X) := hx
      clear hx
      have ha := and15 X
      obtain ⟨d, hd⟩ : ∃ d, d = X % 16 := ⟨_, rfl⟩
      have hd16 : d < 16 := by omega
      rw [← hd] at ha
      have HD : Hid (d = X % 16) := hd
      clear hd
      have hth := hrow.there k hlt
      obtain ⟨old, hold⟩ := Option.isSome_iff_exists.1 hth.1
      have hfz := hth.2
      clear hth
      go_wp2_with fail
      go_roundg (gk - 1)
      case measure => have := HK.out; omega
      case rel =>
        refine ⟨k + 1, by have := HK.out; omega, by go_num, by rw [HX.out], ?_, hb.setCell (p := ⟨w.heap.size, k, none⟩) (Nat.le_refl _) _⟩
        have hget : ((⟨#[48, 49, 50, 51, 52, 53, 54, 55, 56, 57, 97, 98, 99, 100, 101, 102]⟩ : ByteArray)[d]'hd16) = hexc d := by
          clear HD ha
          revert d
          decide
        have hv : hexc d = hexc (n / 16 ^ (16 - 1 - k) % 16) := by rw [HD.out, HS.out]
        have hst := hrow.store hlt (.int .u8 ((hexc d).toNat : Int))
        rw [hget]
        have hE : (bs ((hexsN 16 n).take k ++ List.replicate (16 - k) 0)).set k (.int .u8 ((hexc d).toNat : Int)) = bs ((hexsN 16 n).take (k + 1) ++ List.replicate (16 - (k + 1)) 0) := by
          have hl : ((hexsN 16 n).take k).length = k := by rw [List.length_take, hexsN_length]; omega
          have hg := hexsN_get 16 n k hlt
          have ht : (hexsN 16 n).take (k + 1) = (hexsN 16 n).take k ++ [hexc d] := by
            rw [List.take_add_one, hg, hv]; rfl
          rw [ht, show 16 - k = (16 - (k + 1)) + 1 by omega, List.replicate_succ]
          simp only [bs, List.map_append, List.map_cons]
          rw [List.set_append_right _ _ (by rw [List.length_map, hl]; exact Nat.le_refl _), List.length_map, hl, Nat.sub_self]
          simp
        rw [hE] at hst
        exact hst
    · obtain rfl : k = 16 := by omega
      have hcv : (convert 56 9 (.slice (some ⟨w.heap.size, 0, none⟩) 16 16)).run Tryd.prog wr = .ok (.string ⟨(hexsN 16 n).toArray⟩) wr := by
        refine run_row_string wr _ _ 5 Tryd.underlying56 Tryd.underlying5 Tryd.underlying9 _ _ _ _ _ (hexsN_length 16 n) (fun i hi => ?_)
        rw [Nat.zero_add]
        refine hrow.holds i _ ?_
        have hl : (hexsN 16 n).length = 16 := hexsN_length 16 n
        rw [List.take_of_length_le (by omega)]
        simp [bs, List.getD, hl, hi]
      go_wp2_with fail
      go_ret
      exact ⟨rfl, hb⟩
end Go.Proofs.YteblegcojhcccaaDoor
