import Derived.Test.YteblegcojhcccaaDoorSip
import Derived.BigQuiet
import Derived.Deep.LoopGhost
namespace Go.Proofs.YteblegcojhcccaaDoor
open Go.RowKit Sip
theorem u8_bits_nat (op : BinOp) (f : Nat → Nat → Nat) (hf : ∀ a b, a < 256 → b < 256 → f a b < 256) (h : ∀ a b : BitVec 8, (match op with
    | .and => a &&& b
    | .or => a ||| b
    | .xor => a ^^^ b
    | _ => a &&& ~~~b).toNat = f a.toNat b.toNat) (a b : Nat) (ha : a < 256) (hb : b < 256) : bits op .u8 (a : Int) (b : Int) = ((f a b : Nat) : Int) := by
  have h1 : (BitVec.ofInt 8 (a : Int)).toNat = a := by
    rw [BitVec.ofInt_natCast, BitVec.toNat_ofNat]; exact Nat.mod_eq_of_lt (by omega)
  have h2 : (BitVec.ofInt 8 (b : Int)).toNat = b := by
    rw [BitVec.ofInt_natCast, BitVec.toNat_ofNat]; exact Nat.mod_eq_of_lt (by omega)
  show IntKind.u8.wrap ((_ : Nat) : Int) = _
  have := h (BitVec.ofInt 8 (a : Int)) (BitVec.ofInt 8 (b : Int))
  rw [h1, h2] at this
  have h3 := hf a b ha hb
  show IntKind.u8.wrap (((match op with
    | .and => (BitVec.ofInt 8 (a : Int)) &&& (BitVec.ofInt 8 (b : Int))
    | .or => (BitVec.ofInt 8 (a : Int)) ||| (BitVec.ofInt 8 (b : Int))
    | .xor => (BitVec.ofInt 8 (a : Int)) ^^^ (BitVec.ofInt 8 (b : Int))
    | _ => (BitVec.ofInt 8 (a : Int)) &&& ~~~(BitVec.ofInt 8 (b : Int))).toNat : Nat) : Int) = _
  rw [this, IntKind.wrap_u8]
  omega
theorem u8_or (a b : Nat) (ha : a < 256) (hb : b < 256) : bits .or .u8 (a : Int) (b : Int) = ((a ||| b : Nat) : Int) :=
  u8_bits_nat .or (· ||| ·) (fun a b h1 h2 => Nat.or_lt_two_pow (n := 8) h1 h2) (fun a b => by simp) a b ha hb
theorem u8_xor (a b : Nat) (ha : a < 256) (hb : b < 256) : bits .xor .u8 (a : Int) (b : Int) = ((a ^^^ b : Nat) : Int) :=
  u8_bits_nat .xor (· ^^^ ·) (fun a b h1 h2 => Nat.xor_lt_two_pow (n := 8) h1 h2) (fun a b => by simp) a b ha hb
theorem xor_zero_iff (a b : Nat) : a ^^^ b = 0 ↔ a = b := by
  constructor
  · intro h
    have : a ^^^ b ^^^ b = 0 ^^^ b := by rw [h]
    simpa [Nat.xor_assoc] using this
  · rintro rfl; simp
set_option maxRecDepth 100000 in
set_option maxHeartbeats 1000000 in
theorem same_any (a b : ByteArray) (w : World) (ha : a.size ≤ 9223372036854775807) (_hb : b.size ≤ 9223372036854775807) :
    Calls Tryd.prog 16 #[.string a, .string b] w fun e w' => e = .returned (.bool (decide (a.data.toList = b.data.toList))) ∧ ∃ n, w' = w.drewN n := by
  go_enter Tryd.func16, Tryd.ntmps16
  by_cases hne : a.size = b.size
  · go_wp2_with fail
    go_loopg [5, 14] a.size (fun gk u i wr => ∃ (k x m : Nat), k + gk = a.size ∧ i = .int .i64 k ∧ u = .int .u8 x ∧ x < 256 ∧ (x = 0 ↔ a.data.toList.take k = b.data.toList.take k) ∧ wr = w.drewN m)
    case atStart => exact ⟨0, 0, 0, by omega, rfl, rfl, by omega, by simp, rfl⟩
    case round =>
      obtain ⟨k, x, m, hk, rfl, rfl, hx, hxe, rfl⟩ := hrel
      have HK : Hid (k + gk = a.size) := hk
      have hka : k ≤ a.size := by omega
      have HX : Hid (x = 0 ↔ a.data.toList.take k = b.data.toList.take k) := hxe
      clear hk hxe
      by_cases hlt : k < a.size
      · have hltb : k < b.size := by omega
        go_wp2_with fail
        go_quiet (fail)
        go_wp2_with fail
        go_roundg (gk - 1)
        case measure => have := HK.out; omega
        case rel =>
          have h1 := a[k].toNat_lt
          have h2 := b[k].toNat_lt
          have hxl : a[k].toNat ^^^ b[k].toNat < 256 := Nat.xor_lt_two_pow (n := 8) h1 h2
          refine ⟨k + 1, x ||| (a[k].toNat ^^^ b[k].toNat), _, by have := HK.out; omega, by go_num, ?_, Nat.or_lt_two_pow (n := 8) hx hxl, ?_, rfl⟩
          · rw [u8_xor _ _ h1 h2, u8_or _ _ hx hxl]
          · have ta : a.data.toList.take (k + 1) = a.data.toList.take k ++ [a[k]] := by
              rw [List.take_succ_eq_append_getElem (by simpa using hlt)]; rfl
            have tb : b.data.toList.take (k + 1) = b.data.toList.take k ++ [b[k]] := by
              rw [List.take_succ_eq_append_getElem (by simpa using hltb)]; rfl
            have la : (a.data.toList.take k).length = (b.data.toList.take k).length := by
              have e1 : a.data.toList.length = a.size := by simp
              have e2 : b.data.toList.length = b.size := by simp
              rw [List.length_take, List.length_take, e1, e2, hne]
            rw [ta, tb, Nat.or_eq_zero_iff, xor_zero_iff, HX.out]
            constructor
            · rintro ⟨e1, e2⟩
              rw [e1, UInt8.toNat_inj.1 e2]
            · intro e
              have e' := List.append_inj e la
              exact ⟨e'.1, by rw [List.cons.inj e'.2 |>.1]⟩
      · obtain rfl : k = a.size := by omega
        go_wp2_with fail
        go_ret
        refine ⟨?_, m, rfl⟩
        have h := HX.out
        rw [List.take_of_length_le (by simp), List.take_of_length_le (by simp [hne])] at h
        refine congrArg (fun c => Ending.returned (.bool c)) ?_
        show ((x : Int) == 0) = _
        rw [Bool.eq_iff_iff, beq_iff_eq, decide_eq_true_iff, ← h]
        omega
  · have hd : ¬ a.data.toList = b.data.toList := by
      intro h
      have h2 : a.data.toList.length = b.data.toList.length := by rw [h]
      simp at h2
      exact hne h2
    go_wp2_with fail
    go_ret
    exact ⟨by rw [decide_eq_false hd]; rfl, 0, rfl⟩
end Go.Proofs.YteblegcojhcccaaDoor
