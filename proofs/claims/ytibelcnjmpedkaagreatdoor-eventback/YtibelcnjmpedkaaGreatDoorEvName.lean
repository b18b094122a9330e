/-
  Names, as the program and the document's answer know them; numbers within their bounds.
-/
import Derived.Test.YtibelcnjmpedkaaGreatDoorEvMath
import Derived.Test.YtibelcnjmpedkaaGreatDoorRows
import Derived.WalkKit
import Derived.WalkSpells
import Derived.WalkLawsBesides
import Derived.Deep.LoopGhost
import Derived.BigQuiet
namespace Go.Proofs.YtibelcnjmpedkaaGreatDoor
open Go Go.RowKit Tok Sc Ev
def inB3 (n a b : Int) : Bool := decide (a ≤ n) && decide (n ≤ b)
set_option maxHeartbeats 1000000 in
theorem in3_is (n a b : Int) (w : World) : Calls Tryz.prog 60 #[.int .i64 n, .int .i64 a, .int .i64 b] w fun e w' => e = .returned (.bool (inB3 n a b)) ∧ w' = w := by
  by_cases h0 : a ≤ n
  · by_cases h1 : n ≤ b
    · have hd : Hid (inB3 n a b = true) := by simp [Hid, inB3, h0, h1]
      go_enter Tryz.func60, Tryz.ntmps60
      go_wp2_with fail
      go_ret
      exact ⟨by rw [hd.out]; rfl, rfl⟩
    · have hd : Hid (inB3 n a b = false) := by simp [Hid, inB3, h1]
      go_enter Tryz.func60, Tryz.ntmps60
      go_wp2_with fail
      go_ret
      exact ⟨by rw [hd.out]; rfl, rfl⟩
  · have hd : Hid (inB3 n a b = false) := by simp [Hid, inB3, h0]
    go_enter Tryz.func60, Tryz.ntmps60
    go_wp2_with fail
    go_ret
    exact ⟨by rw [hd.out]; rfl, rfl⟩
theorem nm_take (s : ByteArray) (k : Nat) (h : k < s.size) : (s.data.toList.take (k + 1)).all nmB = ((s.data.toList.take k).all nmB && nmB s[k]) := by
  rw [List.take_succ_eq_append_getElem (by simpa using h), List.all_append]
  simp
  rfl
theorem nm_bad {s : ByteArray} {k : Nat} (h : k < s.size) (hb : nmB s[k] = false) : nameB s.data.toList = false := by
  cases hw : nameB s.data.toList with
  | false => rfl
  | true =>
    have := (nameB_iff.1 hw).1 s[k] (by
      show s.data[k] ∈ s.data.toList
      exact Array.mem_toList_iff.2 (Array.getElem_mem h))
    rw [hb] at this
    cases this
theorem nm_full {s : ByteArray} (h : (s.data.toList.take s.size).all nmB = true) : nameB s.data.toList = inB3 s.size 1 20 := by
  rw [List.take_of_length_le (by simp)] at h
  unfold nameB inB3
  rw [h, Bool.true_and]
  have hl : s.data.toList.length = s.size := Array.length_toList
  rw [hl, Bool.eq_iff_iff]
  simp only [Bool.and_eq_true, decide_eq_true_eq]
  omega
theorem nm_lo {c : UInt8} (h1 : 97 ≤ c.toNat) (h2 : c.toNat ≤ 122) : nmB c = true := nmB_iff.2 (.inl ⟨h1, h2⟩)
theorem nm_di {c : UInt8} (h1 : 48 ≤ c.toNat) (h2 : c.toNat ≤ 57) : nmB c = true := nmB_iff.2 (.inr (.inl ⟨h1, h2⟩))
theorem nm_da {c : UInt8} (h1 : c.toNat = 45) : nmB c = true := nmB_iff.2 (.inr (.inr h1))
theorem nm_no {c : UInt8} (h : ¬ ((97 ≤ c.toNat ∧ c.toNat ≤ 122) ∨ (48 ≤ c.toNat ∧ c.toNat ≤ 57) ∨ c.toNat = 45)) : nmB c = false := Bool.eq_false_iff.2 (fun k => h (nmB_iff.1 k))
set_option maxRecDepth 100000 in
set_option maxHeartbeats 4000000 in
theorem refName_is (s : ByteArray) (w : World) (hs : s.size ≤ 1000000) : Calls Tryz.prog 18 #[.string s] w fun e w' => e = .returned (.bool (nameB s.data.toList)) ∧ w' = w := by
  have HBAD : Hid (∀ k (h : k < s.size), nmB s[k] = false → nameB s.data.toList = false) := fun k h => nm_bad h
  have HT : Hid (∀ k (h : k < s.size), (s.data.toList.take (k + 1)).all nmB = ((s.data.toList.take k).all nmB && nmB s[k])) := nm_take s
  have HF : Hid ((s.data.toList.take s.size).all nmB = true → nameB s.data.toList = inB3 s.size 1 20) := nm_full
  go_enter Tryz.func18, Tryz.ntmps18
  go_wp2_with fail
  go_loopg [7] s.size (fun gk i wr => ∃ k : Nat, k + gk = s.size ∧ i = .int .i64 k ∧ Hid ((s.data.toList.take k).all nmB = true) ∧ wr = w)
  case atStart => exact ⟨0, by omega, rfl, by simp [Hid], rfl⟩
  case round =>
    obtain ⟨k, hk, rfl, HA, rfl⟩ := hrel
    have HK : Hid (k + gk = s.size) := hk
    have hks : k ≤ s.size := by omega
    clear hk
    by_cases hlt : k < s.size
    · have hltI : (k : Int) < (s.size : Int) := by omega
      have HGO : Hid (nmB s[k] = true → (s.data.toList.take (k + 1)).all nmB = true) := fun h => by rw [HT.out k hlt, HA.out, h]; rfl
      have HST : Hid (nmB s[k] = false → nameB s.data.toList = false) := HBAD.out k hlt
      by_cases h1 : 97 ≤ s[k].toNat
      · by_cases h2 : s[k].toNat ≤ 122
        · have HL : Hid (nmB s[k] = true) := nm_lo h1 h2
          have g1 : (97 : Int) ≤ s[k].toNat := by omega
          have g2 : (s[k].toNat : Int) ≤ 122 := by omega
          go_wp2_with fail
          go_roundg (gk - 1)
          case measure => have := HK.out; omega
          case rel => exact ⟨k + 1, by have := HK.out; omega, by go_num, HGO.out HL.out, rfl⟩
        · have HW : Hid (nameB s.data.toList = false) := HST.out (nm_no (by omega))
          have h3 : (48 : Int) ≤ s[k].toNat := by omega
          have g2 : ¬ (s[k].toNat : Int) ≤ 122 := by omega
          have g1 : (97 : Int) ≤ s[k].toNat := by omega
          have h4 : ¬ (s[k].toNat : Int) ≤ 57 := by omega
          have h5 : ((s[k].toNat : Int) == 45) = false := by rw [beq_eq_false_iff_ne]; omega
          go_wp2_with fail
          go_ret
          exact ⟨by rw [HW.out]; rfl, rfl⟩
      · by_cases h3 : 48 ≤ s[k].toNat
        · by_cases h4 : s[k].toNat ≤ 57
          · have HL : Hid (nmB s[k] = true) := nm_di h3 h4
            have g1 : ¬ (97 : Int) ≤ s[k].toNat := by omega
            have g2 : (48 : Int) ≤ s[k].toNat := by omega
            have g3 : (s[k].toNat : Int) ≤ 57 := by omega
            go_wp2_with fail
            go_roundg (gk - 1)
            case measure => have := HK.out; omega
            case rel => exact ⟨k + 1, by have := HK.out; omega, by go_num, HGO.out HL.out, rfl⟩
          · have HW : Hid (nameB s.data.toList = false) := HST.out (nm_no (by omega))
            have g1 : ¬ (97 : Int) ≤ s[k].toNat := by omega
            have g2 : (48 : Int) ≤ s[k].toNat := by omega
            have g3 : ¬ (s[k].toNat : Int) ≤ 57 := by omega
            have h5 : ((s[k].toNat : Int) == 45) = false := by rw [beq_eq_false_iff_ne]; omega
            go_wp2_with fail
            go_ret
            exact ⟨by rw [HW.out]; rfl, rfl⟩
        · by_cases h5 : s[k].toNat = 45
          · have HL : Hid (nmB s[k] = true) := nm_da h5
            have g1 : ¬ (97 : Int) ≤ s[k].toNat := by omega
            have g2 : ¬ (48 : Int) ≤ s[k].toNat := by omega
            have g3 : ((s[k].toNat : Int) == 45) = true := by rw [beq_iff_eq]; omega
            go_wp2_with fail
            go_roundg (gk - 1)
            case measure => have := HK.out; omega
            case rel => exact ⟨k + 1, by have := HK.out; omega, by go_num, HGO.out HL.out, rfl⟩
          · have HW : Hid (nameB s.data.toList = false) := HST.out (nm_no (by omega))
            have g1 : ¬ (97 : Int) ≤ s[k].toNat := by omega
            have g2 : ¬ (48 : Int) ≤ s[k].toNat := by omega
            have g3 : ((s[k].toNat : Int) == 45) = false := by rw [beq_eq_false_iff_ne]; omega
            go_wp2_with fail
            go_ret
            exact ⟨by rw [HW.out]; rfl, rfl⟩
    · obtain rfl : k = s.size := by omega
      have HW : Hid (nameB s.data.toList = inB3 s.size 1 20) := HF.out HA.out
      go_wp2_with fail
      refine (in3_is _ _ _ _).mono ?_
      rintro e w' ⟨rfl, rfl⟩
      go_wp2_with fail
      go_ret
      exact ⟨by rw [HW.out]; rfl, rfl⟩
theorem nmB_def (c : UInt8) : nmB c = ((decide ((97 : Int) ≤ c.toNat) && decide ((c.toNat : Int) ≤ 122)) || (decide ((48 : Int) ≤ c.toNat) && decide ((c.toNat : Int) ≤ 57)) || ((c.toNat : Int) == 45)) := by
  rw [Bool.eq_iff_iff, nmB_iff]
  simp only [Bool.or_eq_true, Bool.and_eq_true, decide_eq_true_eq, beq_iff_eq]
  omega
set_option maxHeartbeats 2000000 in
theorem letter_is (c : UInt8) (w : World) : Calls Tryz.prog 59 #[.int .u8 c.toNat] w fun e w' => e = .returned (.bool (nmB c)) ∧ w' = w := by
  have HD := nmB_def c
  by_cases h1 : (97 : Int) ≤ c.toNat
  · by_cases h2 : (c.toNat : Int) ≤ 122
    · have HL : Hid (nmB c = true) := nm_lo (by omega) (by omega)
      clear HD
      go_enter Tryz.func59, Tryz.ntmps59
      go_wp2_with fail
      go_ret
      exact ⟨by rw [HL.out]; rfl, rfl⟩
    · have HL : Hid (nmB c = false) := nm_no (by omega)
      have h3 : (48 : Int) ≤ c.toNat := by omega
      have h4 : ¬ (c.toNat : Int) ≤ 57 := by omega
      have h5 : ((c.toNat : Int) == 45) = false := by rw [beq_eq_false_iff_ne]; omega
      clear HD
      go_enter Tryz.func59, Tryz.ntmps59
      go_wp2_with fail
      go_ret
      exact ⟨by rw [HL.out]; rfl, rfl⟩
  · by_cases h3 : (48 : Int) ≤ c.toNat
    · by_cases h4 : (c.toNat : Int) ≤ 57
      · have HL : Hid (nmB c = true) := nm_di (by omega) (by omega)
        clear HD
        go_enter Tryz.func59, Tryz.ntmps59
        go_wp2_with fail
        go_ret
        exact ⟨by rw [HL.out]; rfl, rfl⟩
      · have HL : Hid (nmB c = false) := nm_no (by omega)
        have h5 : ((c.toNat : Int) == 45) = false := by rw [beq_eq_false_iff_ne]; omega
        clear HD
        go_enter Tryz.func59, Tryz.ntmps59
        go_wp2_with fail
        go_ret
        exact ⟨by rw [HL.out]; rfl, rfl⟩
    · by_cases h5 : c.toNat = 45
      · have HL : Hid (nmB c = true) := nm_da h5
        have h6 : ((c.toNat : Int) == 45) = true := by rw [beq_iff_eq]; omega
        clear HD
        go_enter Tryz.func59, Tryz.ntmps59
        go_wp2_with fail
        go_ret
        exact ⟨by rw [HL.out]; rfl, rfl⟩
      · have HL : Hid (nmB c = false) := nm_no (by omega)
        have h6 : ((c.toNat : Int) == 45) = false := by rw [beq_eq_false_iff_ne]; omega
        clear HD
        go_enter Tryz.func59, Tryz.ntmps59
        go_wp2_with fail
        go_ret
        exact ⟨by rw [HL.out]; rfl, rfl⟩
set_option maxRecDepth 100000 in
set_option maxHeartbeats 4000000 in
theorem name_is (s : ByteArray) (w : World) (hs : s.size ≤ 1000000) : Calls Tryz.prog 17 #[.string s] w fun e w' => e = .returned (.bool (nameB s.data.toList)) ∧ w' = w := by
  have HBAD : Hid (∀ k (h : k < s.size), nmB s[k] = false → nameB s.data.toList = false) := fun k h => nm_bad h
  have HT : Hid (∀ k (h : k < s.size), (s.data.toList.take (k + 1)).all nmB = ((s.data.toList.take k).all nmB && nmB s[k])) := nm_take s
  have HF : Hid ((s.data.toList.take s.size).all nmB = true → nameB s.data.toList = inB3 s.size 1 20) := nm_full
  have hl : s.data.toList.length = s.size := Array.length_toList
  by_cases h0 : s.data.toList = []
  · have HW : Hid (nameB s.data.toList = false) := by show _ = _; rw [h0]; rfl
    have he : s.toList.isEmpty = true := by rw [ByteArray.toList_eq, h0]; rfl
    clear h0 hl
    go_enter Tryz.func17, Tryz.ntmps17
    go_wp2_with fail
    go_ret
    exact ⟨by rw [HW.out]; rfl, rfl⟩
  · have he : s.toList.isEmpty = false := by rw [ByteArray.toList_eq, List.isEmpty_eq_false_iff]; exact h0
    have hpos : 0 < s.data.toList.length := List.length_pos_iff.2 h0
    rw [hl] at hpos
    by_cases h20 : s.size ≤ 20
    · have h20' : (s.size : Int) ≤ 20 := by omega
      have HW1 : Hid (inB3 s.size 1 20 = true) := by
        show _ = _
        unfold inB3
        simp only [Bool.and_eq_true, decide_eq_true_eq]
        omega
      clear h0 hl hpos
      go_enter Tryz.func17, Tryz.ntmps17
      go_wp2_with fail
      go_loopg [13] s.size (fun gk i wr => ∃ k : Nat, k + gk = s.size ∧ i = .int .i64 k ∧ Hid ((s.data.toList.take k).all nmB = true) ∧ wr = w)
      case atStart => exact ⟨0, by omega, rfl, by simp [Hid], rfl⟩
      case round =>
        obtain ⟨k, hk, rfl, HA, rfl⟩ := hrel
        have HK : Hid (k + gk = s.size) := hk
        have hks : k ≤ s.size := by omega
        clear hk
        by_cases hlt : k < s.size
        · have hltI : (k : Int) < (s.size : Int) := by omega
          have HGO : Hid (nmB s[k] = true → (s.data.toList.take (k + 1)).all nmB = true) := fun h => by rw [HT.out k hlt, HA.out, h]; rfl
          have HST : Hid (nmB s[k] = false → nameB s.data.toList = false) := HBAD.out k hlt
          go_wp2_with fail
          refine (letter_is s[k] _).mono ?_
          rintro e w' ⟨rfl, rfl⟩
          cases hq : nmB s[k] with
          | true =>
            have HL : Hid ((s.data.toList.take (k + 1)).all nmB = true) := HGO.out hq
            clear hq
            go_wp2_with fail
            go_roundg (gk - 1)
            case measure => have := HK.out; omega
            case rel => exact ⟨k + 1, by have := HK.out; omega, by go_num, HL, rfl⟩
          | false =>
            have HW : Hid (nameB s.data.toList = false) := HST.out hq
            clear hq
            go_wp2_with fail
            go_ret
            exact ⟨by rw [HW.out]; rfl, rfl⟩
        · obtain rfl : k = s.size := by omega
          have HW : Hid (nameB s.data.toList = true) := (HF.out HA.out).trans HW1.out
          go_wp2_with fail
          go_ret
          exact ⟨by rw [HW.out]; rfl, rfl⟩
    · have h20' : ¬ (s.size : Int) ≤ 20 := by omega
      have h20'' : (20 : Int) < (s.size : Int) := by omega
      have HW : Hid (nameB s.data.toList = false) := Bool.eq_false_iff.2 (fun h => by have := (nameB_iff.1 h).2.2; omega)
      clear h0 hl hpos
      go_enter Tryz.func17, Tryz.ntmps17
      go_wp2_with fail
      go_ret
      exact ⟨by rw [HW.out]; rfl, rfl⟩
end Go.Proofs.YtibelcnjmpedkaaGreatDoor
