/-
  Names, as the program and the document's answer know them; numbers within their bounds.
-/
import Derived.Test.YtibelcnjmpedkaaEvMath
import Derived.Test.YtibelcnjmpedkaaRows
import Derived.WalkKit
import Derived.WalkSpells
import Derived.WalkLawsBesides
import Derived.Deep.LoopGhost
import Derived.BigQuiet
namespace Go.Proofs.Ytibelcnjmpedkaa
open Go Go.RowKit Tok Sc Ev
def inB3 (n a b : Int) : Bool := decide (a ≤ n) && decide (n ≤ b)
set_option maxHeartbeats 1000000 in
theorem in3_is (n a b : Int) (w : World) : Calls Try.prog 17 #[.int .i64 n, .int .i64 a, .int .i64 b] w fun e w' => e = .returned (.bool (inB3 n a b)) ∧ w' = w := by
  by_cases h0 : a ≤ n
  · by_cases h1 : n ≤ b
    · have hd : Hid (inB3 n a b = true) := by simp [Hid, inB3, h0, h1]
      go_enter Try.func17, Try.ntmps17
      go_wp2_with fail
      go_ret
      exact ⟨by rw [hd.out]; rfl, rfl⟩
    · have hd : Hid (inB3 n a b = false) := by simp [Hid, inB3, h1]
      go_enter Try.func17, Try.ntmps17
      go_wp2_with fail
      go_ret
      exact ⟨by rw [hd.out]; rfl, rfl⟩
  · have hd : Hid (inB3 n a b = false) := by simp [Hid, inB3, h0]
    go_enter Try.func17, Try.ntmps17
    go_wp2_with fail
    go_ret
    exact ⟨by rw [hd.out]; rfl, rfl⟩
theorem nm_take (s : ByteArray) (k : Nat) (h : k < s.size) : (s.data.toList.take (k + 1)).all nmB = ((s.data.toList.take k).all nmB && nmB s[k]) := by
  rw [List.take_succ_eq_append_getElem (by simpa using h), List.all_append]
  simp
  rfl
theorem nm_bad {s : ByteArray} {k : Nat} (h : k < s.size) (hb : nmB s[k] = false) : nameB s.data.toList = false := by
  cases hw : nameB s.data.toList with
  | false => rfl
  | true =>
    have := (nameB_iff.1 hw).1 s[k] (by
      show s.data[k] ∈ s.data.toList
      exact Array.mem_toList_iff.2 (Array.getElem_mem h))
    rw [hb] at this
    cases this
theorem nm_full {s : ByteArray} (h : (s.data.toList.take s.size).all nmB = true) : nameB s.data.toList = inB3 s.size 1 20 := by
  rw [List.take_of_length_le (by simp)] at h
  unfold nameB inB3
  rw [h, Bool.true_and]
  have hl : s.data.toList.length = s.size := Array.length_toList
  rw [hl, Bool.eq_iff_iff]
  simp only [Bool.and_eq_true, decide_eq_true_eq]
  omega
theorem nm_lo {c : UInt8} (h1 : 97 ≤ c.toNat) (h2 : c.toNat ≤ 122) : nmB c = true := nmB_iff.2 (.inl ⟨h1, h2⟩)
theorem nm_di {c : UInt8} (h1 : 48 ≤ c.toNat) (h2 : c.toNat ≤ 57) : nmB c = true := nmB_iff.2 (.inr (.inl ⟨h1, h2⟩))
theorem nm_da {c : UInt8} (h1 : c.toNat = 45) : nmB c = true := nmB_iff.2 (.inr (.inr h1))
theorem nm_no {c : UInt8} (h : ¬ ((97 ≤ c.toNat ∧ c.toNat ≤ 122) ∨ (48 ≤ c.toNat ∧ c.toNat ≤ 57) ∨ c.toNat = 45)) : nmB c = false := Bool.eq_false_iff.2 (fun k => h (nmB_iff.1 k))
set_option maxRecDepth 100000 in
set_option maxHeartbeats 4000000 in
theorem refName_is (s : ByteArray) (w : World) (hs : s.size ≤ 1000000) : Calls Try.prog 19 #[.string s] w fun e w' => e = .returned (.bool (nameB s.data.toList)) ∧ w' = w := by
  have HBAD : Hid (∀ k (h : k < s.size), nmB s[k] = false → nameB s.data.toList = false) := fun k h => nm_bad h
  have HT : Hid (∀ k (h : k < s.size), (s.data.toList.take (k + 1)).all nmB = ((s.data.toList.take k).all nmB && nmB s[k])) := nm_take s
  have HF : Hid ((s.data.toList.take s.size).all nmB = true → nameB s.data.toList = inB3 s.size 1 20) := nm_full
  go_enter Try.func19, Try.ntmps19
  go_wp2_with fail
  go_loopg [7] s.size (fun gk i wr => ∃ k : Nat, k + gk = s.size ∧ i = .int .i64 k ∧ Hid ((s.data.toList.take k).all nmB = true) ∧ wr = w)
  case atStart => exact ⟨0, by omega, rfl, by simp [Hid], rfl⟩
  case round =>
    obtain ⟨k, hk, rfl, HA, rfl⟩ := hrel
    have HK : Hid (k + gk = s.size) := hk
    have hks : k ≤ s.size := by omega
    clear hk
    by_cases hlt : k < s.size
    · have hltI : (k : Int) < (s.size : Int) := by omega
      have HGO : Hid (nmB s[k] = true → (s.data.toList.take (k + 1)).all nmB = true) := fun h => by rw [HT.out k hlt, HA.out, h]; rfl
      have HST : Hid (nmB s[k] = false → nameB s.data.toList = false) := HBAD.out k hlt
      by_cases h1 : 97 ≤ s[k].toNat
      · by_cases h2 : s[k].toNat ≤ 122
        · have HL : Hid (nmB s[k] = true) := nm_lo h1 h2
          have g1 : (97 : Int) ≤ s[k].toNat := by omega
          have g2 : (s[k].toNat : Int) ≤ 122 := by omega
          go_wp2_with fail
          go_roundg (gk - 1)
          case measure => have := HK.out; omega
          case rel => exact ⟨k + 1, by have := HK.out; omega, by go_num, HGO.out HL.out, rfl⟩
        · have HW : Hid (nameB s.data.toList = false) := HST.out (nm_no (by omega))
          have h3 : (48 : Int) ≤ s[k].toNat := by omega
          have g2 : ¬ (s[k].toNat : Int) ≤ 122 := by omega
          have g1 : (97 : Int) ≤ s[k].toNat := by omega
          have h4 : ¬ (s[k].toNat : Int) ≤ 57 := by omega
          have h5 : ((s[k].toNat : Int) == 45) = false := by rw [beq_eq_false_iff_ne]; omega
          go_wp2_with fail
          go_ret
          exact ⟨by rw [HW.out]; rfl, rfl⟩
      · by_cases h3 : 48 ≤ s[k].toNat
        · by_cases h4 : s[k].toNat ≤ 57
          · have HL : Hid (nmB s[k] = true) := nm_di h3 h4
            have g1 : ¬ (97 : Int) ≤ s[k].toNat := by omega
            have g2 : (48 : Int) ≤ s[k].toNat := by omega
            have g3 : (s[k].toNat : Int) ≤ 57 := by omega
            go_wp2_with fail
            go_roundg (gk - 1)
            case measure => have := HK.out; omega
            case rel => exact ⟨k + 1, by have := HK.out; omega, by go_num, HGO.out HL.out, rfl⟩
          · have HW : Hid (nameB s.data.toList = false) := HST.out (nm_no (by omega))
            have g1 : ¬ (97 : Int) ≤ s[k].toNat := by omega
            have g2 : (48 : Int) ≤ s[k].toNat := by omega
            have g3 : ¬ (s[k].toNat : Int) ≤ 57 := by omega
            have h5 : ((s[k].toNat : Int) == 45) = false := by rw [beq_eq_false_iff_ne]; omega
            go_wp2_with fail
            go_ret
            exact ⟨by rw [HW.out]; rfl, rfl⟩
        · by_cases h5 : s[k].toNat = 45
          · have HL : Hid (nmB s[k] = true) := nm_da h5
            have g1 : ¬ (97 : Int) ≤ s[k].toNat := by omega
            have g2 : ¬ (48 : Int) ≤ s[k].toNat := by omega
            have g3 : ((s[k].toNat : Int) == 45) = true := by rw [beq_iff_eq]; omega
            go_wp2_with fail
            go_roundg (gk - 1)
            case measure => have := HK.out; omega
            case rel => exact ⟨k + 1, by have := HK.out; omega, by go_num, HGO.out HL.out, rfl⟩
          · have HW : Hid (nameB s.data.toList = false) := HST.out (nm_no (by omega))
            have g1 : ¬ (97 : Int) ≤ s[k].toNat := by omega
            have g2 : ¬ (48 : Int) ≤ s[k].toNat := by omega
            have g3 : ((s[k].toNat : Int) == 45) = false := by rw [beq_eq_false_iff_ne]; omega
            go_wp2_with fail
            go_ret
            exact ⟨by rw [HW.out]; rfl, rfl⟩
    · obtain rfl : k = s.size := by omega
      have HW : Hid (nameB s.data.toList = inB3 s.size 1 20) := HF.out HA.out
      go_wp2_with fail
      refine (in3_is _ _ _ _).mono ?_
      rintro e w' ⟨rfl, rfl⟩
      go_wp2_with fail
      go_ret
      exact ⟨by rw [HW.out]; rfl, rfl⟩
end Go.Proofs.Ytibelcnjmpedkaa
