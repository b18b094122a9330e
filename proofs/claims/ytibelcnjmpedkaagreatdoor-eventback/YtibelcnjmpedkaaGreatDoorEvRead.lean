/-
  A line as the program reads it: its words.
-/
import Derived.Test.YtibelcnjmpedkaaGreatDoorEvWrite
import Derived.Test.YtibelcnjmpedkaaGreatDoorParts
namespace Go.Proofs.YtibelcnjmpedkaaGreatDoor
open Go Go.RowKit Tok Sc Ev
/-- Of a number's text, that number. -/
def IsNum (s : ByteArray) (v : Int) : Prop := ∀ m, okN m → s.data.toList = Lib.itoa m → v = m
/-- Of a text's word, that text. -/
def IsText (s t : ByteArray) : Prop := t.size ≤ s.size ∧ ∀ x : List UInt8, (95 : UInt8) ∉ x → s.data.toList = wordL x → t.data.toList = x
set_option maxHeartbeats 1000000 in
theorem numberOf_is (s : ByteArray) (w : World) (hs : s.size ≤ 10000) (hL : LibsA w) : Calls Tryz.prog 102 #[.string s] w fun e w' => ∃ v, e = .returned (.int .i64 v) ∧ Below w.heap.size w w' ∧ IsNum s v := by
  have HL : Hid (LibsA w) := hL
  clear hL
  go_enter Tryz.func102, Tryz.ntmps102
  go_wp2_with fail
  refine (atoiE_any s _ hs HL.out).mono ?_
  rintro e w' ⟨v, err, rfl, hb, hv⟩
  have HB : Hid (Below w.heap.size w w') := hb
  have HV : Hid (IsNum s v) := hv
  clear hb hv
  go_wp2_with fail
  go_ret
  exact ⟨v, rfl, HB.out, HV.out⟩
theorem isText_no {s : ByteArray} (h : s ≠ ⟨#[95]⟩) : IsText s s := by
  refine ⟨Nat.le_refl _, fun x hx hs => ?_⟩
  unfold wordL at hs
  split at hs
  · exact absurd (bytes_eq hs) h
  · exact hs
theorem isText_yes : IsText ⟨#[95]⟩ ⟨#[]⟩ := by
  refine ⟨by simp [ByteArray.size], fun x hx hs => ?_⟩
  unfold wordL at hs
  split at hs
  · rename_i h; exact h.symm
  · exfalso; rw [← hs] at hx; simp at hx
set_option maxHeartbeats 1000000 in
theorem textOf_is (s : ByteArray) (w : World) (hs : s.size ≤ 10000) : Calls Tryz.prog 103 #[.string s] w fun e w' => ∃ t, e = .returned (.string t) ∧ Below w.heap.size w w' ∧ IsText s t := by
  by_cases h : s = ⟨#[95]⟩
  · subst h
    go_enter Tryz.func103, Tryz.ntmps103
    go_wp2_with fail
    go_ret
    exact ⟨_, rfl, Below.refl _ _, isText_yes⟩
  · have hne : (s.toList == [95]) = false := by
      rw [beq_eq_false_iff_ne, ByteArray.toList_eq]
      intro he
      exact h (bytes_eq he)
    have HT : Hid (IsText s s) := isText_no h
    clear h
    go_enter Tryz.func103, Tryz.ntmps103
    go_wp2_with fail
    refine (clone_is s _ hs).mono ?_
    rintro e w' ⟨rfl, hb⟩
    have HB : Hid (Below w.heap.size w w') := hb
    clear hb
    go_wp2_with fail
    go_ret
    exact ⟨s, rfl, HB.out, HT.out⟩
end Go.Proofs.YtibelcnjmpedkaaGreatDoor
