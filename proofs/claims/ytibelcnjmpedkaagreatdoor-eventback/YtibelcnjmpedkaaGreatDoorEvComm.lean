/-
  Plain mathematics: two events of two families, in whichever order.
-/
import Derived.Test.YtibelcnjmpedkaaGreatDoorEvState
namespace Go.Proofs.YtibelcnjmpedkaaGreatDoor.Ev
open Go.Lib Tok Sc
theorem apply_put {e : E} (s : St) (h : e.kind = 1) : applyP s e = ⟨s.clock, if s.next ≤ e.fam.id then e.fam.id + 1 else s.next, putP s.fams e.fam⟩ := by
  unfold applyP
  rw [if_pos h]
theorem apply_drop {e : E} (s : St) (h : e.kind = 2) : applyP s e = ⟨s.clock, s.next, dropP s.fams e.id⟩ := by
  unfold applyP
  rw [if_neg (by omega), if_pos h]
theorem apply_clock {e : E} (s : St) (h : e.kind = 3) : applyP s e = ⟨e.time, s.next, s.fams⟩ := by
  unfold applyP
  rw [if_neg (by omega), if_neg (by omega)]
theorem comm {e f : E} (he : may e) (hf : may f) (h3 : e.kind ≠ 3) (k3 : f.kind ≠ 3) (hid : e.fam.id + e.id ≠ f.fam.id + f.id) : applyP (applyP ⟨0, 1, []⟩ e) f = applyP (applyP ⟨0, 1, []⟩ f) e := by
  have two : ∀ (a b : Fam), a.id ≠ b.id → putP (putP [] a) b = putP (putP [] b) a := by
    intro a b hab
    unfold putP lows highs
    rcases Int.lt_or_lt_of_ne hab with hh | hh
    · have h1 : ¬ b.id < a.id := by omega
      simp [hh, h1]
    · have h1 : ¬ a.id < b.id := by omega
      simp [hh, h1]
  rcases he with ⟨ek, ⟨⟨e1, _⟩, _⟩, ei, _⟩ | ⟨ek, ef, ei, _⟩ | ⟨ek, _⟩
  · rcases hf with ⟨fk, ⟨⟨f1, _⟩, _⟩, fi, _⟩ | ⟨fk, ff, fi, _⟩ | ⟨fk, _⟩
    · have hne : e.fam.id ≠ f.fam.id := by omega
      rw [apply_put _ ek, apply_put _ fk, apply_put _ fk, apply_put _ ek]
      unfold okN at e1 f1
      have hn : (if (if (1 : Int) ≤ e.fam.id then e.fam.id + 1 else 1) ≤ f.fam.id then f.fam.id + 1 else (if (1 : Int) ≤ e.fam.id then e.fam.id + 1 else 1)) = (if (if (1 : Int) ≤ f.fam.id then f.fam.id + 1 else 1) ≤ e.fam.id then e.fam.id + 1 else (if (1 : Int) ≤ f.fam.id then f.fam.id + 1 else 1)) := by
        (repeat' split) <;> omega
      simp only [St.mk.injEq, true_and]
      exact ⟨hn, two _ _ hne⟩
    · have hz : f.fam.id = 0 := by rw [ff]; rfl
      have hne : e.fam.id ≠ f.id := by omega
      rw [apply_put _ ek, apply_drop _ fk, apply_drop _ fk, apply_put _ ek]
      simp [dropP, putP, lows, highs, hne]
    · exact absurd fk k3
  · have hz : e.fam.id = 0 := by rw [ef]; rfl
    rcases hf with ⟨fk, ⟨⟨f1, _⟩, _⟩, fi, _⟩ | ⟨fk, ff, fi, _⟩ | ⟨fk, _⟩
    · have hne : f.fam.id ≠ e.id := by omega
      rw [apply_drop _ ek, apply_put _ fk, apply_put _ fk, apply_drop _ ek]
      simp [dropP, putP, lows, highs, hne]
    · rw [apply_drop _ ek, apply_drop _ fk, apply_drop _ fk, apply_drop _ ek]
      simp [dropP]
    · exact absurd fk k3
  · exact absurd ek h3
end Go.Proofs.YtibelcnjmpedkaaGreatDoor.Ev
