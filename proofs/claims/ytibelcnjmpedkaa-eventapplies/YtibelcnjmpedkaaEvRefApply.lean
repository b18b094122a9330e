/-
  A state behind an event, as the document's answer makes it.
-/
import Derived.Test.YtibelcnjmpedkaaEvRefApp1
import Derived.Test.YtibelcnjmpedkaaEvRefApp2
import Derived.Test.YtibelcnjmpedkaaEvRefApp3
namespace Go.Proofs.Ytibelcnjmpedkaa
open Go Go.RowKit Ev
/-- A state behind an event that may be, as the document's answer makes it. -/
theorem refApply_is {B : Nat} {w : World} {v : Value} (s : St) (e : E) (hm : Ev.may e) (h : Fams B w v s.fams) (hr : Rising s.fams) (hn : s.fams.length ≤ 1000) :
    Calls Try.prog 12 #[stV s.clock s.next v, evV e] w fun r w' => ∃ v', r = .returned (stV (applyP s e).clock (applyP s e).next v') ∧ Fams w.heap.size w' v' (applyP s e).fams ∧ Below w.heap.size w w' := by
  obtain ⟨c, n, l⟩ := s
  obtain ⟨k, f, i, t⟩ := e
  rcases hm with ⟨hk, hf, hi, ht⟩ | ⟨hk, hf, hi, ht⟩ | ⟨hk, hf, hi, ht⟩ <;> simp only at hk hf hi ht <;> subst hk
  · subst hi; subst ht
    rw [apply_put _ rfl]
    exact refApply_1 c n f h hr hn hf.1.1
  · subst hf; subst ht
    rw [apply_drop _ rfl]
    exact refApply_2 c n i h hn
  · subst hf; subst hi
    rw [apply_clock _ rfl]
    exact refApply_3 c n t h hn
end Go.Proofs.Ytibelcnjmpedkaa
