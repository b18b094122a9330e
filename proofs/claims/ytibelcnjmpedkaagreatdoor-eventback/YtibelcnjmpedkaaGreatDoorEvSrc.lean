/-
  A list of families that lies below a block, nil or a row.
-/
import Derived.Test.YtibelcnjmpedkaaGreatDoorEvApply
namespace Go.Proofs.YtibelcnjmpedkaaGreatDoor
open Go Go.RowKit Ev
/-- A list that lies below b: nil, or a row. -/
def SrcF (b : Nat) (w : World) (v : Value) (l : List Fam) : Prop := (v = .slice none 0 0 ∧ l = []) ∨ ∃ g c, v = .slice (some ⟨g, 0, none⟩) l.length c ∧ g < b ∧ RowK 9 0 w g c l.length (famsCs l)
theorem srcF_of {B : Nat} {w : World} {v : Value} {l : List Fam} (h : Fams B w v l) : SrcF w.heap.size w v l := by
  rcases h with ⟨rfl, h0, _⟩ | ⟨g, c, rfl, hr⟩
  · exact .inl ⟨rfl, List.length_eq_zero_iff.1 h0⟩
  · exact .inr ⟨g, c, rfl, hr.lt, hr.mono (Nat.zero_le _)⟩
theorem SrcF.on {b B : Nat} {w w' : World} {v : Value} {l : List Fam} (h : SrcF b w v l) (hb : Below B w w') (hB : b ≤ B) : SrcF b w' v l := by
  rcases h with h | ⟨g, c, rfl, hg, hr⟩
  · exact .inl h
  · exact .inr ⟨g, c, rfl, hg, hr.below hb (by omega)⟩
theorem SrcF.set {b : Nat} {w : World} {v : Value} {l : List Fam} (h : SrcF b w v l) {a : Addr} (ha : b ≤ a.block) (u : Value) : SrcF b (w.setCell a u) v l := by
  rcases h with h | ⟨g, c, rfl, hg, hr⟩
  · exact .inl h
  · exact .inr ⟨g, c, rfl, hg, hr.block (by simp [World.setCell]) (Below.heap_setCell _ _ _ _ (by omega))⟩
theorem SrcF.fam {b : Nat} {w : World} {base : Option Addr} {c : Nat} {l : List Fam} (h : SrcF b w (.slice base l.length c) l) (j : Nat) (hj : j < l.length) : ∃ g, base = some ⟨g, 0, none⟩ ∧ FamAt w g (j * 9) l[j] := by
  rcases h with ⟨_, rfl⟩ | ⟨g, c', e, hg, hr⟩
  · simp at hj
  · have hf : Fams 0 w (.slice base l.length c) l := by rw [e]; exact .inr ⟨g, c', rfl, hr⟩
    obtain ⟨g', e1, _, e2⟩ := hf.fam j hj
    exact ⟨g', e1, e2⟩
theorem SrcF.slice {b : Nat} {w : World} {v : Value} {l : List Fam} (h : SrcF b w v l) : ∃ base c, v = .slice base l.length c := by
  rcases h with ⟨rfl, rfl⟩ | ⟨g, c, rfl, _⟩
  · exact ⟨_, _, rfl⟩
  · exact ⟨_, _, rfl⟩
theorem SrcF.src {b : Nat} {w : World} {v : Value} {l : List Fam} (h : SrcF b w v l) : Src Tryz.prog 9 55 v l.length (famsCs l) w := by
  have hr : RowsK 9 0 w v l.length (famsCs l) := by
    rcases h with ⟨rfl, rfl⟩ | ⟨g, c, rfl, _, hr⟩
    · exact .inl ⟨rfl, rfl, rfl⟩
    · exact .inr ⟨g, c, rfl, hr⟩
  exact hr.src Tryz.underlying55
end Go.Proofs.YtibelcnjmpedkaaGreatDoor
