/-
  An event of words, as the program takes it, whatever the words are; and the words of a text.
-/
import Derived.Test.YtibelcnjmpedkaaGreatDoorEvOf3
import Derived.Test.YtibelcnjmpedkaaGreatDoorEvWrite
namespace Go.Proofs.YtibelcnjmpedkaaGreatDoor
open Go Go.RowKit Tok Sc Ev
theorem two_of {α : Type} {l : List α} (h : l.length = 2) : ∃ a b, l = [a, b] := by
  match l, h with
  | [a, b], _ => exact ⟨a, b, rfl⟩
theorem ten_of {α : Type} {l : List α} (h : l.length = 10) : ∃ a0 a1 a2 a3 a4 a5 a6 a7 a8 a9, l = [a0, a1, a2, a3, a4, a5, a6, a7, a8, a9] := by
  match l, h with
  | [a0, a1, a2, a3, a4, a5, a6, a7, a8, a9], _ => exact ⟨a0, a1, a2, a3, a4, a5, a6, a7, a8, a9, rfl⟩
theorem ofWords_is (ws : List ByteArray) (g c : Nat) (w : World) (hn : 0 < ws.length) (hn2 : ws.length ≤ 1000) (hs : ∀ x ∈ ws, x.size ≤ 1000) (hw : WordsAt w g ws) (hL : LibsA w) :
    Calls Tryz.prog 63 #[.slice (some ⟨g, 0, none⟩) ws.length c] w fun r w' => ∃ e, r = .returned (evV e) ∧ ToldW ws e ∧ Small 1000 e.fam ∧ Below w.heap.size w w' := by
  obtain ⟨x0, h0⟩ : ∃ x0, ws[0]? = some x0 := ⟨_, List.getElem?_eq_getElem hn⟩
  by_cases hp : x0.data.toList = [112] ∧ ws.length = 10
  · obtain ⟨a0, a1, a2, a3, a4, a5, a6, a7, a8, a9, rfl⟩ := ten_of hp.2
    simp only [List.getElem?_cons_zero, Option.some.injEq] at h0
    subst h0
    exact ofWords_put _ _ _ _ _ _ _ _ _ _ g c w hp.1 hs hw hL
  by_cases hd : x0.data.toList = [100] ∧ ws.length = 2
  · obtain ⟨a0, a1, rfl⟩ := two_of hd.2
    simp only [List.getElem?_cons_zero, Option.some.injEq] at h0
    subst h0
    exact ofWords_drop _ _ g c w hd.1 (hs a1 (by simp)) hw hL
  by_cases hc : x0.data.toList = [99] ∧ ws.length = 2
  · obtain ⟨a0, a1, rfl⟩ := two_of hc.2
    simp only [List.getElem?_cons_zero, Option.some.injEq] at h0
    subst h0
    exact ofWords_clock _ _ g c w hc.1 (hs a1 (by simp)) hw hL
  refine (ofWords_no x0 ws.length g c w (by have := hw.2 0 x0 h0; rwa [Nat.add_zero] at this) hn hn2 hp hd hc).mono ?_
  rintro e w' ⟨rfl, hb⟩
  exact ⟨_, rfl, toldW_no h0 (fun a b => hp ⟨a, b⟩) (fun a b => hd ⟨a, b⟩) (fun a b => hc ⟨a, b⟩) _, ⟨Nat.zero_le _, Nat.zero_le _, Nat.zero_le _, Nat.zero_le _⟩, hb⟩
theorem wordsAt_cellsOf (w : World) (ps : List ByteArray) (N : Nat) (t : TypeId) : WordsAt (w.alloc (.cells (Lib.cellsOf ps N) t)) w.heap.size ps := by
  refine ⟨by simp, fun j x hj => ?_⟩
  have hi := (List.getElem?_eq_some_iff.1 hj).1
  rw [Nat.zero_add, World.cell?_alloc_at _ _ _ _ rfl]
  unfold Lib.cellsOf
  rw [List.getElem?_toArray, List.getElem?_append_left (by simpa using hi), List.getElem?_map, hj]
  rfl
theorem splitK_len (c : UInt8) (k : Nat) (l : List UInt8) : ∀ x ∈ Lib.splitK [c] 0 k l, x.length ≤ l.length := by
  induction k generalizing l with
  | zero => intro x hx; simp [Lib.splitK] at hx; subst hx; exact Nat.le_refl _
  | succ k ih =>
    rcases nilOr c l with h | ⟨a, b, rfl, h⟩
    · rw [splitK_no h]; intro x hx; simp at hx; subst hx; exact Nat.le_refl _
    · rw [splitK_at b h]
      intro x hx
      simp only [List.mem_cons] at hx
      rcases hx with rfl | hx
      · simp
      · have := ih b x hx
        simp; omega
theorem splitK_pos (c : UInt8) (k : Nat) (l : List UInt8) : 0 < (Lib.splitK [c] 0 k l).length := by
  cases k with
  | zero => simp [Lib.splitK]
  | succ k =>
    rcases nilOr c l with h | ⟨a, b, rfl, h⟩
    · rw [splitK_no h]; simp
    · rw [splitK_at b h]; simp
end Go.Proofs.YtibelcnjmpedkaaGreatDoor
