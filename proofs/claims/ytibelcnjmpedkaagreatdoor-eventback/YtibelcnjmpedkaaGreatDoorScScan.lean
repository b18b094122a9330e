/-
  Plain mathematics: a scope looked at byte by byte.
-/
import Derived.Test.YtibelcnjmpedkaaGreatDoorScMath
namespace Go.Proofs.YtibelcnjmpedkaaGreatDoor.Sc
open Go.Lib Tok
structure Scan (s : List UInt8) (i : Nat) (pre : List Word) (cur : Word) : Prop where
  rest : (i ≤ s.length ∧ parts 43 s = pre ++ parts 43 (cur ++ s.drop i)) ∨ (i = s.length + 1 ∧ parts 43 s = pre ∧ cur = [])
  low : ∀ c ∈ cur, lowB c = true
  good : ∀ p ∈ pre, wordB p = true
  len : cur.length ≤ i
theorem scan_start (s : List UInt8) : Scan s 0 [] [] := ⟨.inl ⟨Nat.zero_le _, rfl⟩, by simp, by simp, Nat.le_refl _⟩
theorem scan_cur {s : List UInt8} {i : Nat} {pre : List Word} {cur : Word} (h : Scan s i pre cur) (hi : i ≤ s.length) : parts 43 s = pre ++ parts 43 (cur ++ s.drop i) := by
  rcases h.rest with h | h
  · exact h.2
  · omega
theorem cur_plus {s : List UInt8} {i : Nat} {pre : List Word} {cur : Word} (h : Scan s i pre cur) : (43 : UInt8) ∉ cur := fun hm => low_plus (h.low _ hm) rfl
theorem scan_letter {s : List UInt8} {i : Nat} {pre : List Word} {cur : Word} (h : Scan s i pre cur) (hi : i < s.length) (hl : lowB s[i] = true) : Scan s (i + 1) pre (cur ++ [s[i]]) := by
  refine ⟨.inl ⟨hi, ?_⟩, fun c hc => ?_, h.good, by have := h.len; simp; omega⟩
  · rw [scan_cur h (by omega), List.append_assoc, List.singleton_append, ← List.drop_eq_getElem_cons hi]
  · simp only [List.mem_append, List.mem_singleton] at hc
    rcases hc with hc | rfl
    · exact h.low c hc
    · exact hl
/-- What stands at an end of a word: the text's end, or a plus. -/
def WEnds (s : List UInt8) (i : Nat) : Prop := i = s.length ∨ ∃ h : i < s.length, s[i] = 43
theorem ends_parts {s : List UInt8} {i : Nat} {cur : Word} (he : WEnds s i) (hc : (43 : UInt8) ∉ cur) :
    (i = s.length ∧ parts 43 (cur ++ s.drop i) = [cur]) ∨ (i < s.length ∧ parts 43 (cur ++ s.drop i) = cur :: parts 43 (s.drop (i + 1))) := by
  rcases he with rfl | ⟨hi, h43⟩
  · exact .inl ⟨rfl, by rw [List.drop_length, List.append_nil, parts_no hc]⟩
  · exact .inr ⟨hi, by rw [List.drop_eq_getElem_cons hi, h43, parts_at _ hc]⟩
theorem scan_cut {s : List UInt8} {i : Nat} {pre : List Word} {cur : Word} (h : Scan s i pre cur) (hi : i ≤ s.length) (he : WEnds s i) (hc : cur ≠ []) : Scan s (i + 1) (pre ++ [cur]) [] := by
  refine ⟨?_, by simp, fun p hp => ?_, Nat.zero_le _⟩
  · rcases ends_parts he (cur_plus h) with ⟨e, hp⟩ | ⟨e, hp⟩
    · exact .inr ⟨by omega, by rw [scan_cur h hi, hp], rfl⟩
    · exact .inl ⟨e, by rw [scan_cur h hi, hp]; simp⟩
  · simp only [List.mem_append, List.mem_singleton] at hp
    rcases hp with hp | rfl
    · exact h.good p hp
    · exact wordB_iff.2 ⟨hc, h.low⟩
theorem formed_bad {s : List UInt8} (hs : s ≠ []) {w : Word} (hw : w ∈ parts 43 s) (hb : wordB w = false) : formedB s = false := by
  cases hf : formedB s with
  | false => rfl
  | true =>
    unfold formedB at hf
    rw [words_ne hs, List.all_eq_true] at hf
    have := hf w hw
    rw [hb] at this
    cases this
theorem scan_empty {s : List UInt8} {i : Nat} {pre : List Word} (h : Scan s i pre []) (hs : s ≠ []) (hi : i ≤ s.length) (he : WEnds s i) : formedB s = false := by
  refine formed_bad hs (w := []) ?_ rfl
  rw [scan_cur h hi]
  rcases ends_parts he (cur_plus h) with ⟨e, hp⟩ | ⟨e, hp⟩ <;> rw [hp] <;> simp
theorem scan_bad {s : List UInt8} {i : Nat} {pre : List Word} {cur : Word} (h : Scan s i pre cur) (hi : i < s.length) (hl : lowB s[i] = false) (h43 : s[i] ≠ 43) : formedB s = false := by
  have hm : s[i] ∈ cur ++ s.drop i := List.mem_append_right _ (by rw [List.drop_eq_getElem_cons hi]; exact List.mem_cons_self)
  obtain ⟨w, hw, hx⟩ := parts_mem h43 _ _ (Nat.le_refl _) hm
  refine formed_bad (by intro e; simp [e] at hi) (w := w) (by rw [scan_cur h (by omega)]; simp [hw]) ?_
  cases hb : wordB w with
  | false => rfl
  | true =>
    have := (wordB_iff.1 hb).2 _ hx
    rw [hl] at this
    cases this
theorem scan_end {s : List UInt8} {pre : List Word} {cur : Word} (h : Scan s (s.length + 1) pre cur) (hs : s ≠ []) : formedB s = true ∧ words s = pre := by
  rcases h.rest with h' | h'
  · omega
  · have : words s = pre := by rw [words_ne hs]; exact h'.2.1
    exact ⟨by unfold formedB; rw [this]; exact List.all_eq_true.2 h.good, this⟩
/-- The words, each once, in their order of coming. -/
def Once (out pre : List Word) : Prop := out.Nodup ∧ ∀ x, x ∈ out ↔ x ∈ pre
theorem once_there {out pre : List Word} {x : Word} (h : Once out pre) (hx : x ∈ pre) : Once out (pre ++ [x]) := by
  refine ⟨h.1, fun y => ?_⟩
  rw [h.2 y, List.mem_append, List.mem_singleton]
  constructor
  · exact .inl
  · rintro (h' | rfl)
    · exact h'
    · exact hx
theorem once_new {out pre : List Word} {x : Word} (h : Once out pre) (hx : x ∉ pre) : Once (out ++ [x]) (pre ++ [x]) := by
  refine ⟨?_, fun y => ?_⟩
  · rw [List.nodup_append]
    refine ⟨h.1, by simp, fun a ha b hb => ?_⟩
    simp at hb
    subst hb
    rintro rfl
    exact hx ((h.2 a).1 ha)
  · rw [List.mem_append, List.mem_append, h.2 y]
def longB (l : List Word) : Bool := l.any fun x => decide (8 < x.length)
theorem longB_add (l : List Word) (x : Word) : longB (l ++ [x]) = (longB l || decide (8 < x.length)) := by simp [longB]
theorem once_out {s : List UInt8} {out : List Word} (hf : formedB s = true) (h : Once out (words s)) :
    ((longB (words s) = true ∨ 5 < out.length) → Out s [] 4) ∧ (longB (words s) = false → out.length ≤ 5 → Out s (out.mergeSort fun x y => decide (x ≤ y)) 0) := by
  obtain ⟨h1, h2⟩ := setOf_sort h.1 h.2
  refine ⟨fun hb => .inr (.inr ⟨rfl, rfl, hf, _, h1, ?_⟩), fun hl h5 => .inl ⟨rfl, hf, h1, by omega, fun w hw => ?_⟩⟩
  · rcases hb with hb | hb
    · right
      simp [longB] at hb
      exact hb
    · left; omega
  · simp [longB] at hl
    exact hl w hw
end Go.Proofs.YtibelcnjmpedkaaGreatDoor.Sc
