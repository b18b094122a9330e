/-
  An event of words, as the program takes it.
-/
import Derived.Test.YtibelcnjmpedkaaGreatDoorEvRead
import Derived.Test.YtibelcnjmpedkaaGreatDoorEvWS
namespace Go.Proofs.YtibelcnjmpedkaaGreatDoor
open Go Go.RowKit Tok Sc Ev
/-- What is there, whatever it is. -/
def peek (w : World) (b i : Nat) : Value := (w.cell? ⟨b, i, none⟩).getD undef
theorem peek_is {w : World} {b i : Nat} (h : (w.cell? ⟨b, i, none⟩).isSome = true) : w.cell? ⟨b, i, none⟩ = some (peek w b i) := by
  unfold peek
  cases hc : w.cell? ⟨b, i, none⟩ with
  | none => rw [hc] at h; cases h
  | some v => rfl
/-- What making an event of words goes by: the words in a row, the result's box, the library's variables. -/
structure OS (w0 : World) (b g : Nat) (ws : List ByteArray) (w' : World) : Prop where
  libs : LibsA w'
  words : WordsAt w' g ws
  lt : b < w'.heap.size
  new : w0.heap.size ≤ b
  ne : b ≠ g
  there : ∀ i, i < 12 → (w'.cell? ⟨b, i, none⟩).isSome = true
  free : ∀ i, w'.frozen? ⟨b, i, none⟩ = false
  below : Below w0.heap.size w0 w'
  old : 2 < w0.heap.size ∧ 3 < w0.heap.size ∧ 1 < w0.heap.size ∧ 0 < w0.heap.size
theorem OS.on {w0 : World} {b g : Nat} {ws : List ByteArray} {w w' : World} (h : OS w0 b g ws w) (hb : Below w.heap.size w w') : OS w0 b g ws w' where
  libs := h.libs.below hb
  words := ⟨Nat.lt_of_lt_of_le h.words.1 hb.size, fun j x hj => (hb.cell (p := ⟨g, 0 + j, none⟩) h.words.1).trans (h.words.2 j x hj)⟩
  lt := Nat.lt_of_lt_of_le h.lt hb.size
  new := h.new
  ne := h.ne
  there := fun i hi => by rw [hb.cell (p := ⟨b, i, none⟩) h.lt]; exact h.there i hi
  free := fun i => (hb.frozen (p := ⟨b, i, none⟩) h.lt).trans (h.free i)
  below := h.below.trans (hb.mono h.below.size)
  old := h.old
theorem OS.set {w0 : World} {b g : Nat} {ws : List ByteArray} {w : World} (h : OS w0 b g ws w) (i : Nat) (v : Value) : OS w0 b g ws (w.setCell ⟨b, i, none⟩ v) where
  libs := by
    have hb : Below w0.heap.size w (w.setCell ⟨b, i, none⟩ v) := (Below.refl _ _).setCell (p := ⟨b, i, none⟩) h.new v
    have ho := h.old
    refine ⟨⟨?_, tabIsBelowE h.libs.base.pow hb gPowE ho.2.2.1, ?_⟩, ?_, ?_⟩
    · simpa using h.libs.base.big
    · obtain ⟨m, hm⟩ := h.libs.base.len
      exact ⟨m, (hb.cell (p := ⟨0, 0, none⟩) ho.2.2.2).trans hm⟩
    · obtain ⟨m, hm, k⟩ := h.libs.syn
      exact ⟨m, (hb.cell (p := ⟨2, 0, none⟩) ho.1).trans hm, k⟩
    · obtain ⟨m, hm, k⟩ := h.libs.rng
      exact ⟨m, (hb.cell (p := ⟨3, 0, none⟩) ho.2.1).trans hm, k⟩
  words := ⟨by simpa using h.words.1, fun j x hj => (World.cell?_setCell_other _ _ _ _ (by intro e; exact h.ne (congrArg Addr.block e))).trans (h.words.2 j x hj)⟩
  lt := by simpa using h.lt
  new := h.new
  ne := h.ne
  there := fun j hj => by
    by_cases hij : j = i
    · subst hij
      obtain ⟨u, hu⟩ := Option.isSome_iff_exists.1 (h.there j hj)
      rw [World.cell?_setCell_same _ _ _ hu]
      rfl
    · rw [World.cell?_setCell_other _ _ _ _ (by intro e; exact hij (congrArg Addr.off e).symm)]
      exact h.there j hj
  free := fun j => by rw [World.frozen?_setCell]; exact h.free j
  below := h.below.setCell (p := ⟨b, i, none⟩) h.new v
  old := h.old
theorem os_allA {w0 : World} {b g : Nat} {x0 x1 x2 x3 x4 x5 x6 x7 x8 x9 : ByteArray} {w : World} (h : OS w0 b g [x0, x1, x2, x3, x4, x5, x6, x7, x8, x9] w) : (w.cell? ⟨g, 0, none⟩ = some (.string x0) ∧ w.cell? ⟨g, 1, none⟩ = some (.string x1) ∧ w.cell? ⟨g, 2, none⟩ = some (.string x2) ∧ w.cell? ⟨g, 3, none⟩ = some (.string x3) ∧ w.cell? ⟨g, 4, none⟩ = some (.string x4) ∧ w.cell? ⟨g, 5, none⟩ = some (.string x5) ∧ w.cell? ⟨g, 6, none⟩ = some (.string x6) ∧ w.cell? ⟨g, 7, none⟩ = some (.string x7) ∧ w.cell? ⟨g, 8, none⟩ = some (.string x8) ∧ w.cell? ⟨g, 9, none⟩ = some (.string x9) ∧ w.cell? ⟨b, 0, none⟩ = some (peek w b 0) ∧ w.cell? ⟨b, 1, none⟩ = some (peek w b 1) ∧ w.cell? ⟨b, 2, none⟩ = some (peek w b 2) ∧ w.cell? ⟨b, 3, none⟩ = some (peek w b 3) ∧ w.cell? ⟨b, 4, none⟩ = some (peek w b 4) ∧ w.cell? ⟨b, 5, none⟩ = some (peek w b 5) ∧ w.cell? ⟨b, 6, none⟩ = some (peek w b 6) ∧ w.cell? ⟨b, 7, none⟩ = some (peek w b 7) ∧ w.cell? ⟨b, 8, none⟩ = some (peek w b 8) ∧ w.cell? ⟨b, 9, none⟩ = some (peek w b 9) ∧ w.cell? ⟨b, 10, none⟩ = some (peek w b 10) ∧ w.cell? ⟨b, 11, none⟩ = some (peek w b 11) ∧ (∀ i, w.frozen? ⟨b, i, none⟩ = false) ∧ OS w0 b g [x0, x1, x2, x3, x4, x5, x6, x7, x8, x9] w) := by
  have c : ∀ j x, ([x0, x1, x2, x3, x4, x5, x6, x7, x8, x9] : List ByteArray)[j]? = some x → w.cell? ⟨g, j, none⟩ = some (.string x) := fun j x hj => by have := h.words.2 j x hj; rwa [Nat.zero_add] at this
  exact ⟨c 0 x0 rfl, c 1 x1 rfl, c 2 x2 rfl, c 3 x3 rfl, c 4 x4 rfl, c 5 x5 rfl, c 6 x6 rfl, c 7 x7 rfl, c 8 x8 rfl, c 9 x9 rfl, peek_is (h.there 0 (by omega)), peek_is (h.there 1 (by omega)), peek_is (h.there 2 (by omega)), peek_is (h.there 3 (by omega)), peek_is (h.there 4 (by omega)), peek_is (h.there 5 (by omega)), peek_is (h.there 6 (by omega)), peek_is (h.there 7 (by omega)), peek_is (h.there 8 (by omega)), peek_is (h.there 9 (by omega)), peek_is (h.there 10 (by omega)), peek_is (h.there 11 (by omega)), h.free, h⟩
theorem os_ofA {w0 : World} {b g : Nat} {x0 x1 x2 x3 x4 x5 x6 x7 x8 x9 : ByteArray} {w : World} (h : (w.cell? ⟨g, 0, none⟩ = some (.string x0) ∧ w.cell? ⟨g, 1, none⟩ = some (.string x1) ∧ w.cell? ⟨g, 2, none⟩ = some (.string x2) ∧ w.cell? ⟨g, 3, none⟩ = some (.string x3) ∧ w.cell? ⟨g, 4, none⟩ = some (.string x4) ∧ w.cell? ⟨g, 5, none⟩ = some (.string x5) ∧ w.cell? ⟨g, 6, none⟩ = some (.string x6) ∧ w.cell? ⟨g, 7, none⟩ = some (.string x7) ∧ w.cell? ⟨g, 8, none⟩ = some (.string x8) ∧ w.cell? ⟨g, 9, none⟩ = some (.string x9) ∧ w.cell? ⟨b, 0, none⟩ = some (peek w b 0) ∧ w.cell? ⟨b, 1, none⟩ = some (peek w b 1) ∧ w.cell? ⟨b, 2, none⟩ = some (peek w b 2) ∧ w.cell? ⟨b, 3, none⟩ = some (peek w b 3) ∧ w.cell? ⟨b, 4, none⟩ = some (peek w b 4) ∧ w.cell? ⟨b, 5, none⟩ = some (peek w b 5) ∧ w.cell? ⟨b, 6, none⟩ = some (peek w b 6) ∧ w.cell? ⟨b, 7, none⟩ = some (peek w b 7) ∧ w.cell? ⟨b, 8, none⟩ = some (peek w b 8) ∧ w.cell? ⟨b, 9, none⟩ = some (peek w b 9) ∧ w.cell? ⟨b, 10, none⟩ = some (peek w b 10) ∧ w.cell? ⟨b, 11, none⟩ = some (peek w b 11) ∧ (∀ i, w.frozen? ⟨b, i, none⟩ = false) ∧ OS w0 b g [x0, x1, x2, x3, x4, x5, x6, x7, x8, x9] w)) : OS w0 b g [x0, x1, x2, x3, x4, x5, x6, x7, x8, x9] w := h.2.2.2.2.2.2.2.2.2.2.2.2.2.2.2.2.2.2.2.2.2.2.2
theorem os_keepA {w0 : World} {b g : Nat} {x0 x1 x2 x3 x4 x5 x6 x7 x8 x9 : ByteArray} {w w' : World} (h : (w.cell? ⟨g, 0, none⟩ = some (.string x0) ∧ w.cell? ⟨g, 1, none⟩ = some (.string x1) ∧ w.cell? ⟨g, 2, none⟩ = some (.string x2) ∧ w.cell? ⟨g, 3, none⟩ = some (.string x3) ∧ w.cell? ⟨g, 4, none⟩ = some (.string x4) ∧ w.cell? ⟨g, 5, none⟩ = some (.string x5) ∧ w.cell? ⟨g, 6, none⟩ = some (.string x6) ∧ w.cell? ⟨g, 7, none⟩ = some (.string x7) ∧ w.cell? ⟨g, 8, none⟩ = some (.string x8) ∧ w.cell? ⟨g, 9, none⟩ = some (.string x9) ∧ w.cell? ⟨b, 0, none⟩ = some (peek w b 0) ∧ w.cell? ⟨b, 1, none⟩ = some (peek w b 1) ∧ w.cell? ⟨b, 2, none⟩ = some (peek w b 2) ∧ w.cell? ⟨b, 3, none⟩ = some (peek w b 3) ∧ w.cell? ⟨b, 4, none⟩ = some (peek w b 4) ∧ w.cell? ⟨b, 5, none⟩ = some (peek w b 5) ∧ w.cell? ⟨b, 6, none⟩ = some (peek w b 6) ∧ w.cell? ⟨b, 7, none⟩ = some (peek w b 7) ∧ w.cell? ⟨b, 8, none⟩ = some (peek w b 8) ∧ w.cell? ⟨b, 9, none⟩ = some (peek w b 9) ∧ w.cell? ⟨b, 10, none⟩ = some (peek w b 10) ∧ w.cell? ⟨b, 11, none⟩ = some (peek w b 11) ∧ (∀ i, w.frozen? ⟨b, i, none⟩ = false) ∧ OS w0 b g [x0, x1, x2, x3, x4, x5, x6, x7, x8, x9] w)) (hb : Below w.heap.size w w') : (w'.cell? ⟨g, 0, none⟩ = some (.string x0) ∧ w'.cell? ⟨g, 1, none⟩ = some (.string x1) ∧ w'.cell? ⟨g, 2, none⟩ = some (.string x2) ∧ w'.cell? ⟨g, 3, none⟩ = some (.string x3) ∧ w'.cell? ⟨g, 4, none⟩ = some (.string x4) ∧ w'.cell? ⟨g, 5, none⟩ = some (.string x5) ∧ w'.cell? ⟨g, 6, none⟩ = some (.string x6) ∧ w'.cell? ⟨g, 7, none⟩ = some (.string x7) ∧ w'.cell? ⟨g, 8, none⟩ = some (.string x8) ∧ w'.cell? ⟨g, 9, none⟩ = some (.string x9) ∧ w'.cell? ⟨b, 0, none⟩ = some (peek w' b 0) ∧ w'.cell? ⟨b, 1, none⟩ = some (peek w' b 1) ∧ w'.cell? ⟨b, 2, none⟩ = some (peek w' b 2) ∧ w'.cell? ⟨b, 3, none⟩ = some (peek w' b 3) ∧ w'.cell? ⟨b, 4, none⟩ = some (peek w' b 4) ∧ w'.cell? ⟨b, 5, none⟩ = some (peek w' b 5) ∧ w'.cell? ⟨b, 6, none⟩ = some (peek w' b 6) ∧ w'.cell? ⟨b, 7, none⟩ = some (peek w' b 7) ∧ w'.cell? ⟨b, 8, none⟩ = some (peek w' b 8) ∧ w'.cell? ⟨b, 9, none⟩ = some (peek w' b 9) ∧ w'.cell? ⟨b, 10, none⟩ = some (peek w' b 10) ∧ w'.cell? ⟨b, 11, none⟩ = some (peek w' b 11) ∧ (∀ i, w'.frozen? ⟨b, i, none⟩ = false) ∧ OS w0 b g [x0, x1, x2, x3, x4, x5, x6, x7, x8, x9] w') := os_allA ((os_ofA h).on hb)
theorem os_drewA {w0 : World} {b g : Nat} {x0 x1 x2 x3 x4 x5 x6 x7 x8 x9 : ByteArray} {w : World} (h : OS w0 b g [x0, x1, x2, x3, x4, x5, x6, x7, x8, x9] w) : (w.drew.cell? ⟨g, 0, none⟩ = some (.string x0) ∧ w.drew.cell? ⟨g, 1, none⟩ = some (.string x1) ∧ w.drew.cell? ⟨g, 2, none⟩ = some (.string x2) ∧ w.drew.cell? ⟨g, 3, none⟩ = some (.string x3) ∧ w.drew.cell? ⟨g, 4, none⟩ = some (.string x4) ∧ w.drew.cell? ⟨g, 5, none⟩ = some (.string x5) ∧ w.drew.cell? ⟨g, 6, none⟩ = some (.string x6) ∧ w.drew.cell? ⟨g, 7, none⟩ = some (.string x7) ∧ w.drew.cell? ⟨g, 8, none⟩ = some (.string x8) ∧ w.drew.cell? ⟨g, 9, none⟩ = some (.string x9) ∧ w.drew.cell? ⟨b, 0, none⟩ = some (peek w.drew b 0) ∧ w.drew.cell? ⟨b, 1, none⟩ = some (peek w.drew b 1) ∧ w.drew.cell? ⟨b, 2, none⟩ = some (peek w.drew b 2) ∧ w.drew.cell? ⟨b, 3, none⟩ = some (peek w.drew b 3) ∧ w.drew.cell? ⟨b, 4, none⟩ = some (peek w.drew b 4) ∧ w.drew.cell? ⟨b, 5, none⟩ = some (peek w.drew b 5) ∧ w.drew.cell? ⟨b, 6, none⟩ = some (peek w.drew b 6) ∧ w.drew.cell? ⟨b, 7, none⟩ = some (peek w.drew b 7) ∧ w.drew.cell? ⟨b, 8, none⟩ = some (peek w.drew b 8) ∧ w.drew.cell? ⟨b, 9, none⟩ = some (peek w.drew b 9) ∧ w.drew.cell? ⟨b, 10, none⟩ = some (peek w.drew b 10) ∧ w.drew.cell? ⟨b, 11, none⟩ = some (peek w.drew b 11) ∧ (∀ i, w.drew.frozen? ⟨b, i, none⟩ = false) ∧ OS w0 b g [x0, x1, x2, x3, x4, x5, x6, x7, x8, x9] w.drew) := os_allA (h.on (Below.refl _ _).drew)
theorem os_setA {w0 : World} {b g : Nat} {x0 x1 x2 x3 x4 x5 x6 x7 x8 x9 : ByteArray} {w : World} {iw : Nat} {u : Value} (h : OS w0 b g [x0, x1, x2, x3, x4, x5, x6, x7, x8, x9] (w.setCell ⟨b, iw, none⟩ u)) : ((w.setCell ⟨b, iw, none⟩ u).cell? ⟨g, 0, none⟩ = some (.string x0) ∧ (w.setCell ⟨b, iw, none⟩ u).cell? ⟨g, 1, none⟩ = some (.string x1) ∧ (w.setCell ⟨b, iw, none⟩ u).cell? ⟨g, 2, none⟩ = some (.string x2) ∧ (w.setCell ⟨b, iw, none⟩ u).cell? ⟨g, 3, none⟩ = some (.string x3) ∧ (w.setCell ⟨b, iw, none⟩ u).cell? ⟨g, 4, none⟩ = some (.string x4) ∧ (w.setCell ⟨b, iw, none⟩ u).cell? ⟨g, 5, none⟩ = some (.string x5) ∧ (w.setCell ⟨b, iw, none⟩ u).cell? ⟨g, 6, none⟩ = some (.string x6) ∧ (w.setCell ⟨b, iw, none⟩ u).cell? ⟨g, 7, none⟩ = some (.string x7) ∧ (w.setCell ⟨b, iw, none⟩ u).cell? ⟨g, 8, none⟩ = some (.string x8) ∧ (w.setCell ⟨b, iw, none⟩ u).cell? ⟨g, 9, none⟩ = some (.string x9) ∧ (w.setCell ⟨b, iw, none⟩ u).cell? ⟨b, 0, none⟩ = some (peek (w.setCell ⟨b, iw, none⟩ u) b 0) ∧ (w.setCell ⟨b, iw, none⟩ u).cell? ⟨b, 1, none⟩ = some (peek (w.setCell ⟨b, iw, none⟩ u) b 1) ∧ (w.setCell ⟨b, iw, none⟩ u).cell? ⟨b, 2, none⟩ = some (peek (w.setCell ⟨b, iw, none⟩ u) b 2) ∧ (w.setCell ⟨b, iw, none⟩ u).cell? ⟨b, 3, none⟩ = some (peek (w.setCell ⟨b, iw, none⟩ u) b 3) ∧ (w.setCell ⟨b, iw, none⟩ u).cell? ⟨b, 4, none⟩ = some (peek (w.setCell ⟨b, iw, none⟩ u) b 4) ∧ (w.setCell ⟨b, iw, none⟩ u).cell? ⟨b, 5, none⟩ = some (peek (w.setCell ⟨b, iw, none⟩ u) b 5) ∧ (w.setCell ⟨b, iw, none⟩ u).cell? ⟨b, 6, none⟩ = some (peek (w.setCell ⟨b, iw, none⟩ u) b 6) ∧ (w.setCell ⟨b, iw, none⟩ u).cell? ⟨b, 7, none⟩ = some (peek (w.setCell ⟨b, iw, none⟩ u) b 7) ∧ (w.setCell ⟨b, iw, none⟩ u).cell? ⟨b, 8, none⟩ = some (peek (w.setCell ⟨b, iw, none⟩ u) b 8) ∧ (w.setCell ⟨b, iw, none⟩ u).cell? ⟨b, 9, none⟩ = some (peek (w.setCell ⟨b, iw, none⟩ u) b 9) ∧ (w.setCell ⟨b, iw, none⟩ u).cell? ⟨b, 10, none⟩ = some (peek (w.setCell ⟨b, iw, none⟩ u) b 10) ∧ (w.setCell ⟨b, iw, none⟩ u).cell? ⟨b, 11, none⟩ = some (peek (w.setCell ⟨b, iw, none⟩ u) b 11) ∧ (∀ i, (w.setCell ⟨b, iw, none⟩ u).frozen? ⟨b, i, none⟩ = false) ∧ OS w0 b g [x0, x1, x2, x3, x4, x5, x6, x7, x8, x9] (w.setCell ⟨b, iw, none⟩ u)) := os_allA h
theorem os_libsA {w0 : World} {b g : Nat} {x0 x1 x2 x3 x4 x5 x6 x7 x8 x9 : ByteArray} {w : World} (h : (w.cell? ⟨g, 0, none⟩ = some (.string x0) ∧ w.cell? ⟨g, 1, none⟩ = some (.string x1) ∧ w.cell? ⟨g, 2, none⟩ = some (.string x2) ∧ w.cell? ⟨g, 3, none⟩ = some (.string x3) ∧ w.cell? ⟨g, 4, none⟩ = some (.string x4) ∧ w.cell? ⟨g, 5, none⟩ = some (.string x5) ∧ w.cell? ⟨g, 6, none⟩ = some (.string x6) ∧ w.cell? ⟨g, 7, none⟩ = some (.string x7) ∧ w.cell? ⟨g, 8, none⟩ = some (.string x8) ∧ w.cell? ⟨g, 9, none⟩ = some (.string x9) ∧ w.cell? ⟨b, 0, none⟩ = some (peek w b 0) ∧ w.cell? ⟨b, 1, none⟩ = some (peek w b 1) ∧ w.cell? ⟨b, 2, none⟩ = some (peek w b 2) ∧ w.cell? ⟨b, 3, none⟩ = some (peek w b 3) ∧ w.cell? ⟨b, 4, none⟩ = some (peek w b 4) ∧ w.cell? ⟨b, 5, none⟩ = some (peek w b 5) ∧ w.cell? ⟨b, 6, none⟩ = some (peek w b 6) ∧ w.cell? ⟨b, 7, none⟩ = some (peek w b 7) ∧ w.cell? ⟨b, 8, none⟩ = some (peek w b 8) ∧ w.cell? ⟨b, 9, none⟩ = some (peek w b 9) ∧ w.cell? ⟨b, 10, none⟩ = some (peek w b 10) ∧ w.cell? ⟨b, 11, none⟩ = some (peek w b 11) ∧ (∀ i, w.frozen? ⟨b, i, none⟩ = false) ∧ OS w0 b g [x0, x1, x2, x3, x4, x5, x6, x7, x8, x9] w)) : LibsA w := (os_ofA h).libs
theorem os_allB {w0 : World} {b g : Nat} {x0 x1 : ByteArray} {w : World} (h : OS w0 b g [x0, x1] w) : (w.cell? ⟨g, 0, none⟩ = some (.string x0) ∧ w.cell? ⟨g, 1, none⟩ = some (.string x1) ∧ w.cell? ⟨b, 0, none⟩ = some (peek w b 0) ∧ w.cell? ⟨b, 1, none⟩ = some (peek w b 1) ∧ w.cell? ⟨b, 2, none⟩ = some (peek w b 2) ∧ w.cell? ⟨b, 3, none⟩ = some (peek w b 3) ∧ w.cell? ⟨b, 4, none⟩ = some (peek w b 4) ∧ w.cell? ⟨b, 5, none⟩ = some (peek w b 5) ∧ w.cell? ⟨b, 6, none⟩ = some (peek w b 6) ∧ w.cell? ⟨b, 7, none⟩ = some (peek w b 7) ∧ w.cell? ⟨b, 8, none⟩ = some (peek w b 8) ∧ w.cell? ⟨b, 9, none⟩ = some (peek w b 9) ∧ w.cell? ⟨b, 10, none⟩ = some (peek w b 10) ∧ w.cell? ⟨b, 11, none⟩ = some (peek w b 11) ∧ (∀ i, w.frozen? ⟨b, i, none⟩ = false) ∧ OS w0 b g [x0, x1] w) := by
  have c : ∀ j x, ([x0, x1] : List ByteArray)[j]? = some x → w.cell? ⟨g, j, none⟩ = some (.string x) := fun j x hj => by have := h.words.2 j x hj; rwa [Nat.zero_add] at this
  exact ⟨c 0 x0 rfl, c 1 x1 rfl, peek_is (h.there 0 (by omega)), peek_is (h.there 1 (by omega)), peek_is (h.there 2 (by omega)), peek_is (h.there 3 (by omega)), peek_is (h.there 4 (by omega)), peek_is (h.there 5 (by omega)), peek_is (h.there 6 (by omega)), peek_is (h.there 7 (by omega)), peek_is (h.there 8 (by omega)), peek_is (h.there 9 (by omega)), peek_is (h.there 10 (by omega)), peek_is (h.there 11 (by omega)), h.free, h⟩
theorem os_ofB {w0 : World} {b g : Nat} {x0 x1 : ByteArray} {w : World} (h : (w.cell? ⟨g, 0, none⟩ = some (.string x0) ∧ w.cell? ⟨g, 1, none⟩ = some (.string x1) ∧ w.cell? ⟨b, 0, none⟩ = some (peek w b 0) ∧ w.cell? ⟨b, 1, none⟩ = some (peek w b 1) ∧ w.cell? ⟨b, 2, none⟩ = some (peek w b 2) ∧ w.cell? ⟨b, 3, none⟩ = some (peek w b 3) ∧ w.cell? ⟨b, 4, none⟩ = some (peek w b 4) ∧ w.cell? ⟨b, 5, none⟩ = some (peek w b 5) ∧ w.cell? ⟨b, 6, none⟩ = some (peek w b 6) ∧ w.cell? ⟨b, 7, none⟩ = some (peek w b 7) ∧ w.cell? ⟨b, 8, none⟩ = some (peek w b 8) ∧ w.cell? ⟨b, 9, none⟩ = some (peek w b 9) ∧ w.cell? ⟨b, 10, none⟩ = some (peek w b 10) ∧ w.cell? ⟨b, 11, none⟩ = some (peek w b 11) ∧ (∀ i, w.frozen? ⟨b, i, none⟩ = false) ∧ OS w0 b g [x0, x1] w)) : OS w0 b g [x0, x1] w := h.2.2.2.2.2.2.2.2.2.2.2.2.2.2.2
theorem os_keepB {w0 : World} {b g : Nat} {x0 x1 : ByteArray} {w w' : World} (h : (w.cell? ⟨g, 0, none⟩ = some (.string x0) ∧ w.cell? ⟨g, 1, none⟩ = some (.string x1) ∧ w.cell? ⟨b, 0, none⟩ = some (peek w b 0) ∧ w.cell? ⟨b, 1, none⟩ = some (peek w b 1) ∧ w.cell? ⟨b, 2, none⟩ = some (peek w b 2) ∧ w.cell? ⟨b, 3, none⟩ = some (peek w b 3) ∧ w.cell? ⟨b, 4, none⟩ = some (peek w b 4) ∧ w.cell? ⟨b, 5, none⟩ = some (peek w b 5) ∧ w.cell? ⟨b, 6, none⟩ = some (peek w b 6) ∧ w.cell? ⟨b, 7, none⟩ = some (peek w b 7) ∧ w.cell? ⟨b, 8, none⟩ = some (peek w b 8) ∧ w.cell? ⟨b, 9, none⟩ = some (peek w b 9) ∧ w.cell? ⟨b, 10, none⟩ = some (peek w b 10) ∧ w.cell? ⟨b, 11, none⟩ = some (peek w b 11) ∧ (∀ i, w.frozen? ⟨b, i, none⟩ = false) ∧ OS w0 b g [x0, x1] w)) (hb : Below w.heap.size w w') : (w'.cell? ⟨g, 0, none⟩ = some (.string x0) ∧ w'.cell? ⟨g, 1, none⟩ = some (.string x1) ∧ w'.cell? ⟨b, 0, none⟩ = some (peek w' b 0) ∧ w'.cell? ⟨b, 1, none⟩ = some (peek w' b 1) ∧ w'.cell? ⟨b, 2, none⟩ = some (peek w' b 2) ∧ w'.cell? ⟨b, 3, none⟩ = some (peek w' b 3) ∧ w'.cell? ⟨b, 4, none⟩ = some (peek w' b 4) ∧ w'.cell? ⟨b, 5, none⟩ = some (peek w' b 5) ∧ w'.cell? ⟨b, 6, none⟩ = some (peek w' b 6) ∧ w'.cell? ⟨b, 7, none⟩ = some (peek w' b 7) ∧ w'.cell? ⟨b, 8, none⟩ = some (peek w' b 8) ∧ w'.cell? ⟨b, 9, none⟩ = some (peek w' b 9) ∧ w'.cell? ⟨b, 10, none⟩ = some (peek w' b 10) ∧ w'.cell? ⟨b, 11, none⟩ = some (peek w' b 11) ∧ (∀ i, w'.frozen? ⟨b, i, none⟩ = false) ∧ OS w0 b g [x0, x1] w') := os_allB ((os_ofB h).on hb)
theorem os_drewB {w0 : World} {b g : Nat} {x0 x1 : ByteArray} {w : World} (h : OS w0 b g [x0, x1] w) : (w.drew.cell? ⟨g, 0, none⟩ = some (.string x0) ∧ w.drew.cell? ⟨g, 1, none⟩ = some (.string x1) ∧ w.drew.cell? ⟨b, 0, none⟩ = some (peek w.drew b 0) ∧ w.drew.cell? ⟨b, 1, none⟩ = some (peek w.drew b 1) ∧ w.drew.cell? ⟨b, 2, none⟩ = some (peek w.drew b 2) ∧ w.drew.cell? ⟨b, 3, none⟩ = some (peek w.drew b 3) ∧ w.drew.cell? ⟨b, 4, none⟩ = some (peek w.drew b 4) ∧ w.drew.cell? ⟨b, 5, none⟩ = some (peek w.drew b 5) ∧ w.drew.cell? ⟨b, 6, none⟩ = some (peek w.drew b 6) ∧ w.drew.cell? ⟨b, 7, none⟩ = some (peek w.drew b 7) ∧ w.drew.cell? ⟨b, 8, none⟩ = some (peek w.drew b 8) ∧ w.drew.cell? ⟨b, 9, none⟩ = some (peek w.drew b 9) ∧ w.drew.cell? ⟨b, 10, none⟩ = some (peek w.drew b 10) ∧ w.drew.cell? ⟨b, 11, none⟩ = some (peek w.drew b 11) ∧ (∀ i, w.drew.frozen? ⟨b, i, none⟩ = false) ∧ OS w0 b g [x0, x1] w.drew) := os_allB (h.on (Below.refl _ _).drew)
theorem os_setB {w0 : World} {b g : Nat} {x0 x1 : ByteArray} {w : World} {iw : Nat} {u : Value} (h : OS w0 b g [x0, x1] (w.setCell ⟨b, iw, none⟩ u)) : ((w.setCell ⟨b, iw, none⟩ u).cell? ⟨g, 0, none⟩ = some (.string x0) ∧ (w.setCell ⟨b, iw, none⟩ u).cell? ⟨g, 1, none⟩ = some (.string x1) ∧ (w.setCell ⟨b, iw, none⟩ u).cell? ⟨b, 0, none⟩ = some (peek (w.setCell ⟨b, iw, none⟩ u) b 0) ∧ (w.setCell ⟨b, iw, none⟩ u).cell? ⟨b, 1, none⟩ = some (peek (w.setCell ⟨b, iw, none⟩ u) b 1) ∧ (w.setCell ⟨b, iw, none⟩ u).cell? ⟨b, 2, none⟩ = some (peek (w.setCell ⟨b, iw, none⟩ u) b 2) ∧ (w.setCell ⟨b, iw, none⟩ u).cell? ⟨b, 3, none⟩ = some (peek (w.setCell ⟨b, iw, none⟩ u) b 3) ∧ (w.setCell ⟨b, iw, none⟩ u).cell? ⟨b, 4, none⟩ = some (peek (w.setCell ⟨b, iw, none⟩ u) b 4) ∧ (w.setCell ⟨b, iw, none⟩ u).cell? ⟨b, 5, none⟩ = some (peek (w.setCell ⟨b, iw, none⟩ u) b 5) ∧ (w.setCell ⟨b, iw, none⟩ u).cell? ⟨b, 6, none⟩ = some (peek (w.setCell ⟨b, iw, none⟩ u) b 6) ∧ (w.setCell ⟨b, iw, none⟩ u).cell? ⟨b, 7, none⟩ = some (peek (w.setCell ⟨b, iw, none⟩ u) b 7) ∧ (w.setCell ⟨b, iw, none⟩ u).cell? ⟨b, 8, none⟩ = some (peek (w.setCell ⟨b, iw, none⟩ u) b 8) ∧ (w.setCell ⟨b, iw, none⟩ u).cell? ⟨b, 9, none⟩ = some (peek (w.setCell ⟨b, iw, none⟩ u) b 9) ∧ (w.setCell ⟨b, iw, none⟩ u).cell? ⟨b, 10, none⟩ = some (peek (w.setCell ⟨b, iw, none⟩ u) b 10) ∧ (w.setCell ⟨b, iw, none⟩ u).cell? ⟨b, 11, none⟩ = some (peek (w.setCell ⟨b, iw, none⟩ u) b 11) ∧ (∀ i, (w.setCell ⟨b, iw, none⟩ u).frozen? ⟨b, i, none⟩ = false) ∧ OS w0 b g [x0, x1] (w.setCell ⟨b, iw, none⟩ u)) := os_allB h
theorem os_libsB {w0 : World} {b g : Nat} {x0 x1 : ByteArray} {w : World} (h : (w.cell? ⟨g, 0, none⟩ = some (.string x0) ∧ w.cell? ⟨g, 1, none⟩ = some (.string x1) ∧ w.cell? ⟨b, 0, none⟩ = some (peek w b 0) ∧ w.cell? ⟨b, 1, none⟩ = some (peek w b 1) ∧ w.cell? ⟨b, 2, none⟩ = some (peek w b 2) ∧ w.cell? ⟨b, 3, none⟩ = some (peek w b 3) ∧ w.cell? ⟨b, 4, none⟩ = some (peek w b 4) ∧ w.cell? ⟨b, 5, none⟩ = some (peek w b 5) ∧ w.cell? ⟨b, 6, none⟩ = some (peek w b 6) ∧ w.cell? ⟨b, 7, none⟩ = some (peek w b 7) ∧ w.cell? ⟨b, 8, none⟩ = some (peek w b 8) ∧ w.cell? ⟨b, 9, none⟩ = some (peek w b 9) ∧ w.cell? ⟨b, 10, none⟩ = some (peek w b 10) ∧ w.cell? ⟨b, 11, none⟩ = some (peek w b 11) ∧ (∀ i, w.frozen? ⟨b, i, none⟩ = false) ∧ OS w0 b g [x0, x1] w)) : LibsA w := (os_ofB h).libs
/-- What a reader of words must make of an event's. -/
def ToldW (ws : List ByteArray) (e : E) : Prop := ∀ e', Ev.may e' → ws.map (·.data.toList) = wordsOf e' → e = e'
theorem wordL_text {x : List UInt8} (h : x = [] ∨ nameB x = true ∨ Lst x) : (95 : UInt8) ∉ x := by
  rcases h with h | h | h
  · rw [h]; simp
  · exact name_no h (by decide)
  · exact lst_no h (by decide) (by decide)
theorem toldW_put {x0 x1 x2 x3 x4 x5 x6 x7 x8 x9 : ByteArray} {n1 n5 n6 n7 : Int} {t2 t3 t4 t8 : ByteArray} (h1 : IsNum x1 n1) (h5 : IsNum x5 n5) (h6 : IsNum x6 n6) (h7 : IsNum x7 n7) (h2 : IsText x2 t2) (h3 : IsText x3 t3) (h4 : IsText x4 t4) (h8 : IsText x8 t8) :
    ToldW [x0, x1, x2, x3, x4, x5, x6, x7, x8, x9] ⟨1, ⟨n1, t2, t3, t4, n5, n6, n7, t8, x9.toList == [49]⟩, 0, 0⟩ := by
  intro e' hm hw
  obtain ⟨k, ⟨f1, f2, f3, f4, f5, f6, f7, f8, f9⟩, i, t⟩ := e'
  unfold wordsOf putWs at hw
  simp only at hw
  rcases hm with ⟨hk, ⟨⟨o1, o5, o6, o7⟩, hc, hs, hr, hl⟩, hi, ht⟩ | ⟨hk, _, hi, ht⟩ | ⟨hk, _, hi, ht⟩ <;> simp only at * <;> subst hk
  · subst hi; subst ht
    rw [if_pos rfl] at hw
    simp only [List.map_cons, List.map_nil, List.cons.injEq, and_true] at hw
    obtain ⟨e0, e1, e2, e3, e4, e5, e6, e7, e8, e9⟩ := hw
    have nn : ∀ {x : List UInt8}, nameB x = true → x = wordL x := fun {x} h => (if_neg (name_ne h)).symm
    have r2 := bytes_eq (h2.2 _ (wordL_text (.inr (.inl hc))) (e2.trans (nn hc)))
    have r3 := bytes_eq (h3.2 _ (wordL_text (.inr (.inl hs))) (e3.trans (nn hs)))
    have r4 := bytes_eq (h4.2 _ (wordL_text (.inr (.inr hl))) e4)
    have r8 := bytes_eq (h8.2 _ (wordL_text (hr.imp id .inl)) e8)
    have r9 : (x9.toList == [49]) = f9 := by
      rw [ByteArray.toList_eq, e9]
      cases f9 <;> rfl
    rw [h1 _ o1 e1, h5 _ o5 e5, h6 _ o6 e6, h7 _ o7 e7, r2, r3, r4, r8, r9]
  · simp at hw
  · simp at hw
theorem toldW_drop {x0 x1 : ByteArray} {n1 : Int} (h0 : x0.data.toList = [100]) (h1 : IsNum x1 n1) : ToldW [x0, x1] ⟨2, zeroF, n1, 0⟩ := by
  intro e' hm hw
  obtain ⟨k, f, i, t⟩ := e'
  unfold wordsOf putWs at hw
  simp only at hw
  rcases hm with ⟨hk, _, hi, ht⟩ | ⟨hk, hf, hi, ht⟩ | ⟨hk, _, hi, ht⟩ <;> simp only at * <;> subst hk
  · simp at hw
  · subst hf; subst ht
    simp at hw
    rw [h1 _ hi hw.2]
  · simp [h0] at hw
theorem toldW_clock {x0 x1 : ByteArray} {n1 : Int} (h0 : x0.data.toList = [99]) (h1 : IsNum x1 n1) : ToldW [x0, x1] ⟨3, zeroF, 0, n1⟩ := by
  intro e' hm hw
  obtain ⟨k, f, i, t⟩ := e'
  unfold wordsOf putWs at hw
  simp only at hw
  rcases hm with ⟨hk, _, hi, ht⟩ | ⟨hk, hf, hi, ht⟩ | ⟨hk, hf, hi, ht⟩ <;> simp only at * <;> subst hk
  · simp at hw
  · simp [h0] at hw
  · subst hf; subst hi
    simp at hw
    rw [h1 _ ht hw.2]
theorem toldW_no {ws : List ByteArray} {x0 : ByteArray} (h0 : ws[0]? = some x0) (hp : x0.data.toList = [112] → ws.length ≠ 10) (hd : x0.data.toList = [100] → ws.length ≠ 2) (hc : x0.data.toList = [99] → ws.length ≠ 2) (e : E) : ToldW ws e := by
  intro e' hm hw
  exfalso
  obtain ⟨k, f, i, t⟩ := e'
  have hl := congrArg List.length hw
  have hz := congrArg (fun l => l[0]?) hw
  rw [List.length_map] at hl
  simp only [List.getElem?_map, h0, Option.map_some] at hz
  unfold wordsOf putWs at hl hz
  simp only at hl hz
  rcases hm with ⟨hk, _⟩ | ⟨hk, _⟩ | ⟨hk, _⟩ <;> simp only at hk <;> subst hk
  · simp at hl hz
    exact hp hz hl
  · simp at hl hz
    exact hd hz hl
  · simp at hl hz
    exact hc hz hl
end Go.Proofs.YtibelcnjmpedkaaGreatDoor
