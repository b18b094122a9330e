/-
  Own texts put together: EvRefRead1.
-/
import Derived.Test.YtlailakofhenkaaGreatDoorB10
import Derived.Test.YtlailakofhenkaaGreatDoorB12
/-
  A line as the document's answer reads it: what it goes by, and its two closures.
-/

namespace Go.Proofs.YtlailakofhenkaaGreatDoor
open Go Go.RowKit Tok Sc Ev
/-- The words in a row, the event's box, the words' box, the result's box. -/
structure RS (w0 : World) (b0 q b g c : Nat) (ws : List ByteArray) (w' : World) : Prop where
  os : OS w0 b g ws w'
  box : w'.cell? ⟨q, 0, none⟩ = some (.slice (some ⟨g, 0, none⟩) ws.length c)
  qlt : q < w'.heap.size
  qb : q ≠ b
  res : EvAt w' b0 zeroE
  free : ∀ i, w'.frozen? ⟨b0, i, none⟩ = false
  b0b : b0 ≠ b
theorem RS.on {w0 : World} {b0 q b g c : Nat} {ws : List ByteArray} {w w' : World} (h : RS w0 b0 q b g c ws w) (hb : Below w.heap.size w w') : RS w0 b0 q b g c ws w' where
  os := h.os.on hb
  box := (hb.cell (p := ⟨q, 0, none⟩) h.qlt).trans h.box
  qlt := Nat.lt_of_lt_of_le h.qlt hb.size
  qb := h.qb
  res := h.res.on hb
  free := fun i => (hb.frozen (p := ⟨b0, i, none⟩) h.res.lt).trans (h.free i)
  b0b := h.b0b
theorem RS.set {w0 : World} {b0 q b g c : Nat} {ws : List ByteArray} {w : World} (h : RS w0 b0 q b g c ws w) (i : Nat) (v : Value) : RS w0 b0 q b g c ws (w.setCell ⟨b, i, none⟩ v) where
  os := h.os.set i v
  box := (World.cell?_setCell_other _ _ _ _ (by intro e; exact h.qb (congrArg Addr.block e).symm)).trans h.box
  qlt := by simpa using h.qlt
  qb := h.qb
  res := by
    have ho : ∀ j, (w.setCell ⟨b, i, none⟩ v).cell? ⟨b0, j, none⟩ = w.cell? ⟨b0, j, none⟩ := fun j => World.cell?_setCell_other _ _ _ _ (by intro e; exact h.b0b (congrArg Addr.block e).symm)
    have r := h.res
    refine ⟨by simpa using r.lt, (ho _).trans r.c0, ?_, (ho _).trans r.c10, (ho _).trans r.c11⟩
    constructor
    · exact (ho _).trans r.fam.c0
    · exact (ho _).trans r.fam.c1
    · exact (ho _).trans r.fam.c2
    · exact (ho _).trans r.fam.c3
    · exact (ho _).trans r.fam.c4
    · exact (ho _).trans r.fam.c5
    · exact (ho _).trans r.fam.c6
    · exact (ho _).trans r.fam.c7
    · exact (ho _).trans r.fam.c8
  free := fun j => by rw [World.frozen?_setCell]; exact h.free j
  b0b := h.b0b
set_option maxHeartbeats 1000000 in
theorem num_is (k : Nat) (kI : Int) (hkk : kI = k) (x : ByteArray) (q g n c : Nat) (w : World) (hq : w.cell? ⟨q, 0, none⟩ = some (.slice (some ⟨g, 0, none⟩) n c)) (hc : w.cell? ⟨g, k, none⟩ = some (.string x)) (hk : k < n) (hs : x.size ≤ 5000) (hL : LibsA w) :
    Calls Tryz.prog 61 #[.int .i64 kI, .pointer (some ⟨q, 0, none⟩)] w fun e w' => ∃ v, e = .returned (.int .i64 v) ∧ Below w.heap.size w w' ∧ IsNum x v := by
  subst hkk
  have HL : Hid (LibsA w) := hL
  have hkI : (k : Int) < (n : Int) := by omega
  clear hL
  go_enter Tryz.func61, Tryz.ntmps61
  go_wp2_with fail
  refine (atoiE_any x _ (by omega) HL.out).mono ?_
  rintro e w' ⟨v, err, rfl, hb, hv⟩
  have HB : Hid (Below w.heap.size w w') := hb
  have HV : Hid (IsNum x v) := hv
  clear hb hv
  go_wp2_with fail
  go_ret
  exact ⟨v, rfl, HB.out, HV.out⟩
set_option maxHeartbeats 1000000 in
theorem text_is (k : Nat) (kI : Int) (hkk : kI = k) (x : ByteArray) (q g n c : Nat) (w : World) (hq : w.cell? ⟨q, 0, none⟩ = some (.slice (some ⟨g, 0, none⟩) n c)) (hc : w.cell? ⟨g, k, none⟩ = some (.string x)) (hk : k < n) :
    Calls Tryz.prog 62 #[.int .i64 kI, .pointer (some ⟨q, 0, none⟩)] w fun e w' => ∃ t, e = .returned (.string t) ∧ w' = w ∧ IsText x t := by
  subst hkk
  have hkI : (k : Int) < (n : Int) := by omega
  by_cases h : x = ⟨#[95]⟩
  · subst h
    go_enter Tryz.func62, Tryz.ntmps62
    go_wp2_with fail
    go_ret
    exact ⟨_, rfl, rfl, isText_yes⟩
  · have hne : (x.toList == [95]) = false := by
      rw [beq_eq_false_iff_ne, ByteArray.toList_eq]
      intro he
      exact h (bytes_eq he)
    have HT : Hid (IsText x x) := isText_no h
    clear h
    go_enter Tryz.func62, Tryz.ntmps62
    go_wp2_with fail
    go_ret
    exact ⟨x, rfl, rfl, HT.out⟩
theorem toldR_put {x0 x1 x2 x3 x4 x5 x6 x7 x8 x9 : ByteArray} {n1 n5 n6 n7 : Int} {t4 t8 : ByteArray} (h1 : IsNum x1 n1) (h5 : IsNum x5 n5) (h6 : IsNum x6 n6) (h7 : IsNum x7 n7) (h4 : IsText x4 t4) (h8 : IsText x8 t8) :
    ToldW [x0, x1, x2, x3, x4, x5, x6, x7, x8, x9] ⟨1, ⟨n1, x2, x3, t4, n5, n6, n7, t8, x9.toList == [49]⟩, 0, 0⟩ := by
  intro e' hm hw
  obtain ⟨k, ⟨f1, f2, f3, f4, f5, f6, f7, f8, f9⟩, i, t⟩ := e'
  unfold wordsOf putWs at hw
  simp only at hw
  rcases hm with ⟨hk, ⟨⟨o1, o5, o6, o7⟩, hc, hs, hr, hl⟩, hi, ht⟩ | ⟨hk, _, hi, ht⟩ | ⟨hk, _, hi, ht⟩ <;> simp only at * <;> subst hk
  · subst hi; subst ht
    rw [if_pos rfl] at hw
    simp only [List.map_cons, List.map_nil, List.cons.injEq, and_true] at hw
    obtain ⟨e0, e1, e2, e3, e4, e5, e6, e7, e8, e9⟩ := hw
    have r4 := bytes_eq (h4.2 _ (wordL_text (.inr (.inr hl))) e4)
    have r8 := bytes_eq (h8.2 _ (wordL_text (hr.imp id .inl)) e8)
    have r9 : (x9.toList == [49]) = f9 := by
      rw [ByteArray.toList_eq, e9]
      cases f9 <;> rfl
    rw [h1 _ o1 e1, h5 _ o5 e5, h6 _ o6 e6, h7 _ o7 e7, bytes_eq e2, bytes_eq e3, r4, r8, r9]
  · simp at hw
  · simp at hw
theorem toldR_clock {x0 x1 : ByteArray} {n1 : Int} (h0 : x0.data.toList ≠ [100]) (h1 : IsNum x1 n1) : ToldW [x0, x1] ⟨3, zeroF, 0, n1⟩ := by
  intro e' hm hw
  obtain ⟨k, f, i, t⟩ := e'
  unfold wordsOf putWs at hw
  simp only at hw
  rcases hm with ⟨hk, _, hi, ht⟩ | ⟨hk, hf, hi, ht⟩ | ⟨hk, hf, hi, ht⟩ <;> simp only at * <;> subst hk
  · simp at hw
  · simp [h0] at hw
  · subst hf; subst hi
    simp at hw
    rw [h1 _ ht hw.2]
theorem toldR_no {ws : List ByteArray} (h10 : ws.length ≠ 10) (h2 : ws.length ≠ 2) (e : E) : ToldW ws e := by
  intro e' hm hw
  exfalso
  obtain ⟨k, f, i, t⟩ := e'
  have hl := congrArg List.length hw
  rw [List.length_map] at hl
  unfold wordsOf putWs at hl
  simp only at hl
  rcases hm with ⟨hk, _⟩ | ⟨hk, _⟩ | ⟨hk, _⟩ <;> simp only at hk <;> subst hk
  · simp at hl
    exact h10 hl
  · simp at hl
    exact h2 hl
  · simp at hl
    exact h2 hl
theorem rs_all {w0 : World} {b0 q b g c : Nat} {x0 x1 x2 x3 x4 x5 x6 x7 x8 x9 : ByteArray} {w : World} (h : RS w0 b0 q b g c [x0, x1, x2, x3, x4, x5, x6, x7, x8, x9] w) : (w.cell? ⟨g, 0, none⟩ = some (.string x0) ∧ w.cell? ⟨g, 1, none⟩ = some (.string x1) ∧ w.cell? ⟨g, 2, none⟩ = some (.string x2) ∧ w.cell? ⟨g, 3, none⟩ = some (.string x3) ∧ w.cell? ⟨g, 4, none⟩ = some (.string x4) ∧ w.cell? ⟨g, 5, none⟩ = some (.string x5) ∧ w.cell? ⟨g, 6, none⟩ = some (.string x6) ∧ w.cell? ⟨g, 7, none⟩ = some (.string x7) ∧ w.cell? ⟨g, 8, none⟩ = some (.string x8) ∧ w.cell? ⟨g, 9, none⟩ = some (.string x9) ∧ w.cell? ⟨b, 0, none⟩ = some (peek w b 0) ∧ w.cell? ⟨b, 1, none⟩ = some (peek w b 1) ∧ w.cell? ⟨b, 2, none⟩ = some (peek w b 2) ∧ w.cell? ⟨b, 3, none⟩ = some (peek w b 3) ∧ w.cell? ⟨b, 4, none⟩ = some (peek w b 4) ∧ w.cell? ⟨b, 5, none⟩ = some (peek w b 5) ∧ w.cell? ⟨b, 6, none⟩ = some (peek w b 6) ∧ w.cell? ⟨b, 7, none⟩ = some (peek w b 7) ∧ w.cell? ⟨b, 8, none⟩ = some (peek w b 8) ∧ w.cell? ⟨b, 9, none⟩ = some (peek w b 9) ∧ w.cell? ⟨b, 10, none⟩ = some (peek w b 10) ∧ w.cell? ⟨b, 11, none⟩ = some (peek w b 11) ∧ w.cell? ⟨q, 0, none⟩ = some (.slice (some ⟨g, 0, none⟩) 10 c) ∧ (∀ i, w.frozen? ⟨b, i, none⟩ = false) ∧ RS w0 b0 q b g c [x0, x1, x2, x3, x4, x5, x6, x7, x8, x9] w) := by
  have d : ∀ j x, ([x0, x1, x2, x3, x4, x5, x6, x7, x8, x9] : List ByteArray)[j]? = some x → w.cell? ⟨g, j, none⟩ = some (.string x) := fun j x hj => by have := h.os.words.2 j x hj; rwa [Nat.zero_add] at this
  exact ⟨d 0 x0 rfl, d 1 x1 rfl, d 2 x2 rfl, d 3 x3 rfl, d 4 x4 rfl, d 5 x5 rfl, d 6 x6 rfl, d 7 x7 rfl, d 8 x8 rfl, d 9 x9 rfl, peek_is (h.os.there 0 (by omega)), peek_is (h.os.there 1 (by omega)), peek_is (h.os.there 2 (by omega)), peek_is (h.os.there 3 (by omega)), peek_is (h.os.there 4 (by omega)), peek_is (h.os.there 5 (by omega)), peek_is (h.os.there 6 (by omega)), peek_is (h.os.there 7 (by omega)), peek_is (h.os.there 8 (by omega)), peek_is (h.os.there 9 (by omega)), peek_is (h.os.there 10 (by omega)), peek_is (h.os.there 11 (by omega)), h.box, h.os.free, h⟩
theorem rs_of {w0 : World} {b0 q b g c : Nat} {x0 x1 x2 x3 x4 x5 x6 x7 x8 x9 : ByteArray} {w : World} (h : (w.cell? ⟨g, 0, none⟩ = some (.string x0) ∧ w.cell? ⟨g, 1, none⟩ = some (.string x1) ∧ w.cell? ⟨g, 2, none⟩ = some (.string x2) ∧ w.cell? ⟨g, 3, none⟩ = some (.string x3) ∧ w.cell? ⟨g, 4, none⟩ = some (.string x4) ∧ w.cell? ⟨g, 5, none⟩ = some (.string x5) ∧ w.cell? ⟨g, 6, none⟩ = some (.string x6) ∧ w.cell? ⟨g, 7, none⟩ = some (.string x7) ∧ w.cell? ⟨g, 8, none⟩ = some (.string x8) ∧ w.cell? ⟨g, 9, none⟩ = some (.string x9) ∧ w.cell? ⟨b, 0, none⟩ = some (peek w b 0) ∧ w.cell? ⟨b, 1, none⟩ = some (peek w b 1) ∧ w.cell? ⟨b, 2, none⟩ = some (peek w b 2) ∧ w.cell? ⟨b, 3, none⟩ = some (peek w b 3) ∧ w.cell? ⟨b, 4, none⟩ = some (peek w b 4) ∧ w.cell? ⟨b, 5, none⟩ = some (peek w b 5) ∧ w.cell? ⟨b, 6, none⟩ = some (peek w b 6) ∧ w.cell? ⟨b, 7, none⟩ = some (peek w b 7) ∧ w.cell? ⟨b, 8, none⟩ = some (peek w b 8) ∧ w.cell? ⟨b, 9, none⟩ = some (peek w b 9) ∧ w.cell? ⟨b, 10, none⟩ = some (peek w b 10) ∧ w.cell? ⟨b, 11, none⟩ = some (peek w b 11) ∧ w.cell? ⟨q, 0, none⟩ = some (.slice (some ⟨g, 0, none⟩) 10 c) ∧ (∀ i, w.frozen? ⟨b, i, none⟩ = false) ∧ RS w0 b0 q b g c [x0, x1, x2, x3, x4, x5, x6, x7, x8, x9] w)) : RS w0 b0 q b g c [x0, x1, x2, x3, x4, x5, x6, x7, x8, x9] w := h.2.2.2.2.2.2.2.2.2.2.2.2.2.2.2.2.2.2.2.2.2.2.2.2
theorem rs_keep {w0 : World} {b0 q b g c : Nat} {x0 x1 x2 x3 x4 x5 x6 x7 x8 x9 : ByteArray} {w w' : World} (h : (w.cell? ⟨g, 0, none⟩ = some (.string x0) ∧ w.cell? ⟨g, 1, none⟩ = some (.string x1) ∧ w.cell? ⟨g, 2, none⟩ = some (.string x2) ∧ w.cell? ⟨g, 3, none⟩ = some (.string x3) ∧ w.cell? ⟨g, 4, none⟩ = some (.string x4) ∧ w.cell? ⟨g, 5, none⟩ = some (.string x5) ∧ w.cell? ⟨g, 6, none⟩ = some (.string x6) ∧ w.cell? ⟨g, 7, none⟩ = some (.string x7) ∧ w.cell? ⟨g, 8, none⟩ = some (.string x8) ∧ w.cell? ⟨g, 9, none⟩ = some (.string x9) ∧ w.cell? ⟨b, 0, none⟩ = some (peek w b 0) ∧ w.cell? ⟨b, 1, none⟩ = some (peek w b 1) ∧ w.cell? ⟨b, 2, none⟩ = some (peek w b 2) ∧ w.cell? ⟨b, 3, none⟩ = some (peek w b 3) ∧ w.cell? ⟨b, 4, none⟩ = some (peek w b 4) ∧ w.cell? ⟨b, 5, none⟩ = some (peek w b 5) ∧ w.cell? ⟨b, 6, none⟩ = some (peek w b 6) ∧ w.cell? ⟨b, 7, none⟩ = some (peek w b 7) ∧ w.cell? ⟨b, 8, none⟩ = some (peek w b 8) ∧ w.cell? ⟨b, 9, none⟩ = some (peek w b 9) ∧ w.cell? ⟨b, 10, none⟩ = some (peek w b 10) ∧ w.cell? ⟨b, 11, none⟩ = some (peek w b 11) ∧ w.cell? ⟨q, 0, none⟩ = some (.slice (some ⟨g, 0, none⟩) 10 c) ∧ (∀ i, w.frozen? ⟨b, i, none⟩ = false) ∧ RS w0 b0 q b g c [x0, x1, x2, x3, x4, x5, x6, x7, x8, x9] w)) (hb : Below w.heap.size w w') : (w'.cell? ⟨g, 0, none⟩ = some (.string x0) ∧ w'.cell? ⟨g, 1, none⟩ = some (.string x1) ∧ w'.cell? ⟨g, 2, none⟩ = some (.string x2) ∧ w'.cell? ⟨g, 3, none⟩ = some (.string x3) ∧ w'.cell? ⟨g, 4, none⟩ = some (.string x4) ∧ w'.cell? ⟨g, 5, none⟩ = some (.string x5) ∧ w'.cell? ⟨g, 6, none⟩ = some (.string x6) ∧ w'.cell? ⟨g, 7, none⟩ = some (.string x7) ∧ w'.cell? ⟨g, 8, none⟩ = some (.string x8) ∧ w'.cell? ⟨g, 9, none⟩ = some (.string x9) ∧ w'.cell? ⟨b, 0, none⟩ = some (peek w' b 0) ∧ w'.cell? ⟨b, 1, none⟩ = some (peek w' b 1) ∧ w'.cell? ⟨b, 2, none⟩ = some (peek w' b 2) ∧ w'.cell? ⟨b, 3, none⟩ = some (peek w' b 3) ∧ w'.cell? ⟨b, 4, none⟩ = some (peek w' b 4) ∧ w'.cell? ⟨b, 5, none⟩ = some (peek w' b 5) ∧ w'.cell? ⟨b, 6, none⟩ = some (peek w' b 6) ∧ w'.cell? ⟨b, 7, none⟩ = some (peek w' b 7) ∧ w'.cell? ⟨b, 8, none⟩ = some (peek w' b 8) ∧ w'.cell? ⟨b, 9, none⟩ = some (peek w' b 9) ∧ w'.cell? ⟨b, 10, none⟩ = some (peek w' b 10) ∧ w'.cell? ⟨b, 11, none⟩ = some (peek w' b 11) ∧ w'.cell? ⟨q, 0, none⟩ = some (.slice (some ⟨g, 0, none⟩) 10 c) ∧ (∀ i, w'.frozen? ⟨b, i, none⟩ = false) ∧ RS w0 b0 q b g c [x0, x1, x2, x3, x4, x5, x6, x7, x8, x9] w') := rs_all ((rs_of h).on hb)
theorem rs_drew {w0 : World} {b0 q b g c : Nat} {x0 x1 x2 x3 x4 x5 x6 x7 x8 x9 : ByteArray} {w : World} (h : RS w0 b0 q b g c [x0, x1, x2, x3, x4, x5, x6, x7, x8, x9] w) : (w.drew.cell? ⟨g, 0, none⟩ = some (.string x0) ∧ w.drew.cell? ⟨g, 1, none⟩ = some (.string x1) ∧ w.drew.cell? ⟨g, 2, none⟩ = some (.string x2) ∧ w.drew.cell? ⟨g, 3, none⟩ = some (.string x3) ∧ w.drew.cell? ⟨g, 4, none⟩ = some (.string x4) ∧ w.drew.cell? ⟨g, 5, none⟩ = some (.string x5) ∧ w.drew.cell? ⟨g, 6, none⟩ = some (.string x6) ∧ w.drew.cell? ⟨g, 7, none⟩ = some (.string x7) ∧ w.drew.cell? ⟨g, 8, none⟩ = some (.string x8) ∧ w.drew.cell? ⟨g, 9, none⟩ = some (.string x9) ∧ w.drew.cell? ⟨b, 0, none⟩ = some (peek w.drew b 0) ∧ w.drew.cell? ⟨b, 1, none⟩ = some (peek w.drew b 1) ∧ w.drew.cell? ⟨b, 2, none⟩ = some (peek w.drew b 2) ∧ w.drew.cell? ⟨b, 3, none⟩ = some (peek w.drew b 3) ∧ w.drew.cell? ⟨b, 4, none⟩ = some (peek w.drew b 4) ∧ w.drew.cell? ⟨b, 5, none⟩ = some (peek w.drew b 5) ∧ w.drew.cell? ⟨b, 6, none⟩ = some (peek w.drew b 6) ∧ w.drew.cell? ⟨b, 7, none⟩ = some (peek w.drew b 7) ∧ w.drew.cell? ⟨b, 8, none⟩ = some (peek w.drew b 8) ∧ w.drew.cell? ⟨b, 9, none⟩ = some (peek w.drew b 9) ∧ w.drew.cell? ⟨b, 10, none⟩ = some (peek w.drew b 10) ∧ w.drew.cell? ⟨b, 11, none⟩ = some (peek w.drew b 11) ∧ w.drew.cell? ⟨q, 0, none⟩ = some (.slice (some ⟨g, 0, none⟩) 10 c) ∧ (∀ i, w.drew.frozen? ⟨b, i, none⟩ = false) ∧ RS w0 b0 q b g c [x0, x1, x2, x3, x4, x5, x6, x7, x8, x9] w.drew) := rs_all (h.on (Below.refl _ _).drew)
theorem rs_set {w0 : World} {b0 q b g c : Nat} {x0 x1 x2 x3 x4 x5 x6 x7 x8 x9 : ByteArray} {w : World} {iw : Nat} {u : Value} (h : RS w0 b0 q b g c [x0, x1, x2, x3, x4, x5, x6, x7, x8, x9] (w.setCell ⟨b, iw, none⟩ u)) : ((w.setCell ⟨b, iw, none⟩ u).cell? ⟨g, 0, none⟩ = some (.string x0) ∧ (w.setCell ⟨b, iw, none⟩ u).cell? ⟨g, 1, none⟩ = some (.string x1) ∧ (w.setCell ⟨b, iw, none⟩ u).cell? ⟨g, 2, none⟩ = some (.string x2) ∧ (w.setCell ⟨b, iw, none⟩ u).cell? ⟨g, 3, none⟩ = some (.string x3) ∧ (w.setCell ⟨b, iw, none⟩ u).cell? ⟨g, 4, none⟩ = some (.string x4) ∧ (w.setCell ⟨b, iw, none⟩ u).cell? ⟨g, 5, none⟩ = some (.string x5) ∧ (w.setCell ⟨b, iw, none⟩ u).cell? ⟨g, 6, none⟩ = some (.string x6) ∧ (w.setCell ⟨b, iw, none⟩ u).cell? ⟨g, 7, none⟩ = some (.string x7) ∧ (w.setCell ⟨b, iw, none⟩ u).cell? ⟨g, 8, none⟩ = some (.string x8) ∧ (w.setCell ⟨b, iw, none⟩ u).cell? ⟨g, 9, none⟩ = some (.string x9) ∧ (w.setCell ⟨b, iw, none⟩ u).cell? ⟨b, 0, none⟩ = some (peek (w.setCell ⟨b, iw, none⟩ u) b 0) ∧ (w.setCell ⟨b, iw, none⟩ u).cell? ⟨b, 1, none⟩ = some (peek (w.setCell ⟨b, iw, none⟩ u) b 1) ∧ (w.setCell ⟨b, iw, none⟩ u).cell? ⟨b, 2, none⟩ = some (peek (w.setCell ⟨b, iw, none⟩ u) b 2) ∧ (w.setCell ⟨b, iw, none⟩ u).cell? ⟨b, 3, none⟩ = some (peek (w.setCell ⟨b, iw, none⟩ u) b 3) ∧ (w.setCell ⟨b, iw, none⟩ u).cell? ⟨b, 4, none⟩ = some (peek (w.setCell ⟨b, iw, none⟩ u) b 4) ∧ (w.setCell ⟨b, iw, none⟩ u).cell? ⟨b, 5, none⟩ = some (peek (w.setCell ⟨b, iw, none⟩ u) b 5) ∧ (w.setCell ⟨b, iw, none⟩ u).cell? ⟨b, 6, none⟩ = some (peek (w.setCell ⟨b, iw, none⟩ u) b 6) ∧ (w.setCell ⟨b, iw, none⟩ u).cell? ⟨b, 7, none⟩ = some (peek (w.setCell ⟨b, iw, none⟩ u) b 7) ∧ (w.setCell ⟨b, iw, none⟩ u).cell? ⟨b, 8, none⟩ = some (peek (w.setCell ⟨b, iw, none⟩ u) b 8) ∧ (w.setCell ⟨b, iw, none⟩ u).cell? ⟨b, 9, none⟩ = some (peek (w.setCell ⟨b, iw, none⟩ u) b 9) ∧ (w.setCell ⟨b, iw, none⟩ u).cell? ⟨b, 10, none⟩ = some (peek (w.setCell ⟨b, iw, none⟩ u) b 10) ∧ (w.setCell ⟨b, iw, none⟩ u).cell? ⟨b, 11, none⟩ = some (peek (w.setCell ⟨b, iw, none⟩ u) b 11) ∧ (w.setCell ⟨b, iw, none⟩ u).cell? ⟨q, 0, none⟩ = some (.slice (some ⟨g, 0, none⟩) 10 c) ∧ (∀ i, (w.setCell ⟨b, iw, none⟩ u).frozen? ⟨b, i, none⟩ = false) ∧ RS w0 b0 q b g c [x0, x1, x2, x3, x4, x5, x6, x7, x8, x9] (w.setCell ⟨b, iw, none⟩ u)) := rs_all h
theorem rs_libs {w0 : World} {b0 q b g c : Nat} {x0 x1 x2 x3 x4 x5 x6 x7 x8 x9 : ByteArray} {w : World} (h : (w.cell? ⟨g, 0, none⟩ = some (.string x0) ∧ w.cell? ⟨g, 1, none⟩ = some (.string x1) ∧ w.cell? ⟨g, 2, none⟩ = some (.string x2) ∧ w.cell? ⟨g, 3, none⟩ = some (.string x3) ∧ w.cell? ⟨g, 4, none⟩ = some (.string x4) ∧ w.cell? ⟨g, 5, none⟩ = some (.string x5) ∧ w.cell? ⟨g, 6, none⟩ = some (.string x6) ∧ w.cell? ⟨g, 7, none⟩ = some (.string x7) ∧ w.cell? ⟨g, 8, none⟩ = some (.string x8) ∧ w.cell? ⟨g, 9, none⟩ = some (.string x9) ∧ w.cell? ⟨b, 0, none⟩ = some (peek w b 0) ∧ w.cell? ⟨b, 1, none⟩ = some (peek w b 1) ∧ w.cell? ⟨b, 2, none⟩ = some (peek w b 2) ∧ w.cell? ⟨b, 3, none⟩ = some (peek w b 3) ∧ w.cell? ⟨b, 4, none⟩ = some (peek w b 4) ∧ w.cell? ⟨b, 5, none⟩ = some (peek w b 5) ∧ w.cell? ⟨b, 6, none⟩ = some (peek w b 6) ∧ w.cell? ⟨b, 7, none⟩ = some (peek w b 7) ∧ w.cell? ⟨b, 8, none⟩ = some (peek w b 8) ∧ w.cell? ⟨b, 9, none⟩ = some (peek w b 9) ∧ w.cell? ⟨b, 10, none⟩ = some (peek w b 10) ∧ w.cell? ⟨b, 11, none⟩ = some (peek w b 11) ∧ w.cell? ⟨q, 0, none⟩ = some (.slice (some ⟨g, 0, none⟩) 10 c) ∧ (∀ i, w.frozen? ⟨b, i, none⟩ = false) ∧ RS w0 b0 q b g c [x0, x1, x2, x3, x4, x5, x6, x7, x8, x9] w)) : LibsA w := (rs_of h).os.libs
end Go.Proofs.YtlailakofhenkaaGreatDoor
