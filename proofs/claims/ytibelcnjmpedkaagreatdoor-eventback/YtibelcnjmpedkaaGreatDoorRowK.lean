/-
  A slice that the call has made, its elements of k cells each, told by its cells. Of no program.
-/
import Derived.Test.YtibelcnjmpedkaaGreatDoorScRow
import Derived.Deep.AppendSrc
import Derived.Lib.AppendZeros
import Derived.Shelf.Spec.SlicesInsertGrow
namespace Go.Proofs.YtibelcnjmpedkaaGreatDoor
open Go Go.RowKit
structure RowK (k B : Nat) (w : World) (g c n : Nat) (cs : List Value) : Prop where
  new : B ≤ g
  lt : g < w.heap.size
  len : cs.length = n * k
  le : n ≤ c
  max : c ≤ maxLen
  one : ∀ u ∈ cs, u.oneCell' = true
  holds : ∀ j u, cs[j]? = some u → w.cell? ⟨g, j, none⟩ = some u
  there : ∀ j, j < c * k → (w.cell? ⟨g, j, none⟩).isSome = true ∧ w.frozen? ⟨g, j, none⟩ = false
theorem RowK.block {k B : Nat} {w w' : World} {g c n : Nat} {cs : List Value} (h : RowK k B w g c n cs) (hs : w.heap.size ≤ w'.heap.size) (hb : w'.heap[g]? = w.heap[g]?) : RowK k B w' g c n cs :=
  ⟨h.new, Nat.lt_of_lt_of_le h.lt hs, h.len, h.le, h.max, h.one, fun j u hj => (World.cell?_of_block (a := ⟨g, j, none⟩) hb).trans (h.holds j u hj),
    fun j hj => ⟨by rw [World.cell?_of_block (a := ⟨g, j, none⟩) hb]; exact (h.there j hj).1, (World.frozen?_of_block (a := ⟨g, j, none⟩) hb).trans (h.there j hj).2⟩⟩
theorem RowK.below {k B B' : Nat} {w w' : World} {g c n : Nat} {cs : List Value} (h : RowK k B w g c n cs) (hb : Below B' w w') (hg : g < B') : RowK k B w' g c n cs := h.block hb.size (hb.block g hg)
theorem RowK.mono {k B B' : Nat} {w : World} {g c n : Nat} {cs : List Value} (h : RowK k B w g c n cs) (hB : B' ≤ B) : RowK k B' w g c n cs := { h with new := Nat.le_trans hB h.new }
/-- Some cells set: of the row so made, what it holds. -/
theorem RowK.setCells {k B : Nat} {w : World} {g c n n' : Nat} {cs cs' : List Value} (h : RowK k B w g c n cs) (o : Nat) (vs : List Value) (ho : o + vs.length ≤ c * k) (hn : n' ≤ c) (hl : cs'.length = n' * k) (h1 : ∀ u ∈ cs', u.oneCell' = true)
    (hh : ∀ j u, cs'[j]? = some u → (o ≤ j ∧ j < o + vs.length → vs[j - o]? = some u) ∧ (¬ (o ≤ j ∧ j < o + vs.length) → w.cell? ⟨g, j, none⟩ = some u)) : RowK k B (w.setCells g o vs) g c n' cs' := by
  have hthere : ∀ j, j < vs.length → (w.cell? ⟨g, o + j, none⟩).isSome = true := fun j hj => (h.there (o + j) (by omega)).1
  refine ⟨h.new, ?_, hl, hn, h.max, h1, fun j u hj => ?_, fun j hj => ⟨?_, ?_⟩⟩
  · have hb := below_setCellsW (B := 0) (Nat.zero_le g) vs o w
    exact Nat.lt_of_lt_of_le h.lt hb.size
  · by_cases hin : o ≤ j ∧ j < o + vs.length
    · obtain ⟨d, rfl⟩ : ∃ d, j = o + d := ⟨j - o, by omega⟩
      have hv := (hh _ u hj).1 hin
      rw [show o + d - o = d by omega] at hv
      have hd : d < vs.length := (List.getElem?_eq_some_iff.1 hv).1
      rw [World.cell?_setCells_in g vs o w hthere d hd, ← hv, List.getElem?_eq_getElem hd]
    · rw [World.cell?_setCells_out g vs o w ⟨g, j, none⟩ (fun _ _ => by show j < o ∨ o + vs.length ≤ j; omega)]
      exact (hh _ u hj).2 hin
  · by_cases hin : o ≤ j ∧ j < o + vs.length
    · obtain ⟨d, rfl⟩ : ∃ d, j = o + d := ⟨j - o, by omega⟩
      rw [World.cell?_setCells_in g vs o w hthere d (by omega)]
      rfl
    · rw [World.cell?_setCells_out g vs o w ⟨g, j, none⟩ (fun _ _ => by show j < o ∨ o + vs.length ≤ j; omega)]
      exact (h.there j hj).1
  · rw [World.frozen?_setCells]
    exact (h.there j hj).2
theorem rowK_own {k B B' : Nat} {w : World} {e : TypeId} {v : Value} {n : Nat} {cs : List Value} (h : w.ownsRow B e k v n cs) (h1 : ∀ u ∈ cs, u.oneCell' = true) (hB : B' ≤ B) (hv : v ≠ .slice none 0 0) : ∃ g c, v = .slice (some ⟨g, 0, none⟩) n c ∧ RowK k B' w g c n cs := by
  rcases h.2 with ⟨hv', _⟩ | ⟨g, cc, cur, rfl, hge, hh, hle, hmx, hsz, htk⟩
  · exact absurd hv' hv
  · refine ⟨g, cc, rfl, Nat.le_trans hB hge, ?_, h.1, hle, hmx, h1, fun j u hj => ?_, fun j hj => ?_⟩
    · rcases Nat.lt_or_ge g w.heap.size with h | h
      · exact h
      · rw [Array.getElem?_eq_none h] at hh; cases hh
    · have hj2 := h.cells (g := g) rfl j u hj
      rw [Addr.add_lit, Nat.zero_add] at hj2; exact hj2
    · have hjc : j < cur.size := by omega
      simp [World.cell?, World.frozen?, hh, hjc]
theorem rowK_new {k B : Nat} {w : World} (hB : B ≤ w.heap.size) (cs : List Value) (n : Nat) (hn : cs.length = n * k) (h1 : ∀ u ∈ cs, u.oneCell' = true) (z : Array Value) (hz : z.size = k) (G : Nat) (t : TypeId) (hm : G ≤ maxLen) (hl : n ≤ G) : RowK k B (w.alloc (.cells (cs.toArray ++ Builtin.zeroCells z (G - n)) t)) w.heap.size G n cs := by
  have hs : (cs.toArray ++ Builtin.zeroCells z (G - n)).size = G * k := by
    rw [Array.size_append, size_zeroCells, hz, List.size_toArray, hn, ← Nat.add_mul]
    congr 1
    omega
  refine ⟨hB, by simp, hn, hl, hm, h1, fun j u hj => ?_, fun j hj => ⟨?_, World.frozen?_alloc_at _ _ _ _ (by simp)⟩⟩
  · have hl := (List.getElem?_eq_some_iff.1 hj).1
    rw [World.cell?_alloc_at _ _ _ _ (by simp), Array.getElem?_append_left (by simpa using hl)]
    simpa using hj
  · rw [World.cell?_alloc_at _ _ _ _ (by simp), Array.getElem?_eq_getElem (by rw [hs]; exact hj)]
    rfl
/-- A list of elements of k cells that the call has made: nil, or a row. -/
def RowsK (k B : Nat) (w : World) (v : Value) (n : Nat) (cs : List Value) : Prop :=
  (v = .slice none 0 0 ∧ n = 0 ∧ cs = []) ∨ ∃ g c, v = .slice (some ⟨g, 0, none⟩) n c ∧ RowK k B w g c n cs
theorem RowsK.below {k B B' : Nat} {w w' : World} {v : Value} {n : Nat} {cs : List Value} (h : RowsK k B w v n cs) (hb : Below B' w w') (hB : w.heap.size ≤ B') : RowsK k B w' v n cs := by
  rcases h with h | ⟨g, c, rfl, hr⟩
  · exact .inl h
  · exact .inr ⟨g, c, rfl, hr.below hb (Nat.lt_of_lt_of_le hr.lt hB)⟩
theorem RowsK.mono {k B B' : Nat} {w : World} {v : Value} {n : Nat} {cs : List Value} (h : RowsK k B w v n cs) (hB : B' ≤ B) : RowsK k B' w v n cs := by
  rcases h with h | ⟨g, c, rfl, hr⟩
  · exact .inl h
  · exact .inr ⟨g, c, rfl, hr.mono hB⟩
theorem RowsK.slice {k B : Nat} {w : World} {v : Value} {n : Nat} {cs : List Value} (h : RowsK k B w v n cs) : ∃ base c, v = .slice base n c := by
  rcases h with ⟨rfl, rfl, _⟩ | ⟨g, c, rfl, _⟩
  · exact ⟨_, _, rfl⟩
  · exact ⟨_, _, rfl⟩
theorem RowsK.src {k B : Nat} {P : Program} {w : World} {v : Value} {n : Nat} {cs : List Value} (h : RowsK k B w v n cs) {t e : TypeId} (ht : P.underlying t = some (.slice e)) : Src P k t v n cs w := by
  rcases h with ⟨rfl, rfl, rfl⟩ | ⟨g, c, rfl, hr⟩
  · exact Src.ofNil w ht 0
  · exact Src.ofSlice w ht ⟨g, 0, none⟩ n c cs hr.len (fun j u hj => by rw [Addr.add_lit, Nat.zero_add]; exact hr.holds j u hj) hr.one
theorem RowsK.first {k B : Nat} {P : Program} {w : World} {v : Value} {n : Nat} {cs : List Value} (h : RowsK k B w v n cs) : (Builtin.firstCells k n v).run P w.drew = .ok cs.toArray w.drew := by
  rcases h with ⟨rfl, rfl, rfl⟩ | ⟨g, c, rfl, hr⟩
  · exact run_firstCells_none w.drew k 0 0 0
  · exact run_firstCells_some w.drew k n ⟨g, 0, none⟩ n c cs hr.len (fun j u hj => by rw [Addr.add_lit, Nat.zero_add]; exact hr.holds j u hj)
/-- Whatever is appended to such a list. -/
theorem run_append_rowsK {P : Program} (w : World) (t ty e : TypeId) (i : TypeInfo) (z : Value) (k bytes : Nat) (h1 : P.underlying t = some (.slice e)) (h2 : P.info? e = some i) (h3 : i.zero = some z) (h4 : i.size = k) (h5 : i.bytes = bytes) (h6 : z.cells.size = k)
    (B : Nat) (v : Value) (n : Nat) (cs : List Value) (h : RowsK k B w v n cs) (hB : B ≤ w.heap.size) (x : Value) (m : Nat) (us : List Value) (hs : Src P k t x m us w) (hb : n + m ≤ 1000000) (hby : bytes ≤ 1000000) :
    ∃ v' w', (Builtin.append_ #[t, t] ty #[v, x]).run P w = .ok v' w' ∧ RowsK k B w' v' (n + m) (cs ++ us) ∧ Below B w w' ∧ (m ≠ 0 → v' ≠ .slice none 0 0) := by
  have hmul : (n + m) * bytes ≤ 1000000 * 1000000 := Nat.mul_le_mul hb hby
  have hlen : (cs ++ us).length = (n + m) * k := by
    rw [List.length_append, hs.newsLen, Nat.add_mul]
    congr 1
    rcases h with ⟨_, rfl, rfl⟩ | ⟨g, c, _, hr⟩
    · simp
    · exact hr.len
  have hone : ∀ u ∈ cs ++ us, u.oneCell' = true := by
    intro u hu
    rw [List.mem_append] at hu
    rcases hu with hu | hu
    · rcases h with ⟨_, _, rfl⟩ | ⟨g, c, _, hr⟩
      · cases hu
      · exact hr.one u hu
    · exact hs.one u hu
  have grown : ∀ (base : Option Addr) (c : Nat), v = .slice base n c → c < n + m → ∃ v' w', (Builtin.append_ #[t, t] ty #[v, x]).run P w = .ok v' w' ∧ RowsK k B w' v' (n + m) (cs ++ us) ∧ Below B w w' ∧ (m ≠ 0 → v' ≠ .slice none 0 0) := by
    intro base c hv hc
    have hf := h.first (P := P)
    rw [hv] at hf ⊢
    subst h4
    have hr := run_append_grow_src w t t ty e i z h1 h2 h3 base n c cs hf x m us hs hc (by omega) (by rw [h5]; exact growslice_fits hc (by omega))
    have hm := grownCap_le_maxLen w (n + m) c e (by unfold maxLen; omega)
    have hge := grownCap_ge w (n + m) c e
    refine ⟨_, _, hr, .inr ⟨_, _, rfl, ?_⟩, ((Below.refl B w).drew).alloc hB _, fun _ h => by cases h⟩
    exact rowK_new (B := B) (w := w.drew) hB (cs ++ us) (n + m) hlen hone _ h6 _ e hm hge
  rcases h with ⟨rfl, rfl, rfl⟩ | ⟨g, c, rfl, hr⟩
  · by_cases hm : m = 0
    · subst hm
      have hu : us = [] := List.eq_nil_of_length_eq_zero (by simpa using hs.newsLen)
      subst hu
      refine ⟨.slice none 0 0, w, ?_, .inl ⟨rfl, rfl, rfl⟩, Below.refl _ _, fun h => absurd rfl h⟩
      simp [Builtin.append_, run_underlying h1, sizeOf, typeInfo, h2, h4, hs.len, hs.cells]
    · exact grown none 0 rfl (by omega)
  · by_cases hc : n + m ≤ c
    · have hul := hs.newsLen
      have hk : n * k + m * k ≤ c * k := by rw [← Nat.add_mul]; exact Nat.mul_le_mul_right _ hc
      subst h4
      have hrr := run_append_room_src w t t ty e i h1 h2 g 0 n c x m us hs hc (fun j hj => by rw [Nat.zero_add]; exact (hr.there _ (by omega)).1) (fun j hj => by rw [Nat.zero_add]; exact (hr.there _ (by omega)).2)
      rw [Nat.zero_add] at hrr
      refine ⟨_, _, hrr, .inr ⟨g, c, rfl, ?_⟩, below_setCellsW hr.new us (n * i.size) w, fun _ h => by cases h⟩
      refine hr.setCells (n * i.size) us (by omega) hc hlen hone (fun j u hj => ⟨fun hin => ?_, fun hout => ?_⟩)
      · rw [List.getElem?_append_right (by rw [hr.len]; omega), hr.len] at hj
        exact hj
      · have hjl := (List.getElem?_eq_some_iff.1 hj).1
        rw [hlen, Nat.add_mul] at hjl
        rw [List.getElem?_append_left (by rw [hr.len]; omega)] at hj
        exact hr.holds j u hj
    · exact grown _ c rfl (by omega)
theorem wpList_append_rowsK {P : Program} (w : World) {ops : Array Oper} {rest : List Oper} {o : Oper} {a : Act} {Q : Exit → Act → World → Prop}
    (hg : o.guard = none) (s x : Operand) (t : TypeId) (hop : o.op = Op.call { callee := Callee.builtin Builtin.append, args := #[s, x], argTypes := #[t, t] })
    (e : TypeId) (i : TypeInfo) (z : Value) (k bytes : Nat) (h1 : P.underlying t = some (.slice e)) (h2 : P.info? e = some i) (h3 : i.zero = some z) (h4 : i.size = k) (h5 : i.bytes = bytes) (h6 : z.cells.size = k)
    (B : Nat) (v : Value) (n : Nat) (cs : List Value) (hs : a.eval s = v) (h : RowsK k B w v n cs) (hB : B ≤ w.heap.size)
    (y : Value) (m : Nat) (us : List Value) (hx : a.eval x = y) (hsrc : Src P k t y m us w) (hb : n + m ≤ 1000000) (hby : bytes ≤ 1000000)
    (hK : ∀ v' w', RowsK k B w' v' (n + m) (cs ++ us) → Below B w w' → (m ≠ 0 → v' ≠ .slice none 0 0) → wpList P ops Q rest (a.put o.dst v') w') :
    wpList P ops Q (o :: rest) a w := by
  obtain ⟨v', w', hr, h7, h8, h9⟩ := run_append_rowsK (P := P) w t o.type e i z k bytes h1 h2 h3 h4 h5 h6 B v n cs h hB y m us hsrc hb hby
  exact Lib.wpList_append_run w hg s x t t hop _ _ hs hx _ _ hr (hK v' w' h7 h8 h9)
/-- All is read before anything is written. -/
theorem run_copy_cellsK {P : Program} (w : World) (dT sT ty elem : TypeId) (k b o dLen dCap : Nat) (a : Addr) (sLen sCap : Nat) (cs : List Value)
    (hu : P.underlying dT = some (.slice elem)) (hs : (P.info? elem).map (·.size) = some k) (hn : cs.length = Nat.min sLen dLen * k)
    (hsrc : ∀ j v, cs[j]? = some v → w.cell? (a.add j) = some v) (hc : ∀ j, j < cs.length → (w.cell? ⟨b, o + j, none⟩).isSome = true) (hf : ∀ j, j < cs.length → w.frozen? ⟨b, o + j, none⟩ = false) (h1 : ∀ v ∈ cs, v.oneCell' = true) :
    (Builtin.copy_ #[dT, sT] ty #[.slice (some ⟨b, o, none⟩) dLen dCap, .slice (some a) sLen sCap]).run P w = .ok (goInt (Nat.min sLen dLen)) (w.setCells b o cs) := by
  have hl := run_loadCells_list (P := P) w a cs hsrc
  have hst := run_storeCells_cells (P := P) b o cs 0 w (by simpa using hc) (by simpa using hf) h1
  cases hq : P.info? elem with
  | none => simp [hq] at hs
  | some i =>
    have hi : i.size = k := by simpa [hq] using hs
    simp [Builtin.copy_, run_underlying hu, Builtin.lenOf, Builtin.firstCells, sizeOf, typeInfo, hq, hi, ← hn, hl, hst]
end Go.Proofs.YtibelcnjmpedkaaGreatDoor
