/-
  Own texts put together: EvState, RowK, EvRow, EvWS.
-/
import Derived.Test.YtlailakofhenkaaGreatDoorB3
import Derived.Test.YtlailakofhenkaaGreatDoorB1
import Derived.Deep.AppendSrc
import Derived.Lib.AppendZeros
import Derived.Shelf.Spec.SlicesInsertGrow
import Derived.Deep.RegionHeld3
/-
  Plain mathematics: a state's families, by their numbers; a state behind an event.
-/

namespace Go.Proofs.YtlailakofhenkaaGreatDoor.Ev
open Go.Lib Tok Sc
def Rising (l : List Fam) : Prop := l.Pairwise (fun a b => a.id < b.id)
def lows (l : List Fam) (n : Int) : List Fam := l.filter (fun x => decide (x.id < n))
def highs (l : List Fam) (n : Int) : List Fam := l.filter (fun x => decide (n < x.id))
def putP (l : List Fam) (f : Fam) : List Fam := lows l f.id ++ f :: highs l f.id
def dropP (l : List Fam) (n : Int) : List Fam := l.filter (fun x => decide (x.id ≠ n))
structure St where
  clock : Int
  next : Int
  fams : List Fam
def applyP (s : St) (e : E) : St :=
  if e.kind = 1 then ⟨s.clock, if s.next ≤ e.fam.id then e.fam.id + 1 else s.next, putP s.fams e.fam⟩
  else if e.kind = 2 then ⟨s.clock, s.next, dropP s.fams e.id⟩ else ⟨e.time, s.next, s.fams⟩
theorem rising_put {l : List Fam} {f : Fam} (h : Rising l) : Rising (putP l f) := by
  unfold putP lows highs
  refine List.pairwise_append.2 ⟨h.filter _, List.pairwise_cons.2 ⟨fun y hy => ?_, h.filter _⟩, fun x hx y hy => ?_⟩
  · simpa using (List.mem_filter.1 hy).2
  · have h1 : x.id < f.id := by simpa using (List.mem_filter.1 hx).2
    rw [List.mem_cons] at hy
    rcases hy with rfl | hy
    · exact h1
    · have h2 : f.id < y.id := by simpa using (List.mem_filter.1 hy).2
      omega
theorem rising_drop {l : List Fam} {n : Int} (h : Rising l) : Rising (dropP l n) := h.filter _
theorem rising_apply {s : St} {e : E} (h : Rising s.fams) : Rising (applyP s e).fams := by
  unfold applyP
  split
  · exact rising_put h
  · split
    · exact rising_drop h
    · exact h
theorem put_len (l : List Fam) (f : Fam) : (putP l f).length ≤ l.length + 1 := by
  unfold putP lows highs
  rw [List.length_append, List.length_cons]
  have : ∀ l : List Fam, (l.filter (fun x => decide (x.id < f.id))).length + (l.filter (fun x => decide (f.id < x.id))).length ≤ l.length := by
    intro l
    induction l with
    | nil => simp
    | cons a l ih =>
      rw [List.filter_cons, List.filter_cons]
      split <;> split <;> rename_i h1 h2 <;> simp at h1 h2 <;> simp <;> omega
  have := this l
  omega
theorem drop_len (l : List Fam) (n : Int) : (dropP l n).length ≤ l.length := List.length_filter_le _ _
theorem apply_len (s : St) (e : E) : (applyP s e).fams.length ≤ s.fams.length + 1 := by
  unfold applyP
  split
  · exact put_len _ _
  · split
    · have := drop_len s.fams e.id; show (dropP s.fams e.id).length ≤ _; omega
    · show s.fams.length ≤ _; omega
/-- How many numbers are less: where one stands, or would stand. -/
def rank (l : List Fam) (n : Int) : Nat := l.countP (fun x => decide (x.id < n))
theorem rank_le (l : List Fam) (n : Int) : rank l n ≤ l.length := List.countP_le_length
theorem rank_parts : ∀ {l : List Fam} {n : Int}, Rising l → lows l n = l.take (rank l n) ∧ l.drop (rank l n) = l.filter (fun x => decide (n ≤ x.id))
  | [], n, _ => by simp [lows, rank]
  | a :: l, n, h => by
    have h' := List.pairwise_cons.1 h
    by_cases ha : a.id < n
    · obtain ⟨h1, h2⟩ := rank_parts (n := n) h'.2
      have hr : rank (a :: l) n = rank l n + 1 := List.countP_cons_of_pos (by simpa using ha)
      rw [hr]
      constructor
      · unfold lows at h1 ⊢
        rw [List.filter_cons, if_pos (by simpa using ha), h1, List.take_succ_cons]
      · rw [List.drop_succ_cons, h2, List.filter_cons, if_neg (by simp; omega)]
    · have hall : ∀ x ∈ a :: l, ¬ x.id < n := by
        intro x hx
        rw [List.mem_cons] at hx
        rcases hx with rfl | hx
        · exact ha
        · have := h'.1 x hx; omega
      have hr : rank (a :: l) n = 0 := by
        unfold rank
        rw [List.countP_eq_zero]
        intro x hx
        have := hall x hx
        simpa using this
      rw [hr]
      constructor
      · unfold lows
        rw [List.take_zero, List.filter_eq_nil_iff]
        intro x hx
        have := hall x hx
        simpa using this
      · rw [List.drop_zero]
        exact (List.filter_eq_self.2 (fun x hx => by have := hall x hx; simp; omega)).symm
theorem rank_lt {l : List Fam} {n : Int} (h : Rising l) (t : Nat) (ht : t < l.length) : t < rank l n ↔ l[t].id < n := by
  obtain ⟨h1, h2⟩ := rank_parts (n := n) h
  constructor
  · intro hlt
    have hm : l[t] ∈ lows l n := by
      rw [h1]
      exact List.mem_take_iff_getElem.2 ⟨t, by omega, rfl⟩
    simpa [lows] using (List.mem_filter.1 hm).2
  · intro hlt
    rcases Nat.lt_or_ge t (rank l n) with hh | hh
    · exact hh
    · have hm : l[t] ∈ l.drop (rank l n) := List.mem_drop_iff_getElem.2 ⟨t - rank l n, by omega, by congr 1; omega⟩
      rw [h2] at hm
      have := (List.mem_filter.1 hm).2
      simp at this
      omega
theorem highs_of {l : List Fam} {n : Int} (hn : ∀ x ∈ l, x.id ≠ n) : l.filter (fun x => decide (n ≤ x.id)) = highs l n := by
  unfold highs
  refine List.filter_congr (fun x hx => ?_)
  have := hn x hx
  rw [decide_eq_decide]
  omega
/-- One of that number stands there, or none does. -/
theorem rank_there {l : List Fam} {n : Int} (h : Rising l) (hr : rank l n < l.length) (hi : l[rank l n].id = n) : l = lows l n ++ l[rank l n] :: highs l n := by
  obtain ⟨h1, h2⟩ := rank_parts (n := n) h
  have hd : l.drop (rank l n) = l[rank l n] :: l.drop (rank l n + 1) := List.drop_eq_getElem_cons hr
  have h3 : l.drop (rank l n + 1) = highs l n := by
    have hp : Rising (l.drop (rank l n)) := h.drop
    rw [hd] at hp
    have hp' := List.pairwise_cons.1 hp
    have h4 : (l.drop (rank l n)).filter (fun x => decide (n < x.id)) = l.drop (rank l n + 1) := by
      rw [hd, List.filter_cons, if_neg (by simp; omega)]
      refine List.filter_eq_self.2 (fun x hx => ?_)
      have := hp'.1 x hx
      simp
      omega
    rw [← h4, h2, List.filter_filter]
    unfold highs
    refine List.filter_congr (fun x _ => ?_)
    by_cases hx : n < x.id
    · have hx' : n ≤ x.id := by omega
      simp [hx, hx']
    · simp [hx]
  calc l = l.take (rank l n) ++ l.drop (rank l n) := (List.take_append_drop _ _).symm
    _ = lows l n ++ l[rank l n] :: highs l n := by rw [h1, hd, h3]
theorem rank_none {l : List Fam} {n : Int} (h : Rising l) (hn : ∀ (hr : rank l n < l.length), l[rank l n].id ≠ n) : ∀ x ∈ l, x.id ≠ n := by
  intro x hx he
  obtain ⟨t, ht, rfl⟩ := List.getElem_of_mem hx
  have h1 := (rank_lt (n := n) h t ht)
  have hge : rank l n ≤ t := by
    rcases Nat.lt_or_ge t (rank l n) with hh | hh
    · have := h1.1 hh; omega
    · exact hh
  have hr : rank l n < l.length := by omega
  have h3 := (rank_lt (n := n) h _ hr)
  have h4 := hn hr
  rcases Nat.lt_or_ge (rank l n) t with hlt | hle
  · have := (List.pairwise_iff_getElem.1 h) (rank l n) t hr ht hlt
    have h5 : ¬ l[rank l n].id < n := fun hh => by have := h3.2 hh; omega
    omega
  · have : t = rank l n := by omega
    subst this
    exact h4 he
theorem put_there {l : List Fam} {f : Fam} (h : Rising l) (hr : rank l f.id < l.length) (hi : l[rank l f.id].id = f.id) : l.set (rank l f.id) f = putP l f := by
  have e := rank_there h hr hi
  have hl : (lows l f.id).length = rank l f.id := by rw [(rank_parts h).1, List.length_take]; omega
  have key : ∀ (k : Nat) (a b : List Fam) (x : Fam), a.length = k → l = a ++ x :: b → l.set k f = a ++ f :: b := by
    rintro k a b x rfl rfl
    simp
  exact key _ _ _ _ hl e
theorem put_new {l : List Fam} {f : Fam} (h : Rising l) (hn : ∀ x ∈ l, x.id ≠ f.id) : l.take (rank l f.id) ++ f :: l.drop (rank l f.id) = putP l f := by
  obtain ⟨h1, h2⟩ := rank_parts (n := f.id) h
  rw [h2, highs_of hn, ← h1]
  rfl
theorem drop_there {l : List Fam} {n : Int} (h : Rising l) (hr : rank l n < l.length) (hi : l[rank l n].id = n) : l.take (rank l n) ++ l.drop (rank l n + 1) = dropP l n := by
  have e := rank_there h hr hi
  have hl : (lows l n).length = rank l n := by rw [(rank_parts h).1, List.length_take]; omega
  have key : ∀ (k : Nat) (a b : List Fam) (x : Fam), a.length = k → l = a ++ x :: b → (∀ y ∈ a, y.id ≠ n) → x.id = n → (∀ y ∈ b, y.id ≠ n) → l.take k ++ l.drop (k + 1) = dropP l n := by
    rintro k a b x rfl rfl ha hx hb
    unfold dropP
    rw [List.filter_append, List.filter_cons, if_neg (by simp [hx]), List.filter_eq_self.2 (fun y hy => by simpa using ha y hy), List.filter_eq_self.2 (fun y hy => by simpa using hb y hy)]
    simp
  refine key _ _ _ _ hl e (fun y hy => ?_) hi (fun y hy => ?_)
  · have := (List.mem_filter.1 hy).2; simp at this; omega
  · have := (List.mem_filter.1 hy).2; simp at this; omega
theorem drop_none {l : List Fam} {n : Int} (hn : ∀ x ∈ l, x.id ≠ n) : l = dropP l n :=
  (List.filter_eq_self.2 (fun x hx => by simpa using hn x hx)).symm
/-- Two rising lists of the same families are one. -/
theorem fams_eq : ∀ {l m : List Fam}, Rising l → Rising m → (∀ x, x ∈ l ↔ x ∈ m) → l = m
  | [], [], _, _, _ => rfl
  | [], b :: m, _, _, h => by have := (h b).2 (by simp); simp at this
  | a :: l, [], _, _, h => by have := (h a).1 (by simp); simp at this
  | a :: l, b :: m, hl, hm, h => by
    have hl' := List.pairwise_cons.1 hl
    have hm' := List.pairwise_cons.1 hm
    have hab : a = b := by
      have h1 := (h a).1 (by simp)
      have h2 := (h b).2 (by simp)
      simp only [List.mem_cons] at h1 h2
      rcases h1 with h1 | h1
      · exact h1
      · rcases h2 with h2 | h2
        · exact h2.symm
        · have := hl'.1 b h2
          have := hm'.1 a h1
          omega
    subst hab
    congr 1
    refine fams_eq hl'.2 hm'.2 (fun x => ?_)
    constructor
    · intro hx
      have := (h x).1 (by simp [hx])
      simp only [List.mem_cons] at this
      rcases this with rfl | this
      · have := hl'.1 x hx; omega
      · exact this
    · intro hx
      have := (h x).2 (by simp [hx])
      simp only [List.mem_cons] at this
      rcases this with rfl | this
      · have := hm'.1 x hx; omega
      · exact this
theorem put_mem {l : List Fam} {f x : Fam} : x ∈ putP l f ↔ x ∈ dropP l f.id ++ [f] := by
  unfold putP lows highs dropP
  rw [List.mem_append, List.mem_cons, List.mem_append, List.mem_singleton, List.mem_filter, List.mem_filter, List.mem_filter]
  simp only [decide_eq_true_eq]
  constructor
  · rintro (⟨h1, h2⟩ | h | ⟨h1, h2⟩)
    · exact .inl ⟨h1, by omega⟩
    · exact .inr h
    · exact .inl ⟨h1, by omega⟩
  · rintro (⟨h1, h2⟩ | h)
    · rcases Int.lt_or_lt_of_ne h2 with h3 | h3
      · exact .inl ⟨h1, h3⟩
      · exact .inr (.inr ⟨h1, h3⟩)
    · exact .inr (.inl h)
/-- What is sorted of those of other numbers and the one. -/
theorem put_sorted {l d : List Fam} {f : Fam} (h : Rising l) (hp : d.Perm (dropP l f.id ++ [f])) (hs : d.Pairwise (fun a b => ¬ b.id < a.id)) : d = putP l f := by
  refine fams_eq ?_ (rising_put h) (fun x => by rw [put_mem, hp.mem_iff])
  have hn : (dropP l f.id ++ [f]).Pairwise (fun a b => a.id ≠ b.id) := by
    refine List.pairwise_append.2 ⟨(rising_drop h).imp (fun {a b} hab => by omega), List.pairwise_singleton _ _, fun x hx y hy => ?_⟩
    rw [List.mem_singleton] at hy
    subst hy
    simpa using (List.mem_filter.1 hx).2
  have hn' : d.Pairwise (fun a b => a.id ≠ b.id) := (hp.pairwise_iff (fun {a b} hab => fun h => hab h.symm)).2 hn
  exact (hs.and hn').imp (fun {a b} hab => by omega)
end Go.Proofs.YtlailakofhenkaaGreatDoor.Ev

/-
  A slice that the call has made, its elements of k cells each, told by its cells. Of no program.
-/

namespace Go.Proofs.YtlailakofhenkaaGreatDoor
open Go Go.RowKit
structure RowK (k B : Nat) (w : World) (g c n : Nat) (cs : List Value) : Prop where
  new : B ≤ g
  lt : g < w.heap.size
  len : cs.length = n * k
  le : n ≤ c
  max : c ≤ maxLen
  one : ∀ u ∈ cs, u.oneCell' = true
  holds : ∀ j u, cs[j]? = some u → w.cell? ⟨g, j, none⟩ = some u
  there : ∀ j, j < c * k → (w.cell? ⟨g, j, none⟩).isSome = true ∧ w.frozen? ⟨g, j, none⟩ = false
theorem RowK.block {k B : Nat} {w w' : World} {g c n : Nat} {cs : List Value} (h : RowK k B w g c n cs) (hs : w.heap.size ≤ w'.heap.size) (hb : w'.heap[g]? = w.heap[g]?) : RowK k B w' g c n cs :=
  ⟨h.new, Nat.lt_of_lt_of_le h.lt hs, h.len, h.le, h.max, h.one, fun j u hj => (World.cell?_of_block (a := ⟨g, j, none⟩) hb).trans (h.holds j u hj),
    fun j hj => ⟨by rw [World.cell?_of_block (a := ⟨g, j, none⟩) hb]; exact (h.there j hj).1, (World.frozen?_of_block (a := ⟨g, j, none⟩) hb).trans (h.there j hj).2⟩⟩
theorem RowK.below {k B B' : Nat} {w w' : World} {g c n : Nat} {cs : List Value} (h : RowK k B w g c n cs) (hb : Below B' w w') (hg : g < B') : RowK k B w' g c n cs := h.block hb.size (hb.block g hg)
theorem RowK.mono {k B B' : Nat} {w : World} {g c n : Nat} {cs : List Value} (h : RowK k B w g c n cs) (hB : B' ≤ B) : RowK k B' w g c n cs := { h with new := Nat.le_trans hB h.new }
/-- Some cells set: of the row so made, what it holds. -/
theorem RowK.setCells {k B : Nat} {w : World} {g c n n' : Nat} {cs cs' : List Value} (h : RowK k B w g c n cs) (o : Nat) (vs : List Value) (ho : o + vs.length ≤ c * k) (hn : n' ≤ c) (hl : cs'.length = n' * k) (h1 : ∀ u ∈ cs', u.oneCell' = true)
    (hh : ∀ j u, cs'[j]? = some u → (o ≤ j ∧ j < o + vs.length → vs[j - o]? = some u) ∧ (¬ (o ≤ j ∧ j < o + vs.length) → w.cell? ⟨g, j, none⟩ = some u)) : RowK k B (w.setCells g o vs) g c n' cs' := by
  have hthere : ∀ j, j < vs.length → (w.cell? ⟨g, o + j, none⟩).isSome = true := fun j hj => (h.there (o + j) (by omega)).1
  refine ⟨h.new, ?_, hl, hn, h.max, h1, fun j u hj => ?_, fun j hj => ⟨?_, ?_⟩⟩
  · have hb := below_setCellsW (B := 0) (Nat.zero_le g) vs o w
    exact Nat.lt_of_lt_of_le h.lt hb.size
  · by_cases hin : o ≤ j ∧ j < o + vs.length
    · obtain ⟨d, rfl⟩ : ∃ d, j = o + d := ⟨j - o, by omega⟩
      have hv := (hh _ u hj).1 hin
      rw [show o + d - o = d by omega] at hv
      have hd : d < vs.length := (List.getElem?_eq_some_iff.1 hv).1
      rw [World.cell?_setCells_in g vs o w hthere d hd, ← hv, List.getElem?_eq_getElem hd]
    · rw [World.cell?_setCells_out g vs o w ⟨g, j, none⟩ (fun _ _ => by show j < o ∨ o + vs.length ≤ j; omega)]
      exact (hh _ u hj).2 hin
  · by_cases hin : o ≤ j ∧ j < o + vs.length
    · obtain ⟨d, rfl⟩ : ∃ d, j = o + d := ⟨j - o, by omega⟩
      rw [World.cell?_setCells_in g vs o w hthere d (by omega)]
      rfl
    · rw [World.cell?_setCells_out g vs o w ⟨g, j, none⟩ (fun _ _ => by show j < o ∨ o + vs.length ≤ j; omega)]
      exact (h.there j hj).1
  · rw [World.frozen?_setCells]
    exact (h.there j hj).2
theorem rowK_own {k B B' : Nat} {w : World} {e : TypeId} {v : Value} {n : Nat} {cs : List Value} (h : w.ownsRow B e k v n cs) (h1 : ∀ u ∈ cs, u.oneCell' = true) (hB : B' ≤ B) (hv : v ≠ .slice none 0 0) : ∃ g c, v = .slice (some ⟨g, 0, none⟩) n c ∧ RowK k B' w g c n cs := by
  rcases h.2 with ⟨hv', _⟩ | ⟨g, cc, cur, rfl, hge, hh, hle, hmx, hsz, htk⟩
  · exact absurd hv' hv
  · refine ⟨g, cc, rfl, Nat.le_trans hB hge, ?_, h.1, hle, hmx, h1, fun j u hj => ?_, fun j hj => ?_⟩
    · rcases Nat.lt_or_ge g w.heap.size with h | h
      · exact h
      · rw [Array.getElem?_eq_none h] at hh; cases hh
    · have hj2 := h.cells (g := g) rfl j u hj
      rw [Addr.add_lit, Nat.zero_add] at hj2; exact hj2
    · have hjc : j < cur.size := by omega
      simp [World.cell?, World.frozen?, hh, hjc]
theorem rowK_new {k B : Nat} {w : World} (hB : B ≤ w.heap.size) (cs : List Value) (n : Nat) (hn : cs.length = n * k) (h1 : ∀ u ∈ cs, u.oneCell' = true) (z : Array Value) (hz : z.size = k) (G : Nat) (t : TypeId) (hm : G ≤ maxLen) (hl : n ≤ G) : RowK k B (w.alloc (.cells (cs.toArray ++ Builtin.zeroCells z (G - n)) t)) w.heap.size G n cs := by
  have hs : (cs.toArray ++ Builtin.zeroCells z (G - n)).size = G * k := by
    rw [Array.size_append, size_zeroCells, hz, List.size_toArray, hn, ← Nat.add_mul]
    congr 1
    omega
  refine ⟨hB, by simp, hn, hl, hm, h1, fun j u hj => ?_, fun j hj => ⟨?_, World.frozen?_alloc_at _ _ _ _ (by simp)⟩⟩
  · have hl := (List.getElem?_eq_some_iff.1 hj).1
    rw [World.cell?_alloc_at _ _ _ _ (by simp), Array.getElem?_append_left (by simpa using hl)]
    simpa using hj
  · rw [World.cell?_alloc_at _ _ _ _ (by simp), Array.getElem?_eq_getElem (by rw [hs]; exact hj)]
    rfl
/-- A list of elements of k cells that the call has made: nil, or a row. -/
def RowsK (k B : Nat) (w : World) (v : Value) (n : Nat) (cs : List Value) : Prop :=
  (v = .slice none 0 0 ∧ n = 0 ∧ cs = []) ∨ ∃ g c, v = .slice (some ⟨g, 0, none⟩) n c ∧ RowK k B w g c n cs
theorem RowsK.below {k B B' : Nat} {w w' : World} {v : Value} {n : Nat} {cs : List Value} (h : RowsK k B w v n cs) (hb : Below B' w w') (hB : w.heap.size ≤ B') : RowsK k B w' v n cs := by
  rcases h with h | ⟨g, c, rfl, hr⟩
  · exact .inl h
  · exact .inr ⟨g, c, rfl, hr.below hb (Nat.lt_of_lt_of_le hr.lt hB)⟩
theorem RowsK.mono {k B B' : Nat} {w : World} {v : Value} {n : Nat} {cs : List Value} (h : RowsK k B w v n cs) (hB : B' ≤ B) : RowsK k B' w v n cs := by
  rcases h with h | ⟨g, c, rfl, hr⟩
  · exact .inl h
  · exact .inr ⟨g, c, rfl, hr.mono hB⟩
theorem RowsK.slice {k B : Nat} {w : World} {v : Value} {n : Nat} {cs : List Value} (h : RowsK k B w v n cs) : ∃ base c, v = .slice base n c := by
  rcases h with ⟨rfl, rfl, _⟩ | ⟨g, c, rfl, _⟩
  · exact ⟨_, _, rfl⟩
  · exact ⟨_, _, rfl⟩
theorem RowsK.src {k B : Nat} {P : Program} {w : World} {v : Value} {n : Nat} {cs : List Value} (h : RowsK k B w v n cs) {t e : TypeId} (ht : P.underlying t = some (.slice e)) : Src P k t v n cs w := by
  rcases h with ⟨rfl, rfl, rfl⟩ | ⟨g, c, rfl, hr⟩
  · exact Src.ofNil w ht 0
  · exact Src.ofSlice w ht ⟨g, 0, none⟩ n c cs hr.len (fun j u hj => by rw [Addr.add_lit, Nat.zero_add]; exact hr.holds j u hj) hr.one
theorem RowsK.first {k B : Nat} {P : Program} {w : World} {v : Value} {n : Nat} {cs : List Value} (h : RowsK k B w v n cs) : (Builtin.firstCells k n v).run P w.drew = .ok cs.toArray w.drew := by
  rcases h with ⟨rfl, rfl, rfl⟩ | ⟨g, c, rfl, hr⟩
  · exact run_firstCells_none w.drew k 0 0 0
  · exact run_firstCells_some w.drew k n ⟨g, 0, none⟩ n c cs hr.len (fun j u hj => by rw [Addr.add_lit, Nat.zero_add]; exact hr.holds j u hj)
/-- Whatever is appended to such a list. -/
theorem run_append_rowsK {P : Program} (w : World) (t ty e : TypeId) (i : TypeInfo) (z : Value) (k bytes : Nat) (h1 : P.underlying t = some (.slice e)) (h2 : P.info? e = some i) (h3 : i.zero = some z) (h4 : i.size = k) (h5 : i.bytes = bytes) (h6 : z.cells.size = k)
    (B : Nat) (v : Value) (n : Nat) (cs : List Value) (h : RowsK k B w v n cs) (hB : B ≤ w.heap.size) (x : Value) (m : Nat) (us : List Value) (hs : Src P k t x m us w) (hb : n + m ≤ 1000000) (hby : bytes ≤ 1000000) :
    ∃ v' w', (Builtin.append_ #[t, t] ty #[v, x]).run P w = .ok v' w' ∧ RowsK k B w' v' (n + m) (cs ++ us) ∧ Below B w w' ∧ (m ≠ 0 → v' ≠ .slice none 0 0) := by
  have hmul : (n + m) * bytes ≤ 1000000 * 1000000 := Nat.mul_le_mul hb hby
  have hlen : (cs ++ us).length = (n + m) * k := by
    rw [List.length_append, hs.newsLen, Nat.add_mul]
    congr 1
    rcases h with ⟨_, rfl, rfl⟩ | ⟨g, c, _, hr⟩
    · simp
    · exact hr.len
  have hone : ∀ u ∈ cs ++ us, u.oneCell' = true := by
    intro u hu
    rw [List.mem_append] at hu
    rcases hu with hu | hu
    · rcases h with ⟨_, _, rfl⟩ | ⟨g, c, _, hr⟩
      · cases hu
      · exact hr.one u hu
    · exact hs.one u hu
  have grown : ∀ (base : Option Addr) (c : Nat), v = .slice base n c → c < n + m → ∃ v' w', (Builtin.append_ #[t, t] ty #[v, x]).run P w = .ok v' w' ∧ RowsK k B w' v' (n + m) (cs ++ us) ∧ Below B w w' ∧ (m ≠ 0 → v' ≠ .slice none 0 0) := by
    intro base c hv hc
    have hf := h.first (P := P)
    rw [hv] at hf ⊢
    subst h4
    have hr := run_append_grow_src w t t ty e i z h1 h2 h3 base n c cs hf x m us hs hc (by omega) (by rw [h5]; exact growslice_fits hc (by omega))
    have hm := grownCap_le_maxLen w (n + m) c e (by unfold maxLen; omega)
    have hge := grownCap_ge w (n + m) c e
    refine ⟨_, _, hr, .inr ⟨_, _, rfl, ?_⟩, ((Below.refl B w).drew).alloc hB _, fun _ h => by cases h⟩
    exact rowK_new (B := B) (w := w.drew) hB (cs ++ us) (n + m) hlen hone _ h6 _ e hm hge
  rcases h with ⟨rfl, rfl, rfl⟩ | ⟨g, c, rfl, hr⟩
  · by_cases hm : m = 0
    · subst hm
      have hu : us = [] := List.eq_nil_of_length_eq_zero (by simpa using hs.newsLen)
      subst hu
      refine ⟨.slice none 0 0, w, ?_, .inl ⟨rfl, rfl, rfl⟩, Below.refl _ _, fun h => absurd rfl h⟩
      simp [Builtin.append_, run_underlying h1, sizeOf, typeInfo, h2, h4, hs.len, hs.cells]
    · exact grown none 0 rfl (by omega)
  · by_cases hc : n + m ≤ c
    · have hul := hs.newsLen
      have hk : n * k + m * k ≤ c * k := by rw [← Nat.add_mul]; exact Nat.mul_le_mul_right _ hc
      subst h4
      have hrr := run_append_room_src w t t ty e i h1 h2 g 0 n c x m us hs hc (fun j hj => by rw [Nat.zero_add]; exact (hr.there _ (by omega)).1) (fun j hj => by rw [Nat.zero_add]; exact (hr.there _ (by omega)).2)
      rw [Nat.zero_add] at hrr
      refine ⟨_, _, hrr, .inr ⟨g, c, rfl, ?_⟩, below_setCellsW hr.new us (n * i.size) w, fun _ h => by cases h⟩
      refine hr.setCells (n * i.size) us (by omega) hc hlen hone (fun j u hj => ⟨fun hin => ?_, fun hout => ?_⟩)
      · rw [List.getElem?_append_right (by rw [hr.len]; omega), hr.len] at hj
        exact hj
      · have hjl := (List.getElem?_eq_some_iff.1 hj).1
        rw [hlen, Nat.add_mul] at hjl
        rw [List.getElem?_append_left (by rw [hr.len]; omega)] at hj
        exact hr.holds j u hj
    · exact grown _ c rfl (by omega)
theorem wpList_append_rowsK {P : Program} (w : World) {ops : Array Oper} {rest : List Oper} {o : Oper} {a : Act} {Q : Exit → Act → World → Prop}
    (hg : o.guard = none) (s x : Operand) (t : TypeId) (hop : o.op = Op.call { callee := Callee.builtin Builtin.append, args := #[s, x], argTypes := #[t, t] })
    (e : TypeId) (i : TypeInfo) (z : Value) (k bytes : Nat) (h1 : P.underlying t = some (.slice e)) (h2 : P.info? e = some i) (h3 : i.zero = some z) (h4 : i.size = k) (h5 : i.bytes = bytes) (h6 : z.cells.size = k)
    (B : Nat) (v : Value) (n : Nat) (cs : List Value) (hs : a.eval s = v) (h : RowsK k B w v n cs) (hB : B ≤ w.heap.size)
    (y : Value) (m : Nat) (us : List Value) (hx : a.eval x = y) (hsrc : Src P k t y m us w) (hb : n + m ≤ 1000000) (hby : bytes ≤ 1000000)
    (hK : ∀ v' w', RowsK k B w' v' (n + m) (cs ++ us) → Below B w w' → (m ≠ 0 → v' ≠ .slice none 0 0) → wpList P ops Q rest (a.put o.dst v') w') :
    wpList P ops Q (o :: rest) a w := by
  obtain ⟨v', w', hr, h7, h8, h9⟩ := run_append_rowsK (P := P) w t o.type e i z k bytes h1 h2 h3 h4 h5 h6 B v n cs h hB y m us hsrc hb hby
  exact Lib.wpList_append_run w hg s x t t hop _ _ hs hx _ _ hr (hK v' w' h7 h8 h9)
/-- All is read before anything is written. -/
theorem run_copy_cellsK {P : Program} (w : World) (dT sT ty elem : TypeId) (k b o dLen dCap : Nat) (a : Addr) (sLen sCap : Nat) (cs : List Value)
    (hu : P.underlying dT = some (.slice elem)) (hs : (P.info? elem).map (·.size) = some k) (hn : cs.length = Nat.min sLen dLen * k)
    (hsrc : ∀ j v, cs[j]? = some v → w.cell? (a.add j) = some v) (hc : ∀ j, j < cs.length → (w.cell? ⟨b, o + j, none⟩).isSome = true) (hf : ∀ j, j < cs.length → w.frozen? ⟨b, o + j, none⟩ = false) (h1 : ∀ v ∈ cs, v.oneCell' = true) :
    (Builtin.copy_ #[dT, sT] ty #[.slice (some ⟨b, o, none⟩) dLen dCap, .slice (some a) sLen sCap]).run P w = .ok (goInt (Nat.min sLen dLen)) (w.setCells b o cs) := by
  have hl := run_loadCells_list (P := P) w a cs hsrc
  have hst := run_storeCells_cells (P := P) b o cs 0 w (by simpa using hc) (by simpa using hf) h1
  cases hq : P.info? elem with
  | none => simp [hq] at hs
  | some i =>
    have hi : i.size = k := by simpa [hq] using hs
    simp [Builtin.copy_, run_underlying hu, Builtin.lenOf, Builtin.firstCells, sizeOf, typeInfo, hq, hi, ← hn, hl, hst]
end Go.Proofs.YtlailakofhenkaaGreatDoor

/-
  Families as cells: nine each; a list of them that the call has made. Of no program.
-/

namespace Go.Proofs.YtlailakofhenkaaGreatDoor
open Go Go.RowKit Ev
def famCs (f : Fam) : List Value := [.int .i64 f.id, .string f.client, .string f.subject, .string f.scope, .int .i64 f.gen, .int .i64 f.made, .int .i64 f.used, .string f.request, .bool f.dead]
def famV (f : Fam) : Value := .agg (famCs f).toArray
theorem famV_is (f : Fam) : famV f = .agg #[.int .i64 f.id, .string f.client, .string f.subject, .string f.scope, .int .i64 f.gen, .int .i64 f.made, .int .i64 f.used, .string f.request, .bool f.dead] := rfl
theorem famCs_len (f : Fam) : (famCs f).length = 9 := rfl
theorem famCs_one (f : Fam) : ∀ u ∈ famCs f, u.oneCell' = true := by
  intro u hu
  simp only [famCs, List.mem_cons, List.not_mem_nil, or_false] at hu
  rcases hu with rfl | rfl | rfl | rfl | rfl | rfl | rfl | rfl | rfl <;> rfl
def famsCs (l : List Fam) : List Value := l.flatMap famCs
theorem famsCs_nil : famsCs [] = [] := rfl
theorem famsCs_cons (f : Fam) (l : List Fam) : famsCs (f :: l) = famCs f ++ famsCs l := rfl
theorem famsCs_app (l m : List Fam) : famsCs (l ++ m) = famsCs l ++ famsCs m := List.flatMap_append
theorem famsCs_one1 (f : Fam) : famsCs [f] = famCs f := by simp [famsCs]
theorem famsCs_len : ∀ l : List Fam, (famsCs l).length = l.length * 9
  | [] => rfl
  | f :: l => by rw [famsCs_cons, List.length_append, famCs_len, famsCs_len l, List.length_cons]; omega
theorem famsCs_one (l : List Fam) : ∀ u ∈ famsCs l, u.oneCell' = true := by
  intro u hu
  obtain ⟨f, _, hf⟩ := List.mem_flatMap.1 hu
  exact famCs_one f u hf
theorem famsCs_at : ∀ (l : List Fam) (j i : Nat) (hj : j < l.length), i < 9 → (famsCs l)[j * 9 + i]? = (famCs l[j])[i]?
  | f :: l, 0, i, _, hi => by
    rw [famsCs_cons, List.getElem?_append_left (by rw [famCs_len]; omega), Nat.zero_mul, Nat.zero_add]
    rfl
  | f :: l, j + 1, i, hj, hi => by
    rw [famsCs_cons, List.getElem?_append_right (by rw [famCs_len]; omega), famCs_len, show (j + 1) * 9 + i - 9 = j * 9 + i by omega, famsCs_at l j i (by simpa using hj) hi]
    rfl
theorem famsCs_take (l : List Fam) (i : Nat) (hi : i ≤ l.length) : famsCs (l.take i) = (famsCs l).take (i * 9) := by
  have e : famsCs l = famsCs (l.take i) ++ famsCs (l.drop i) := by rw [← famsCs_app, List.take_append_drop]
  have hl : (famsCs (l.take i)).length = i * 9 := by rw [famsCs_len, List.length_take]; congr 1; omega
  rw [e, ← hl, List.take_left]
theorem famsCs_drop (l : List Fam) (i : Nat) (hi : i ≤ l.length) : famsCs (l.drop i) = (famsCs l).drop (i * 9) := by
  have e : famsCs l = famsCs (l.take i) ++ famsCs (l.drop i) := by rw [← famsCs_app, List.take_append_drop]
  have hl : (famsCs (l.take i)).length = i * 9 := by rw [famsCs_len, List.length_take]; congr 1; omega
  rw [e, ← hl, List.drop_left]
abbrev Fams (B : Nat) (w : World) (v : Value) (l : List Fam) : Prop := RowsK 9 B w v l.length (famsCs l)
theorem Fams.nil (B : Nat) (w : World) : Fams B w (.slice none 0 0) [] := .inl ⟨rfl, rfl, rfl⟩
theorem Fams.cell {B : Nat} {w : World} {base : Option Addr} {c : Nat} {l : List Fam} (h : Fams B w (.slice base l.length c) l) (j : Nat) (hj : j < l.length) : ∃ g, base = some ⟨g, 0, none⟩ ∧ g < w.heap.size ∧ ∀ i u, (famCs l[j])[i]? = some u → w.cell? ⟨g, j * 9 + i, none⟩ = some u := by
  rcases h with ⟨_, h0, _⟩ | ⟨g, c', e, hr⟩
  · omega
  · injection e with e _ _
    refine ⟨g, e, hr.lt, fun i u hi => hr.holds _ _ ?_⟩
    have hi9 : i < 9 := by
      have := (List.getElem?_eq_some_iff.1 hi).1
      rwa [famCs_len] at this
    rw [famsCs_at l j i hj hi9]
    exact hi
/-- The nine cells of a family that stands there. -/
structure FamAt (w : World) (g o : Nat) (f : Fam) : Prop where
  c0 : w.cell? ⟨g, o, none⟩ = some (.int .i64 f.id)
  c1 : w.cell? ⟨g, o + 1, none⟩ = some (.string f.client)
  c2 : w.cell? ⟨g, o + 2, none⟩ = some (.string f.subject)
  c3 : w.cell? ⟨g, o + 3, none⟩ = some (.string f.scope)
  c4 : w.cell? ⟨g, o + 4, none⟩ = some (.int .i64 f.gen)
  c5 : w.cell? ⟨g, o + 5, none⟩ = some (.int .i64 f.made)
  c6 : w.cell? ⟨g, o + 6, none⟩ = some (.int .i64 f.used)
  c7 : w.cell? ⟨g, o + 7, none⟩ = some (.string f.request)
  c8 : w.cell? ⟨g, o + 8, none⟩ = some (.bool f.dead)
theorem famAt_of {w : World} {g o : Nat} {f : Fam} (h : ∀ i u, (famCs f)[i]? = some u → w.cell? ⟨g, o + i, none⟩ = some u) : FamAt w g o f :=
  ⟨h 0 _ rfl, h 1 _ rfl, h 2 _ rfl, h 3 _ rfl, h 4 _ rfl, h 5 _ rfl, h 6 _ rfl, h 7 _ rfl, h 8 _ rfl⟩
theorem famAt_made (w : World) (f : Fam) (t : TypeId) (g : Nat) (hg : g = w.heap.size) : FamAt (w.alloc (.cells #[.int .i64 f.id, .string f.client, .string f.subject, .string f.scope, .int .i64 f.gen, .int .i64 f.made, .int .i64 f.used, .string f.request, .bool f.dead] t)) g 0 f := by
  constructor <;> exact (World.cell?_alloc_at _ _ _ _ hg).trans rfl
theorem FamAt.all {w : World} {g o : Nat} {f : Fam} (h : FamAt w g o f) : ∀ i u, (famCs f)[i]? = some u → w.cell? ⟨g, o + i, none⟩ = some u := by
  intro i u hi
  match i, hi with
  | 0, hi => cases hi; exact h.c0
  | 1, hi => cases hi; exact h.c1
  | 2, hi => cases hi; exact h.c2
  | 3, hi => cases hi; exact h.c3
  | 4, hi => cases hi; exact h.c4
  | 5, hi => cases hi; exact h.c5
  | 6, hi => cases hi; exact h.c6
  | 7, hi => cases hi; exact h.c7
  | 8, hi => cases hi; exact h.c8
  | i + 9, hi => simp [famCs] at hi
theorem FamAt.on {w w' : World} {g o B : Nat} {f : Fam} (h : FamAt w g o f) (hb : Below B w w') (hg : g < B) : FamAt w' g o f :=
  famAt_of (fun i u hi => (hb.cell (p := ⟨g, o + i, none⟩) hg).trans (h.all i u hi))
theorem Fams.fam {B : Nat} {w : World} {base : Option Addr} {c : Nat} {l : List Fam} (h : Fams B w (.slice base l.length c) l) (j : Nat) (hj : j < l.length) : ∃ g, base = some ⟨g, 0, none⟩ ∧ g < w.heap.size ∧ FamAt w g (j * 9) l[j] := by
  obtain ⟨g, e, hl, hc⟩ := h.cell j hj
  exact ⟨g, e, hl, famAt_of hc⟩
end Go.Proofs.YtlailakofhenkaaGreatDoor

/-
  What the regions that make an event's line go by: the library's variables, the family's box.
-/

namespace Go.Proofs.YtlailakofhenkaaGreatDoor
open Go Go.RowKit Tok Sc Ev
/-- What the region goes by: the library's variables, the family's box. -/
structure WS (w0 : World) (g : Nat) (f : Fam) (w' : World) : Prop where
  libs : LibsE w'
  box : FamAt w' g 0 f
  lt : g < w'.heap.size
  below : Below w0.heap.size w0 w'
theorem WS.on {w0 : World} {g : Nat} {f : Fam} {w w' : World} (h : WS w0 g f w) (hb : Below w.heap.size w w') : WS w0 g f w' :=
  ⟨h.libs.below hb, h.box.on hb h.lt, Nat.lt_of_lt_of_le h.lt hb.size, h.below.trans (hb.mono h.below.size)⟩
theorem ws_all {w0 : World} {g : Nat} {f1 : Int} {f2 f3 f4 : ByteArray} {f5 f6 f7 : Int} {f8 : ByteArray} {f9 : Bool} {w : World} (h : WS w0 g ⟨f1, f2, f3, f4, f5, f6, f7, f8, f9⟩ w) : (w.cell? ⟨g, 0, none⟩ = some (.int .i64 f1) ∧ w.cell? ⟨g, 1, none⟩ = some (.string f2) ∧ w.cell? ⟨g, 2, none⟩ = some (.string f3) ∧ w.cell? ⟨g, 3, none⟩ = some (.string f4) ∧ w.cell? ⟨g, 4, none⟩ = some (.int .i64 f5) ∧ w.cell? ⟨g, 5, none⟩ = some (.int .i64 f6) ∧ w.cell? ⟨g, 6, none⟩ = some (.int .i64 f7) ∧ w.cell? ⟨g, 7, none⟩ = some (.string f8) ∧ w.cell? ⟨g, 8, none⟩ = some (.bool f9) ∧ WS w0 g ⟨f1, f2, f3, f4, f5, f6, f7, f8, f9⟩ w) := by
  have b := h.box
  exact ⟨b.c0, b.c1, b.c2, b.c3, b.c4, b.c5, b.c6, b.c7, b.c8, h⟩
theorem ws_keep {w0 : World} {g : Nat} {f1 : Int} {f2 f3 f4 : ByteArray} {f5 f6 f7 : Int} {f8 : ByteArray} {f9 : Bool} {w w' : World} (h : (w.cell? ⟨g, 0, none⟩ = some (.int .i64 f1) ∧ w.cell? ⟨g, 1, none⟩ = some (.string f2) ∧ w.cell? ⟨g, 2, none⟩ = some (.string f3) ∧ w.cell? ⟨g, 3, none⟩ = some (.string f4) ∧ w.cell? ⟨g, 4, none⟩ = some (.int .i64 f5) ∧ w.cell? ⟨g, 5, none⟩ = some (.int .i64 f6) ∧ w.cell? ⟨g, 6, none⟩ = some (.int .i64 f7) ∧ w.cell? ⟨g, 7, none⟩ = some (.string f8) ∧ w.cell? ⟨g, 8, none⟩ = some (.bool f9) ∧ WS w0 g ⟨f1, f2, f3, f4, f5, f6, f7, f8, f9⟩ w)) (hb : Below w.heap.size w w') : (w'.cell? ⟨g, 0, none⟩ = some (.int .i64 f1) ∧ w'.cell? ⟨g, 1, none⟩ = some (.string f2) ∧ w'.cell? ⟨g, 2, none⟩ = some (.string f3) ∧ w'.cell? ⟨g, 3, none⟩ = some (.string f4) ∧ w'.cell? ⟨g, 4, none⟩ = some (.int .i64 f5) ∧ w'.cell? ⟨g, 5, none⟩ = some (.int .i64 f6) ∧ w'.cell? ⟨g, 6, none⟩ = some (.int .i64 f7) ∧ w'.cell? ⟨g, 7, none⟩ = some (.string f8) ∧ w'.cell? ⟨g, 8, none⟩ = some (.bool f9) ∧ WS w0 g ⟨f1, f2, f3, f4, f5, f6, f7, f8, f9⟩ w') := ws_all (h.2.2.2.2.2.2.2.2.2.on hb)
theorem ws_drew {w0 : World} {g : Nat} {f1 : Int} {f2 f3 f4 : ByteArray} {f5 f6 f7 : Int} {f8 : ByteArray} {f9 : Bool} {w : World} (h : WS w0 g ⟨f1, f2, f3, f4, f5, f6, f7, f8, f9⟩ w) : (w.drew.cell? ⟨g, 0, none⟩ = some (.int .i64 f1) ∧ w.drew.cell? ⟨g, 1, none⟩ = some (.string f2) ∧ w.drew.cell? ⟨g, 2, none⟩ = some (.string f3) ∧ w.drew.cell? ⟨g, 3, none⟩ = some (.string f4) ∧ w.drew.cell? ⟨g, 4, none⟩ = some (.int .i64 f5) ∧ w.drew.cell? ⟨g, 5, none⟩ = some (.int .i64 f6) ∧ w.drew.cell? ⟨g, 6, none⟩ = some (.int .i64 f7) ∧ w.drew.cell? ⟨g, 7, none⟩ = some (.string f8) ∧ w.drew.cell? ⟨g, 8, none⟩ = some (.bool f9) ∧ WS w0 g ⟨f1, f2, f3, f4, f5, f6, f7, f8, f9⟩ w.drew) := ws_all (h.on (Below.refl _ _).drew)
theorem ws_libs {w0 : World} {g : Nat} {f1 : Int} {f2 f3 f4 : ByteArray} {f5 f6 f7 : Int} {f8 : ByteArray} {f9 : Bool} {w : World} (h : (w.cell? ⟨g, 0, none⟩ = some (.int .i64 f1) ∧ w.cell? ⟨g, 1, none⟩ = some (.string f2) ∧ w.cell? ⟨g, 2, none⟩ = some (.string f3) ∧ w.cell? ⟨g, 3, none⟩ = some (.string f4) ∧ w.cell? ⟨g, 4, none⟩ = some (.int .i64 f5) ∧ w.cell? ⟨g, 5, none⟩ = some (.int .i64 f6) ∧ w.cell? ⟨g, 6, none⟩ = some (.int .i64 f7) ∧ w.cell? ⟨g, 7, none⟩ = some (.string f8) ∧ w.cell? ⟨g, 8, none⟩ = some (.bool f9) ∧ WS w0 g ⟨f1, f2, f3, f4, f5, f6, f7, f8, f9⟩ w)) : LibsE w := h.2.2.2.2.2.2.2.2.2.libs
end Go.Proofs.YtlailakofhenkaaGreatDoor
