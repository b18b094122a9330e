/-
  Plain mathematics: a state's families, by their numbers; a state behind an event.
-/
import Derived.Test.YtibelcnjmpedkaaGreatDoorEvMath
namespace Go.Proofs.YtibelcnjmpedkaaGreatDoor.Ev
open Go.Lib Tok Sc
def Rising (l : List Fam) : Prop := l.Pairwise (fun a b => a.id < b.id)
def lows (l : List Fam) (n : Int) : List Fam := l.filter (fun x => decide (x.id < n))
def highs (l : List Fam) (n : Int) : List Fam := l.filter (fun x => decide (n < x.id))
def putP (l : List Fam) (f : Fam) : List Fam := lows l f.id ++ f :: highs l f.id
def dropP (l : List Fam) (n : Int) : List Fam := l.filter (fun x => decide (x.id ≠ n))
structure St where
  clock : Int
  next : Int
  fams : List Fam
def applyP (s : St) (e : E) : St :=
  if e.kind = 1 then ⟨s.clock, if s.next ≤ e.fam.id then e.fam.id + 1 else s.next, putP s.fams e.fam⟩
  else if e.kind = 2 then ⟨s.clock, s.next, dropP s.fams e.id⟩ else ⟨e.time, s.next, s.fams⟩
theorem rising_put {l : List Fam} {f : Fam} (h : Rising l) : Rising (putP l f) := by
  unfold putP lows highs
  refine List.pairwise_append.2 ⟨h.filter _, List.pairwise_cons.2 ⟨fun y hy => ?_, h.filter _⟩, fun x hx y hy => ?_⟩
  · simpa using (List.mem_filter.1 hy).2
  · have h1 : x.id < f.id := by simpa using (List.mem_filter.1 hx).2
    rw [List.mem_cons] at hy
    rcases hy with rfl | hy
    · exact h1
    · have h2 : f.id < y.id := by simpa using (List.mem_filter.1 hy).2
      omega
theorem rising_drop {l : List Fam} {n : Int} (h : Rising l) : Rising (dropP l n) := h.filter _
theorem rising_apply {s : St} {e : E} (h : Rising s.fams) : Rising (applyP s e).fams := by
  unfold applyP
  split
  · exact rising_put h
  · split
    · exact rising_drop h
    · exact h
theorem put_len (l : List Fam) (f : Fam) : (putP l f).length ≤ l.length + 1 := by
  unfold putP lows highs
  rw [List.length_append, List.length_cons]
  have : ∀ l : List Fam, (l.filter (fun x => decide (x.id < f.id))).length + (l.filter (fun x => decide (f.id < x.id))).length ≤ l.length := by
    intro l
    induction l with
    | nil => simp
    | cons a l ih =>
      rw [List.filter_cons, List.filter_cons]
      split <;> split <;> rename_i h1 h2 <;> simp at h1 h2 <;> simp <;> omega
  have := this l
  omega
theorem drop_len (l : List Fam) (n : Int) : (dropP l n).length ≤ l.length := List.length_filter_le _ _
theorem apply_len (s : St) (e : E) : (applyP s e).fams.length ≤ s.fams.length + 1 := by
  unfold applyP
  split
  · exact put_len _ _
  · split
    · have := drop_len s.fams e.id; show (dropP s.fams e.id).length ≤ _; omega
    · show s.fams.length ≤ _; omega
/-- How many numbers are less: where one stands, or would stand. -/
def rank (l : List Fam) (n : Int) : Nat := l.countP (fun x => decide (x.id < n))
theorem rank_le (l : List Fam) (n : Int) : rank l n ≤ l.length := List.countP_le_length
theorem rank_parts : ∀ {l : List Fam} {n : Int}, Rising l → lows l n = l.take (rank l n) ∧ l.drop (rank l n) = l.filter (fun x => decide (n ≤ x.id))
  | [], n, _ => by simp [lows, rank]
  | a :: l, n, h => by
    have h' := List.pairwise_cons.1 h
    by_cases ha : a.id < n
    · obtain ⟨h1, h2⟩ := rank_parts (n := n) h'.2
      have hr : rank (a :: l) n = rank l n + 1 := List.countP_cons_of_pos (by simpa using ha)
      rw [hr]
      constructor
      · unfold lows at h1 ⊢
        rw [List.filter_cons, if_pos (by simpa using ha), h1, List.take_succ_cons]
      · rw [List.drop_succ_cons, h2, List.filter_cons, if_neg (by simp; omega)]
    · have hall : ∀ x ∈ a :: l, ¬ x.id < n := by
        intro x hx
        rw [List.mem_cons] at hx
        rcases hx with rfl | hx
        · exact ha
        · have := h'.1 x hx; omega
      have hr : rank (a :: l) n = 0 := by
        unfold rank
        rw [List.countP_eq_zero]
        intro x hx
        have := hall x hx
        simpa using this
      rw [hr]
      constructor
      · unfold lows
        rw [List.take_zero, List.filter_eq_nil_iff]
        intro x hx
        have := hall x hx
        simpa using this
      · rw [List.drop_zero]
        exact (List.filter_eq_self.2 (fun x hx => by have := hall x hx; simp; omega)).symm
theorem rank_lt {l : List Fam} {n : Int} (h : Rising l) (t : Nat) (ht : t < l.length) : t < rank l n ↔ l[t].id < n := by
  obtain ⟨h1, h2⟩ := rank_parts (n := n) h
  constructor
  · intro hlt
    have hm : l[t] ∈ lows l n := by
      rw [h1]
      exact List.mem_take_iff_getElem.2 ⟨t, by omega, rfl⟩
    simpa [lows] using (List.mem_filter.1 hm).2
  · intro hlt
    rcases Nat.lt_or_ge t (rank l n) with hh | hh
    · exact hh
    · have hm : l[t] ∈ l.drop (rank l n) := List.mem_drop_iff_getElem.2 ⟨t - rank l n, by omega, by congr 1; omega⟩
      rw [h2] at hm
      have := (List.mem_filter.1 hm).2
      simp at this
      omega
theorem highs_of {l : List Fam} {n : Int} (hn : ∀ x ∈ l, x.id ≠ n) : l.filter (fun x => decide (n ≤ x.id)) = highs l n := by
  unfold highs
  refine List.filter_congr (fun x hx => ?_)
  have := hn x hx
  rw [decide_eq_decide]
  omega
/-- One of that number stands there, or none does. -/
theorem rank_there {l : List Fam} {n : Int} (h : Rising l) (hr : rank l n < l.length) (hi : l[rank l n].id = n) : l = lows l n ++ l[rank l n] :: highs l n := by
  obtain ⟨h1, h2⟩ := rank_parts (n := n) h
  have hd : l.drop (rank l n) = l[rank l n] :: l.drop (rank l n + 1) := List.drop_eq_getElem_cons hr
  have h3 : l.drop (rank l n + 1) = highs l n := by
    have hp : Rising (l.drop (rank l n)) := h.drop
    rw [hd] at hp
    have hp' := List.pairwise_cons.1 hp
    have h4 : (l.drop (rank l n)).filter (fun x => decide (n < x.id)) = l.drop (rank l n + 1) := by
      rw [hd, List.filter_cons, if_neg (by simp; omega)]
      refine List.filter_eq_self.2 (fun x hx => ?_)
      have := hp'.1 x hx
      simp
      omega
    rw [← h4, h2, List.filter_filter]
    unfold highs
    refine List.filter_congr (fun x _ => ?_)
    by_cases hx : n < x.id
    · have hx' : n ≤ x.id := by omega
      simp [hx, hx']
    · simp [hx]
  calc l = l.take (rank l n) ++ l.drop (rank l n) := (List.take_append_drop _ _).symm
    _ = lows l n ++ l[rank l n] :: highs l n := by rw [h1, hd, h3]
theorem rank_none {l : List Fam} {n : Int} (h : Rising l) (hn : ∀ (hr : rank l n < l.length), l[rank l n].id ≠ n) : ∀ x ∈ l, x.id ≠ n := by
  intro x hx he
  obtain ⟨t, ht, rfl⟩ := List.getElem_of_mem hx
  have h1 := (rank_lt (n := n) h t ht)
  have hge : rank l n ≤ t := by
    rcases Nat.lt_or_ge t (rank l n) with hh | hh
    · have := h1.1 hh; omega
    · exact hh
  have hr : rank l n < l.length := by omega
  have h3 := (rank_lt (n := n) h _ hr)
  have h4 := hn hr
  rcases Nat.lt_or_ge (rank l n) t with hlt | hle
  · have := (List.pairwise_iff_getElem.1 h) (rank l n) t hr ht hlt
    have h5 : ¬ l[rank l n].id < n := fun hh => by have := h3.2 hh; omega
    omega
  · have : t = rank l n := by omega
    subst this
    exact h4 he
theorem put_there {l : List Fam} {f : Fam} (h : Rising l) (hr : rank l f.id < l.length) (hi : l[rank l f.id].id = f.id) : l.set (rank l f.id) f = putP l f := by
  have e := rank_there h hr hi
  have hl : (lows l f.id).length = rank l f.id := by rw [(rank_parts h).1, List.length_take]; omega
  have key : ∀ (k : Nat) (a b : List Fam) (x : Fam), a.length = k → l = a ++ x :: b → l.set k f = a ++ f :: b := by
    rintro k a b x rfl rfl
    simp
  exact key _ _ _ _ hl e
theorem put_new {l : List Fam} {f : Fam} (h : Rising l) (hn : ∀ x ∈ l, x.id ≠ f.id) : l.take (rank l f.id) ++ f :: l.drop (rank l f.id) = putP l f := by
  obtain ⟨h1, h2⟩ := rank_parts (n := f.id) h
  rw [h2, highs_of hn, ← h1]
  rfl
theorem drop_there {l : List Fam} {n : Int} (h : Rising l) (hr : rank l n < l.length) (hi : l[rank l n].id = n) : l.take (rank l n) ++ l.drop (rank l n + 1) = dropP l n := by
  have e := rank_there h hr hi
  have hl : (lows l n).length = rank l n := by rw [(rank_parts h).1, List.length_take]; omega
  have key : ∀ (k : Nat) (a b : List Fam) (x : Fam), a.length = k → l = a ++ x :: b → (∀ y ∈ a, y.id ≠ n) → x.id = n → (∀ y ∈ b, y.id ≠ n) → l.take k ++ l.drop (k + 1) = dropP l n := by
    rintro k a b x rfl rfl ha hx hb
    unfold dropP
    rw [List.filter_append, List.filter_cons, if_neg (by simp [hx]), List.filter_eq_self.2 (fun y hy => by simpa using ha y hy), List.filter_eq_self.2 (fun y hy => by simpa using hb y hy)]
    simp
  refine key _ _ _ _ hl e (fun y hy => ?_) hi (fun y hy => ?_)
  · have := (List.mem_filter.1 hy).2; simp at this; omega
  · have := (List.mem_filter.1 hy).2; simp at this; omega
theorem drop_none {l : List Fam} {n : Int} (hn : ∀ x ∈ l, x.id ≠ n) : l = dropP l n :=
  (List.filter_eq_self.2 (fun x hx => by simpa using hn x hx)).symm
/-- Two rising lists of the same families are one. -/
theorem fams_eq : ∀ {l m : List Fam}, Rising l → Rising m → (∀ x, x ∈ l ↔ x ∈ m) → l = m
  | [], [], _, _, _ => rfl
  | [], b :: m, _, _, h => by have := (h b).2 (by simp); simp at this
  | a :: l, [], _, _, h => by have := (h a).1 (by simp); simp at this
  | a :: l, b :: m, hl, hm, h => by
    have hl' := List.pairwise_cons.1 hl
    have hm' := List.pairwise_cons.1 hm
    have hab : a = b := by
      have h1 := (h a).1 (by simp)
      have h2 := (h b).2 (by simp)
      simp only [List.mem_cons] at h1 h2
      rcases h1 with h1 | h1
      · exact h1
      · rcases h2 with h2 | h2
        · exact h2.symm
        · have := hl'.1 b h2
          have := hm'.1 a h1
          omega
    subst hab
    congr 1
    refine fams_eq hl'.2 hm'.2 (fun x => ?_)
    constructor
    · intro hx
      have := (h x).1 (by simp [hx])
      simp only [List.mem_cons] at this
      rcases this with rfl | this
      · have := hl'.1 x hx; omega
      · exact this
    · intro hx
      have := (h x).2 (by simp [hx])
      simp only [List.mem_cons] at this
      rcases this with rfl | this
      · have := hm'.1 x hx; omega
      · exact this
theorem put_mem {l : List Fam} {f x : Fam} : x ∈ putP l f ↔ x ∈ dropP l f.id ++ [f] := by
  unfold putP lows highs dropP
  rw [List.mem_append, List.mem_cons, List.mem_append, List.mem_singleton, List.mem_filter, List.mem_filter, List.mem_filter]
  simp only [decide_eq_true_eq]
  constructor
  · rintro (⟨h1, h2⟩ | h | ⟨h1, h2⟩)
    · exact .inl ⟨h1, by omega⟩
    · exact .inr h
    · exact .inl ⟨h1, by omega⟩
  · rintro (⟨h1, h2⟩ | h)
    · rcases Int.lt_or_lt_of_ne h2 with h3 | h3
      · exact .inl ⟨h1, h3⟩
      · exact .inr (.inr ⟨h1, h3⟩)
    · exact .inr (.inl h)
/-- What is sorted of those of other numbers and the one. -/
theorem put_sorted {l d : List Fam} {f : Fam} (h : Rising l) (hp : d.Perm (dropP l f.id ++ [f])) (hs : d.Pairwise (fun a b => ¬ b.id < a.id)) : d = putP l f := by
  refine fams_eq ?_ (rising_put h) (fun x => by rw [put_mem, hp.mem_iff])
  have hn : (dropP l f.id ++ [f]).Pairwise (fun a b => a.id ≠ b.id) := by
    refine List.pairwise_append.2 ⟨(rising_drop h).imp (fun {a b} hab => by omega), List.pairwise_singleton _ _, fun x hx y hy => ?_⟩
    rw [List.mem_singleton] at hy
    subst hy
    simpa using (List.mem_filter.1 hx).2
  have hn' : d.Pairwise (fun a b => a.id ≠ b.id) := (hp.pairwise_iff (fun {a b} hab => fun h => hab h.symm)).2 hn
  exact (hs.and hn').imp (fun {a b} hab => by omega)
end Go.Proofs.YtibelcnjmpedkaaGreatDoor.Ev
