/-
  Own texts put together: EvComm, StMath, StEnc, RowApp, ScRow.
-/
import Derived.Test.YtlailakofhenkabGreatDoorB2
import Derived.Test.YtlailakofhenkabGreatDoorB1
import Derived.WalkKit
import Derived.WalkSpells
import Derived.Lib.ConvBytes
import Derived.BigQuiet
import Derived.Laws.IdiomCopy
/-
  Plain mathematics: two events of two families, in whichever order.
-/

namespace Go.Proofs.YtlailakofhenkabGreatDoor.Ev
open Go.Lib Tok Sc
theorem apply_put {e : E} (s : St) (h : e.kind = 1) : applyP s e = ⟨s.clock, if s.next ≤ e.fam.id then e.fam.id + 1 else s.next, putP s.fams e.fam⟩ := by
  unfold applyP
  rw [if_pos h]
theorem apply_drop {e : E} (s : St) (h : e.kind = 2) : applyP s e = ⟨s.clock, s.next, dropP s.fams e.id⟩ := by
  unfold applyP
  rw [if_neg (by omega), if_pos h]
theorem apply_clock {e : E} (s : St) (h : e.kind = 3) : applyP s e = ⟨e.time, s.next, s.fams⟩ := by
  unfold applyP
  rw [if_neg (by omega), if_neg (by omega)]
theorem comm {e f : E} (he : may e) (hf : may f) (h3 : e.kind ≠ 3) (k3 : f.kind ≠ 3) (hid : e.fam.id + e.id ≠ f.fam.id + f.id) : applyP (applyP ⟨0, 1, []⟩ e) f = applyP (applyP ⟨0, 1, []⟩ f) e := by
  have two : ∀ (a b : Fam), a.id ≠ b.id → putP (putP [] a) b = putP (putP [] b) a := by
    intro a b hab
    unfold putP lows highs
    rcases Int.lt_or_lt_of_ne hab with hh | hh
    · have h1 : ¬ b.id < a.id := by omega
      simp [hh, h1]
    · have h1 : ¬ a.id < b.id := by omega
      simp [hh, h1]
  rcases he with ⟨ek, ⟨⟨e1, _⟩, _⟩, ei, _⟩ | ⟨ek, ef, ei, _⟩ | ⟨ek, _⟩
  · rcases hf with ⟨fk, ⟨⟨f1, _⟩, _⟩, fi, _⟩ | ⟨fk, ff, fi, _⟩ | ⟨fk, _⟩
    · have hne : e.fam.id ≠ f.fam.id := by omega
      rw [apply_put _ ek, apply_put _ fk, apply_put _ fk, apply_put _ ek]
      unfold okN at e1 f1
      have hn : (if (if (1 : Int) ≤ e.fam.id then e.fam.id + 1 else 1) ≤ f.fam.id then f.fam.id + 1 else (if (1 : Int) ≤ e.fam.id then e.fam.id + 1 else 1)) = (if (if (1 : Int) ≤ f.fam.id then f.fam.id + 1 else 1) ≤ e.fam.id then e.fam.id + 1 else (if (1 : Int) ≤ f.fam.id then f.fam.id + 1 else 1)) := by
        (repeat' split) <;> omega
      simp only [St.mk.injEq, true_and]
      exact ⟨hn, two _ _ hne⟩
    · have hz : f.fam.id = 0 := by rw [ff]; rfl
      have hne : e.fam.id ≠ f.id := by omega
      rw [apply_put _ ek, apply_drop _ fk, apply_drop _ fk, apply_put _ ek]
      simp [dropP, putP, lows, highs, hne]
    · exact absurd fk k3
  · have hz : e.fam.id = 0 := by rw [ef]; rfl
    rcases hf with ⟨fk, ⟨⟨f1, _⟩, _⟩, fi, _⟩ | ⟨fk, ff, fi, _⟩ | ⟨fk, _⟩
    · have hne : f.fam.id ≠ e.id := by omega
      rw [apply_drop _ ek, apply_put _ fk, apply_put _ fk, apply_drop _ ek]
      simp [dropP, putP, lows, highs, hne]
    · rw [apply_drop _ ek, apply_drop _ fk, apply_drop _ fk, apply_drop _ ek]
      simp [dropP]
    · exact absurd fk k3
  · exact absurd ek h3
end Go.Proofs.YtlailakofhenkabGreatDoor.Ev

/-
  Plain mathematics: a store's blocks, what one that is opened reads out of them, and what each write does to that.
-/

namespace Go.Proofs.YtlailakofhenkabGreatDoor.Ev
open Go.Lib Tok Sc
/-- What the blocks hold: events with the number of a save; the slots' heads. -/
structure AD where
  blk : Nat → Option (Nat × E)
  head : Nat → Option (Nat × Int × Int × Nat)
def emptyD : AD := ⟨fun _ => none, fun _ => none⟩
def updN {α : Type} (f : Nat → α) (k : Nat) (v : α) : Nat → α := fun j => if j = k then v else f j
def putE (f : Fam) : E := ⟨1, f, 0, 0⟩
def slotGo (A : AD) (b s : Nat) : Nat → Nat → St → Option St
  | _, 0, st => some st
  | i, r + 1, st => match A.blk (b + i) with
    | some (s', e) => if s' = s then slotGo A b s (i + 1) r (applyP st e) else none
    | none => none
def slotM (A : AD) (k : Nat) : St × Nat := match A.head k with
  | none => (⟨0, 0, []⟩, 0)
  | some (s, c, nx, n) => match slotGo A (17 + 21 * k) s 0 n ⟨c, nx, []⟩ with
    | some st => (st, s)
    | none => (⟨0, 0, []⟩, 0)
def logGo (A : AD) (sv : Nat) : Nat → Nat → St → St × Nat
  | k, 0, st => (st, k)
  | k, r + 1, st => match A.blk k with
    | some (s', e) => if s' = sv then logGo A sv (k + 1) r (applyP st e) else (st, k)
    | none => (st, k)
def best (a b : St × Nat) : St × Nat := if a.2 < b.2 then b else a
def openM (A : AD) : St × Nat × Nat :=
  ((logGo A (best (best (⟨0, 1, []⟩, 0) (slotM A 0)) (slotM A 1)).2 0 16 (best (best (⟨0, 1, []⟩, 0) (slotM A 0)) (slotM A 1)).1).1, (best (best (⟨0, 1, []⟩, 0) (slotM A 0)) (slotM A 1)).2,
    (logGo A (best (best (⟨0, 1, []⟩, 0) (slotM A 0)) (slotM A 1)).2 0 16 (best (best (⟨0, 1, []⟩, 0) (slotM A 0)) (slotM A 1)).1).2)
/-- A state that events make. -/
structure Good (s : St) : Prop where
  ris : Rising s.fams
  may : ∀ f ∈ s.fams, mayF f ∧ f.id < s.next
  clock : okN s.clock
  next0 : 1 ≤ s.next
  next1 : s.next ≤ 1099511627777
  len : s.fams.length ≤ 20
theorem good_zero : Good ⟨0, 1, []⟩ := ⟨List.Pairwise.nil, fun f h => (by cases h), (show (0 : Int) ≤ 0 ∧ (0 : Int) ≤ 1099511627776 from ⟨by decide, by decide⟩), by decide, by decide, by decide⟩
theorem good_apply {s : St} {e : E} (h : Good s) (he : may e) (hl : (applyP s e).fams.length ≤ 20) : Good (applyP s e) := by
  have hr := rising_apply (e := e) h.ris
  rcases he with ⟨hk, hf, -, -⟩ | ⟨hk, -, hi, -⟩ | ⟨hk, -, -, ht⟩
  · rw [apply_put s hk] at hr hl ⊢
    have hid := hf.1.1
    have hid2 : 0 ≤ e.fam.id ∧ e.fam.id ≤ 1099511627776 := hid
    refine ⟨hr, fun f hm => ?_, h.clock, ?_, ?_, hl⟩
    · rcases List.mem_append.1 (put_mem.1 hm) with hm | hm
      · have := h.may f (List.mem_filter.1 hm).1
        refine ⟨this.1, ?_⟩
        show f.id < (if s.next ≤ e.fam.id then e.fam.id + 1 else s.next)
        split <;> omega
      · obtain rfl := List.mem_singleton.1 hm
        refine ⟨hf, ?_⟩
        show e.fam.id < (if s.next ≤ e.fam.id then e.fam.id + 1 else s.next)
        split <;> omega
    · show 1 ≤ (if s.next ≤ e.fam.id then e.fam.id + 1 else s.next)
      have := h.next0
      split <;> omega
    · show (if s.next ≤ e.fam.id then e.fam.id + 1 else s.next) ≤ 1099511627777
      have := h.next1
      split <;> omega
  · rw [apply_drop s hk] at hr hl ⊢
    exact ⟨hr, fun f hm => h.may f (List.mem_filter.1 hm).1, h.clock, h.next0, h.next1, hl⟩
  · rw [apply_clock s hk] at hr hl ⊢
    exact ⟨hr, h.may, ht, h.next0, h.next1, hl⟩
theorem putP_last {l : List Fam} {f : Fam} (h : ∀ x ∈ l, x.id < f.id) : putP l f = l ++ [f] := by
  unfold putP lows highs
  rw [List.filter_eq_self.2 (fun x hx => by simpa using h x hx), List.filter_eq_nil_iff.2 (fun x hx => by have := h x hx; simp; omega)]
theorem slotGo_puts (A : AD) (b s : Nat) (c nx : Int) : ∀ (rest pre : List Fam) (i : Nat), (∀ (j : Nat) (h : j < rest.length), A.blk (b + (i + j)) = some (s, putE rest[j])) → Rising (pre ++ rest) → (∀ f ∈ rest, f.id < nx) → slotGo A b s i rest.length ⟨c, nx, pre⟩ = some ⟨c, nx, pre ++ rest⟩ := by
  intro rest
  induction rest with
  | nil => intro pre i _ _ _; simp [slotGo]
  | cons f rest ih =>
    intro pre i hb hr hn
    have h0 := hb 0 (by simp)
    rw [Nat.add_zero] at h0
    rw [List.length_cons, slotGo, h0]
    simp only [List.getElem_cons_zero, if_true]
    have hlt : ∀ x ∈ pre, x.id < f.id := fun x hx => (List.pairwise_append.1 hr).2.2 x hx f (by simp)
    have hap : applyP ⟨c, nx, pre⟩ (putE f) = ⟨c, nx, pre ++ [f]⟩ := by
      rw [apply_put _ rfl]
      show (⟨c, if nx ≤ f.id then f.id + 1 else nx, putP pre f⟩ : St) = _
      rw [putP_last hlt, if_neg (by have := hn f (by simp); omega)]
    rw [hap, ih (pre ++ [f]) (i + 1) (fun j hj => ?_) (by simpa using hr) (fun g hg => hn g (by simp [hg]))]
    · simp
    · have := hb (j + 1) (by simpa using hj)
      rw [show i + 1 + j = i + (j + 1) by omega]
      simpa using this
theorem slotGo_congr {A A' : AD} {b s : Nat} : ∀ (r i : Nat) (st : St), (∀ j, i ≤ j → j < i + r → A'.blk (b + j) = A.blk (b + j)) → slotGo A' b s i r st = slotGo A b s i r st := by
  intro r
  induction r with
  | zero => intro i st _; rfl
  | succ r ih =>
    intro i st h
    rw [slotGo, slotGo, h i (Nat.le_refl _) (by omega)]
    cases A.blk (b + i) with
    | none => rfl
    | some p =>
      obtain ⟨s', e⟩ := p
      by_cases hs : s' = s
      · simp only [hs, if_true]
        exact ih (i + 1) _ (fun j h1 h2 => h j (by omega) (by omega))
      · simp only [hs, if_false]
theorem logGo_is (A : AD) (sv : Nat) : ∀ (es : List E) (k r : Nat) (st : St), es.length ≤ r → (∀ (j : Nat) (h : j < es.length), A.blk (k + j) = some (sv, es[j])) → (es.length < r → ∀ s e, A.blk (k + es.length) = some (s, e) → s ≠ sv) → logGo A sv k r st = (es.foldl applyP st, k + es.length) := by
  intro es
  induction es with
  | nil =>
    intro k r st hr hb hn
    cases r with
    | zero => rfl
    | succ r =>
      rw [logGo]
      have h0 := hn (by simp)
      simp only [List.length_nil, Nat.add_zero] at h0
      cases hk : A.blk k with
      | none => rfl
      | some p =>
        obtain ⟨s', e⟩ := p
        simp only [if_neg (h0 s' e hk)]
        rfl
  | cons e es ih =>
    intro k r st hr hb hn
    cases r with
    | zero => simp at hr
    | succ r =>
      have h0 := hb 0 (by simp)
      rw [Nat.add_zero] at h0
      rw [logGo, h0]
      simp only [List.getElem_cons_zero, if_true]
      rw [ih (k + 1) r (applyP st e) (by simpa using hr) (fun j hj => ?_) (fun hlt s' e' hs => ?_)]
      · simp only [List.foldl_cons, List.length_cons, Prod.mk.injEq, true_and]; omega
      · have := hb (j + 1) (by simpa using hj)
        rw [show k + 1 + j = k + (j + 1) by omega]
        simpa using this
      · refine hn (by simpa using hlt) s' e' ?_
        rw [← hs]
        congr 1
        simp only [List.length_cons]; omega
/-- What the blocks hold of a store whose state is st, behind sv saves and lg events more. -/
structure Inv (A : AD) (st : St) (sv lg : Nat) (b : St) (es : List E) : Prop where
  base : (sv = 0 ∧ b = ⟨0, 1, []⟩ ∧ (∀ k, A.head k = none)) ∨ (0 < sv ∧ slotM A (sv % 2) = (b, sv) ∧ ∀ s c nx n, A.head ((sv + 1) % 2) = some (s, c, nx, n) → s < sv)
  len : es.length = lg
  low : lg ≤ 16
  log : ∀ (i : Nat) (h : i < es.length), A.blk i = some (sv, es[i])
  past : ∀ i, lg ≤ i → i < 16 → ∀ s e, A.blk i = some (s, e) → s < sv
  good : Good st
  made : st = es.foldl applyP b
  blks : ∀ k s e, A.blk k = some (s, e) → Ev.may e ∧ s ≤ sv + 1
  heads : ∀ k s c nx n, A.head k = some (s, c, nx, n) → s ≤ sv ∧ okN c ∧ 0 ≤ nx ∧ nx ≤ 1099511627777 ∧ n ≤ 20
theorem inv_empty : Inv emptyD ⟨0, 1, []⟩ 0 0 ⟨0, 1, []⟩ [] := ⟨.inl ⟨rfl, rfl, fun _ => rfl⟩, rfl, by decide, fun i h => absurd h (Nat.not_lt_zero _), fun i _ _ s e h => (by cases h), good_zero, rfl, fun k s e h => (by cases h), fun k s c nx n h => (by cases h)⟩
theorem slotM_le {A : AD} {k m : Nat} (h : ∀ s c nx n, A.head k = some (s, c, nx, n) → s < m) : (slotM A k).2 = 0 ∨ (slotM A k).2 < m := by
  unfold slotM
  cases hh : A.head k with
  | none => exact .inl rfl
  | some p =>
    obtain ⟨s, c, nx, n⟩ := p
    simp only
    cases slotGo A (17 + 21 * k) s 0 n ⟨c, nx, []⟩ with
    | none => exact .inl rfl
    | some st => exact .inr (h s c nx n hh)
theorem inv_best {A : AD} {st b : St} {sv lg : Nat} {es : List E} (h : Inv A st sv lg b es) : best (best (⟨0, 1, []⟩, 0) (slotM A 0)) (slotM A 1) = (b, sv) := by
  rcases h.base with ⟨rfl, rfl, hn⟩ | ⟨h0, h1, h2⟩
  · have z : ∀ k, slotM A k = (⟨0, 0, []⟩, 0) := fun k => by unfold slotM; rw [hn k]
    rw [z, z]; rfl
  · have h3 := slotM_le h2
    rcases Nat.mod_two_eq_zero_or_one sv with hm | hm
    · rw [hm] at h1
      rw [show (sv + 1) % 2 = 1 by omega] at h3
      rw [h1]
      unfold best
      simp only [h0, if_true]
      rw [if_neg (by omega)]
    · rw [hm] at h1
      rw [show (sv + 1) % 2 = 0 by omega] at h3
      rw [h1]
      unfold best
      simp only
      rw [if_pos]
      split <;> first | exact h0 | omega
theorem inv_open {A : AD} {st b : St} {sv lg : Nat} {es : List E} (h : Inv A st sv lg b es) : openM A = (st, sv, lg) := by
  unfold openM
  rw [inv_best h]
  simp only
  rw [logGo_is A sv es 0 16 b (by rw [h.len]; exact h.low) (fun j hj => by rw [Nat.zero_add]; exact h.log j hj) (fun hlt s e hs => ?_)]
  · rw [← h.made, Nat.zero_add, h.len]
  · rw [Nat.zero_add, h.len] at hs
    have := h.past lg (Nat.le_refl _) (by rw [← h.len]; exact hlt) s e hs
    omega
theorem slotM_congr {A A' : AD} {k : Nat} (hh : A'.head k = A.head k) (h : ∀ s c nx n, A.head k = some (s, c, nx, n) → n ≤ 20) (hb : ∀ j, j < 20 → A'.blk (17 + 21 * k + j) = A.blk (17 + 21 * k + j)) : slotM A' k = slotM A k := by
  unfold slotM
  rw [hh]
  cases hh2 : A.head k with
  | none => rfl
  | some p =>
    obtain ⟨s, c, nx, n⟩ := p
    simp only
    rw [slotGo_congr n 0 _ (fun j _ hj => hb j (by have := h s c nx n hh2; omega))]
theorem inv_add {A : AD} {st b : St} {sv lg : Nat} {es : List E} {e : E} (h : Inv A st sv lg b es) (hlg : lg < 16) (he : Ev.may e) (hl : (applyP st e).fams.length ≤ 20) :
    Inv ⟨updN A.blk lg (some (sv, e)), A.head⟩ (applyP st e) sv (lg + 1) b (es ++ [e]) := by
  have hhd : ∀ k, k < 2 → slotM ⟨updN A.blk lg (some (sv, e)), A.head⟩ k = slotM A k := fun k hk => slotM_congr rfl (fun s c nx n hs => (h.heads k s c nx n hs).2.2.2.2) (fun j hj => by show updN A.blk lg _ _ = _; unfold updN; rw [if_neg (by omega)])
  refine ⟨?_, by rw [List.length_append, h.len]; rfl, hlg, ?_, ?_, good_apply h.good he hl, (by rw [List.foldl_append, ← h.made]; rfl), ?_, h.heads⟩
  · rcases h.base with h1 | ⟨h0, h1, h2⟩
    · exact .inl h1
    · exact .inr ⟨h0, by rw [hhd _ (Nat.mod_lt _ (by decide))]; exact h1, h2⟩
  · intro i hi
    show updN A.blk lg (some (sv, e)) i = _
    unfold updN
    by_cases hil : i = lg
    · subst hil
      rw [if_pos rfl, List.getElem_append_right (by rw [h.len]; exact Nat.le_refl _)]
      simp
    · rw [List.length_append, h.len] at hi
      have hi' : i < es.length := by rw [h.len]; simp at hi; omega
      rw [if_neg hil, List.getElem_append_left hi']
      exact h.log i hi'
  · intro i h1 h2 s e' hs
    have hs' : updN A.blk lg (some (sv, e)) i = some (s, e') := hs
    unfold updN at hs'
    rw [if_neg (by omega)] at hs'
    exact h.past i (by omega) h2 s e' hs'
  · intro k s e' hs
    have hs' : updN A.blk lg (some (sv, e)) k = some (s, e') := hs
    unfold updN at hs'
    split at hs'
    · obtain ⟨rfl, rfl⟩ := Prod.mk.inj (Option.some.inj hs')
      exact ⟨he, by omega⟩
    · exact h.blks k s e' hs'
theorem inv_part {A : AD} {st b : St} {sv lg : Nat} {es : List E} {e : E} (h : Inv A st sv lg b es) (i : Nat) (hi : i < 20) (he : Ev.may e) :
    Inv ⟨updN A.blk (17 + 21 * ((sv + 1) % 2) + i) (some (sv + 1, e)), A.head⟩ st sv lg b es := by
  have hm : (sv % 2 = 0 ∧ (sv + 1) % 2 = 1) ∨ (sv % 2 = 1 ∧ (sv + 1) % 2 = 0) := by omega
  have hne : ∀ j, j < 16 → updN A.blk (17 + 21 * ((sv + 1) % 2) + i) (some (sv + 1, e)) j = A.blk j := fun j hj => by unfold updN; rw [if_neg (by omega)]
  refine ⟨?_, h.len, h.low, fun j hj => (hne j (by rw [h.len] at hj; have := h.low; omega)).trans (h.log j hj), fun j h1 h2 s e' hs => h.past j h1 h2 s e' ((hne j h2).symm.trans hs), h.good, h.made, ?_, h.heads⟩
  · rcases h.base with h1 | ⟨h0, h1, h2⟩
    · exact .inl h1
    · refine .inr ⟨h0, ?_, h2⟩
      rw [slotM_congr (A := A) (A' := ⟨updN A.blk (17 + 21 * ((sv + 1) % 2) + i) (some (sv + 1, e)), A.head⟩) rfl (fun s c nx n hs => (h.heads _ s c nx n hs).2.2.2.2) (fun j hj => ?_)]
      · exact h1
      · show updN A.blk _ _ _ = _
        unfold updN
        rw [if_neg (by omega)]
  · intro k s e' hs
    have hs' : updN A.blk (17 + 21 * ((sv + 1) % 2) + i) (some (sv + 1, e)) k = some (s, e') := hs
    unfold updN at hs'
    split at hs'
    · obtain ⟨rfl, rfl⟩ := Prod.mk.inj (Option.some.inj hs')
      exact ⟨he, by omega⟩
    · exact h.blks k s e' hs'
theorem inv_head {A : AD} {st b : St} {sv lg : Nat} {es : List E} (h : Inv A st sv lg b es) (hp : ∀ (j : Nat) (hj : j < st.fams.length), A.blk (17 + 21 * ((sv + 1) % 2) + j) = some (sv + 1, putE st.fams[j])) :
    Inv ⟨A.blk, updN A.head ((sv + 1) % 2) (some (sv + 1, st.clock, st.next, st.fams.length))⟩ st (sv + 1) 0 st [] := by
  have hm : (sv % 2 = 0 ∧ (sv + 1) % 2 = 1) ∨ (sv % 2 = 1 ∧ (sv + 1) % 2 = 0) := by omega
  refine ⟨.inr ⟨by omega, ?_, ?_⟩, rfl, by decide, fun i hi => absurd hi (Nat.not_lt_zero _), ?_, h.good, rfl, fun k s e hs => ⟨(h.blks k s e hs).1, by have := (h.blks k s e hs).2; omega⟩, ?_⟩
  · unfold slotM
    have h1 : updN A.head ((sv + 1) % 2) (some (sv + 1, st.clock, st.next, st.fams.length)) ((sv + 1) % 2) = some (sv + 1, st.clock, st.next, st.fams.length) := by unfold updN; rw [if_pos rfl]
    simp only [h1]
    rw [slotGo_puts ⟨A.blk, _⟩ _ (sv + 1) st.clock st.next st.fams [] 0 (fun j hj => by simpa using hp j hj) (by simpa using h.good.ris) (fun f hf => (h.good.may f hf).2)]
    rfl
  · intro s c nx n hs
    have hs' : updN A.head ((sv + 1) % 2) (some (sv + 1, st.clock, st.next, st.fams.length)) ((sv + 1 + 1) % 2) = some (s, c, nx, n) := hs
    unfold updN at hs'
    rw [if_neg (by omega)] at hs'
    have := (h.heads _ s c nx n hs').1
    omega
  · intro i _ hi s e hs
    have h1 : A.blk i = some (s, e) := hs
    by_cases hl : i < lg
    · have := h.log i (by rw [h.len]; exact hl)
      rw [h1] at this
      have := (Prod.mk.inj (Option.some.inj this)).1
      omega
    · have := h.past i (by omega) hi s e h1
      omega
  · intro k s c nx n hs
    have hs' : updN A.head ((sv + 1) % 2) (some (sv + 1, st.clock, st.next, st.fams.length)) k = some (s, c, nx, n) := hs
    unfold updN at hs'
    split at hs'
    · simp only [Option.some.injEq, Prod.mk.injEq] at hs'
      obtain ⟨rfl, rfl, rfl, rfl⟩ := hs'
      exact ⟨Nat.le_refl _, h.good.clock, by have := h.good.next0; omega, h.good.next1, h.good.len⟩
    · have := h.heads k s c nx n hs'
      exact ⟨by omega, this.2⟩
theorem may_put {f : Fam} (h : mayF f) : Ev.may (putE f) := .inl ⟨rfl, h, rfl, rfl⟩
end Go.Proofs.YtlailakofhenkabGreatDoor.Ev

/-
  Plain mathematics: a store's blocks as texts, sealed by a tag ahead.
-/

namespace Go.Proofs.YtlailakofhenkabGreatDoor.Ev
open Go.Lib Tok Sc
/-- A tag: sixteen signs, no blank. -/
structure TagOk (τ : List UInt8 → List UInt8) : Prop where
  len : ∀ l, (τ l).length = 16
  no : ∀ l, (32 : UInt8) ∉ τ l
def sealL (τ : List UInt8 → List UInt8) (t : List UInt8) : List UInt8 := τ t ++ 32 :: t
def evL (s : Nat) (e : E) : List UInt8 := itoa s ++ 32 :: line e
def hdWs (s : Nat) (c nx : Int) (n : Nat) : List Word := [itoa s, itoa c, itoa nx, itoa n]
def hdL (s : Nat) (c nx : Int) (n : Nat) : List UInt8 := join (hdWs s c nx n) [32]
def txtE : Option (Nat × E) → List UInt8
  | none => []
  | some (s, e) => evL s e
def txtH : Option (Nat × Int × Int × Nat) → List UInt8
  | none => []
  | some (s, c, nx, n) => hdL s c nx n
/-- A block that holds a text, or is empty. -/
def inBlock (τ : List UInt8 → List UInt8) (t : List UInt8) : List UInt8 := if t = [] then [] else sealL τ t
def isHead (k : Nat) : Prop := k = 16 ∨ k = 37
/-- What lies in block k. -/
def txtAt (A : AD) (k : Nat) : List UInt8 := if k = 16 then txtH (A.head 0) else if k = 37 then txtH (A.head 1) else txtE (A.blk k)
def EncF (τ : List UInt8 → List UInt8) (F : Int → ByteArray) (A : AD) : Prop := ∀ k : Nat, k < 90 → F k = (⟨(inBlock τ (txtAt A k)).toArray⟩ : ByteArray)
theorem evL_ne (s : Nat) (e : E) : evL s e ≠ [] := by unfold evL; simp
theorem hdL_ne (s : Nat) (c nx : Int) (n : Nat) : hdL s c nx n ≠ [] := by
  unfold hdL hdWs
  rw [glue_two]; simp
theorem hdL_is (s : Nat) (c nx : Int) (n : Nat) : hdL s c nx n = itoa s ++ 32 :: (itoa c ++ 32 :: (itoa nx ++ 32 :: itoa n)) := by
  unfold hdL hdWs
  rw [glue_two, glue_two, glue_two]
  simp [join]
theorem txtAt_log {A : AD} {k : Nat} (h : k < 16) : txtAt A k = txtE (A.blk k) := by unfold txtAt; rw [if_neg (by omega), if_neg (by omega)]
theorem txtAt_fam {A : AD} {sl i : Nat} (_hs : sl < 2) (h : i < 20) : txtAt A (17 + 21 * sl + i) = txtE (A.blk (17 + 21 * sl + i)) := by unfold txtAt; rw [if_neg (by omega), if_neg (by omega)]
theorem txtAt_head {A : AD} {sl : Nat} (hs : sl < 2) : txtAt A (16 + 21 * sl) = txtH (A.head sl) := by
  unfold txtAt
  rcases (show sl = 0 ∨ sl = 1 by omega) with rfl | rfl <;> simp
theorem enc_empty (τ : List UInt8 → List UInt8) : EncF τ (fun _ => ⟨#[]⟩) emptyD := fun k _ => by
  have : txtAt emptyD k = [] := by unfold txtAt emptyD; simp [txtH, txtE]
  rw [this]; unfold inBlock; rw [if_pos rfl]
theorem enc_blk {τ : List UInt8 → List UInt8} {F F' : Int → ByteArray} {A : AD} (h : EncF τ F A) (k : Nat) (hk : k ≠ 16 ∧ k ≠ 37) (s : Nat) (e : E) (h1 : F' k = (⟨(sealL τ (evL s e)).toArray⟩ : ByteArray)) (h2 : ∀ j : Int, j ≠ k → F' j = F j) : EncF τ F' ⟨updN A.blk k (some (s, e)), A.head⟩ := fun j hj => by
  by_cases hjk : j = k
  · subst hjk
    rw [h1]
    have : txtAt ⟨updN A.blk j (some (s, e)), A.head⟩ j = evL s e := by unfold txtAt updN; rw [if_neg hk.1, if_neg hk.2]; simp [txtE]
    rw [this]; unfold inBlock; rw [if_neg (evL_ne s e)]
  · rw [h2 j (by omega), h j hj]
    have : txtAt ⟨updN A.blk k (some (s, e)), A.head⟩ j = txtAt A j := by unfold txtAt updN; simp only [if_neg hjk]
    rw [this]
theorem enc_head {τ : List UInt8 → List UInt8} {F F' : Int → ByteArray} {A : AD} (h : EncF τ F A) (sl : Nat) (hs : sl < 2) (s : Nat) (c nx : Int) (n : Nat) (h1 : F' ((16 + 21 * sl : Nat) : Int) = (⟨(sealL τ (hdL s c nx n)).toArray⟩ : ByteArray)) (h2 : ∀ j : Int, j ≠ ((16 + 21 * sl : Nat) : Int) → F' j = F j) : EncF τ F' ⟨A.blk, updN A.head sl (some (s, c, nx, n))⟩ := fun j hj => by
  by_cases hjk : j = 16 + 21 * sl
  · subst hjk
    rw [h1]
    have : txtAt ⟨A.blk, updN A.head sl (some (s, c, nx, n))⟩ (16 + 21 * sl) = hdL s c nx n := by rw [txtAt_head hs]; unfold updN; simp [txtH]
    rw [this]; unfold inBlock; rw [if_neg (hdL_ne s c nx n)]
  · rw [h2 j (by omega), h j hj]
    have : txtAt ⟨A.blk, updN A.head sl (some (s, c, nx, n))⟩ j = txtAt A j := by
      unfold txtAt updN
      rcases (show sl = 0 ∨ sl = 1 by omega) with rfl | rfl
      · have h16 : j ≠ 16 := by omega
        simp [h16]
      · have h37 : j ≠ 37 := by omega
        simp [h37]
    rw [this]
theorem seal_len {τ : List UInt8 → List UInt8} (h : TagOk τ) (t : List UInt8) : (sealL τ t).length = t.length + 17 := by
  unfold sealL
  rw [List.length_append, h.len, List.length_cons]; omega
theorem cut_seal {τ : List UInt8 → List UInt8} (h : TagOk τ) (t : List UInt8) : cut (sealL τ t) [32] = (τ t, t, true) := cut_at t (h.no t)
theorem cut_ev {s : Nat} (hs : okN s) (e : E) : cut (evL s e) [32] = (itoa s, line e, true) := cut_at (line e) (itoa_no hs (by decide))
theorem evL_len {s : Nat} (hs : okN s) {e : E} (he : Ev.may e) : (evL s e).length ≤ 194 := by
  have h1 := digits13 hs
  have h2 := line_len he
  unfold evL
  rw [List.length_append, List.length_cons]; omega
theorem hd_no {s : Nat} {c nx : Int} {n : Nat} (h1 : 0 ≤ c) (h2 : 0 ≤ nx) : ∀ y ∈ hdWs s c nx n, (32 : UInt8) ∉ y := by
  have hz : ∀ {m : Int}, 0 ≤ m → (32 : UInt8) ∉ itoa m := fun {m} hm hx => by
    rw [itoa_pos hm] at hx
    have := dec_digits _ _ hx
    simp at this
  intro y hy
  unfold hdWs at hy
  simp only [List.mem_cons, List.not_mem_nil, or_false] at hy
  rcases hy with rfl | rfl | rfl | rfl
  · exact hz (by omega)
  · exact hz h1
  · exact hz h2
  · exact hz (by omega)
theorem parts_hd {s : Nat} {c nx : Int} {n : Nat} (h1 : 0 ≤ c) (h2 : 0 ≤ nx) : parts 32 (hdL s c nx n) = hdWs s c nx n := parts_glue _ _ (hd_no h1 h2)
theorem hdL_len {s : Nat} {c nx : Int} {n : Nat} (h0 : okN s) (h1 : okN c) (h2 : okN (nx - 1)) (h3 : n ≤ 20) : (hdL s c nx n).length ≤ 55 := by
  have d1 := digits13 h0
  have d2 := digits13 h1
  have d3 := digits13 (n := (n : Int)) ⟨by omega, by omega⟩
  have d4 : (itoa nx).length ≤ 13 := by
    by_cases hx : nx ≤ 1099511627776
    · exact digits13 ⟨by have := h2.1; omega, hx⟩
    · obtain rfl : nx = 1099511627777 := by have := h2.2; omega
      decide +kernel
  rw [hdL_is]
  simp only [List.length_append, List.length_cons]
  omega
end Go.Proofs.YtlailakofhenkabGreatDoor.Ev

/-
  A slice that the call has made, told by its cells (so that a conversion's mark behind the row does not matter), and one element appended to it. Of no program.
-/

namespace Go.Proofs.YtlailakofhenkabGreatDoor
open Go Go.RowKit
structure RowAt (B : Nat) (w : World) (g c n : Nat) (cs : List Value) : Prop where
  new : B ≤ g
  lt : g < w.heap.size
  len : cs.length = n
  le : n ≤ c
  max : c ≤ maxLen
  holds : ∀ j u, cs[j]? = some u → w.cell? ⟨g, j, none⟩ = some u
  there : ∀ j, j < c → (w.cell? ⟨g, j, none⟩).isSome = true ∧ w.frozen? ⟨g, j, none⟩ = false
theorem RowAt.block {B : Nat} {w w' : World} {g c n : Nat} {cs : List Value} (h : RowAt B w g c n cs) (hs : w.heap.size ≤ w'.heap.size) (hb : w'.heap[g]? = w.heap[g]?) : RowAt B w' g c n cs :=
  ⟨h.new, Nat.lt_of_lt_of_le h.lt hs, h.len, h.le, h.max, fun j u hj => (World.cell?_of_block (a := ⟨g, j, none⟩) hb).trans (h.holds j u hj),
    fun j hj => ⟨by rw [World.cell?_of_block (a := ⟨g, j, none⟩) hb]; exact (h.there j hj).1, (World.frozen?_of_block (a := ⟨g, j, none⟩) hb).trans (h.there j hj).2⟩⟩
theorem RowAt.below {B B' : Nat} {w w' : World} {g c n : Nat} {cs : List Value} (h : RowAt B w g c n cs) (hb : Below B' w w') (hg : g < B') : RowAt B w' g c n cs := h.block hb.size (hb.block g hg)
theorem RowAt.alloc {B : Nat} {w : World} {g c n : Nat} {cs : List Value} (h : RowAt B w g c n cs) (o : Obj) : RowAt B (w.alloc o) g c n cs := h.block (by simp) (Below.heap_alloc _ _ _ h.lt)
theorem RowAt.drew {B : Nat} {w : World} {g c n : Nat} {cs : List Value} (h : RowAt B w g c n cs) : RowAt B w.drew g c n cs := h.block (Nat.le_refl _) rfl
theorem RowAt.drewN {B : Nat} {w : World} {g c n : Nat} {cs : List Value} (h : RowAt B w g c n cs) (k : Nat) : RowAt B (w.drewN k) g c n cs := h.block (Nat.le_refl _) rfl
theorem RowAt.setCell {B : Nat} {w : World} {g c n : Nat} {cs : List Value} (h : RowAt B w g c n cs) {a : Addr} (ha : a.block ≠ g) (u : Value) : RowAt B (w.setCell a u) g c n cs :=
  h.block (by simp [World.setCell]) (Below.heap_setCell _ _ _ _ (Ne.symm ha))

/-- One element more: both arms in one way. -/
theorem wpList_append_row {P : Program} (w : World) {ops : Array Oper} {rest : List Oper} {o : Oper} {a : Act} {Q : Exit → Act → World → Prop}
    (hg : o.guard = none) (s x : Operand) (t : TypeId) (hop : o.op = Op.call { callee := Callee.builtin Builtin.append, args := #[s, x], argTypes := #[t, t] })
    (e : TypeId) (i : TypeInfo) (z : Value) (bytes : Nat) (h1 : P.underlying t = some (.slice e)) (h2 : P.info? e = some i) (h3 : i.zero = some z) (h4 : i.size = 1) (h5 : i.bytes = bytes) (h6 : z.cells.size = 1)
    (B g n c : Nat) (cs : List Value) (hs : a.eval s = .slice (some ⟨g, 0, none⟩) n c) (hrow : RowAt B w g c n cs)
    (ad : Addr) (c' : Nat) (u : Value) (hx : a.eval x = .slice (some ad) 1 c') (hc : w.cell? ad = some u) (h1c : u.oneCell' = true)
    (b1 : n + 1 ≤ maxLen) (b2 : (n + 1) * bytes ≤ 140737488355328)
    (hK : ∀ g' cc w', RowAt B w' g' cc (n + 1) (cs ++ [u]) → Below B w w' → wpList P ops Q rest (a.put o.dst (.slice (some ⟨g', 0, none⟩) (n + 1) cc)) w') :
    wpList P ops Q (o :: rest) a w := by
  have hnews : ∀ j v, [u][j]? = some v → w.cell? (ad.add j) = some v := by
    intro j v hj
    match j, hj with
    | 0, hj => simp at hj; subst hj; simpa [Addr.add] using hc
    | j + 1, hj => simp at hj
  refine wpList_append_arg w hg s x t hop e i z 1 bytes h1 h2 h3 h4 h5 h6 (by decide) g 0 n c cs hs (by rw [hrow.len]; simp) (fun j v hj => by rw [Nat.zero_add]; exact hrow.holds j v hj) ad 1 c' [u] hx (by simp) hnews (by intro v hv; simp at hv; subst hv; exact h1c) (fun hr j hj => ?_) b1 b2 (fun hr => ?_) (fun hgr v' w' hown hgb => ?_)
  · simp at hj; subst hj
    simpa using hrow.there n (by omega)
  · have hw : w.setCells g (0 + n * 1) [u] = w.setCell ⟨g, n, none⟩ u := by simp [World.setCells]
    rw [hw]
    have hth := hrow.there n (by omega)
    obtain ⟨old, hold⟩ := Option.isSome_iff_exists.1 hth.1
    refine hK g c _ ⟨hrow.new, by simp [World.setCell]; exact hrow.lt, by simp [hrow.len], by omega, hrow.max, fun j v hj => ?_, fun j hj => ?_⟩ ((Below.refl _ _).setCell (p := ⟨g, n, none⟩) hrow.new _)
    · by_cases hjn : j < n
      · rw [List.getElem?_append_left (by rw [hrow.len]; exact hjn)] at hj
        have := hrow.holds j v hj
        have hne : j ≠ n := by omega
        go_simp
      · have hj' : j = n := by
          have := (List.getElem?_eq_some_iff.1 hj).1
          simp [hrow.len] at this; omega
        subst hj'
        rw [List.getElem?_append_right (by rw [hrow.len]; omega), hrow.len] at hj
        simp at hj; subst hj
        go_simp
    · have h := hrow.there j hj
      obtain ⟨v, hv⟩ := Option.isSome_iff_exists.1 h.1
      refine ⟨?_, ?_⟩
      · by_cases hjn : j = n
        · subst hjn; go_simp
        · go_simp
      · simpa using h.2
  · rcases hown.2 with ⟨hv, h0⟩ | ⟨g', cc, cur, hv, hge, hh, hle, hmx, hsz, htk⟩
    · omega
    · subst hv
      have hB : B ≤ w.heap.size := Nat.le_trans hrow.new (Nat.le_of_lt hrow.lt)
      have hlt : g' < w'.heap.size := by
        rcases Nat.lt_or_ge g' w'.heap.size with h | h
        · exact h
        · rw [Array.getElem?_eq_none h] at hh; cases hh
      refine hK g' cc w' ⟨Nat.le_trans hB hge, hlt, by simp [hrow.len], hle, hmx, fun j v hj => ?_, fun j hj => ?_⟩ ((Below.refl _ _).grown hgb hB (fun k hk => by cases hk))
      · have hj2 := hown.cells (g := g') rfl j v hj
        rw [Addr.add_lit, Nat.zero_add] at hj2; exact hj2
      · have hjc : j < cur.size := by omega
        simp [World.cell?, World.frozen?, hh, hjc]
end Go.Proofs.YtlailakofhenkabGreatDoor

/-
  A list of texts that the call has made: nil, or a row of its own; one text put in at a place. Of no program.
-/

namespace Go.Proofs.YtlailakofhenkabGreatDoor
open Go Go.RowKit
def Words (B : Nat) (w : World) (v : Value) (xs : List ByteArray) : Prop :=
  (v = .slice none 0 0 ∧ xs = []) ∨ ∃ g c, v = .slice (some ⟨g, 0, none⟩) xs.length c ∧ RowAt B w g c xs.length (xs.map Value.string)
theorem Words.below {B B' : Nat} {w w' : World} {v : Value} {xs : List ByteArray} (h : Words B w v xs) (hb : Below B' w w') (hB : w.heap.size ≤ B') : Words B w' v xs := by
  rcases h with ⟨rfl, rfl⟩ | ⟨g, c, rfl, hr⟩
  · exact .inl ⟨rfl, rfl⟩
  · exact .inr ⟨g, c, rfl, hr.below hb (Nat.lt_of_lt_of_le hr.lt hB)⟩
theorem Words.mono {B B' : Nat} {w : World} {v : Value} {xs : List ByteArray} (h : Words B w v xs) (hB : B' ≤ B) : Words B' w v xs := by
  rcases h with ⟨rfl, rfl⟩ | ⟨g, c, rfl, hr⟩
  · exact .inl ⟨rfl, rfl⟩
  · exact .inr ⟨g, c, rfl, ⟨Nat.le_trans hB hr.new, hr.lt, hr.len, hr.le, hr.max, hr.holds, hr.there⟩⟩
theorem ins_get {α : Type} (cs : List α) (i : Nat) (hi : i ≤ cs.length) (u : α) (j : Nat) : (cs.take i ++ u :: cs.drop i)[j]? = if j < i then cs[j]? else if j = i then some u else cs[j - 1]? := by
  have hl : (cs.take i).length = i := by rw [List.length_take]; omega
  by_cases h1 : j < i
  · rw [if_pos h1, List.getElem?_append_left (by omega), List.getElem?_take, if_pos h1]
  · rw [if_neg h1, List.getElem?_append_right (by omega), hl]
    by_cases h2 : j = i
    · subst h2; simp
    · rw [if_neg h2]
      obtain ⟨d, rfl⟩ : ∃ d, j = i + (d + 1) := ⟨j - i - 1, by omega⟩
      rw [show i + (d + 1) - i = d + 1 by omega, List.getElem?_cons_succ, List.getElem?_drop]
      congr 1
theorem ins_len {α : Type} (cs : List α) (i : Nat) (hi : i ≤ cs.length) (u : α) : (cs.take i ++ u :: cs.drop i).length = cs.length + 1 := by
  rw [List.length_append, List.length_take, List.length_cons, List.length_drop]; omega
theorem below_setCellsW {B g : Nat} (hg : B ≤ g) : ∀ (vs : List Value) (o : Nat) (w : World), Below B w (w.setCells g o vs)
  | [], _, w => Below.refl _ w
  | v :: vs, o, w => ((Below.refl B w).setCell (p := ⟨g, o, none⟩) hg v).trans (below_setCellsW hg vs (o + 1) _)
theorem RowAt.setCells {B : Nat} {w : World} {g c n : Nat} {cs cs' : List Value} (h : RowAt B w g c n cs) (o : Nat) (vs : List Value) (ho : o + vs.length ≤ c) (hc : cs'.length ≤ c)
    (hh : ∀ j u, cs'[j]? = some u → (o ≤ j ∧ j < o + vs.length → vs[j - o]? = some u) ∧ (¬ (o ≤ j ∧ j < o + vs.length) → w.cell? ⟨g, j, none⟩ = some u)) : RowAt B (w.setCells g o vs) g c cs'.length cs' := by
  have hthere : ∀ j, j < vs.length → (w.cell? ⟨g, o + j, none⟩).isSome = true := fun j hj => (h.there (o + j) (by omega)).1
  refine ⟨h.new, ?_, rfl, hc, h.max, fun j u hj => ?_, fun j hj => ⟨?_, ?_⟩⟩
  · have hb := below_setCellsW (B := 0) (Nat.zero_le g) vs o w
    exact Nat.lt_of_lt_of_le h.lt hb.size
  · by_cases hin : o ≤ j ∧ j < o + vs.length
    · obtain ⟨d, rfl⟩ : ∃ d, j = o + d := ⟨j - o, by omega⟩
      have hv := (hh _ u hj).1 hin
      rw [show o + d - o = d by omega] at hv
      have hd : d < vs.length := (List.getElem?_eq_some_iff.1 hv).1
      rw [World.cell?_setCells_in g vs o w hthere d hd, ← hv, List.getElem?_eq_getElem hd]
    · rw [World.cell?_setCells_out g vs o w ⟨g, j, none⟩ (fun _ _ => by show j < o ∨ o + vs.length ≤ j; omega)]
      exact (hh _ u hj).2 hin
  · by_cases hin : o ≤ j ∧ j < o + vs.length
    · obtain ⟨d, rfl⟩ : ∃ d, j = o + d := ⟨j - o, by omega⟩
      rw [World.cell?_setCells_in g vs o w hthere d (by omega)]
      rfl
    · rw [World.cell?_setCells_out g vs o w ⟨g, j, none⟩ (fun _ _ => by show j < o ∨ o + vs.length ≤ j; omega)]
      exact (h.there j hj).1
  · rw [World.frozen?_setCells]
    exact (h.there j hj).2
theorem rowAt_new {B : Nat} {w : World} (hB : B ≤ w.heap.size) (cs : List Value) (n : Nat) (hn : cs.length = n) (z : Value) (G : Nat) (t : TypeId) (hm : G ≤ maxLen) (hl : n ≤ G) : RowAt B (w.alloc (.cells (cs.toArray ++ Builtin.zeroCells #[z] (G - n)) t)) w.heap.size G n cs := by
  have hs : (cs.toArray ++ Builtin.zeroCells #[z] (G - n)).size = G := by rw [Array.size_append, size_zeroCells]; simp; omega
  refine ⟨hB, by simp, hn, by omega, hm, fun j u hj => ?_, fun j hj => ⟨?_, World.frozen?_alloc_at _ _ _ _ (by simp)⟩⟩
  · have hl := (List.getElem?_eq_some_iff.1 hj).1
    rw [World.cell?_alloc_at _ _ _ _ (by simp), Array.getElem?_append_left (by simpa using hl)]
    simpa using hj
  · rw [World.cell?_alloc_at _ _ _ _ (by simp), Array.getElem?_eq_getElem (by rw [hs]; exact hj)]
    rfl
end Go.Proofs.YtlailakofhenkabGreatDoor
