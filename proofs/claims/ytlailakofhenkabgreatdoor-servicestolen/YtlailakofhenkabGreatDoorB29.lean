/-
  Own texts put together: SvEvo, SvP7.
-/
import Derived.Test.YtlailakofhenkabGreatDoorB20
import Derived.Test.YtlailakofhenkabGreatDoorB26
namespace Go.Proofs.YtlailakofhenkabGreatDoor.Ev
open Go.Lib Tok Sc
def Nar (a b : ByteArray) : Prop := WOut a.data.toList b.data.toList true 0
theorem nar_self {a : ByteArray} (h : Lst a.data.toList) : Nar a a := by
  obtain ⟨l, h1, -⟩ := h
  exact ⟨l, 0, l, 0, h1, h1, .inr (.inr ⟨rfl, rfl, rfl, (inB_iff.2 fun _ h => h).symm⟩)⟩
def Fol (f f' : Fam) : Prop := f.id = f'.id ∧ (f.dead = true → f'.dead = true) ∧ ((f'.gen = f.gen ∧ f'.request = f.request) ∨ f.gen < f'.gen) ∧ Nar f'.scope f.scope
theorem fol_self {f : Fam} (h : mayF f) : Fol f f := ⟨rfl, id, .inl ⟨rfl, rfl⟩, nar_self h.2.2.2.2⟩
structure Evo (s s' : St) : Prop where
  next : s.next ≤ s'.next
  fams : ∀ f' ∈ s'.fams, s.next ≤ f'.id ∨ ∃ f ∈ s.fams, Fol f f'
theorem Evo.same {s : St} (h : Good s) : Evo s s := ⟨Int.le_refl _, fun f hf => .inr ⟨f, hf, fol_self (h.may f hf).1⟩⟩
theorem put_in {l : List Fam} {f x : Fam} : x ∈ putP l f ↔ x = f ∨ (x ∈ l ∧ x.id ≠ f.id) := by
  rw [put_mem, List.mem_append, List.mem_singleton]
  unfold dropP
  rw [List.mem_filter, decide_eq_true_iff]
  constructor
  · rintro (h | h)
    · exact .inr h
    · exact .inl h
  · rintro (h | h)
    · exact .inr h
    · exact .inl h
theorem evo_put {s : St} (h : Good s) {g : Fam} (hg : s.next ≤ g.id ∨ ∃ f ∈ s.fams, Fol f g) : Evo s (applyP s (putE g)) := by
  rw [apply_put s rfl]
  refine ⟨?_, fun f' hf => ?_⟩
  · show s.next ≤ if s.next ≤ g.id then g.id + 1 else s.next
    split <;> omega
  · rcases put_in.1 hf with rfl | ⟨h1, h2⟩
    · exact hg
    · exact .inr ⟨f', h1, fol_self (h.may f' h1).1⟩
theorem evo_drop {s : St} (h : Good s) (i : Int) : Evo s (applyP s (dropE i)) := by
  rw [apply_drop s rfl]
  refine ⟨Int.le_refl _, fun f' hf => .inr ⟨f', ?_, ?_⟩⟩
  · exact (List.mem_filter.1 hf).1
  · exact fol_self (h.may f' ((List.mem_filter.1 hf).1)).1
theorem evo_clock {s : St} (h : Good s) (t : Int) : Evo s (applyP s (clockE t)) := by
  rw [apply_clock s rfl]
  exact ⟨Int.le_refl _, fun f' hf => .inr ⟨f', hf, fol_self (h.may f' hf).1⟩⟩
theorem put1_st (p : Pub) (e : E) : ((putP1 p e).2 = 0 ∧ (putP1 p e).1.st = applyP p.st e) ∨ ((putP1 p e).2 = 14 ∧ (putP1 p e).1.st = p.st) := by
  unfold putP1
  split
  · exact .inr ⟨rfl, rfl⟩
  · exact .inl ⟨rfl, rfl⟩
theorem save_res (p : Pub) : (saveP p).2 = 0 ∨ (saveP p).2 = 6 ∨ (saveP p).2 = 14 := by
  unfold saveP
  split
  · exact .inr (.inl rfl)
  · split
    · exact .inl rfl
    · exact .inr (.inr rfl)
theorem add_st (p : Pub) (e : E) (m : Bool) : ((addP p e m).2 = 0 ∧ (addP p e m).1.st = applyP p.st e) ∨ ((addP p e m).2 ≠ 0 ∧ (addP p e m).2 ≠ 15 ∧ (addP p e m).1.st = p.st) := by
  unfold addP
  split
  · exact .inr ⟨by simp, by simp, rfl⟩
  split
  · exact .inr ⟨by simp, by simp, rfl⟩
  split
  · exact .inr ⟨by simp, by simp, rfl⟩
  split
  · split
    · rcases put1_st (saveP p).1 e with ⟨h1, h2⟩ | ⟨h1, h2⟩
      · exact .inl ⟨h1, by rw [h2, save_st]⟩
      · exact .inr ⟨by rw [h1]; decide, by rw [h1]; decide, by rw [h2, save_st]⟩
    · rename_i h0
      refine .inr ⟨h0, ?_, save_st p⟩
      rcases save_res p with h | h | h <;> rw [h] <;> decide
  · rcases put1_st p e with ⟨h1, h2⟩ | ⟨h1, h2⟩
    · exact .inl ⟨h1, h2⟩
    · exact .inr ⟨by rw [h1]; decide, by rw [h1]; decide, h2⟩
theorem evo_add {p : Pub} (h : Good p.st) (e : E) (m : Bool) (he : Evo p.st (applyP p.st e)) : Evo p.st (addP p e m).1.st := by
  rcases add_st p e m with ⟨-, h1⟩ | ⟨-, -, h1⟩
  · rw [h1]; exact he
  · rw [h1]; exact Evo.same h
theorem fol_dead {f : Fam} (h : mayF f) : Fol f (deadF f) := ⟨rfl, fun _ => rfl, .inl ⟨rfl, rfl⟩, nar_self h.2.2.2.2⟩
theorem fol_next {f : Fam} {request sc : ByteArray} {now : Int} (hn : Nar sc f.scope) : Fol f (nextF f request sc now) := ⟨rfl, id, .inr (by show f.gen < f.gen + 1; omega), hn⟩
theorem give_st (tx : T → ByteArray) (p : Pub) (f : Fam) : (giveM tx p f).1 = (addP p (putE f) true).1 ∧ ((giveM tx p f).2.2 = (addP p (putE f) true).2) := by
  unfold giveM
  split
  · rename_i h; exact ⟨rfl, h.symm⟩
  · exact ⟨rfl, rfl⟩
theorem fam_in {r : Rul} {s : St} {kind : Int} {t : T} {n : Nat} (h : lookM r s kind t n = 0) : famM s t ∈ s.fams ∧ (famM s t).id = t.f ∧ (famM s t).dead = false ∧ n = 0 ∧ t.g ≤ (famM s t).gen ∧ t.k = kind := by
  obtain ⟨h1, h2⟩ := look_ok h
  obtain ⟨h3, h4, h5, h6, -⟩ := look_fam h1
  obtain ⟨h7, h8⟩ := find_mem h5
  exact ⟨h7, h8, h6, h3, by omega, h4⟩
def RotW (r : Rul) (s : St) (t : T) (n : Nat) (sc : ByteArray) (m : Nat) (b : Bool) : Prop := lookM r s 1 t n = 0 → m = 0 → WOut sc.data.toList (famM s t).scope.data.toList b 0
theorem evo_rotate {tx : T → ByteArray} {r : Rul} {p : Pub} (h : Good p.st) (ok : Bool) (request : ByteArray) (t : T) (n : Nat) (sc : ByteArray) (m : Nat) (b : Bool) (hw : RotW r p.st t n sc m b) : Evo p.st (rotateM tx r p ok request t n sc m b).1.st := by
  unfold rotateM
  split
  · exact Evo.same h
  split
  · exact Evo.same h
  rename_i hl
  have hl : lookM r p.st 1 t n = 0 := by simpa using hl
  obtain ⟨g1, g2, g3, g4, g5, -⟩ := fam_in hl
  split
  · unfold turnM
    split
    · exact Evo.same h
    rename_i hm
    split
    · exact Evo.same h
    rename_i hb
    split
    · exact Evo.same h
    rw [(give_st _ _ _).1]
    have hw' := hw hl (by simpa using hm)
    have hb' : b = true := by simpa using hb
    rw [hb'] at hw'
    exact evo_add h _ _ (evo_put h (.inr ⟨_, g1, fol_next hw'⟩))
  split
  · exact Evo.same h
  · exact evo_add h _ _ (evo_put h (.inr ⟨_, g1, fol_dead (h.may _ g1).1⟩))
theorem evo_grant {tx : T → ByteArray} {p : Pub} (h : Good p.st) (ok : Bool) (client subject sc : ByteArray) (n : Nat) : Evo p.st (grantM tx p ok client subject sc n).1.st := by
  unfold grantM
  split
  · exact Evo.same h
  split
  · exact Evo.same h
  split
  · exact Evo.same h
  split
  · exact Evo.same h
  rw [(give_st _ _ _).1]
  exact evo_add h _ _ (evo_put h (.inl (Int.le_refl _)))
theorem evo_kill {p : Pub} (h : Good p.st) (i : Int) : Evo p.st (killM p i).1.st := by
  unfold killM
  split
  · exact Evo.same h
  · rename_i f hf
    split
    · exact Evo.same h
    · exact evo_add h _ _ (evo_put h (.inr ⟨_, (find_mem hf).1, fol_dead (fam_may h hf)⟩))
theorem evo_tick {p : Pub} (h : Good p.st) (n : Int) : Evo p.st (tickM p n).1.st := by
  unfold tickM
  split
  · exact Evo.same h
  · exact evo_add h _ _ (evo_clock h _)
theorem evo_sweep {r : Rul} {p : Pub} (h : Good p.st) : Evo p.st (sweepM r p).1.st := by
  unfold sweepM
  split
  · exact Evo.same h
  · exact evo_add h _ _ (evo_drop h _)
theorem rising_one : ∀ {l : List Fam}, Rising l → ∀ {f g : Fam}, f ∈ l → g ∈ l → f.id = g.id → f = g
  | [], _, f, g, hf, _, _ => by simp at hf
  | x :: l, h, f, g, hf, hg, he => by
    obtain ⟨h1, h2⟩ := List.pairwise_cons.1 h
    rcases List.mem_cons.1 hf with rfl | hf'
    · rcases List.mem_cons.1 hg with rfl | hg'
      · rfl
      · have := h1 g hg'; omega
    · rcases List.mem_cons.1 hg with rfl | hg'
      · have := h1 f hf'; omega
      · exact rising_one h2 hf' hg' he
def Took (s : St) (i g : Int) (q : ByteArray) : Prop := i < s.next ∧ ∀ f ∈ s.fams, f.id = i → g < f.gen ∧ (f.gen = g + 1 → f.request = q)
theorem took_evo {s s' : St} {i g : Int} {q : ByteArray} (h : Took s i g q) (he : Evo s s') : Took s' i g q := by
  refine ⟨Int.lt_of_lt_of_le h.1 he.next, fun f' hf hi => ?_⟩
  rcases he.fams f' hf with h1 | ⟨f, h1, h2, -, h3, -⟩
  · have := h.1; omega
  · obtain ⟨h4, h5⟩ := h.2 f h1 (by omega)
    rcases h3 with ⟨h3, h6⟩ | h3
    · rw [h3, h6]; exact ⟨h4, h5⟩
    · exact ⟨by omega, fun hh => by omega⟩
theorem rotate_took {tx : T → ByteArray} {r : Rul} {p : Pub} (h : Good p.st) {ok : Bool} {request : ByteArray} {t : T} {n : Nat} {sc : ByteArray} {m : Nat} {b : Bool} (hr : (rotateM tx r p ok request t n sc m b).2.2 = 0) :
    n = 0 ∧ Took (rotateM tx r p ok request t n sc m b).1.st t.f t.g request ∧ ∀ q, Took p.st t.f t.g q → request = q := by
  unfold rotateM at hr ⊢
  split at hr
  · cases hr
  rename_i hok
  rw [if_neg hok]
  split at hr
  · rename_i hl; exact absurd hr hl
  rename_i hl
  rw [if_neg hl]
  have hl : lookM r p.st 1 t n = 0 := by simpa using hl
  obtain ⟨g1, g2, g3, g4, g5, -⟩ := fam_in hl
  have hnx : t.f < p.st.next := by have := (h.may _ g1).2; omega
  split at hr
  · rename_i hg
    rw [if_pos hg]
    refine ⟨g4, ?_, fun q hq => ?_⟩
    · unfold turnM at hr ⊢
      split at hr
      · rename_i hm; exact absurd hr hm
      rename_i hm
      rw [if_neg hm]
      split at hr
      · cases hr
      rename_i hb
      rw [if_neg hb]
      split at hr
      · cases hr
      rename_i hx
      rw [if_neg hx]
      rw [(give_st _ _ _).2] at hr
      rw [(give_st _ _ _).1]
      rcases add_st p (putE (nextF (famM p.st t) request sc p.st.clock)) true with ⟨-, h1⟩ | ⟨h1, -⟩
      · rw [h1, apply_put p.st rfl]
        have hid : (putE (nextF (famM p.st t) request sc p.st.clock)).fam.id = t.f := g2
        refine ⟨?_, fun f hf hi => ?_⟩
        · show t.f < if p.st.next ≤ (putE (nextF (famM p.st t) request sc p.st.clock)).fam.id then _ else _
          rw [if_neg (by omega)]
          exact hnx
        · rcases put_in.1 hf with rfl | ⟨-, h2⟩
          · show t.g < (famM p.st t).gen + 1 ∧ _
            exact ⟨by omega, fun _ => rfl⟩
          · exact absurd (hi.trans hid.symm) h2
      · exact absurd hr h1
    · have := (hq.2 _ g1 g2).1
      omega
  rename_i hg
  rw [if_neg hg]
  split at hr
  · rename_i hq
    rw [if_pos hq]
    refine ⟨g4, ⟨hnx, fun f hf hi => ?_⟩, fun q hq' => ?_⟩
    · obtain rfl := rising_one h.ris hf g1 (hi.trans g2.symm)
      exact ⟨by omega, fun _ => hq.2.symm⟩
    · have := (hq'.2 _ g1 g2).2 (by omega)
      rw [hq.2, this]
  · rename_i hq
    exfalso
    unfold spoilM at hr
    split at hr
    · cases hr
    · rename_i h1; exact absurd hr h1
def Lost (s : St) (i : Int) : Prop := i < s.next ∧ ∀ f ∈ s.fams, f.id = i → f.dead = true
theorem lost_evo {s s' : St} {i : Int} (h : Lost s i) (he : Evo s s') : Lost s' i := by
  refine ⟨Int.lt_of_lt_of_le h.1 he.next, fun f' hf hi => ?_⟩
  rcases he.fams f' hf with h1 | ⟨f, h1, h2, h3, -⟩
  · have := h.1; omega
  · exact h3 (h.2 f h1 (by omega))
theorem lost_no {r : Rul} {s : St} {kind : Int} {t : T} {n : Nat} (h : lookM r s kind t n = 0) : ¬ Lost s t.f := fun hl => by
  obtain ⟨g1, g2, g3, -⟩ := fam_in h
  have := hl.2 _ g1 g2
  rw [g3] at this
  cases this
theorem errT_15 (n : Nat) : errT n ≠ 15 := by
  match n with
  | 0 => decide
  | 1 => decide
  | n + 2 => exact fun h => by cases h
theorem look_15 (r : Rul) (s : St) (kind : Int) (t : T) (n : Nat) : lookM r s kind t n ≠ 15 := by
  by_cases hn : n = 0
  · subst hn
    by_cases hk : t.k = kind
    · cases hf : findF s.fams t.f with
      | none => rw [look_none r s kind t hk hf]; decide
      | some f => rw [look_some r s kind t hk hf]; split <;> (try split) <;> (try split) <;> decide
    · rw [look_kind r s kind t hk]; decide
  · rw [(look_bad r s kind t hn).1]; exact errT_15 n
theorem rotate_lost {tx : T → ByteArray} {r : Rul} {p : Pub} (h : Good p.st) {ok : Bool} {request : ByteArray} {t : T} {n : Nat} {sc : ByteArray} {m : Nat} {b : Bool} (hm : m ≠ 15) (hr : (rotateM tx r p ok request t n sc m b).2.2 = 15) :
    Lost (rotateM tx r p ok request t n sc m b).1.st t.f := by
  unfold rotateM at hr ⊢
  split at hr
  · cases hr
  rename_i hok
  rw [if_neg hok]
  split at hr
  · exact absurd hr (look_15 _ _ _ _ _)
  rename_i hl
  rw [if_neg hl]
  have hl : lookM r p.st 1 t n = 0 := by simpa using hl
  obtain ⟨g1, g2, g3, g4, g5, -⟩ := fam_in hl
  have hnx : t.f < p.st.next := by have := (h.may _ g1).2; omega
  split at hr
  · exfalso
    unfold turnM at hr
    split at hr
    · exact hm hr
    split at hr
    · cases hr
    split at hr
    · cases hr
    rw [(give_st _ _ _).2] at hr
    rcases add_st p (putE (nextF (famM p.st t) request sc p.st.clock)) true with ⟨h1, -⟩ | ⟨-, h1, -⟩
    · rw [h1] at hr; cases hr
    · exact h1 hr
  rename_i hg
  rw [if_neg hg]
  split at hr
  · cases hr
  rename_i hq
  rw [if_neg hq]
  unfold spoilM at hr ⊢
  rcases add_st p (putE (deadF (famM p.st t))) true with ⟨-, h1⟩ | ⟨h0, h1, -⟩
  · show Lost (addP p (putE (deadF (famM p.st t))) true).1.st t.f
    rw [h1, apply_put p.st rfl]
    have hid : (putE (deadF (famM p.st t))).fam.id = t.f := g2
    refine ⟨?_, fun f hf hi => ?_⟩
    · show t.f < if p.st.next ≤ (putE (deadF (famM p.st t))).fam.id then _ else _
      rw [if_neg (by omega)]
      exact hnx
    · rcases put_in.1 hf with rfl | ⟨-, h2⟩
      · rfl
      · exact absurd (hi.trans hid.symm) h2
  · exfalso
    rw [if_neg h0] at hr
    exact h1 hr
def Scp (s : St) (F : Int → Option ByteArray) : Prop := (∀ f ∈ s.fams, F f.id = some f.scope) ∧ ∀ i x, F i = some x → i < s.next
def setS (F : Int → Option ByteArray) (l : List Fam) : Int → Option ByteArray := l.foldl (fun F f => fun i => if i = f.id then some f.scope else F i) F
theorem setS_cons (F : Int → Option ByteArray) (f : Fam) (l : List Fam) : setS F (f :: l) = setS (fun i => if i = f.id then some f.scope else F i) l := rfl
theorem setS_no : ∀ (l : List Fam) (F : Int → Option ByteArray) (i : Int), (∀ f ∈ l, f.id ≠ i) → setS F l i = F i
  | [], _, _, _ => rfl
  | f :: l, F, i, h => by
    rw [setS_cons, setS_no l _ i (fun g hg => h g (by simp [hg]))]
    exact if_neg (fun e => h f (by simp) e.symm)
theorem setS_in : ∀ (l : List Fam) (F : Int → Option ByteArray), Rising l → ∀ f ∈ l, setS F l f.id = some f.scope
  | [], _, _, f, hf => by simp at hf
  | x :: l, F, h, f, hf => by
    obtain ⟨h1, h2⟩ := List.pairwise_cons.1 h
    rw [setS_cons]
    rcases List.mem_cons.1 hf with rfl | hf'
    · rw [setS_no l _ _ (fun g hg => by have := h1 g hg; omega)]
      exact if_pos rfl
    · exact setS_in l _ h2 f hf'
theorem setS_of : ∀ (l : List Fam) (F : Int → Option ByteArray) (i : Int) (x : ByteArray), setS F l i = some x → F i = some x ∨ ∃ f ∈ l, f.id = i
  | [], _, _, _, h => .inl h
  | f :: l, F, i, x, h => by
    rw [setS_cons] at h
    rcases setS_of l _ i x h with h1 | ⟨g, h1, h2⟩
    · by_cases e : i = f.id
      · exact .inr ⟨f, by simp, e.symm⟩
      · rw [if_neg e] at h1
        exact .inl h1
    · exact .inr ⟨g, by simp [h1], h2⟩
theorem setS_val : ∀ (l : List Fam) (F : Int → Option ByteArray) (i : Int) (x : ByteArray), setS F l i = some x → F i = some x ∨ ∃ f ∈ l, x = f.scope
  | [], _, _, _, h => .inl h
  | f :: l, F, i, x, h => by
    rw [setS_cons] at h
    rcases setS_val l _ i x h with h1 | ⟨g, h1, h2⟩
    · by_cases e : i = f.id
      · rw [if_pos e] at h1
        exact .inr ⟨f, by simp, (Option.some.inj h1).symm⟩
      · rw [if_neg e] at h1
        exact .inl h1
    · exact .inr ⟨g, by simp [h1], h2⟩
theorem scp_next {s s' : St} {F : Int → Option ByteArray} (h : Scp s F) (he : Evo s s') (hg : Good s') : Scp s' (setS F s'.fams) := by
  refine ⟨setS_in _ F hg.ris, fun i x hx => ?_⟩
  rcases setS_of _ F i x hx with h1 | ⟨f, h1, h2⟩
  · exact Int.lt_of_lt_of_le (h.2 i x h1) he.next
  · rw [← h2]; exact (hg.may f h1).2
theorem scp_look {s s' : St} {F : Int → Option ByteArray} (h : Scp s F) (he : Evo s s') (hg : Good s') (j : Nat) (hj : j < s'.fams.length) {was : ByteArray} (hw : setS F (s'.fams.take j) s'.fams[j].id = some was) : Nar s'.fams[j].scope was := by
  rw [setS_no _ F _ (fun f hf => ?_)] at hw
  · rcases he.fams _ (List.getElem_mem hj) with h1 | ⟨f, h1, h2, -, -, h3⟩
    · have := h.2 _ _ hw; omega
    · rw [← h2, h.1 f h1] at hw
      rw [← Option.some.inj hw]
      exact h3
  · obtain ⟨i, hi, rfl⟩ := List.mem_iff_getElem.1 hf
    rw [List.length_take] at hi
    rw [List.getElem_take]
    have := List.pairwise_iff_getElem.1 hg.ris i j (by omega) hj (by omega)
    omega
end Go.Proofs.YtlailakofhenkabGreatDoor.Ev

namespace Go.Proofs.YtlailakofhenkabGreatDoor
open Go Go.RowKit Tok Sc Ev
set_option maxRecDepth 100000 in
set_option maxHeartbeats 8000000 in
theorem grant_is (N : Nat) (w : World) (gv gs gd : Nat) (r : Rul) (p : Pub) (v : Value) (client subject sc : ByteArray) (l : List Word) (m : Nat) (h : SvIs N w gv gs gd r p v) (hcl : client.size ≤ 5000) (hsu : subject.size ≤ 5000) (hsc : sc.size ≤ 5000) (ho : Sc.Out sc.data.toList l m) (hN : N < 98000) :
    Calls Tryz.prog 27 #[.pointer (some ⟨gv, 0, none⟩), .string client, .string subject, .string sc] w fun e w' => e = .returned (.tuple #[.string (grantM (txtB r) p (nameB client.data.toList && nameB subject.data.toList) client subject ⟨(joined l).toArray⟩ m).2.1, errQ (grantM (txtB r) p (nameB client.data.toList && nameB subject.data.toList) client subject ⟨(joined l).toArray⟩ m).2.2]) ∧ ∃ v', SPto N gs gd v w w' (grantM (txtB r) p (nameB client.data.toList && nameB subject.data.toList) client subject ⟨(joined l).toArray⟩ m).1 v' := by
  have HS : Hid (SvIs N w gv gs gd r p v) := h
  have hn1 := fun (W : World) => name_is client W (by omega)
  have hn2 := fun (W : World) => name_is subject W (by omega)
  have HLE : Hid (∀ W : World, LenOk W → Calls Tryz.prog 71 #[.string sc] W fun e w' => e = .returned (.tuple #[.string ⟨(joined l).toArray⟩, errQ m]) ∧ Below W.heap.size W w') := fun W hW => least_at sc l m ho W hsc hW
  have HGI : Hid (nameB client.data.toList = true → nameB subject.data.toList = true → m = 0 → ¬ 1099511627776 < p.st.next → ∀ (W : World), SvIs N W gv gs gd r p v → Calls Tryz.prog 72 #[.pointer (some ⟨gv, 0, none⟩), famV (newF p.st client subject ⟨(joined l).toArray⟩)] W fun e w' => e = .returned (.tuple #[.string (giveM (txtB r) p (newF p.st client subject ⟨(joined l).toArray⟩)).2.1, errQ (giveM (txtB r) p (newF p.st client subject ⟨(joined l).toArray⟩)).2.2]) ∧ ∃ v', SPto N gs gd v W w' (giveM (txtB r) p (newF p.st client subject ⟨(joined l).toArray⟩)).1 v') := fun h1 h2 hm hx W hW => by subst hm; exact give_is N W gv gs gd r p v _ hW (may_new h.sp.ok.good hx h1 h2 (lst_joined ho)) hN
  have hl20 : (p.st.fams.length : Int) ≤ 20 := by have := h.sp.ok.good.len; omega
  generalize (⟨(joined l).toArray⟩ : ByteArray) = J at *
  clear h ho hcl hsu hsc
  unfold grantM
  cases h1 : nameB client.data.toList with
  | false =>
    rw [h1] at hn1
    rw [if_pos (by rfl)]
    clear h1
    go_enter Tryz.func27, Tryz.ntmps27
    go_wp2_with fail
    refine (hn1 _).mono ?_
    rintro e1 w1 ⟨rfl, hw⟩
    obtain rfl : w = w1 := hw.symm
    go_wp2_with fail
    go_ret2
    exact ⟨rfl, _, SPto.same HS.out.sp (Below.refl _ _)⟩
  | true =>
    rw [h1] at hn1 HGI
    cases h2 : nameB subject.data.toList with
    | false =>
      rw [h2] at hn2
      rw [if_pos (by rfl)]
      clear h1 h2
      go_enter Tryz.func27, Tryz.ntmps27
      go_wp2_with fail
      refine (hn1 _).mono ?_
      rintro e1 w1 ⟨rfl, hw⟩
      obtain rfl : w = w1 := hw.symm
      go_wp2_with fail
      refine (hn2 _).mono ?_
      rintro e1 w1 ⟨rfl, hw⟩
      obtain rfl : w = w1 := hw.symm
      go_wp2_with fail
      go_ret2
      exact ⟨rfl, _, SPto.same HS.out.sp (Below.refl _ _)⟩
    | true =>
      rw [h2] at hn2 HGI
      rw [if_neg (by simp)]
      clear h1 h2
      cases m with
      | succ m =>
        rw [if_pos (by omega)]
        go_enter Tryz.func27, Tryz.ntmps27
        go_wp2_with fail
        refine (hn1 _).mono ?_
        rintro e1 w1 ⟨rfl, hw⟩
        obtain rfl : w = w1 := hw.symm
        go_wp2_with fail
        refine (hn2 _).mono ?_
        rintro e1 w1 ⟨rfl, hw⟩
        obtain rfl : w = w1 := hw.symm
        go_wp2_with fail
        refine (HLE.out _ HS.out.sp.libs.base.len).mono ?_
        rintro e2 w2 ⟨rfl, hb2⟩
        have HT2 : Hid _ := SPto.same (N := N) HS.out.sp hb2
        clear hb2
        rw [errQ_succ]
        go_wp2_with fail
        go_ret2
        exact ⟨rfl, _, HT2.out⟩
      | zero =>
        rw [if_neg (by omega)]
        by_cases hx : 1099511627776 < p.st.next
        · rw [if_pos hx]
          go_enter Tryz.func27, Tryz.ntmps27
          go_wp2_with fail
          refine (hn1 _).mono ?_
          rintro e1 w1 ⟨rfl, hw⟩
          obtain rfl : w = w1 := hw.symm
          go_wp2_with fail
          refine (hn2 _).mono ?_
          rintro e1 w1 ⟨rfl, hw⟩
          obtain rfl : w = w1 := hw.symm
          go_wp2_with fail
          refine (HLE.out _ HS.out.sp.libs.base.len).mono ?_
          rintro e2 w2 ⟨rfl, hb2⟩
          have HS2 : Hid _ := HS.out.on hb2
          have HB2 : Hid (Below w.heap.size w w2) := hb2
          rw [show errQ 0 = .nilIface from rfl]
          clear hb2
          go_wp2_with fail
          refine (svState_is N _ gv gs gd r p v HS2.out).mono ?_
          rintro e3 w3 ⟨v3, rfl, hf3, hb3⟩
          obtain ⟨b3, c3, rfl⟩ := RowsK.slice hf3
          unfold stV
          have hb4 : Below w3.heap.size w3 (w3.alloc (.cells #[.int .i64 p.st.clock, .int .i64 p.st.next, .slice b3 p.st.fams.length c3] 36)) := (Below.refl _ _).alloc (Nat.le_refl _) _
          have HS4 : Hid (SvIs N (w3.alloc (.cells #[.int .i64 p.st.clock, .int .i64 p.st.next, .slice b3 p.st.fams.length c3] 36)) gv gs gd r p v) := (HS2.out.on hb3).on hb4
          have HB3 : Hid (Below w.heap.size w (w3.alloc (.cells #[.int .i64 p.st.clock, .int .i64 p.st.next, .slice b3 p.st.fams.length c3] 36))) := (HB2.out.trans (hb3.mono HB2.out.size)).trans (hb4.mono (Nat.le_trans HB2.out.size hb3.size))
          have s0 : (w3.alloc (.cells #[.int .i64 p.st.clock, .int .i64 p.st.next, .slice b3 p.st.fams.length c3] 36)).cell? ⟨w3.heap.size, 0, none⟩ = some (.int .i64 p.st.clock) := (World.cell?_alloc_at _ _ _ _ rfl).trans rfl
          have s1 : (w3.alloc (.cells #[.int .i64 p.st.clock, .int .i64 p.st.next, .slice b3 p.st.fams.length c3] 36)).cell? ⟨w3.heap.size, 1, none⟩ = some (.int .i64 p.st.next) := (World.cell?_alloc_at _ _ _ _ rfl).trans rfl
          have s2 : (w3.alloc (.cells #[.int .i64 p.st.clock, .int .i64 p.st.next, .slice b3 p.st.fams.length c3] 36)).cell? ⟨w3.heap.size, 2, none⟩ = some (.slice b3 p.st.fams.length c3) := (World.cell?_alloc_at _ _ _ _ rfl).trans rfl
          clear hb3 hb4 hf3
          go_wp2_with fail
          go_ret2
          exact ⟨rfl, _, SPto.same HS.out.sp HB3.out⟩
        · rw [if_neg hx]
          by_cases hy : 20 ≤ p.st.fams.length
          · rw [if_pos hy]
            have hyI : (20 : Int) ≤ (p.st.fams.length : Int) := by omega
            go_enter Tryz.func27, Tryz.ntmps27
            go_wp2_with fail
            refine (hn1 _).mono ?_
            rintro e1 w1 ⟨rfl, hw⟩
            obtain rfl : w = w1 := hw.symm
            go_wp2_with fail
            refine (hn2 _).mono ?_
            rintro e1 w1 ⟨rfl, hw⟩
            obtain rfl : w = w1 := hw.symm
            go_wp2_with fail
            refine (HLE.out _ HS.out.sp.libs.base.len).mono ?_
            rintro e2 w2 ⟨rfl, hb2⟩
            have HS2 : Hid _ := HS.out.on hb2
            have HB2 : Hid (Below w.heap.size w w2) := hb2
            rw [show errQ 0 = .nilIface from rfl]
            clear hb2
            go_wp2_with fail
            refine (svState_is N _ gv gs gd r p v HS2.out).mono ?_
            rintro e3 w3 ⟨v3, rfl, hf3, hb3⟩
            obtain ⟨b3, c3, rfl⟩ := RowsK.slice hf3
            unfold stV
            have hb4 : Below w3.heap.size w3 (w3.alloc (.cells #[.int .i64 p.st.clock, .int .i64 p.st.next, .slice b3 p.st.fams.length c3] 36)) := (Below.refl _ _).alloc (Nat.le_refl _) _
            have HS4 : Hid (SvIs N (w3.alloc (.cells #[.int .i64 p.st.clock, .int .i64 p.st.next, .slice b3 p.st.fams.length c3] 36)) gv gs gd r p v) := (HS2.out.on hb3).on hb4
            have HB3 : Hid (Below w.heap.size w (w3.alloc (.cells #[.int .i64 p.st.clock, .int .i64 p.st.next, .slice b3 p.st.fams.length c3] 36))) := (HB2.out.trans (hb3.mono HB2.out.size)).trans (hb4.mono (Nat.le_trans HB2.out.size hb3.size))
            have s0 : (w3.alloc (.cells #[.int .i64 p.st.clock, .int .i64 p.st.next, .slice b3 p.st.fams.length c3] 36)).cell? ⟨w3.heap.size, 0, none⟩ = some (.int .i64 p.st.clock) := (World.cell?_alloc_at _ _ _ _ rfl).trans rfl
            have s1 : (w3.alloc (.cells #[.int .i64 p.st.clock, .int .i64 p.st.next, .slice b3 p.st.fams.length c3] 36)).cell? ⟨w3.heap.size, 1, none⟩ = some (.int .i64 p.st.next) := (World.cell?_alloc_at _ _ _ _ rfl).trans rfl
            have s2 : (w3.alloc (.cells #[.int .i64 p.st.clock, .int .i64 p.st.next, .slice b3 p.st.fams.length c3] 36)).cell? ⟨w3.heap.size, 2, none⟩ = some (.slice b3 p.st.fams.length c3) := (World.cell?_alloc_at _ _ _ _ rfl).trans rfl
            clear hb3 hb4 hf3
            go_wp2_with fail
            go_ret2
            exact ⟨rfl, _, SPto.same HS.out.sp HB3.out⟩
          · rw [if_neg hy]
            have hyI : ¬ (20 : Int) ≤ (p.st.fams.length : Int) := by omega
            have hgi := HGI.out (by trivial) (by trivial) (by trivial) hx
            have HGI2 : Hid _ := hgi
            generalize giveM (txtB r) p (newF p.st client subject J) = Q at *
            have hgj := HGI2.out
            unfold newF famV famCs noT at hgj
            simp only at hgj
            have HGI3 : Hid _ := hgj
            clear hgi hgj HGI2 HGI
            go_enter Tryz.func27, Tryz.ntmps27
            go_wp2_with fail
            refine (hn1 _).mono ?_
            rintro e1 w1 ⟨rfl, hw⟩
            obtain rfl : w = w1 := hw.symm
            go_wp2_with fail
            refine (hn2 _).mono ?_
            rintro e1 w1 ⟨rfl, hw⟩
            obtain rfl : w = w1 := hw.symm
            go_wp2_with fail
            refine (HLE.out _ HS.out.sp.libs.base.len).mono ?_
            rintro e2 w2 ⟨rfl, hb2⟩
            have HS2 : Hid _ := HS.out.on hb2
            have HB2 : Hid (Below w.heap.size w w2) := hb2
            rw [show errQ 0 = .nilIface from rfl]
            clear hb2
            go_wp2_with fail
            refine (svState_is N _ gv gs gd r p v HS2.out).mono ?_
            rintro e3 w3 ⟨v3, rfl, hf3, hb3⟩
            obtain ⟨b3, c3, rfl⟩ := RowsK.slice hf3
            unfold stV
            have hb4 : Below w3.heap.size w3 (w3.alloc (.cells #[.int .i64 p.st.clock, .int .i64 p.st.next, .slice b3 p.st.fams.length c3] 36)) := (Below.refl _ _).alloc (Nat.le_refl _) _
            have HS4 : Hid (SvIs N (w3.alloc (.cells #[.int .i64 p.st.clock, .int .i64 p.st.next, .slice b3 p.st.fams.length c3] 36)) gv gs gd r p v) := (HS2.out.on hb3).on hb4
            have HB3 : Hid (Below w.heap.size w (w3.alloc (.cells #[.int .i64 p.st.clock, .int .i64 p.st.next, .slice b3 p.st.fams.length c3] 36))) := (HB2.out.trans (hb3.mono HB2.out.size)).trans (hb4.mono (Nat.le_trans HB2.out.size hb3.size))
            have s0 : (w3.alloc (.cells #[.int .i64 p.st.clock, .int .i64 p.st.next, .slice b3 p.st.fams.length c3] 36)).cell? ⟨w3.heap.size, 0, none⟩ = some (.int .i64 p.st.clock) := (World.cell?_alloc_at _ _ _ _ rfl).trans rfl
            have s1 : (w3.alloc (.cells #[.int .i64 p.st.clock, .int .i64 p.st.next, .slice b3 p.st.fams.length c3] 36)).cell? ⟨w3.heap.size, 1, none⟩ = some (.int .i64 p.st.next) := (World.cell?_alloc_at _ _ _ _ rfl).trans rfl
            have s2 : (w3.alloc (.cells #[.int .i64 p.st.clock, .int .i64 p.st.next, .slice b3 p.st.fams.length c3] 36)).cell? ⟨w3.heap.size, 2, none⟩ = some (.slice b3 p.st.fams.length c3) := (World.cell?_alloc_at _ _ _ _ rfl).trans rfl
            clear hb3 hb4 hf3
            go_wp2_with fail
            refine (HGI3.out _ HS4.out).mono ?_
            rintro e5 w5 ⟨rfl, v5, hto⟩
            have HTO : Hid _ := hto.pre HB3.out
            clear hto
            go_wp2_with fail
            go_ret2
            exact ⟨rfl, _, HTO.out⟩
end Go.Proofs.YtlailakofhenkabGreatDoor
