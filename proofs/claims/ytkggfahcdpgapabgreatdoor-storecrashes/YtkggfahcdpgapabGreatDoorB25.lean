/-
  Own texts put together: StState, StOne, StCr1.
-/
import Derived.Test.YtkggfahcdpgapabGreatDoorB24
import Derived.Test.YtkggfahcdpgapabGreatDoorB22
import Derived.Test.YtkggfahcdpgapabGreatDoorB18
/-
  What a store tells: its state, its log, whether the power went off.
-/

namespace Go.Proofs.YtkggfahcdpgapabGreatDoor
open Go Go.RowKit Tok Sc Ev
theorem DS.turned {w0 : World} {gs gd : Nat} {A : AD} {n : Nat} {c c' : Bool} {l l1 : Int} {dn : Bool} {sv lg : Nat} {st : St} {v : Value} {w w' : World} (h : DS w0 gs gd A n c l dn sv lg st v w) (hg : w.grownBy w' (some gd)) (hd : ∃ F l', IsDisk w' gd F (n : Int) c' l' ∧ (c' = true → l' = l1) ∧ EncF tag0 F A) : DS w0 gs gd A n c' l1 dn sv lg st v w' := by
  have hk := Keep.grown hg
  have hb : Below gd w w' := hk.below (Nat.le_of_lt h.gdlt) (fun x hx => by simp at hx; omega)
  exact ⟨hd, h.libs.belowB hb h.olds, (hb.cell (p := ⟨0, 0, none⟩) h.oldE).trans h.err, h.store.keep hk h.ord, h.ord, h.olds, h.oldE, h.keep.trans (hk.mono (fun x hx => by simp at hx; simp [hx])), h.was⟩
/-- The power: off behind k writes, or on. -/
theorem cutD_is (w0 : World) (gs gd : Nat) (A : AD) (n : Nat) (c : Bool) (l : Int) (dn : Bool) (sv lg : Nat) (st : St) (v : Value) (k : Int) (w : World) (h : DS w0 gs gd A n c l dn sv lg st v w) :
    Calls Tryz.prog 11 #[.pointer (some ⟨gd, 0, none⟩), .int .i64 k] w fun r w' => r = .returned (.tuple #[]) ∧ DS w0 gs gd A n (decide (0 ≤ k)) k dn sv lg st v w' ∧ Keep [gd] w w' := by
  obtain ⟨F, l', h1, h2, h3⟩ := h.disk
  by_cases hk : 0 ≤ k
  · refine (cut_on gd F n c l' k hk w h1).mono ?_
    rintro r w' ⟨rfl, q1, q2⟩
    rw [decide_eq_true hk]
    exact ⟨rfl, h.turned q2 ⟨F, k, q1, fun _ => rfl, h3⟩, Keep.grown q2⟩
  · refine (cut_off gd F n c l' k (by omega) w h1).mono ?_
    rintro r w' ⟨rfl, q1, q2⟩
    rw [decide_eq_false hk]
    exact ⟨rfl, h.turned q2 ⟨F, 0, q1, fun hc => (by cases hc), h3⟩, Keep.grown q2⟩
theorem log_is (w : World) (gs gd : Nat) (dn : Bool) (sv lg : Nat) (st : St) (v : Value) (h : StoreAt w gs gd dn sv lg st v) : Calls Tryz.prog 44 #[.pointer (some ⟨gs, 0, none⟩)] w fun r w' => r = .returned (.int .i64 lg) ∧ w' = w := by
  have p3 := h.p3
  clear h
  go_enter Tryz.func44, Tryz.ntmps44
  go_wp2_with fail
  go_ret
  exact ⟨rfl, rfl⟩
set_option maxRecDepth 100000 in
set_option maxHeartbeats 8000000 in
theorem state_is (w : World) (gs gd : Nat) (dn : Bool) (sv lg : Nat) (st : St) (v : Value) (h : StoreAt w gs gd dn sv lg st v) (hn : st.fams.length ≤ 1000) : Calls Tryz.prog 16 #[.pointer (some ⟨gs, 0, none⟩)] w fun r w' => ∃ v', r = .returned (stV st.clock st.next v') ∧ Fams w.heap.size w' v' st.fams ∧ Below w.heap.size w w' := by
  obtain ⟨ba, ca, rfl⟩ := RowsK.slice h.fam
  have hcl := fun (W : World) (hf : Fams (gs + 1) W (.slice ba st.fams.length ca) st.fams) => clone_fams hf hn
  have HB0 : Hid (Below w.heap.size w (w.alloc (.cells #[.int .i64 0, .int .i64 0, .slice none 0 0] 36))) := (Below.refl _ _).alloc (Nat.le_refl _) _
  have H1 : Hid _ := h.on HB0.out
  have HB2 : Hid (Below w.heap.size w ((w.alloc (.cells #[.int .i64 0, .int .i64 0, .slice none 0 0] 36)).alloc (.cells #[.int .i64 st.clock, .int .i64 st.next, .slice ba st.fams.length ca] 36))) := HB0.out.alloc (by simp) _
  have HF2 : Hid (Fams (gs + 1) ((w.alloc (.cells #[.int .i64 0, .int .i64 0, .slice none 0 0] 36)).alloc (.cells #[.int .i64 st.clock, .int .i64 st.next, .slice ba st.fams.length ca] 36)) (.slice ba st.fams.length ca) st.fams) := (h.on HB2.out).fam
  have p4 := H1.out.p4
  have p5 := H1.out.p5
  have p6 := H1.out.p6
  have hs2 : ((w.alloc (.cells #[.int .i64 0, .int .i64 0, .slice none 0 0] 36)).alloc (.cells #[.int .i64 st.clock, .int .i64 st.next, .slice ba st.fams.length ca] 36)).heap.size = w.heap.size + 2 := by simp
  have hA : ∀ i, ((w.alloc (.cells #[.int .i64 0, .int .i64 0, .slice none 0 0] 36)).alloc (.cells #[.int .i64 st.clock, .int .i64 st.next, .slice ba st.fams.length ca] 36)).cell? ⟨w.heap.size, i, none⟩ = (w.alloc (.cells #[.int .i64 0, .int .i64 0, .slice none 0 0] 36)).cell? ⟨w.heap.size, i, none⟩ := fun i => World.cell?_alloc_lt _ _ _ (by simp)
  have hFa : ∀ i, ((w.alloc (.cells #[.int .i64 0, .int .i64 0, .slice none 0 0] 36)).alloc (.cells #[.int .i64 st.clock, .int .i64 st.next, .slice ba st.fams.length ca] 36)).frozen? ⟨w.heap.size, i, none⟩ = false := fun i => by rw [World.frozen?_alloc_past _ _ _ (by simp)]; exact World.frozen?_alloc_at _ _ _ _ rfl
  have HA : Hid (∀ i, _) := hA
  have HFA : Hid (∀ i, _) := hFa
  have HS2 : Hid _ := hs2
  clear h hA hFa hs2
  unfold stV
  go_enter Tryz.func16, Tryz.ntmps16
  go_wp2_with fail
  refine (hcl _ HF2.out).mono ?_
  rintro e1 w1 ⟨v1, rfl, hf1, hb1⟩
  obtain ⟨b1, c1, rfl⟩ := RowsK.slice hf1
  have HB3 : Hid (Below w.heap.size w w1) := HB2.out.trans (hb1.mono HB2.out.size)
  have z0 := (hb1.cell (p := ⟨w.heap.size, 0, none⟩) (by rw [HS2.out]; show w.heap.size < _; omega)).trans ((HA.out 0).trans ((World.cell?_alloc_at _ _ _ _ rfl).trans rfl))
  have z1 := (hb1.cell (p := ⟨w.heap.size, 1, none⟩) (by rw [HS2.out]; show w.heap.size < _; omega)).trans ((HA.out 1).trans ((World.cell?_alloc_at _ _ _ _ rfl).trans rfl))
  have z2 := (hb1.cell (p := ⟨w.heap.size, 2, none⟩) (by rw [HS2.out]; show w.heap.size < _; omega)).trans ((HA.out 2).trans ((World.cell?_alloc_at _ _ _ _ rfl).trans rfl))
  have zf : ∀ i, w1.frozen? ⟨w.heap.size, i, none⟩ = false := fun i => (hb1.frozen (p := ⟨w.heap.size, i, none⟩) (by rw [HS2.out]; show w.heap.size < _; omega)).trans (HFA.out i)
  have y0 : w1.cell? ⟨w.heap.size + 1, 0, none⟩ = some (.int .i64 st.clock) := (hb1.cell (p := ⟨w.heap.size + 1, 0, none⟩) (by rw [HS2.out]; show w.heap.size + 1 < _; omega)).trans ((World.cell?_alloc_at _ _ _ _ (by simp)).trans rfl)
  have y1 : w1.cell? ⟨w.heap.size + 1, 1, none⟩ = some (.int .i64 st.next) := (hb1.cell (p := ⟨w.heap.size + 1, 1, none⟩) (by rw [HS2.out]; show w.heap.size + 1 < _; omega)).trans ((World.cell?_alloc_at _ _ _ _ (by simp)).trans rfl)
  have y2 : w1.cell? ⟨w.heap.size + 1, 2, none⟩ = some (.slice ba st.fams.length ca) := (hb1.cell (p := ⟨w.heap.size + 1, 2, none⟩) (by rw [HS2.out]; show w.heap.size + 1 < _; omega)).trans ((World.cell?_alloc_at _ _ _ _ (by simp)).trans rfl)
  have yf : ∀ i, w1.frozen? ⟨w.heap.size + 1, i, none⟩ = false := fun i => (hb1.frozen (p := ⟨w.heap.size + 1, i, none⟩) (by rw [HS2.out]; show w.heap.size + 1 < _; omega)).trans (World.frozen?_alloc_at _ _ _ _ (by simp))
  have HF1 : Hid (Fams (w.heap.size + 2) w1 (.slice b1 st.fams.length c1) st.fams) := by rw [← HS2.out]; exact hf1
  clear hf1 hb1 hcl p4 p5 p6
  have HBF : Hid (Below w.heap.size w ((((w1.setCell ⟨w.heap.size + 1, 2, none⟩ (.slice b1 st.fams.length c1)).setCell ⟨w.heap.size, 0, none⟩ (.int .i64 st.clock)).setCell ⟨w.heap.size, 1, none⟩ (.int .i64 st.next)).setCell ⟨w.heap.size, 2, none⟩ (.slice b1 st.fams.length c1))) := (HB3.out.setCell (p := ⟨w.heap.size + 1, 2, none⟩) (Nat.le_succ _) _).trans (below3 _ 0 1 2 _ _ _ _)
  have HFF : Hid (Fams w.heap.size ((((w1.setCell ⟨w.heap.size + 1, 2, none⟩ (.slice b1 st.fams.length c1)).setCell ⟨w.heap.size, 0, none⟩ (.int .i64 st.clock)).setCell ⟨w.heap.size, 1, none⟩ (.int .i64 st.next)).setCell ⟨w.heap.size, 2, none⟩ (.slice b1 st.fams.length c1)) (.slice b1 st.fams.length c1) st.fams) :=
    RowsK.mono ((((HF1.out.other (a := ⟨w.heap.size + 1, 2, none⟩) (by show w.heap.size + 1 < _; omega) _).other (a := ⟨w.heap.size, 0, none⟩) (by show w.heap.size < _; omega) _).other (a := ⟨w.heap.size, 1, none⟩) (by show w.heap.size < _; omega) _).other (a := ⟨w.heap.size, 2, none⟩) (by show w.heap.size < _; omega) _) (by omega)
  obtain ⟨q0, q1, q2⟩ := @three_set (w1.setCell ⟨w.heap.size + 1, 2, none⟩ (.slice b1 st.fams.length c1)) w.heap.size (.int .i64 st.clock) (.int .i64 st.next) (.slice b1 st.fams.length c1) _ _ _ (set_other z0 (by omega)) (set_other z1 (by omega)) (set_other z2 (by omega))
  go_wp2_with fail
  have HBF2 := HBF.out
  have HFF2 := HFF.out
  clear HBF HFF z0 z1 z2 zf y0 y1 y2 yf
  generalize World.setCell _ ⟨w.heap.size, 2, none⟩ _ = WW at *
  exact bodyPost_ret (v := .agg #[.int .i64 st.clock, .int .i64 st.next, .slice b1 st.fams.length c1]) (by simp [results, Tryz.results16, go_sem, q0, q1, q2]) rfl ⟨_, rfl, HFF2, HBF2⟩
end Go.Proofs.YtkggfahcdpgapabGreatDoor

/-
  The program's store as one thing: what holds of its disk and its cells between two calls, and what each call makes of it.
-/

namespace Go.Proofs.YtkggfahcdpgapabGreatDoor
open Go Go.RowKit Tok Sc Ev
/-- A store that holds what p tells; gs, gd: its block, its disk's; v: its families. -/
structure SP (N : Nat) (w : World) (gs gd : Nat) (p : Pub) (v : Value) : Prop where
  ok : PubOk N p
  run : ∃ A sv b es, Inv A p.st sv p.lg b es ∧ sv ≤ N ∧ DS w gs gd A p.n p.c p.l p.dn sv p.lg p.st v w
theorem SP.mono {N M : Nat} {w : World} {gs gd : Nat} {p : Pub} {v : Value} (h : SP N w gs gd p v) (hm : N ≤ M) : SP M w gs gd p v := by
  obtain ⟨A, sv, b, es, h1, h2, h3⟩ := h.run
  exact ⟨ok_mono h.ok hm, A, sv, b, es, h1, Nat.le_trans h2 hm, h3⟩
theorem SP.on {N : Nat} {w w' : World} {gs gd : Nat} {p : Pub} {v : Value} (h : SP N w gs gd p v) (hb : Below w.heap.size w w') : SP N w' gs gd p v := by
  obtain ⟨A, sv, b, es, h1, h2, h3⟩ := h.run
  exact ⟨h.ok, A, sv, b, es, h1, h2, (h3.on hb).rebase⟩
theorem SP.store {N : Nat} {w : World} {gs gd : Nat} {p : Pub} {v : Value} (h : SP N w gs gd p v) : ∃ sv, StoreAt w gs gd p.dn sv p.lg p.st v := by
  obtain ⟨A, sv, b, es, h1, h2, h3⟩ := h.run
  exact ⟨sv, h3.store⟩
theorem SP.fam {N : Nat} {w : World} {gs gd : Nat} {p : Pub} {v : Value} (h : SP N w gs gd p v) : Fams (gs + 1) w v p.st.fams := by
  obtain ⟨sv, h1⟩ := h.store
  exact h1.fam
theorem SP.lt {N : Nat} {w : World} {gs gd : Nat} {p : Pub} {v : Value} (h : SP N w gs gd p v) : gs < w.heap.size := by
  obtain ⟨sv, h1⟩ := h.store
  exact h1.lt
theorem SP.ord {N : Nat} {w : World} {gs gd : Nat} {p : Pub} {v : Value} (h : SP N w gs gd p v) : gd < gs := by
  obtain ⟨A, sv, b, es, h1, h2, h3⟩ := h.run
  exact h3.ord
theorem SP.disk {N : Nat} {w : World} {gs gd : Nat} {p : Pub} {v : Value} (h : SP N w gs gd p v) : ∃ A, ∃ F l', IsDisk w gd F (p.n : Int) p.c l' ∧ EncF tag0 F A := by
  obtain ⟨A, sv, b, es, h1, h2, h3⟩ := h.run
  obtain ⟨F, l', d1, d2, d3⟩ := h3.disk
  exact ⟨A, F, l', d1, d3⟩
theorem SP.err {N : Nat} {w : World} {gs gd : Nat} {p : Pub} {v : Value} (h : SP N w gs gd p v) : ErrVar w := by
  obtain ⟨A, sv, b, es, h1, h2, h3⟩ := h.run
  exact h3.err
theorem SP.libs {N : Nat} {w : World} {gs gd : Nat} {p : Pub} {v : Value} (h : SP N w gs gd p v) : LibsA w := by
  obtain ⟨A, sv, b, es, h1, h2, h3⟩ := h.run
  exact h3.libs
/-- Where the power stays on, how long it would is nobody's business. -/
theorem SP.left {N : Nat} {w : World} {gs gd : Nat} {p : Pub} {v : Value} (h : SP N w gs gd p v) (hc : p.c = false) (l2 : Int) : SP N w gs gd ⟨p.st, p.lg, p.n, p.c, l2, p.dn⟩ v := by
  obtain ⟨A, sv, b, es, h1, h2, h3⟩ := h.run
  obtain ⟨F, l', d1, d2, d3⟩ := h3.disk
  have hn : ∀ x : Prop, p.c = true → x := fun x ht => by rw [hc] at ht; cases ht
  exact ⟨⟨h.ok.good, h.ok.low, h.ok.few, hn _⟩, A, sv, b, es, h1, h2, ⟨⟨F, l', d1, hn _, d3⟩, h3.libs, h3.err, h3.store, h3.ord, h3.olds, h3.oldE, h3.keep, h3.was⟩⟩
/-- A row that lies in another block. -/
def NotIn (v : Value) (b : Nat) : Prop := ∀ g o n c, v = .slice (some ⟨g, o, none⟩) n c → g ≠ b
theorem NotIn.nil (b : Nat) (n c : Nat) : NotIn (.slice none n c) b := fun g o n c h => by cases h
theorem NotIn.above {k B : Nat} {w : World} {v : Value} {n : Nat} {cs : List Value} (h : RowsK k B w v n cs) {b : Nat} (hb : b < B) : NotIn v b := by
  rcases h with ⟨h1, -⟩ | ⟨g, c, h1, h2⟩
  · subst h1; exact NotIn.nil _ _ _
  · intro g' o n' c' he
    have := h2.new
    rw [h1] at he
    simp only [Value.slice.injEq, Option.some.injEq, Addr.mk.injEq] at he
    omega
theorem NotIn.past {k B : Nat} {w : World} {v : Value} {n : Nat} {cs : List Value} (h : RowsK k B w v n cs) {b : Nat} (hb : w.heap.size ≤ b) : NotIn v b := by
  rcases h with ⟨h1, -⟩ | ⟨g, c, h1, h2⟩
  · subst h1; exact NotIn.nil _ _ _
  · intro g' o n' c' he
    have := h2.lt
    rw [h1] at he
    simp only [Value.slice.injEq, Option.some.injEq, Addr.mk.injEq] at he
    omega
/-- A row's block is left as it was. -/
theorem Keep.rowsOut {l : List Nat} {k B : Nat} {w w' : World} {v : Value} {n : Nat} {cs : List Value} (h : Keep l w w') (hr : RowsK k B w v n cs) (hl : ∀ x ∈ l, NotIn v x) : RowsK k B w' v n cs := by
  rcases hr with h1 | ⟨g, c, h1, h2⟩
  · exact .inl h1
  · exact .inr ⟨g, c, h1, h2.block h.size (h.block g h2.lt (fun hx => hl g hx g 0 n c h1 rfl))⟩
/-- A call that writes elsewhere leaves a store as it was. -/
theorem DS.elsewhere {l : List Nat} {w0 : World} {gs gd : Nat} {A : AD} {n : Nat} {c : Bool} {le : Int} {dn : Bool} {sv lg : Nat} {st : St} {v : Value} {w w' : World} (h : DS w0 gs gd A n c le dn sv lg st v w) (hk : Keep l w w') (hl : ∀ x ∈ l, gd < x ∧ x ≠ gs ∧ NotIn v x) : DS w' gs gd A n c le dn sv lg st v w' := by
  obtain ⟨F, l', h1, h2, h3⟩ := h.disk
  have hb : Below (gd + 1) w w' := hk.below h.gdlt (fun x hx => (hl x hx).1)
  have hb2 : Below gd w w' := hb.mono (Nat.le_succ _)
  have hn : gs ∉ l := fun hx => (hl gs hx).2.1 rfl
  have hc : ∀ i, w'.cell? ⟨gs, i, none⟩ = w.cell? ⟨gs, i, none⟩ := fun i => hk.cell (p := ⟨gs, i, none⟩) h.store.lt hn
  have hs := h.store
  have hst : StoreAt w' gs gd dn sv lg st v := ⟨(hc 0).trans hs.p0, (hc 1).trans hs.p1, (hc 2).trans hs.p2, (hc 3).trans hs.p3, (hc 4).trans hs.p4, (hc 5).trans hs.p5, (hc 6).trans hs.p6, fun i => (hk.frozen (p := ⟨gs, i, none⟩) hs.lt hn).trans (hs.pf i), hk.rowsOut hs.fam (fun x hx => (hl x hx).2.2), Nat.lt_of_lt_of_le hs.lt hk.size⟩
  exact ⟨⟨F, l', h1.below hb (Nat.lt_succ_self _), h2, h3⟩, h.libs.belowB hb2 h.olds, (hb2.cell (p := ⟨0, 0, none⟩) h.oldE).trans h.err, hst, h.ord, h.olds, h.oldE, Keep.refl _ _, Nat.lt_of_lt_of_le hs.lt hk.size⟩
theorem SP.elsewhere {l : List Nat} {N : Nat} {w w' : World} {gs gd : Nat} {p : Pub} {v : Value} (h : SP N w gs gd p v) (hk : Keep l w w') (hl : ∀ x ∈ l, gd < x ∧ x ≠ gs ∧ NotIn v x) : SP N w' gs gd p v := by
  obtain ⟨A, sv, b, es, h1, h2, h3⟩ := h.run
  exact ⟨h.ok, A, sv, b, es, h1, h2, h3.elsewhere hk hl⟩
theorem save_c (p : Pub) : (saveP p).1.c = p.c := by
  have h := writesP_st (p.st.fams.length + 1) p
  unfold saveP
  split
  · rfl
  · split
    · exact h.2.2.2.1
    · exact h.2.2.2.1
theorem put1_c (p : Pub) (e : E) : (putP1 p e).1.c = p.c := by
  unfold putP1
  split <;> rfl
theorem add_c (p : Pub) (e : E) (m : Bool) : (addP p e m).1.c = p.c := by
  unfold addP
  split
  · rfl
  split
  · rfl
  split
  · rfl
  split
  · split
    · rw [put1_c, save_c]
    · exact save_c p
  · exact put1_c p e
theorem okN_of {n : Nat} (h : n < 100000) : okN ((n : Int) + 1) := (show 0 ≤ (n : Int) + 1 ∧ (n : Int) + 1 ≤ 1099511627776 from ⟨by omega, by omega⟩)
theorem addS_is (N : Nat) (w : World) (gs gd : Nat) (p : Pub) (v : Value) (e : E) (m : Bool) (hm : m = true ↔ Ev.may e) (hs : Small 1000 e.fam) (h : SP N w gs gd p v) (hN : N < 9000) :
    Calls Tryz.prog 13 #[.pointer (some ⟨gs, 0, none⟩), evV e] w fun r w' => r = .returned (errQ (addP p e m).2) ∧ ∃ v', SP (N + 22) w' gs gd (addP p e m).1 v' ∧ Keep [gd, gs] w w' ∧ (v' = v ∨ Fams w.heap.size w' v' (addP p e m).1.st.fams) := by
  obtain ⟨A, sv, b, es, h1, h2, h3⟩ := h.run
  have hok := ok_add hm h.ok
  have hfew := h.ok.few
  have hleft := h.ok.left
  have hok0 := h.ok
  clear h
  obtain ⟨st, lg, n, c, l, dn⟩ := p
  simp only at h1 h2 h3 hfew hleft
  cases dn with
  | true =>
    have he : addP ⟨st, lg, n, c, l, true⟩ e m = (⟨st, lg, n, c, l, true⟩, 6) := by unfold addP; rw [if_pos rfl]
    rw [he] at hok ⊢
    refine (add_down w gs gd A n c l sv lg st v e w h3).mono ?_
    rintro r w' ⟨rfl, q1⟩
    exact ⟨rfl, v, ⟨hok, A, sv, b, es, h1, by omega, q1.rebase⟩, q1.keep, .inl rfl⟩
  | false =>
    cases m with
    | false =>
      have hn : ¬ Ev.may e := fun hx => by cases hm.2 hx
      have he : addP ⟨st, lg, n, c, l, false⟩ e false = (⟨st, lg, n, c, l, false⟩, 1) := by unfold addP; rw [if_neg (by simp), if_pos rfl]
      rw [he] at hok ⊢
      refine (add_no w gs gd A n c l sv lg st v e w h3 hn hs).mono ?_
      rintro r w' ⟨rfl, q1⟩
      exact ⟨rfl, v, ⟨hok, A, sv, b, es, h1, by omega, q1.rebase⟩, q1.keep, .inl rfl⟩
    | true =>
      refine (add_yes w gs gd A n c l sv lg st b es v e w h3 h1 (okN_of (by omega)) hleft (by omega) (hm.1 rfl) hs).mono ?_
      rintro r w' ⟨rfl, A', sv', b', es', v', q1, q2, q3, q4⟩
      have hc : (addP ⟨st, lg, n, c, l, false⟩ e true).1.c = c := add_c _ _ _
      refine ⟨rfl, v', ⟨hok, A', sv', b', es', q1, by omega, ?_⟩, q3.keep, q4⟩
      rw [hc]
      exact q3.rebase
theorem saveS_is (N : Nat) (w : World) (gs gd : Nat) (p : Pub) (v : Value) (h : SP N w gs gd p v) (hN : N < 9000) :
    Calls Tryz.prog 12 #[.pointer (some ⟨gs, 0, none⟩)] w fun r w' => r = .returned (errQ (saveP p).2) ∧ SP (N + 22) w' gs gd (saveP p).1 v ∧ Keep [gd, gs] w w' := by
  obtain ⟨A, sv, b, es, h1, h2, h3⟩ := h.run
  have hok := ok_mono (ok_save h.ok) (show N + 21 ≤ N + 22 by omega)
  have hfew := h.ok.few
  have hleft := h.ok.left
  clear h
  obtain ⟨st, lg, n, c, l, dn⟩ := p
  simp only at h1 h2 h3 hfew hleft
  cases dn with
  | true =>
    have he : saveP ⟨st, lg, n, c, l, true⟩ = (⟨st, lg, n, c, l, true⟩, 6) := by unfold saveP; rw [if_pos rfl]
    rw [he] at hok ⊢
    refine (save_down w gs gd A n c l sv lg st v w h3).mono ?_
    rintro r w' ⟨rfl, rfl⟩
    exact ⟨rfl, ⟨hok, A, sv, b, es, h1, by omega, h3⟩, Keep.refl _ _⟩
  | false =>
    refine (save_up w gs gd A n c l sv lg st b es v w h3 h1 (okN_of (by omega)) hleft (by omega)).mono ?_
    rintro r w' ⟨p, rfl, rfl, A', sv', b', es', q1, q2, q3⟩
    have hc : (saveP ⟨st, lg, n, c, l, false⟩).1.c = c := save_c _
    have hs : (saveP ⟨st, lg, n, c, l, false⟩).1.st = st := save_st _
    refine ⟨rfl, ⟨hok, A', sv', b', es', by rw [hs]; exact q1, by omega, ?_⟩, q3.keep⟩
    rw [hc, hs]
    exact q3.rebase
theorem cutS_is (N : Nat) (w : World) (gs gd : Nat) (p : Pub) (v : Value) (k : Int) (hk : k ≤ 9223372036854775807) (h : SP N w gs gd p v) :
    Calls Tryz.prog 11 #[.pointer (some ⟨gd, 0, none⟩), .int .i64 k] w fun r w' => r = .returned (.tuple #[]) ∧ SP N w' gs gd (cutP p k) v ∧ Keep [gd] w w' := by
  obtain ⟨A, sv, b, es, h1, h2, h3⟩ := h.run
  refine (cutD_is w gs gd A p.n p.c p.l p.dn sv p.lg p.st v k w h3).mono ?_
  rintro r w' ⟨rfl, q1, q2⟩
  exact ⟨rfl, ⟨ok_cut h.ok k hk, A, sv, b, es, h1, h2, q1.rebase⟩, q2⟩
/-- A disk, with its blocks, and what the library holds. -/
structure DB (N : Nat) (w : World) (gd : Nat) (p : Pub) : Prop where
  ok : PubOk N p
  run : ∃ A sv b es, Inv A p.st sv p.lg b es ∧ sv ≤ N ∧ ∃ F l', IsDisk w gd F (p.n : Int) p.c l' ∧ (p.c = true → l' = p.l) ∧ EncF tag0 F A
  libs : LibsA w
  err : ErrVar w
  olds : Olds gd
  oldE : 0 < gd
  lt : gd < w.heap.size
theorem SP.db {N : Nat} {w : World} {gs gd : Nat} {p : Pub} {v : Value} (h : SP N w gs gd p v) : DB N w gd p := by
  obtain ⟨A, sv, b, es, h1, h2, h3⟩ := h.run
  exact ⟨h.ok, ⟨A, sv, b, es, h1, h2, h3.disk⟩, h3.libs, h3.err, h3.olds, h3.oldE, h3.gdlt⟩
/-- Open anew, with what the power does as it does it. -/
theorem openS_is (N : Nat) (w : World) (gd : Nat) (p : Pub) (h : DB N w gd p) (hN : N < 9000) :
    Calls Tryz.prog 8 #[.pointer (some ⟨gd, 0, none⟩)] w fun r w' => ∃ gs v, r = .returned (.tuple #[.pointer (some ⟨gs, 0, none⟩), .nilIface]) ∧ w.heap.size ≤ gs ∧ SP N w' gs gd ⟨p.st, p.lg, p.n, p.c, p.l, false⟩ v ∧ Below w.heap.size w w' := by
  obtain ⟨A, sv, b, es, h1, h2, F, l', d1, d2, d3⟩ := h.run
  have hdi := h1.diskIs (okN_of (by omega))
  refine (open_is gd A w ⟨⟨F, _, _, _, d1, d3⟩, h.lt, hdi.1, hdi.2⟩ h.libs).mono ?_
  rintro r w' ⟨gs, v, rfl, hle, hlw⟩
  rw [inv_open h1] at hlw
  have hb : Below w.heap.size w w' := hlw.below.mono hle
  refine ⟨gs, v, rfl, hle, ⟨⟨h.ok.good, h.ok.low, h.ok.few, h.ok.left⟩, A, sv, b, es, h1, h2, ?_⟩, hb⟩
  exact ⟨⟨F, l', d1.below hb h.lt, d2, d3⟩, hlw.libs, (hb.cell (p := ⟨0, 0, none⟩) (Nat.lt_trans h.oldE h.lt)).trans h.err, hlw.store, hlw.ord, h.olds, h.oldE, Keep.refl _ _, hlw.store.lt⟩
def diskZ : List Value := List.replicate 90 (Value.string ByteArray.empty) ++ [Value.int .i64 0, Value.bool false, Value.int .i64 0]
theorem diskZ_is : Tryz.zeroCells28 = diskZ.toArray := by kernel_rfl
theorem isDisk_zero (w : World) : IsDisk (w.alloc (.cells Tryz.zeroCells28 28)) w.heap.size (fun _ => ⟨#[]⟩) ((0 : Nat) : Int) false 0 := by
  have hc : ∀ j : Nat, (w.alloc (.cells Tryz.zeroCells28 28)).cell? ⟨w.heap.size, j, none⟩ = diskZ[j]? := by
    intro j
    rw [World.cell?_alloc_new, diskZ_is, List.getElem?_toArray]
  refine ⟨fun j hj => ?_, ?_, ?_, ?_, fun j hj => ?_⟩
  · rw [hc, diskZ, List.getElem?_append_left (by rw [List.length_replicate]; exact hj), List.getElem?_replicate, if_pos hj]; rfl
  · rw [hc]; rfl
  · rw [hc]; rfl
  · rw [hc]; rfl
  · exact World.frozen?_alloc_at _ _ _ _ rfl
/-- An empty disk. -/
theorem db_zero (w : World) (hl : LibsA w) (he : ErrVar w) (ho : Olds w.heap.size) : DB 0 (w.alloc (.cells Tryz.zeroCells28 28)) w.heap.size ⟨⟨0, 1, []⟩, 0, 0, false, 0, false⟩ := by
  have hb : Below w.heap.size w (w.alloc (.cells Tryz.zeroCells28 28)) := (Below.refl _ _).alloc (Nat.le_refl _) _
  exact ⟨ok_zero, ⟨emptyD, 0, ⟨0, 1, []⟩, [], inv_empty, Nat.le_refl _, _, 0, isDisk_zero w, fun _ => rfl, enc_empty _⟩, hl.below hb, he.on hb, ho, World.block_lt_of_cell? _ _ he, by simp⟩
end Go.Proofs.YtkggfahcdpgapabGreatDoor

/-
  What the law StoreCrashes goes by: a number that is picked, the power cut behind a number of writes, a store that is opened anew.
-/

namespace Go.Proofs.YtkggfahcdpgapabGreatDoor
open Go Go.RowKit Tok Sc Ev
theorem pickN_math (a : Int) (n : Nat) (h0 : 0 < n) (h1 : n ≤ 9223372036854775807) : ∃ p : Nat, p < n ∧ (p : Int) = (a % 18446744073709551616) % n ∧ wrap64 ((IntKind.u64.wrap a).tmod n) = p := by
  have hn : 0 ≤ a % 18446744073709551616 % n := Int.emod_nonneg _ (by omega)
  have hl : a % 18446744073709551616 % n < n := Int.emod_lt_of_pos _ (by omega)
  refine ⟨(a % 18446744073709551616 % n).toNat, by omega, by omega, ?_⟩
  rw [IntKind.wrap_u64, Int.tmod_eq_emod_of_nonneg (by omega)]
  unfold wrap64
  omega
theorem wrapN (n : Nat) (h1 : n ≤ 9223372036854775807) : IntKind.u64.wrap (n : Int) = n := by
  rw [IntKind.wrap_u64]; omega
set_option maxHeartbeats 1000000 in
theorem pickN_is (a : Int) (n : Nat) (h0 : 0 < n) (h1 : n ≤ 9223372036854775807) (w : World) : Calls Tryz.prog 10 #[.int .i64 a, .int .i64 n] w fun e w' => ∃ p : Nat, p < n ∧ (p : Int) = (a % 18446744073709551616) % n ∧ e = .returned (.int .i64 p) ∧ w' = w := by
  obtain ⟨p, hp, hq, he⟩ := pickN_math a n h0 h1
  have hw := wrapN n h1
  have hz : ¬ (n : Int) = 0 := by omega
  have HE : Hid (wrap64 ((IntKind.u64.wrap a).tmod n) = p) := he
  clear he h0 h1
  go_enter Tryz.func10, Tryz.ntmps10
  go_wp2_with fail
  go_ret
  exact ⟨p, hp, hq, by rw [← HE.out]; rfl, rfl⟩
def clock7 : E := ⟨3, zeroF, 0, 7⟩
theorem may7 : Ev.may clock7 := .inr (.inr ⟨rfl, rfl, rfl, (show (0 : Int) ≤ 7 ∧ (7 : Int) ≤ 1099511627776 from ⟨by decide, by decide⟩)⟩)
theorem add7 : addP ⟨⟨0, 1, []⟩, 0, 0, false, 0, false⟩ clock7 true = (⟨⟨7, 1, []⟩, 1, 1, false, -1, false⟩, 0) := rfl
set_option maxRecDepth 100000 in
set_option maxHeartbeats 4000000 in
theorem kept_is (w : World) (hL : LibsA w) (hE : ErrVar w) (hO : Olds w.heap.size) : Calls Tryz.prog 7 #[] w fun r w' => r = .returned (.bool true) ∧ Below w.heap.size w w' := by
  have HDB : Hid _ := db_zero w hL hE hO
  have HB0 : Hid (Below w.heap.size w (w.alloc (.cells Tryz.zeroCells28 28))) := (Below.refl _ _).alloc (Nat.le_refl _) _
  have HAD : Hid (∀ (W : World) (gs : Nat) (v : Value), SP 0 W gs w.heap.size ⟨⟨0, 1, []⟩, 0, 0, false, 0, false⟩ v → Calls Tryz.prog 13 #[.pointer (some ⟨gs, 0, none⟩), .agg #[.int .i64 3, .int .i64 0, .string ⟨#[]⟩, .string ⟨#[]⟩, .string ⟨#[]⟩, .int .i64 0, .int .i64 0, .int .i64 0, .string ⟨#[]⟩, .bool false, .int .i64 0, .int .i64 7]] W fun r w' => r = .returned .nilIface ∧ ∃ v', SP 22 w' gs w.heap.size ⟨⟨7, 1, []⟩, 1, 1, false, -1, false⟩ v' ∧ Keep [w.heap.size, gs] W w') := fun W gs v h => by
    refine (addS_is 0 W gs w.heap.size _ v clock7 true ⟨fun _ => may7, fun _ => rfl⟩ (by unfold Small clock7 zeroF; decide) h (by omega)).mono ?_
    rintro r w' ⟨rfl, v', q1, q2, -⟩
    rw [add7] at q1
    rw [add7]
    exact ⟨rfl, v', q1, q2⟩
  clear hL hE hO
  go_enter Tryz.func7, Tryz.ntmps7
  go_wp2_with fail
  refine (openS_is 0 _ w.heap.size _ HDB.out (by omega)).mono ?_
  rintro e1 w1 ⟨gs, v, rfl, hle, hsp, hb1⟩
  have HSP1 : Hid (SP 0 w1 gs w.heap.size ⟨⟨0, 1, []⟩, 0, 0, false, 0, false⟩ v) := hsp
  have HB1 : Hid (Below w.heap.size w w1) := HB0.out.trans (hb1.mono HB0.out.size)
  clear hle hsp hb1
  go_wp2_with fail
  refine (HAD.out _ _ _ HSP1.out).mono ?_
  rintro e2 w2 ⟨rfl, v2, hs2, hk2⟩
  have HSP2 : Hid (SP 22 w2 gs w.heap.size ⟨⟨7, 1, []⟩, 1, 1, false, -1, false⟩ v2) := hs2
  have HB2 : Hid (Below w.heap.size w w2) := HB1.out.trans (hk2.below HB1.out.size (fun x hx => by have := HSP1.out.ord; simp at hx; omega))
  clear hs2 hk2
  go_wp2_with fail
  refine (openS_is 22 _ w.heap.size _ HSP2.out.db (by omega)).mono ?_
  rintro e3 w3 ⟨g3, v3, rfl, hle, hsp, hb3⟩
  have HSP3 : Hid (SP 22 w3 g3 w.heap.size ⟨⟨7, 1, []⟩, 1, 1, false, -1, false⟩ v3) := hsp
  have HB3 : Hid (Below w.heap.size w w3) := HB2.out.trans (hb3.mono HB2.out.size)
  clear hle hsp hb3
  obtain ⟨sv3, hst3⟩ := HSP3.out.store
  have HST3 : Hid _ := hst3
  clear hst3
  go_wp2_with fail
  refine (state_is _ _ _ _ _ _ _ _ HST3.out (by simp)).mono ?_
  rintro e4 w4 ⟨v4, rfl, hf4, hb4⟩
  obtain ⟨b4, c4, rfl⟩ := RowsK.slice hf4
  have HST4 : Hid _ := HST3.out.on hb4
  have HB4 : Hid (Below w.heap.size w w4) := HB3.out.trans (hb4.mono HB3.out.size)
  clear hf4 hb4
  have hfd : ∀ W : World, (Instr.field 36 (.agg #[.int .i64 7, .int .i64 1, .slice b4 0 c4]) 0).run Tryz.prog W = .ok (.int .i64 7) W := fun _ => by kernel_rfl
  unfold stV
  go_wp2_with fail
  refine (log_is _ _ _ _ _ _ _ _ HST4.out).mono ?_
  rintro e5 w5 ⟨rfl, rfl⟩
  go_wp2_with fail
  go_ret
  exact ⟨rfl, HB4.out⟩
/-- What the law keeps: a store, the list of cuts, the disk's place, the state that should be, the next cut's number. -/
structure CB (w0 : World) (N bc bd gn gx gs gd : Nat) (cs : List Int) (ca : Option Addr) (cc : Nat) (p : Pub) (v : Value) (s : St) (vn : Value) (k : Nat) (w : World) : Prop where
  prog : SP N w gs gd p v
  cuts : w.cell? ⟨bc, 0, none⟩ = some (.slice ca cs.length cc)
  disk : w.cell? ⟨bd, 0, none⟩ = some (.pointer (some ⟨gd, 0, none⟩))
  n0 : w.cell? ⟨gn, 0, none⟩ = some (.int .i64 s.clock)
  n1 : w.cell? ⟨gn, 1, none⟩ = some (.int .i64 s.next)
  n2 : w.cell? ⟨gn, 2, none⟩ = some vn
  nf : ∀ i, w.frozen? ⟨gn, i, none⟩ = false
  nx : w.cell? ⟨gx, 0, none⟩ = some (.int .i64 k)
  xf : ∀ i, w.frozen? ⟨gx, i, none⟩ = false
  kle : k ≤ cs.length
  fam : Fams 0 w vn s.fams
  o1 : w0.heap.size ≤ bc ∧ bc < gd ∧ gd < bd ∧ bd < gn ∧ gn < gx ∧ gx < w.heap.size
  o2 : gs ≠ gn ∧ gs ≠ gx ∧ gs ≠ bd
  out : NotIn v gn ∧ NotIn v gx
  outN : NotIn vn gs ∧ NotIn vn gd ∧ NotIn vn gx ∧ NotIn vn gn
  below : Below w0.heap.size w0 w
theorem CB.on {w0 : World} {N bc bd gn gx gs gd : Nat} {cs : List Int} {ca : Option Addr} {cc : Nat} {p : Pub} {v : Value} {s : St} {vn : Value} {k : Nat} {w w' : World} (h : CB w0 N bc bd gn gx gs gd cs ca cc p v s vn k w) (hb : Below w.heap.size w w') : CB w0 N bc bd gn gx gs gd cs ca cc p v s vn k w' := by
  obtain ⟨o1, o2, o3, o4, o5, o6⟩ := h.o1
  have hc : ∀ n j, n < w.heap.size → w'.cell? ⟨n, j, none⟩ = w.cell? ⟨n, j, none⟩ := fun n j hn => hb.cell (p := ⟨n, j, none⟩) hn
  have hf : ∀ n j, n < w.heap.size → w'.frozen? ⟨n, j, none⟩ = w.frozen? ⟨n, j, none⟩ := fun n j hn => hb.frozen (p := ⟨n, j, none⟩) hn
  exact ⟨h.prog.on hb, (hc _ _ (by omega)).trans h.cuts, (hc _ _ (by omega)).trans h.disk, (hc _ _ (by omega)).trans h.n0, (hc _ _ (by omega)).trans h.n1, (hc _ _ (by omega)).trans h.n2, fun i => (hf _ _ (by omega)).trans (h.nf i), (hc _ _ (by omega)).trans h.nx, fun i => (hf _ _ (by omega)).trans (h.xf i), h.kle, h.fam.below hb (Nat.le_refl _), ⟨o1, o2, o3, o4, o5, Nat.lt_of_lt_of_le o6 hb.size⟩, h.o2, h.out, h.outN, h.below.trans (hb.mono h.below.size)⟩
/-- Behind a call that writes into the store and its disk alone. -/
theorem CB.step {w0 : World} {N M bc bd gn gx gs gd : Nat} {cs : List Int} {ca : Option Addr} {cc : Nat} {p q : Pub} {v v' : Value} {s : St} {vn : Value} {k : Nat} {w w' : World} (h : CB w0 N bc bd gn gx gs gd cs ca cc p v s vn k w) (hp : SP M w' gs gd q v') (hk : Keep [gd, gs] w w') (ho : NotIn v' gn ∧ NotIn v' gx) : CB w0 M bc bd gn gx gs gd cs ca cc q v' s vn k w' := by
  obtain ⟨o1, o2, o3, o4, o5, o6⟩ := h.o1
  obtain ⟨a1, a2, a3⟩ := h.o2
  have hgs := h.prog.ord
  have hc : ∀ n j, n < w.heap.size → n ≠ gd → n ≠ gs → w'.cell? ⟨n, j, none⟩ = w.cell? ⟨n, j, none⟩ := fun n j hn h1 h2 => hk.cell (p := ⟨n, j, none⟩) hn (by simp [h1, h2])
  have hf : ∀ n j, n < w.heap.size → n ≠ gd → n ≠ gs → w'.frozen? ⟨n, j, none⟩ = w.frozen? ⟨n, j, none⟩ := fun n j hn h1 h2 => hk.frozen (p := ⟨n, j, none⟩) hn (by simp [h1, h2])
  refine ⟨hp, (hc _ _ (by omega) (by omega) (by omega)).trans h.cuts, (hc _ _ (by omega) (by omega) (Ne.symm a3)).trans h.disk, (hc _ _ (by omega) (by omega) (Ne.symm a1)).trans h.n0, (hc _ _ (by omega) (by omega) (Ne.symm a1)).trans h.n1, (hc _ _ (by omega) (by omega) (Ne.symm a1)).trans h.n2, fun i => (hf _ _ (by omega) (by omega) (Ne.symm a1)).trans (h.nf i), (hc _ _ (by omega) (by omega) (Ne.symm a2)).trans h.nx, fun i => (hf _ _ (by omega) (by omega) (Ne.symm a2)).trans (h.xf i), h.kle, hk.rowsOut h.fam (fun x hx => ?_), ⟨o1, o2, o3, o4, o5, Nat.lt_of_lt_of_le o6 hk.size⟩, h.o2, ho, h.outN, h.below.trans (hk.below h.below.size (fun x hx => by simp at hx; omega))⟩
  simp only [List.mem_cons, List.not_mem_nil, or_false] at hx
  rcases hx with rfl | rfl
  · exact h.outN.2.1
  · exact h.outN.1
theorem CB.mono {w0 : World} {N M bc bd gn gx gs gd : Nat} {cs : List Int} {ca : Option Addr} {cc : Nat} {p : Pub} {v : Value} {s : St} {vn : Value} {k : Nat} {w : World} (h : CB w0 N bc bd gn gx gs gd cs ca cc p v s vn k w) (hm : N ≤ M) : CB w0 M bc bd gn gx gs gd cs ca cc p v s vn k w :=
  ⟨h.prog.mono hm, h.cuts, h.disk, h.n0, h.n1, h.n2, h.nf, h.nx, h.xf, h.kle, h.fam, h.o1, h.o2, h.out, h.outN, h.below⟩
/-- The next cut's number. -/
theorem CB.setNext {w0 : World} {N bc bd gn gx gs gd : Nat} {cs : List Int} {ca : Option Addr} {cc : Nat} {p : Pub} {v : Value} {s : St} {vn : Value} {k : Nat} {w : World} (h : CB w0 N bc bd gn gx gs gd cs ca cc p v s vn k w) (k' : Nat) (hk : k' ≤ cs.length) : CB w0 N bc bd gn gx gs gd cs ca cc p v s vn k' (w.setCell ⟨gx, 0, none⟩ (.int .i64 k')) := by
  obtain ⟨o1, o2, o3, o4, o5, o6⟩ := h.o1
  obtain ⟨a1, a2, a3⟩ := h.o2
  have hk1 := keep1 gx 0 (.int .i64 k') w
  have ho : ∀ {n j : Nat} {x : Value}, w.cell? ⟨n, j, none⟩ = some x → n ≠ gx → (w.setCell ⟨gx, 0, none⟩ (.int .i64 k')).cell? ⟨n, j, none⟩ = some x := fun hx hn => set_other hx (Ne.symm hn)
  exact ⟨h.prog.elsewhere hk1 (fun x hx => by simp at hx; subst hx; exact ⟨by omega, Ne.symm a2, h.out.2⟩), ho h.cuts (by omega), ho h.disk (by omega), ho h.n0 (by omega), ho h.n1 (by omega), ho h.n2 (by omega), fun i => by rw [World.frozen?_setCell]; exact h.nf i, World.cell?_setCell_same _ _ _ h.nx, fun i => by rw [World.frozen?_setCell]; exact h.xf i, hk, hk1.rowsOut h.fam (fun x hx => by simp at hx; subst hx; exact h.outN.2.2.1), ⟨o1, o2, o3, o4, o5, by simpa using o6⟩, h.o2, h.out, h.outN, h.below.trans (hk1.below h.below.size (fun x hx => by simp at hx; omega))⟩
/-- The state that should be. -/
theorem CB.setNow {w0 : World} {N bc bd gn gx gs gd : Nat} {cs : List Int} {ca : Option Addr} {cc : Nat} {p : Pub} {v : Value} {s s' : St} {vn vn' : Value} {k : Nat} {w : World} (h : CB w0 N bc bd gn gx gs gd cs ca cc p v s vn k w) (hf : Fams 0 w vn' s'.fams) (hn : NotIn vn' gs ∧ NotIn vn' gd ∧ NotIn vn' gx ∧ NotIn vn' gn) :
    CB w0 N bc bd gn gx gs gd cs ca cc p v s' vn' k (((w.setCell ⟨gn, 0, none⟩ (.int .i64 s'.clock)).setCell ⟨gn, 1, none⟩ (.int .i64 s'.next)).setCell ⟨gn, 2, none⟩ vn') := by
  obtain ⟨o1, o2, o3, o4, o5, o6⟩ := h.o1
  obtain ⟨a1, a2, a3⟩ := h.o2
  have hk1 := keep3 gn 0 1 2 (.int .i64 s'.clock) (.int .i64 s'.next) vn' w
  obtain ⟨p0, p1, p2⟩ := @three_set w gn (.int .i64 s'.clock) (.int .i64 s'.next) vn' _ _ _ h.n0 h.n1 h.n2
  have ho : ∀ {n j : Nat} {x : Value}, w.cell? ⟨n, j, none⟩ = some x → n ≠ gn → (((w.setCell ⟨gn, 0, none⟩ (.int .i64 s'.clock)).setCell ⟨gn, 1, none⟩ (.int .i64 s'.next)).setCell ⟨gn, 2, none⟩ vn').cell? ⟨n, j, none⟩ = some x := fun hx hn => set_other (set_other (set_other hx (Ne.symm hn)) (Ne.symm hn)) (Ne.symm hn)
  exact ⟨h.prog.elsewhere hk1 (fun x hx => by simp at hx; subst hx; exact ⟨by omega, Ne.symm a1, h.out.1⟩), ho h.cuts (by omega), ho h.disk (by omega), p0, p1, p2, fun i => by simp only [World.frozen?_setCell]; exact h.nf i, ho h.nx (by omega), fun i => by simp only [World.frozen?_setCell]; exact h.xf i, h.kle, hk1.rowsOut hf (fun x hx => by simp at hx; subst hx; exact hn.2.2.2), ⟨o1, o2, o3, o4, o5, by simpa using o6⟩, h.o2, h.out, hn, h.below.trans (hk1.below h.below.size (fun x hx => by simp at hx; omega))⟩
/-- Another store, opened anew on the same disk. -/
theorem CB.anew {w0 : World} {N bc bd gn gx gs g2 gd : Nat} {cs : List Int} {ca : Option Addr} {cc : Nat} {p q : Pub} {v v2 : Value} {s : St} {vn : Value} {k : Nat} {w w' : World} (h : CB w0 N bc bd gn gx gs gd cs ca cc p v s vn k w) (hb : Below w.heap.size w w') (hle : w.heap.size ≤ g2) (hp : SP N w' g2 gd q v2) : CB w0 N bc bd gn gx g2 gd cs ca cc q v2 s vn k w' := by
  have h' := h.on hb
  obtain ⟨o1, o2, o3, o4, o5, o6⟩ := h.o1
  exact ⟨hp, h'.cuts, h'.disk, h'.n0, h'.n1, h'.n2, h'.nf, h'.nx, h'.xf, h'.kle, h'.fam, h'.o1, ⟨by omega, by omega, by omega⟩, ⟨NotIn.above hp.fam (by omega), NotIn.above hp.fam (by omega)⟩, ⟨NotIn.past h.fam hle, h.outN.2⟩, h'.below⟩
set_option maxRecDepth 100000 in
set_option maxHeartbeats 4000000 in
theorem cutC_is (w0 : World) (N bc bd gn gx gs gd cb co : Nat) (cs : List Int) (ca : Option Addr) (cc : Nat) (p : Pub) (v : Value) (s : St) (vn : Value) (k : Nat) (w : World) (h : CB w0 N bc bd gn gx gs gd cs ca cc p v s vn k w) (hca : 0 < cs.length → ca = some ⟨cb, co, none⟩) (hcb : cb < w0.heap.size) (hrow : ∀ (i : Nat) (h : i < cs.length), w0.cell? ⟨cb, co + i, none⟩ = some (.int .i64 cs[i])) (hlen : cs.length ≤ 1000) :
    Calls Tryz.prog 9 #[.pointer (some ⟨gx, 0, none⟩), .pointer (some ⟨bc, 0, none⟩), .pointer (some ⟨bd, 0, none⟩)] w fun r w' => r = .returned (.tuple #[]) ∧ ∃ (n : Int) (k' : Nat), CB w0 N bc bd gn gx gs gd cs ca cc (cutP p n) v s vn k' w' := by
  have HC : Hid (CB w0 N bc bd gn gx gs gd cs ca cc p v s vn k w) := h
  have c1 := h.cuts
  have c2 := h.disk
  have c3 := h.nx
  have x0 := h.xf
  have hkI : (k : Int) ≤ 1000 := by have := h.kle; omega
  have hlI : (cs.length : Int) ≤ 1000 := by omega
  have HCU : Hid (∀ (n : Int) (k' : Nat) (W : World), n ≤ 1000 → CB w0 N bc bd gn gx gs gd cs ca cc p v s vn k' W → Calls Tryz.prog 11 #[.pointer (some ⟨gd, 0, none⟩), .int .i64 n] W fun r w' => r = .returned (.tuple #[]) ∧ CB w0 N bc bd gn gx gs gd cs ca cc (cutP p n) v s vn k' w') := fun n k' W hn hW => by
    refine (cutS_is N W gs gd p v n (by omega) hW.prog).mono ?_
    rintro r w' ⟨rfl, q1, q2⟩
    exact ⟨rfl, hW.step q1 (q2.mono (fun x hx => by simp at hx; simp [hx])) hW.out⟩
  by_cases hlt : k < cs.length
  · have hltI : (k : Int) < (cs.length : Int) := by omega
    obtain rfl := hca (by omega)
    have hx := (h.below.cell (p := ⟨cb, co + k, none⟩) hcb).trans (hrow k hlt)
    have HN : Hid (CB w0 N bc bd gn gx gs gd cs (some ⟨cb, co, none⟩) cc p v s vn (k + 1) (w.setCell ⟨gx, 0, none⟩ (.int .i64 ((k + 1 : Nat) : Int)))) := h.setNext (k + 1) hlt
    have hcast : ((k + 1 : Nat) : Int) = (k : Int) + 1 := by push_cast; rfl
    rw [hcast] at HN
    generalize cs[k] = a at *
    have hne : gx ≠ bd ∧ gx ≠ bc := by have := h.o1; omega
    have hbd := hne.1
    clear h hca hrow hlt hcast hne
    go_enter Tryz.func9, Tryz.ntmps9
    go_wp2_with fail
    refine (pickN_is a 60 (by omega) (by omega) _).mono ?_
    rintro e1 w1 ⟨n, hn, -, rfl, rfl⟩
    have hnI : (n : Int) ≤ 1000 := by omega
    go_wp2_with fail
    refine (HCU.out n (k + 1) _ hnI HN.out).mono ?_
    rintro e2 w2 ⟨rfl, q⟩
    have HQ : Hid _ := q
    clear q
    go_wp2_with fail
    go_end0
    exact ⟨rfl, _, _, HQ.out⟩
  · have hltI : ¬ (k : Int) < (cs.length : Int) := by omega
    clear h hca hrow hlt
    go_enter Tryz.func9, Tryz.ntmps9
    go_wp2_with fail
    refine (HCU.out (-1) k _ (by omega) HC.out).mono ?_
    rintro e2 w2 ⟨rfl, q⟩
    have HQ : Hid _ := q
    clear q
    go_wp2_with fail
    go_end0
    exact ⟨rfl, _, _, HQ.out⟩
end Go.Proofs.YtkggfahcdpgapabGreatDoor
