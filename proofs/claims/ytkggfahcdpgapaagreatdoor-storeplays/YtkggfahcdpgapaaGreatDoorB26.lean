/-
  Own texts put together: StState, StOne, EvSort.
-/
import Derived.Test.YtkggfahcdpgapaaGreatDoorB25
import Derived.Test.YtkggfahcdpgapaaGreatDoorB23
import Derived.Test.YtkggfahcdpgapaaGreatDoorB19
import Derived.Test.YtkggfahcdpgapaaGreatDoorShelf
import Derived.Shelf.SlSortFuncK.WholeK
import Derived.Lib.OwnBridge
/-
  What a store tells: its state, its log, whether the power went off.
-/

namespace Go.Proofs.YtkggfahcdpgapaaGreatDoor
open Go Go.RowKit Tok Sc Ev
theorem DS.turned {w0 : World} {gs gd : Nat} {A : AD} {n : Nat} {c c' : Bool} {l l1 : Int} {dn : Bool} {sv lg : Nat} {st : St} {v : Value} {w w' : World} (h : DS w0 gs gd A n c l dn sv lg st v w) (hg : w.grownBy w' (some gd)) (hd : ∃ F l', IsDisk w' gd F (n : Int) c' l' ∧ (c' = true → l' = l1) ∧ EncF tag0 F A) : DS w0 gs gd A n c' l1 dn sv lg st v w' := by
  have hk := Keep.grown hg
  have hb : Below gd w w' := hk.below (Nat.le_of_lt h.gdlt) (fun x hx => by simp at hx; omega)
  exact ⟨hd, h.libs.belowB hb h.olds, (hb.cell (p := ⟨4, 0, none⟩) h.oldE).trans h.err, h.store.keep hk h.ord, h.ord, h.olds, h.oldE, h.keep.trans (hk.mono (fun x hx => by simp at hx; simp [hx])), h.was⟩
/-- The power: off behind k writes, or on. -/
theorem cutD_is (w0 : World) (gs gd : Nat) (A : AD) (n : Nat) (c : Bool) (l : Int) (dn : Bool) (sv lg : Nat) (st : St) (v : Value) (k : Int) (w : World) (h : DS w0 gs gd A n c l dn sv lg st v w) :
    Calls Tryz.prog 30 #[.pointer (some ⟨gd, 0, none⟩), .int .i64 k] w fun r w' => r = .returned (.tuple #[]) ∧ DS w0 gs gd A n (decide (0 ≤ k)) k dn sv lg st v w' ∧ Keep [gd] w w' := by
  obtain ⟨F, l', h1, h2, h3⟩ := h.disk
  by_cases hk : 0 ≤ k
  · refine (cut_on gd F n c l' k hk w h1).mono ?_
    rintro r w' ⟨rfl, q1, q2⟩
    rw [decide_eq_true hk]
    exact ⟨rfl, h.turned q2 ⟨F, k, q1, fun _ => rfl, h3⟩, Keep.grown q2⟩
  · refine (cut_off gd F n c l' k (by omega) w h1).mono ?_
    rintro r w' ⟨rfl, q1, q2⟩
    rw [decide_eq_false hk]
    exact ⟨rfl, h.turned q2 ⟨F, 0, q1, fun hc => (by cases hc), h3⟩, Keep.grown q2⟩
theorem log_is (w : World) (gs gd : Nat) (dn : Bool) (sv lg : Nat) (st : St) (v : Value) (h : StoreAt w gs gd dn sv lg st v) : Calls Tryz.prog 34 #[.pointer (some ⟨gs, 0, none⟩)] w fun r w' => r = .returned (.int .i64 lg) ∧ w' = w := by
  have p3 := h.p3
  clear h
  go_enter Tryz.func34, Tryz.ntmps34
  go_wp2_with fail
  go_ret
  exact ⟨rfl, rfl⟩
theorem down_is (w : World) (gs gd : Nat) (dn : Bool) (sv lg : Nat) (st : St) (v : Value) (h : StoreAt w gs gd dn sv lg st v) : Calls Tryz.prog 35 #[.pointer (some ⟨gs, 0, none⟩)] w fun r w' => r = .returned (.bool dn) ∧ w' = w := by
  have p1 := h.p1
  clear h
  go_enter Tryz.func35, Tryz.ntmps35
  go_wp2_with fail
  go_ret
  exact ⟨rfl, rfl⟩
set_option maxRecDepth 100000 in
set_option maxHeartbeats 8000000 in
theorem state_is (w : World) (gs gd : Nat) (dn : Bool) (sv lg : Nat) (st : St) (v : Value) (h : StoreAt w gs gd dn sv lg st v) (hn : st.fams.length ≤ 1000) : Calls Tryz.prog 33 #[.pointer (some ⟨gs, 0, none⟩)] w fun r w' => ∃ v', r = .returned (stV st.clock st.next v') ∧ Fams w.heap.size w' v' st.fams ∧ Below w.heap.size w w' := by
  obtain ⟨ba, ca, rfl⟩ := RowsK.slice h.fam
  have hcl := fun (W : World) (hf : Fams (gs + 1) W (.slice ba st.fams.length ca) st.fams) => clone_fams hf hn
  have HB0 : Hid (Below w.heap.size w (w.alloc (.cells #[.int .i64 0, .int .i64 0, .slice none 0 0] 57))) := (Below.refl _ _).alloc (Nat.le_refl _) _
  have H1 : Hid _ := h.on HB0.out
  have HB2 : Hid (Below w.heap.size w ((w.alloc (.cells #[.int .i64 0, .int .i64 0, .slice none 0 0] 57)).alloc (.cells #[.int .i64 st.clock, .int .i64 st.next, .slice ba st.fams.length ca] 57))) := HB0.out.alloc (by simp) _
  have HF2 : Hid (Fams (gs + 1) ((w.alloc (.cells #[.int .i64 0, .int .i64 0, .slice none 0 0] 57)).alloc (.cells #[.int .i64 st.clock, .int .i64 st.next, .slice ba st.fams.length ca] 57)) (.slice ba st.fams.length ca) st.fams) := (h.on HB2.out).fam
  have p4 := H1.out.p4
  have p5 := H1.out.p5
  have p6 := H1.out.p6
  have hs2 : ((w.alloc (.cells #[.int .i64 0, .int .i64 0, .slice none 0 0] 57)).alloc (.cells #[.int .i64 st.clock, .int .i64 st.next, .slice ba st.fams.length ca] 57)).heap.size = w.heap.size + 2 := by simp
  have hA : ∀ i, ((w.alloc (.cells #[.int .i64 0, .int .i64 0, .slice none 0 0] 57)).alloc (.cells #[.int .i64 st.clock, .int .i64 st.next, .slice ba st.fams.length ca] 57)).cell? ⟨w.heap.size, i, none⟩ = (w.alloc (.cells #[.int .i64 0, .int .i64 0, .slice none 0 0] 57)).cell? ⟨w.heap.size, i, none⟩ := fun i => World.cell?_alloc_lt _ _ _ (by simp)
  have hFa : ∀ i, ((w.alloc (.cells #[.int .i64 0, .int .i64 0, .slice none 0 0] 57)).alloc (.cells #[.int .i64 st.clock, .int .i64 st.next, .slice ba st.fams.length ca] 57)).frozen? ⟨w.heap.size, i, none⟩ = false := fun i => by rw [World.frozen?_alloc_past _ _ _ (by simp)]; exact World.frozen?_alloc_at _ _ _ _ rfl
  have HA : Hid (∀ i, _) := hA
  have HFA : Hid (∀ i, _) := hFa
  have HS2 : Hid _ := hs2
  clear h hA hFa hs2
  unfold stV
  go_enter Tryz.func33, Tryz.ntmps33
  go_wp2_with fail
  refine (hcl _ HF2.out).mono ?_
  rintro e1 w1 ⟨v1, rfl, hf1, hb1⟩
  obtain ⟨b1, c1, rfl⟩ := RowsK.slice hf1
  have HB3 : Hid (Below w.heap.size w w1) := HB2.out.trans (hb1.mono HB2.out.size)
  have z0 := (hb1.cell (p := ⟨w.heap.size, 0, none⟩) (by rw [HS2.out]; show w.heap.size < _; omega)).trans ((HA.out 0).trans ((World.cell?_alloc_at _ _ _ _ rfl).trans rfl))
  have z1 := (hb1.cell (p := ⟨w.heap.size, 1, none⟩) (by rw [HS2.out]; show w.heap.size < _; omega)).trans ((HA.out 1).trans ((World.cell?_alloc_at _ _ _ _ rfl).trans rfl))
  have z2 := (hb1.cell (p := ⟨w.heap.size, 2, none⟩) (by rw [HS2.out]; show w.heap.size < _; omega)).trans ((HA.out 2).trans ((World.cell?_alloc_at _ _ _ _ rfl).trans rfl))
  have zf : ∀ i, w1.frozen? ⟨w.heap.size, i, none⟩ = false := fun i => (hb1.frozen (p := ⟨w.heap.size, i, none⟩) (by rw [HS2.out]; show w.heap.size < _; omega)).trans (HFA.out i)
  have y0 : w1.cell? ⟨w.heap.size + 1, 0, none⟩ = some (.int .i64 st.clock) := (hb1.cell (p := ⟨w.heap.size + 1, 0, none⟩) (by rw [HS2.out]; show w.heap.size + 1 < _; omega)).trans ((World.cell?_alloc_at _ _ _ _ (by simp)).trans rfl)
  have y1 : w1.cell? ⟨w.heap.size + 1, 1, none⟩ = some (.int .i64 st.next) := (hb1.cell (p := ⟨w.heap.size + 1, 1, none⟩) (by rw [HS2.out]; show w.heap.size + 1 < _; omega)).trans ((World.cell?_alloc_at _ _ _ _ (by simp)).trans rfl)
  have y2 : w1.cell? ⟨w.heap.size + 1, 2, none⟩ = some (.slice ba st.fams.length ca) := (hb1.cell (p := ⟨w.heap.size + 1, 2, none⟩) (by rw [HS2.out]; show w.heap.size + 1 < _; omega)).trans ((World.cell?_alloc_at _ _ _ _ (by simp)).trans rfl)
  have yf : ∀ i, w1.frozen? ⟨w.heap.size + 1, i, none⟩ = false := fun i => (hb1.frozen (p := ⟨w.heap.size + 1, i, none⟩) (by rw [HS2.out]; show w.heap.size + 1 < _; omega)).trans (World.frozen?_alloc_at _ _ _ _ (by simp))
  have HF1 : Hid (Fams (w.heap.size + 2) w1 (.slice b1 st.fams.length c1) st.fams) := by rw [← HS2.out]; exact hf1
  clear hf1 hb1 hcl p4 p5 p6
  have HBF : Hid (Below w.heap.size w ((((w1.setCell ⟨w.heap.size + 1, 2, none⟩ (.slice b1 st.fams.length c1)).setCell ⟨w.heap.size, 0, none⟩ (.int .i64 st.clock)).setCell ⟨w.heap.size, 1, none⟩ (.int .i64 st.next)).setCell ⟨w.heap.size, 2, none⟩ (.slice b1 st.fams.length c1))) := (HB3.out.setCell (p := ⟨w.heap.size + 1, 2, none⟩) (Nat.le_succ _) _).trans (below3 _ 0 1 2 _ _ _ _)
  have HFF : Hid (Fams w.heap.size ((((w1.setCell ⟨w.heap.size + 1, 2, none⟩ (.slice b1 st.fams.length c1)).setCell ⟨w.heap.size, 0, none⟩ (.int .i64 st.clock)).setCell ⟨w.heap.size, 1, none⟩ (.int .i64 st.next)).setCell ⟨w.heap.size, 2, none⟩ (.slice b1 st.fams.length c1)) (.slice b1 st.fams.length c1) st.fams) :=
    RowsK.mono ((((HF1.out.other (a := ⟨w.heap.size + 1, 2, none⟩) (by show w.heap.size + 1 < _; omega) _).other (a := ⟨w.heap.size, 0, none⟩) (by show w.heap.size < _; omega) _).other (a := ⟨w.heap.size, 1, none⟩) (by show w.heap.size < _; omega) _).other (a := ⟨w.heap.size, 2, none⟩) (by show w.heap.size < _; omega) _) (by omega)
  obtain ⟨q0, q1, q2⟩ := @three_set (w1.setCell ⟨w.heap.size + 1, 2, none⟩ (.slice b1 st.fams.length c1)) w.heap.size (.int .i64 st.clock) (.int .i64 st.next) (.slice b1 st.fams.length c1) _ _ _ (set_other z0 (by omega)) (set_other z1 (by omega)) (set_other z2 (by omega))
  go_wp2_with fail
  have HBF2 := HBF.out
  have HFF2 := HFF.out
  clear HBF HFF z0 z1 z2 zf y0 y1 y2 yf
  generalize World.setCell _ ⟨w.heap.size, 2, none⟩ _ = WW at *
  exact bodyPost_ret (v := .agg #[.int .i64 st.clock, .int .i64 st.next, .slice b1 st.fams.length c1]) (by simp [results, Tryz.results33, go_sem, q0, q1, q2]) rfl ⟨_, rfl, HFF2, HBF2⟩
end Go.Proofs.YtkggfahcdpgapaaGreatDoor

/-
  The program's store as one thing: what holds of its disk and its cells between two calls, and what each call makes of it.
-/

namespace Go.Proofs.YtkggfahcdpgapaaGreatDoor
open Go Go.RowKit Tok Sc Ev
/-- A store that holds what p tells; gs, gd: its block, its disk's; v: its families. -/
structure SP (N : Nat) (w : World) (gs gd : Nat) (p : Pub) (v : Value) : Prop where
  ok : PubOk N p
  run : ∃ A sv b es, Inv A p.st sv p.lg b es ∧ sv ≤ N ∧ DS w gs gd A p.n p.c p.l p.dn sv p.lg p.st v w
theorem SP.mono {N M : Nat} {w : World} {gs gd : Nat} {p : Pub} {v : Value} (h : SP N w gs gd p v) (hm : N ≤ M) : SP M w gs gd p v := by
  obtain ⟨A, sv, b, es, h1, h2, h3⟩ := h.run
  exact ⟨ok_mono h.ok hm, A, sv, b, es, h1, Nat.le_trans h2 hm, h3⟩
theorem SP.on {N : Nat} {w w' : World} {gs gd : Nat} {p : Pub} {v : Value} (h : SP N w gs gd p v) (hb : Below w.heap.size w w') : SP N w' gs gd p v := by
  obtain ⟨A, sv, b, es, h1, h2, h3⟩ := h.run
  exact ⟨h.ok, A, sv, b, es, h1, h2, (h3.on hb).rebase⟩
theorem SP.store {N : Nat} {w : World} {gs gd : Nat} {p : Pub} {v : Value} (h : SP N w gs gd p v) : ∃ sv, StoreAt w gs gd p.dn sv p.lg p.st v := by
  obtain ⟨A, sv, b, es, h1, h2, h3⟩ := h.run
  exact ⟨sv, h3.store⟩
theorem SP.fam {N : Nat} {w : World} {gs gd : Nat} {p : Pub} {v : Value} (h : SP N w gs gd p v) : Fams (gs + 1) w v p.st.fams := by
  obtain ⟨sv, h1⟩ := h.store
  exact h1.fam
theorem SP.lt {N : Nat} {w : World} {gs gd : Nat} {p : Pub} {v : Value} (h : SP N w gs gd p v) : gs < w.heap.size := by
  obtain ⟨sv, h1⟩ := h.store
  exact h1.lt
theorem SP.ord {N : Nat} {w : World} {gs gd : Nat} {p : Pub} {v : Value} (h : SP N w gs gd p v) : gd < gs := by
  obtain ⟨A, sv, b, es, h1, h2, h3⟩ := h.run
  exact h3.ord
theorem SP.disk {N : Nat} {w : World} {gs gd : Nat} {p : Pub} {v : Value} (h : SP N w gs gd p v) : ∃ A, ∃ F l', IsDisk w gd F (p.n : Int) p.c l' ∧ EncF tag0 F A := by
  obtain ⟨A, sv, b, es, h1, h2, h3⟩ := h.run
  obtain ⟨F, l', d1, d2, d3⟩ := h3.disk
  exact ⟨A, F, l', d1, d3⟩
theorem SP.err {N : Nat} {w : World} {gs gd : Nat} {p : Pub} {v : Value} (h : SP N w gs gd p v) : ErrVar w := by
  obtain ⟨A, sv, b, es, h1, h2, h3⟩ := h.run
  exact h3.err
theorem SP.libs {N : Nat} {w : World} {gs gd : Nat} {p : Pub} {v : Value} (h : SP N w gs gd p v) : LibsA w := by
  obtain ⟨A, sv, b, es, h1, h2, h3⟩ := h.run
  exact h3.libs
/-- Where the power stays on, how long it would is nobody's business. -/
theorem SP.left {N : Nat} {w : World} {gs gd : Nat} {p : Pub} {v : Value} (h : SP N w gs gd p v) (hc : p.c = false) (l2 : Int) : SP N w gs gd ⟨p.st, p.lg, p.n, p.c, l2, p.dn⟩ v := by
  obtain ⟨A, sv, b, es, h1, h2, h3⟩ := h.run
  obtain ⟨F, l', d1, d2, d3⟩ := h3.disk
  have hn : ∀ x : Prop, p.c = true → x := fun x ht => by rw [hc] at ht; cases ht
  exact ⟨⟨h.ok.good, h.ok.low, h.ok.few, hn _⟩, A, sv, b, es, h1, h2, ⟨⟨F, l', d1, hn _, d3⟩, h3.libs, h3.err, h3.store, h3.ord, h3.olds, h3.oldE, h3.keep, h3.was⟩⟩
/-- A row that lies in another block. -/
def NotIn (v : Value) (b : Nat) : Prop := ∀ g o n c, v = .slice (some ⟨g, o, none⟩) n c → g ≠ b
theorem NotIn.nil (b : Nat) (n c : Nat) : NotIn (.slice none n c) b := fun g o n c h => by cases h
theorem NotIn.above {k B : Nat} {w : World} {v : Value} {n : Nat} {cs : List Value} (h : RowsK k B w v n cs) {b : Nat} (hb : b < B) : NotIn v b := by
  rcases h with ⟨h1, -⟩ | ⟨g, c, h1, h2⟩
  · subst h1; exact NotIn.nil _ _ _
  · intro g' o n' c' he
    have := h2.new
    rw [h1] at he
    simp only [Value.slice.injEq, Option.some.injEq, Addr.mk.injEq] at he
    omega
theorem NotIn.past {k B : Nat} {w : World} {v : Value} {n : Nat} {cs : List Value} (h : RowsK k B w v n cs) {b : Nat} (hb : w.heap.size ≤ b) : NotIn v b := by
  rcases h with ⟨h1, -⟩ | ⟨g, c, h1, h2⟩
  · subst h1; exact NotIn.nil _ _ _
  · intro g' o n' c' he
    have := h2.lt
    rw [h1] at he
    simp only [Value.slice.injEq, Option.some.injEq, Addr.mk.injEq] at he
    omega
/-- A row's block is left as it was. -/
theorem Keep.rowsOut {l : List Nat} {k B : Nat} {w w' : World} {v : Value} {n : Nat} {cs : List Value} (h : Keep l w w') (hr : RowsK k B w v n cs) (hl : ∀ x ∈ l, NotIn v x) : RowsK k B w' v n cs := by
  rcases hr with h1 | ⟨g, c, h1, h2⟩
  · exact .inl h1
  · exact .inr ⟨g, c, h1, h2.block h.size (h.block g h2.lt (fun hx => hl g hx g 0 n c h1 rfl))⟩
/-- A call that writes elsewhere leaves a store as it was. -/
theorem DS.elsewhere {l : List Nat} {w0 : World} {gs gd : Nat} {A : AD} {n : Nat} {c : Bool} {le : Int} {dn : Bool} {sv lg : Nat} {st : St} {v : Value} {w w' : World} (h : DS w0 gs gd A n c le dn sv lg st v w) (hk : Keep l w w') (hl : ∀ x ∈ l, gd < x ∧ x ≠ gs ∧ NotIn v x) : DS w' gs gd A n c le dn sv lg st v w' := by
  obtain ⟨F, l', h1, h2, h3⟩ := h.disk
  have hb : Below (gd + 1) w w' := hk.below h.gdlt (fun x hx => (hl x hx).1)
  have hb2 : Below gd w w' := hb.mono (Nat.le_succ _)
  have hn : gs ∉ l := fun hx => (hl gs hx).2.1 rfl
  have hc : ∀ i, w'.cell? ⟨gs, i, none⟩ = w.cell? ⟨gs, i, none⟩ := fun i => hk.cell (p := ⟨gs, i, none⟩) h.store.lt hn
  have hs := h.store
  have hst : StoreAt w' gs gd dn sv lg st v := ⟨(hc 0).trans hs.p0, (hc 1).trans hs.p1, (hc 2).trans hs.p2, (hc 3).trans hs.p3, (hc 4).trans hs.p4, (hc 5).trans hs.p5, (hc 6).trans hs.p6, fun i => (hk.frozen (p := ⟨gs, i, none⟩) hs.lt hn).trans (hs.pf i), hk.rowsOut hs.fam (fun x hx => (hl x hx).2.2), Nat.lt_of_lt_of_le hs.lt hk.size⟩
  exact ⟨⟨F, l', h1.below hb (Nat.lt_succ_self _), h2, h3⟩, h.libs.belowB hb2 h.olds, (hb2.cell (p := ⟨4, 0, none⟩) h.oldE).trans h.err, hst, h.ord, h.olds, h.oldE, Keep.refl _ _, Nat.lt_of_lt_of_le hs.lt hk.size⟩
theorem SP.elsewhere {l : List Nat} {N : Nat} {w w' : World} {gs gd : Nat} {p : Pub} {v : Value} (h : SP N w gs gd p v) (hk : Keep l w w') (hl : ∀ x ∈ l, gd < x ∧ x ≠ gs ∧ NotIn v x) : SP N w' gs gd p v := by
  obtain ⟨A, sv, b, es, h1, h2, h3⟩ := h.run
  exact ⟨h.ok, A, sv, b, es, h1, h2, h3.elsewhere hk hl⟩
theorem save_c (p : Pub) : (saveP p).1.c = p.c := by
  have h := writesP_st (p.st.fams.length + 1) p
  unfold saveP
  split
  · rfl
  · split
    · exact h.2.2.2.1
    · exact h.2.2.2.1
theorem put1_c (p : Pub) (e : E) : (putP1 p e).1.c = p.c := by
  unfold putP1
  split <;> rfl
theorem add_c (p : Pub) (e : E) (m : Bool) : (addP p e m).1.c = p.c := by
  unfold addP
  split
  · rfl
  split
  · rfl
  split
  · rfl
  split
  · split
    · rw [put1_c, save_c]
    · exact save_c p
  · exact put1_c p e
theorem okN_of {n : Nat} (h : n < 100000) : okN ((n : Int) + 1) := (show 0 ≤ (n : Int) + 1 ∧ (n : Int) + 1 ≤ 1099511627776 from ⟨by omega, by omega⟩)
theorem addS_is (N : Nat) (w : World) (gs gd : Nat) (p : Pub) (v : Value) (e : E) (m : Bool) (hm : m = true ↔ Ev.may e) (hs : Small 1000 e.fam) (h : SP N w gs gd p v) (hN : N < 9000) :
    Calls Tryz.prog 26 #[.pointer (some ⟨gs, 0, none⟩), evV e] w fun r w' => r = .returned (errQ (addP p e m).2) ∧ ∃ v', SP (N + 22) w' gs gd (addP p e m).1 v' ∧ Keep [gd, gs] w w' ∧ (v' = v ∨ Fams w.heap.size w' v' (addP p e m).1.st.fams) := by
  obtain ⟨A, sv, b, es, h1, h2, h3⟩ := h.run
  have hok := ok_add hm h.ok
  have hfew := h.ok.few
  have hleft := h.ok.left
  have hok0 := h.ok
  clear h
  obtain ⟨st, lg, n, c, l, dn⟩ := p
  simp only at h1 h2 h3 hfew hleft
  cases dn with
  | true =>
    have he : addP ⟨st, lg, n, c, l, true⟩ e m = (⟨st, lg, n, c, l, true⟩, 6) := by unfold addP; rw [if_pos rfl]
    rw [he] at hok ⊢
    refine (add_down w gs gd A n c l sv lg st v e w h3).mono ?_
    rintro r w' ⟨rfl, q1⟩
    exact ⟨rfl, v, ⟨hok, A, sv, b, es, h1, by omega, q1.rebase⟩, q1.keep, .inl rfl⟩
  | false =>
    cases m with
    | false =>
      have hn : ¬ Ev.may e := fun hx => by cases hm.2 hx
      have he : addP ⟨st, lg, n, c, l, false⟩ e false = (⟨st, lg, n, c, l, false⟩, 1) := by unfold addP; rw [if_neg (by simp), if_pos rfl]
      rw [he] at hok ⊢
      refine (add_no w gs gd A n c l sv lg st v e w h3 hn hs).mono ?_
      rintro r w' ⟨rfl, q1⟩
      exact ⟨rfl, v, ⟨hok, A, sv, b, es, h1, by omega, q1.rebase⟩, q1.keep, .inl rfl⟩
    | true =>
      refine (add_yes w gs gd A n c l sv lg st b es v e w h3 h1 (okN_of (by omega)) hleft (by omega) (hm.1 rfl) hs).mono ?_
      rintro r w' ⟨rfl, A', sv', b', es', v', q1, q2, q3, q4⟩
      have hc : (addP ⟨st, lg, n, c, l, false⟩ e true).1.c = c := add_c _ _ _
      refine ⟨rfl, v', ⟨hok, A', sv', b', es', q1, by omega, ?_⟩, q3.keep, q4⟩
      rw [hc]
      exact q3.rebase
theorem saveS_is (N : Nat) (w : World) (gs gd : Nat) (p : Pub) (v : Value) (h : SP N w gs gd p v) (hN : N < 9000) :
    Calls Tryz.prog 28 #[.pointer (some ⟨gs, 0, none⟩)] w fun r w' => r = .returned (errQ (saveP p).2) ∧ SP (N + 22) w' gs gd (saveP p).1 v ∧ Keep [gd, gs] w w' := by
  obtain ⟨A, sv, b, es, h1, h2, h3⟩ := h.run
  have hok := ok_mono (ok_save h.ok) (show N + 21 ≤ N + 22 by omega)
  have hfew := h.ok.few
  have hleft := h.ok.left
  clear h
  obtain ⟨st, lg, n, c, l, dn⟩ := p
  simp only at h1 h2 h3 hfew hleft
  cases dn with
  | true =>
    have he : saveP ⟨st, lg, n, c, l, true⟩ = (⟨st, lg, n, c, l, true⟩, 6) := by unfold saveP; rw [if_pos rfl]
    rw [he] at hok ⊢
    refine (save_down w gs gd A n c l sv lg st v w h3).mono ?_
    rintro r w' ⟨rfl, rfl⟩
    exact ⟨rfl, ⟨hok, A, sv, b, es, h1, by omega, h3⟩, Keep.refl _ _⟩
  | false =>
    refine (save_up w gs gd A n c l sv lg st b es v w h3 h1 (okN_of (by omega)) hleft (by omega)).mono ?_
    rintro r w' ⟨p, rfl, rfl, A', sv', b', es', q1, q2, q3⟩
    have hc : (saveP ⟨st, lg, n, c, l, false⟩).1.c = c := save_c _
    have hs : (saveP ⟨st, lg, n, c, l, false⟩).1.st = st := save_st _
    refine ⟨rfl, ⟨hok, A', sv', b', es', by rw [hs]; exact q1, by omega, ?_⟩, q3.keep⟩
    rw [hc, hs]
    exact q3.rebase
theorem cutS_is (N : Nat) (w : World) (gs gd : Nat) (p : Pub) (v : Value) (k : Int) (hk : k ≤ 9223372036854775807) (h : SP N w gs gd p v) :
    Calls Tryz.prog 30 #[.pointer (some ⟨gd, 0, none⟩), .int .i64 k] w fun r w' => r = .returned (.tuple #[]) ∧ SP N w' gs gd (cutP p k) v ∧ Keep [gd] w w' := by
  obtain ⟨A, sv, b, es, h1, h2, h3⟩ := h.run
  refine (cutD_is w gs gd A p.n p.c p.l p.dn sv p.lg p.st v k w h3).mono ?_
  rintro r w' ⟨rfl, q1, q2⟩
  exact ⟨rfl, ⟨ok_cut h.ok k hk, A, sv, b, es, h1, h2, q1.rebase⟩, q2⟩
/-- A disk, with its blocks, and what the library holds. -/
structure DB (N : Nat) (w : World) (gd : Nat) (p : Pub) : Prop where
  ok : PubOk N p
  run : ∃ A sv b es, Inv A p.st sv p.lg b es ∧ sv ≤ N ∧ ∃ F l', IsDisk w gd F (p.n : Int) p.c l' ∧ (p.c = true → l' = p.l) ∧ EncF tag0 F A
  libs : LibsA w
  err : ErrVar w
  olds : Olds gd
  oldE : 4 < gd
  lt : gd < w.heap.size
theorem SP.db {N : Nat} {w : World} {gs gd : Nat} {p : Pub} {v : Value} (h : SP N w gs gd p v) : DB N w gd p := by
  obtain ⟨A, sv, b, es, h1, h2, h3⟩ := h.run
  exact ⟨h.ok, ⟨A, sv, b, es, h1, h2, h3.disk⟩, h3.libs, h3.err, h3.olds, h3.oldE, h3.gdlt⟩
/-- Open anew, with what the power does as it does it. -/
theorem openS_is (N : Nat) (w : World) (gd : Nat) (p : Pub) (h : DB N w gd p) (hN : N < 9000) :
    Calls Tryz.prog 24 #[.pointer (some ⟨gd, 0, none⟩)] w fun r w' => ∃ gs v, r = .returned (.tuple #[.pointer (some ⟨gs, 0, none⟩), .nilIface]) ∧ w.heap.size ≤ gs ∧ SP N w' gs gd ⟨p.st, p.lg, p.n, p.c, p.l, false⟩ v ∧ Below w.heap.size w w' := by
  obtain ⟨A, sv, b, es, h1, h2, F, l', d1, d2, d3⟩ := h.run
  have hdi := h1.diskIs (okN_of (by omega))
  refine (open_is gd A w ⟨⟨F, _, _, _, d1, d3⟩, h.lt, hdi.1, hdi.2⟩ h.libs).mono ?_
  rintro r w' ⟨gs, v, rfl, hle, hlw⟩
  rw [inv_open h1] at hlw
  have hb : Below w.heap.size w w' := hlw.below.mono hle
  refine ⟨gs, v, rfl, hle, ⟨⟨h.ok.good, h.ok.low, h.ok.few, h.ok.left⟩, A, sv, b, es, h1, h2, ?_⟩, hb⟩
  exact ⟨⟨F, l', d1.below hb h.lt, d2, d3⟩, hlw.libs, (hb.cell (p := ⟨4, 0, none⟩) (Nat.lt_trans h.oldE h.lt)).trans h.err, hlw.store, hlw.ord, h.olds, h.oldE, Keep.refl _ _, hlw.store.lt⟩
def diskZ : List Value := List.replicate 90 (Value.string ByteArray.empty) ++ [Value.int .i64 0, Value.bool false, Value.int .i64 0]
theorem diskZ_is : Tryz.zeroCells65 = diskZ.toArray := by kernel_rfl
theorem isDisk_zero (w : World) : IsDisk (w.alloc (.cells Tryz.zeroCells65 65)) w.heap.size (fun _ => ⟨#[]⟩) ((0 : Nat) : Int) false 0 := by
  have hc : ∀ j : Nat, (w.alloc (.cells Tryz.zeroCells65 65)).cell? ⟨w.heap.size, j, none⟩ = diskZ[j]? := by
    intro j
    rw [World.cell?_alloc_new, diskZ_is, List.getElem?_toArray]
  refine ⟨fun j hj => ?_, ?_, ?_, ?_, fun j hj => ?_⟩
  · rw [hc, diskZ, List.getElem?_append_left (by rw [List.length_replicate]; exact hj), List.getElem?_replicate, if_pos hj]; rfl
  · rw [hc]; rfl
  · rw [hc]; rfl
  · rw [hc]; rfl
  · exact World.frozen?_alloc_at _ _ _ _ rfl
/-- An empty disk. -/
theorem db_zero (w : World) (hl : LibsA w) (he : ErrVar w) (ho : Olds w.heap.size) : DB 0 (w.alloc (.cells Tryz.zeroCells65 65)) w.heap.size ⟨⟨0, 1, []⟩, 0, 0, false, 0, false⟩ := by
  have hb : Below w.heap.size w (w.alloc (.cells Tryz.zeroCells65 65)) := (Below.refl _ _).alloc (Nat.le_refl _) _
  exact ⟨ok_zero, ⟨emptyD, 0, ⟨0, 1, []⟩, [], inv_empty, Nat.le_refl _, _, 0, isDisk_zero w, fun _ => rfl, enc_empty _⟩, hl.below hb, he.on hb, ho, World.block_lt_of_cell? _ _ he, by simp⟩
end Go.Proofs.YtkggfahcdpgapaaGreatDoor

/-
  Families sorted by their numbers: sort.Slice as the document's answer calls it.
-/

namespace Go.Proofs.YtkggfahcdpgapaaGreatDoor
open Go Go.RowKit Ev
def ltF (a b : Fam) : Bool := decide (a.id < b.id)
theorem swoF : Go.Sort.SWO ltF := ⟨fun x => by simp [ltF], fun x y z h1 h2 => by simp [ltF] at *; omega, fun x y z h1 h2 => by simp [ltF] at *; omega⟩
theorem infoFS : ∃ i, Tryz.prog.info? 55 = some i ∧ i.desc = .slice 38 := by
  have h : (Tryz.prog.info? 55).map (·.desc) = some (.slice 38) := by kernel_rfl
  cases hi : Tryz.prog.info? 55 with
  | none => rw [hi] at h; cases h
  | some i =>
    rw [hi] at h
    exact ⟨i, rfl, by simpa using h⟩
theorem infoFTs : ∃ i, Tryz.prog.info? 38 = some i ∧ i.size = 9 ∧ i.hasPointers = true ∧ i.bytes = 104 := by
  have h : (Tryz.prog.info? 38).map (fun i => (i.size, i.hasPointers, i.bytes)) = some (9, true, 104) := by kernel_rfl
  cases hi : Tryz.prog.info? 38 with
  | none => rw [hi] at h; cases h
  | some i =>
    rw [hi] at h
    simp only [Option.map_some, Option.some.injEq, Prod.mk.injEq] at h
    exact ⟨i, rfl, h.1, h.2.1, h.2.2⟩
set_option maxHeartbeats 2000000 in
theorem lessF (g c Bs size : Nat) (W : World) (G : Nat → Int) (hs : W.cell? ⟨Bs, 0, none⟩ = some (.slice (some ⟨g, 0, none⟩) size c))
    (hc : ∀ t, t < size → W.cell? ⟨g, t * 9, none⟩ = some (.int .i64 (G t))) (i j : Nat) (hi : i < size) (hj : j < size) :
    Calls Tryz.prog 114 #[.int .i64 i, .int .i64 j, .pointer (some ⟨Bs, 0, none⟩)] W fun e w' => e = .returned (.bool (decide (G i < G j))) ∧ ∃ q, w' = W.drewN q := by
  have ci := hc i hi
  have cj := hc j hj
  have mixed := mixedF
  have hiI : (i : Int) < (size : Int) := by omega
  have hjI : (j : Int) < (size : Int) := by omega
  clear hc
  go_enter Tryz.func114, Tryz.ntmps114
  go_wp2_with fail
  go_region
  go_wp2_with fail
  go_ret
  exact ⟨rfl, 1, rfl⟩
/-- In order of their numbers. -/
def Asc (d : List Fam) : Prop := d.Pairwise (fun a b => ¬ b.id < a.id)
theorem swapK (n : Nat) (ie : TypeInfo) (h1 : ie.hasPointers = true) (h2 : ie.bytes = 104) : Lib.swapperK n ie 25 = if n = 0 then 1 else if n = 1 then 2 else 9 := by
  unfold Lib.swapperK
  rw [h1, h2]
  by_cases h0 : n = 0
  · simp [h0]
  · by_cases h1 : n = 1
    · simp [h1]
    · simp [h0, h1]
theorem famsCs_get (l : List Fam) (j : Nat) (hj : j < l.length * 9) : (famsCs l)[j]? = (famCs (l[j / 9]'(by omega)))[j % 9]? := by
  have := famsCs_at l (j / 9) (j % 9) (by omega) (Nat.mod_lt _ (by omega))
  rw [show j / 9 * 9 + j % 9 = j by omega] at this
  exact this
theorem swapExt : ∀ args W, (callFunc 190 args).run Tryz.prog W = ((Extern.ReflectliteSwapper.swap false args).run Tryz.prog W).andThen fun v w' => .ok (.value v) w' :=
  fun args W => run_callFunc_extern Tryz.func190 (by kernel_rfl) (by kernel_rfl) (by kernel_rfl) (e := Extern.ReflectliteSwapper.swap false) (by kernel_rfl) args W
set_option maxRecDepth 100000 in
set_option maxHeartbeats 2000000 in
theorem sort_fams {B : Nat} {w : World} {g c Bs : Nat} {l : List Fam} (hr : RowK 9 B w g c l.length (famsCs l)) (hn : l.length ≤ 100000) (hs : w.cell? ⟨Bs, 0, none⟩ = some (.slice (some ⟨g, 0, none⟩) l.length c)) (hg : Bs ≠ g) :
    Calls Tryz.prog 113 #[.iface 55 (.slice (some ⟨g, 0, none⟩) l.length c), .func (.func 114) #[] #[.pointer (some ⟨Bs, 0, none⟩)]] w fun e w' => e = .returned (.tuple #[]) ∧ ∃ d : List Fam, d.Perm l ∧ Asc d ∧ RowK 9 B w' g c d.length (famsCs d) ∧ Below B w w' := by
  haveI : Inhabited Fam := ⟨zeroF⟩
  obtain ⟨i1, hi1, hd1⟩ := infoFS
  obtain ⟨ie, hie, hs1, hp, hby⟩ := infoFTs
  have hBg : B ≤ w.heap.size := Nat.le_trans hr.new (Nat.le_of_lt hr.lt)
  by_cases h2 : 2 ≤ l.length
  · have hBs : Bs < w.heap.size := World.block_lt_of_cell? _ _ hs
    have hsz : l.toArray.size = l.length := by simp
    have hget : ∀ (m : List Fam) (t : Nat) (ht : t < m.length), m.toArray[t]! = m[t] := fun m t ht => by
      rw [getElem!_pos m.toArray t (by simpa using ht)]
      simp
    have hH : Go.Sort.HoldsK famCs 9 w g 0 l.toArray := by
      intro j hj
      rw [Go.Sort.size_flatK, hsz] at hj
      have hk : (l.length) * 9 ≤ c * 9 := Nat.mul_le_mul_right 9 hr.le
      refine ⟨?_, (hr.there (0 + j) (by omega)).2⟩
      rw [Nat.zero_add]
      refine hr.holds j _ ?_
      rw [famsCs_get l j hj]
      show _ = some (Go.Sort.flatK famCs 9 l.toArray)[j]!
      rw [Go.Sort.get_flatK famCs 9 l.toArray j (by rw [hsz]; exact hj), hget l (j / 9) (by omega)]
      rw [getElem!_pos (famCs _) (j % 9) (by rw [famCs_len]; omega), List.getElem?_eq_getElem (by rw [famCs_len]; omega)]
    have hless : LessReadsK Tryz.prog 114 #[.pointer (some ⟨Bs, 0, none⟩)] famCs 9 ltF g 0 l.toArray.size w := by
      intro m os dk hdk i j hi hj
      have e : sortWorldK famCs 9 w g 0 m dk os = Go.Sort.putRowK famCs 9 (Sort.grow (Sort.ahead w m) os) g 0 dk := by
        unfold sortWorldK
        rw [Go.Sort.putRowK_grow famCs 9 (Sort.ahead w m) os g 0 dk hr.lt]
      have hHg : Go.Sort.HoldsK famCs 9 (Sort.grow (Sort.ahead w m) os) g 0 l.toArray := Go.Sort.holdsK_grow famCs 9 _ _ g 0 _ hr.lt (Go.Sort.holdsK_ahead famCs 9 _ _ _ _ _ hH)
      refine lessF g c Bs l.length _ (fun t => dk[t]!.id) ?_ (fun t ht => ?_) i j (by rw [hsz] at hi; exact hi) (by rw [hsz] at hj; exact hj)
      · rw [e, Go.Sort.cell?_putRowK_other famCs 9 _ g 0 dk _ (by exact hg), Sort.cell?_grow _ _ _ (by exact hBs)]
        exact hs
      · rw [e]
        have := ((Go.Sort.holdsK_putRowK famCs 9 _ g 0 _ dk hHg hdk).cell (i := t) (c := 0) (by rw [hdk, hsz]; exact ht) (by omega)).1
        rw [show 0 + t * 9 + 0 = t * 9 by omega] at this
        exact this
    have key := Any.sort_Slice_cells_sorted Tryz.laysGg6 55 38 i1 ie hi1 hd1 (by kernel_rfl) hie 25 (fun _ => by kernel_rfl) famCs 9 famCs_len hs1 (fun _ => by kernel_rfl) famCs_one ltF swoF 114 #[.pointer (some ⟨Bs, 0, none⟩)]
      (enters_of Tryz.func114 (by kernel_rfl) rfl) g 0 c l.toArray (by rw [hsz]; exact h2) (by rw [hsz]; omega) 190 (by rw [hsz, swapK _ ie hp hby, if_neg (by omega), if_neg (by omega)]; kernel_rfl) false swapExt w hless hH hr.lt
    rw [hsz] at key
    refine key.mono ?_
    rintro e w' ⟨rfl, d', n, os, hperm, hsort, rfl⟩
    have hd : d'.size = l.length := by rw [hperm.1, hsz]
    have hHd : Go.Sort.HoldsK famCs 9 (Sort.grow (Go.Sort.putRowK famCs 9 (Sort.ahead w n) g 0 d') os) g 0 d' := Go.Sort.holdsK_grow famCs 9 _ _ g 0 _ (by show g < (Go.Sort.putRowK famCs 9 (Sort.ahead w n) g 0 d').heap.size; unfold Go.Sort.putRowK; rw [Go.Sort.size_putRow]; exact hr.lt) (Go.Sort.holdsK_putRowK famCs 9 _ g 0 _ d' (Go.Sort.holdsK_ahead famCs 9 _ _ _ _ _ hH) (by rw [hd, hsz]))
    refine ⟨rfl, d'.toList, ?_, ?_, ?_, ?_⟩
    · have := hperm.2.2
      rw [Array.extract_eq_self_of_le (by omega), Array.extract_eq_self_of_le (by rw [hsz]; exact Nat.le_refl _)] at this
      simpa using this
    · unfold Asc
      rw [List.pairwise_iff_getElem]
      intro i j hi hj hij
      have := hsort i j (Nat.zero_le _) hij (by rw [← hd]; simpa using hj)
      rw [getElem!_pos d' i (by simpa using hi), getElem!_pos d' j (by simpa using hj)] at this
      simpa [ltF] using this
    · have hdl : d'.toList.length = l.length := by simpa using hd
      rw [hdl]
      have hgw : g < (Go.Sort.putRowK famCs 9 (Sort.ahead w n) g 0 d').heap.size := by unfold Go.Sort.putRowK; rw [Go.Sort.size_putRow]; exact hr.lt
      have hfl : (Go.Sort.flatK famCs 9 d').size = l.length * 9 := by rw [Go.Sort.size_flatK, hd]
      have hback : ∀ j, l.length * 9 ≤ j → (Go.Sort.grow (Go.Sort.putRowK famCs 9 (Sort.ahead w n) g 0 d') os).cell? ⟨g, j, none⟩ = w.cell? ⟨g, j, none⟩ := fun j hj => by
        rw [Sort.cell?_grow _ _ _ (by exact hgw)]
        unfold Go.Sort.putRowK
        rw [Go.Sort.cell?_putRow_other id _ g 0 _ ⟨g, j, none⟩ (.inr (.inr (by rw [hfl]; show 0 + l.length * 9 ≤ j; omega)))]
        rfl
      have hfrz : ∀ j, (Go.Sort.grow (Go.Sort.putRowK famCs 9 (Sort.ahead w n) g 0 d') os).frozen? ⟨g, j, none⟩ = w.frozen? ⟨g, j, none⟩ := fun j => by
        rw [Sort.frozen?_grow _ _ _ (by exact hgw)]
        unfold Go.Sort.putRowK
        rw [Go.Sort.frozen?_putRow]
        rfl
      have hin : ∀ j, j < l.length * 9 → (Go.Sort.grow (Go.Sort.putRowK famCs 9 (Sort.ahead w n) g 0 d') os).cell? ⟨g, j, none⟩ = (famsCs d'.toList)[j]? := fun j hj => by
        have := (hHd.cell (i := j / 9) (c := j % 9) (by omega) (by omega)).1
        rw [show 0 + j / 9 * 9 + j % 9 = j by omega] at this
        rw [this, famsCs_get d'.toList j (by rw [hdl]; exact hj)]
        have e : d'[j / 9]! = d'.toList[j / 9]'(by rw [hdl]; omega) := by
          rw [getElem!_pos d' (j / 9) (by omega)]
          simp
        rw [e, getElem!_pos (famCs _) (j % 9) (by rw [famCs_len]; omega), List.getElem?_eq_getElem (by rw [famCs_len]; omega)]
      refine ⟨hr.new, Nat.lt_of_lt_of_le hgw (by simp [Sort.grow]), by rw [famsCs_len, hdl], hr.le, hr.max, famsCs_one _, fun j u hj => ?_, fun j hj => ⟨?_, ?_⟩⟩
      · have hjl := (List.getElem?_eq_some_iff.1 hj).1
        rw [famsCs_len, hdl] at hjl
        rw [hin j hjl, hj]
      · by_cases hjl : j < l.length * 9
        · rw [hin j hjl, List.getElem?_eq_getElem (by rw [famsCs_len, hdl]; exact hjl)]
          rfl
        · rw [hback j (by omega)]
          exact (hr.there j hj).1
      · rw [hfrz j]
        exact (hr.there j hj).2
    · have h1 : Below B w (Go.Sort.putRowK famCs 9 (Sort.ahead w n) g 0 d') := Lib.below_putRow (Below.refl B w) hr.new
      refine h1.trans ⟨rfl, rfl, rfl, by simp [Sort.grow], fun k hk => Sort.heap_grow_old _ _ (Nat.lt_of_lt_of_le (Nat.lt_of_lt_of_le hk hBg) h1.size)⟩
  · have key := Any.sort_Slice_tiny Tryz.laysGg6 55 38 i1 ie hi1 hd1 (by kernel_rfl) hie 25 (fun _ => by kernel_rfl) (some ⟨g, 0, none⟩) l.length c (by omega)
    have fin : ∀ e w', (e = Ending.returned (.tuple #[]) ∧ ∃ os, w' = Sort.grow w os) → e = .returned (.tuple #[]) ∧ ∃ d : List Fam, d.Perm l ∧ Asc d ∧ RowK 9 B w' g c d.length (famsCs d) ∧ Below B w w' := by
      rintro e w' ⟨rfl, os, rfl⟩
      have hb : Below w.heap.size w (Sort.grow w os) := ⟨rfl, rfl, rfl, by simp [Sort.grow], fun k hk => Sort.heap_grow_old _ _ hk⟩
      refine ⟨rfl, l, .refl _, ?_, hr.below hb hr.lt, hb.mono hBg⟩
      match l, h2 with
      | [], _ => exact .nil
      | [a], _ => exact List.pairwise_singleton _ _
      | a :: b :: r, h2 => simp at h2
    by_cases h0 : l.length = 0
    · exact (key 182 (by rw [swapK _ ie hp hby, if_pos h0]; kernel_rfl) _ _ _ w).mono fin
    · exact (key 183 (by rw [swapK _ ie hp hby, if_neg h0, if_pos (by omega)]; kernel_rfl) _ _ _ w).mono fin
end Go.Proofs.YtkggfahcdpgapaaGreatDoor
