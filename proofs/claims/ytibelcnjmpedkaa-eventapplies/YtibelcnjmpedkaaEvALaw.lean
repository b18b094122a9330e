/-
  The law EventApplies: a state behind events is the document's.
-/
import Derived.Test.YtibelcnjmpedkaaEvApply
import Derived.Test.YtibelcnjmpedkaaEvRefApply
import Derived.Test.YtibelcnjmpedkaaEvSame
import Derived.Test.YtibelcnjmpedkaaEvRefMayA
import Derived.Test.YtibelcnjmpedkaaRegD
namespace Go.Proofs.Ytibelcnjmpedkaa
open Go Go.RowKit Tok Sc Ev
/-- A row of events, as it was given. -/
def EvRow (w : World) (g off : Nat) (es : List E) : Prop := ∀ (i : Nat) (h : i < es.length) (k : Nat) (x : Value), (evCs es[i])[k]? = some x → w.cell? ⟨g, off + i * 12 + k, none⟩ = some x
theorem EvRow.on {B : Nat} {w w' : World} {g off : Nat} {es : List E} (h : EvRow w g off es) (hb : Below B w w') (hg : g < B) : EvRow w' g off es :=
  fun i hi k x hx => (hb.cell (p := ⟨g, off + i * 12 + k, none⟩) hg).trans (h i hi k x hx)
/-- The two states' boxes. -/
structure LB (w0 : World) (g off : Nat) (es : List E) (st : St) (va vb : Value) (w : World) : Prop where
  a0 : w.cell? ⟨w0.heap.size, 0, none⟩ = some (.int .i64 st.clock)
  a1 : w.cell? ⟨w0.heap.size, 1, none⟩ = some (.int .i64 st.next)
  a2 : w.cell? ⟨w0.heap.size, 2, none⟩ = some va
  b0 : w.cell? ⟨w0.heap.size + 1, 0, none⟩ = some (.int .i64 st.clock)
  b1 : w.cell? ⟨w0.heap.size + 1, 1, none⟩ = some (.int .i64 st.next)
  b2 : w.cell? ⟨w0.heap.size + 1, 2, none⟩ = some vb
  fza : ∀ i, w.frozen? ⟨w0.heap.size, i, none⟩ = false
  fzb : ∀ i, w.frozen? ⟨w0.heap.size + 1, i, none⟩ = false
  fa : Fams (w0.heap.size + 2) w va st.fams
  fb : Fams (w0.heap.size + 2) w vb st.fams
  ris : Rising st.fams
  size : w0.heap.size + 2 ≤ w.heap.size
  glt : g < w0.heap.size
  row : EvRow w g off es
  below : Below w0.heap.size w0 w
/-- An event's cells in a row. -/
def EvC (w : World) (g o : Nat) (e : E) : Prop := ∀ (k : Nat) (x : Value), (evCs e)[k]? = some x → w.cell? ⟨g, o + k, none⟩ = some x
theorem EvC.on {B : Nat} {w w' : World} {g o : Nat} {e : E} (h : EvC w g o e) (hb : Below B w w') (hg : g < B) : EvC w' g o e :=
  fun k x hx => (hb.cell (p := ⟨g, o + k, none⟩) hg).trans (h k x hx)
theorem LB.on {w0 : World} {g off : Nat} {es : List E} {st : St} {va vb : Value} {w w' : World} (h : LB w0 g off es st va vb w) (hb : Below w.heap.size w w') : LB w0 g off es st va vb w' := by
  have hs := h.size
  have hc : ∀ n j, n < w.heap.size → w'.cell? ⟨n, j, none⟩ = w.cell? ⟨n, j, none⟩ := fun n j hn => hb.cell (p := ⟨n, j, none⟩) hn
  have hf : ∀ n j, n < w.heap.size → w'.frozen? ⟨n, j, none⟩ = w.frozen? ⟨n, j, none⟩ := fun n j hn => hb.frozen (p := ⟨n, j, none⟩) hn
  exact ⟨(hc _ _ (by omega)).trans h.a0, (hc _ _ (by omega)).trans h.a1, (hc _ _ (by omega)).trans h.a2, (hc _ _ (by omega)).trans h.b0, (hc _ _ (by omega)).trans h.b1, (hc _ _ (by omega)).trans h.b2,
    fun i => (hf _ _ (by omega)).trans (h.fza i), fun i => (hf _ _ (by omega)).trans (h.fzb i), h.fa.below hb (Nat.le_refl _), h.fb.below hb (Nat.le_refl _), h.ris, Nat.le_trans hs hb.size, h.glt, h.row.on hb (by have := h.glt; omega), h.below.trans (hb.mono (by omega))⟩
theorem EvRow.set {w : World} {g off : Nat} {es : List E} (h : EvRow w g off es) {a : Addr} (ha : a.block ≠ g) (u : Value) : EvRow (w.setCell a u) g off es :=
  fun i hi k x hx => (World.cell?_setCell_other _ _ _ _ (by intro e; exact ha (congrArg Addr.block e))).trans (h i hi k x hx)
theorem lb_set {w0 : World} {g off : Nat} {es : List E} {st st' : St} {va vb va' vb' : Value} {w : World} (h : LB w0 g off es st va vb w) (ha : Fams (w0.heap.size + 2) w va' st'.fams) (hb : Fams (w0.heap.size + 2) w vb' st'.fams) (hr : Rising st'.fams) :
    LB w0 g off es st' va' vb' ((((((w.setCell ⟨w0.heap.size, 0, none⟩ (.int .i64 st'.clock)).setCell ⟨w0.heap.size, 1, none⟩ (.int .i64 st'.next)).setCell ⟨w0.heap.size, 2, none⟩ va').setCell ⟨w0.heap.size + 1, 0, none⟩ (.int .i64 st'.clock)).setCell ⟨w0.heap.size + 1, 1, none⟩ (.int .i64 st'.next)).setCell ⟨w0.heap.size + 1, 2, none⟩ vb') := by
  have hg := h.glt
  obtain ⟨p0, p1, p2⟩ := @three_set w w0.heap.size (.int .i64 st'.clock) (.int .i64 st'.next) va' _ _ _ h.a0 h.a1 h.a2
  obtain ⟨q0, q1, q2⟩ := @three_set (((w.setCell ⟨w0.heap.size, 0, none⟩ (.int .i64 st'.clock)).setCell ⟨w0.heap.size, 1, none⟩ (.int .i64 st'.next)).setCell ⟨w0.heap.size, 2, none⟩ va') (w0.heap.size + 1) (.int .i64 st'.clock) (.int .i64 st'.next) vb' _ _ _
    (set_other (set_other (set_other h.b0 (by omega)) (by omega)) (by omega)) (set_other (set_other (set_other h.b1 (by omega)) (by omega)) (by omega)) (set_other (set_other (set_other h.b2 (by omega)) (by omega)) (by omega))
  have ho : ∀ {W : World} {v : Value} {l : List Fam} (n j : Nat) (u : Value), n < w0.heap.size + 2 → Fams (w0.heap.size + 2) W v l → Fams (w0.heap.size + 2) (W.setCell ⟨n, j, none⟩ u) v l := fun n j u hn hw => RowsK.other (a := ⟨n, j, none⟩) hw hn u
  refine ⟨set_other (set_other (set_other p0 (by omega)) (by omega)) (by omega), set_other (set_other (set_other p1 (by omega)) (by omega)) (by omega), set_other (set_other (set_other p2 (by omega)) (by omega)) (by omega), q0, q1, q2,
    fun i => by simp only [World.frozen?_setCell]; exact h.fza i, fun i => by simp only [World.frozen?_setCell]; exact h.fzb i, ?_, ?_, hr, by simpa using h.size, hg, ?_, ?_⟩
  · exact ho _ _ _ (by omega) (ho _ _ _ (by omega) (ho _ _ _ (by omega) (ho _ _ _ (by omega) (ho _ _ _ (by omega) (ho _ _ _ (by omega) ha)))))
  · exact ho _ _ _ (by omega) (ho _ _ _ (by omega) (ho _ _ _ (by omega) (ho _ _ _ (by omega) (ho _ _ _ (by omega) (ho _ _ _ (by omega) hb)))))
  · exact EvRow.set (EvRow.set (EvRow.set (EvRow.set (EvRow.set (EvRow.set h.row (by show w0.heap.size ≠ g; omega) _) (by show w0.heap.size ≠ g; omega) _) (by show w0.heap.size ≠ g; omega) _) (by show w0.heap.size + 1 ≠ g; omega) _) (by show w0.heap.size + 1 ≠ g; omega) _) (by show w0.heap.size + 1 ≠ g; omega) _
  · exact (((((h.below.setCell (by show w0.heap.size ≤ w0.heap.size; omega) _).setCell (by show w0.heap.size ≤ w0.heap.size; omega) _).setCell (by show w0.heap.size ≤ w0.heap.size; omega) _).setCell (by show w0.heap.size ≤ w0.heap.size + 1; omega) _).setCell (by show w0.heap.size ≤ w0.heap.size + 1; omega) _).setCell (by show w0.heap.size ≤ w0.heap.size + 1; omega) _
theorem lb_made (w : World) (g off : Nat) (es : List E) (hg : g < w.heap.size) (hrow : EvRow w g off es) (t1 t2 : TypeId) : LB w g off es ⟨0, 1, []⟩ (.slice none 0 0) (.slice none 0 0) ((w.alloc (.cells #[.int .i64 0, .int .i64 1, .slice none 0 0] t1)).alloc (.cells #[.int .i64 0, .int .i64 1, .slice none 0 0] t2)) := by
  have hbl : Below w.heap.size w ((w.alloc (.cells #[.int .i64 0, .int .i64 1, .slice none 0 0] t1)).alloc (.cells #[.int .i64 0, .int .i64 1, .slice none 0 0] t2)) := by
    repeat (first | exact Below.refl _ _ | refine Below.alloc ?_ (by simp; try omega) _)
  exact ⟨Lib.cell?_alloc_some _ ((World.cell?_alloc_at _ _ _ _ rfl).trans rfl), Lib.cell?_alloc_some _ ((World.cell?_alloc_at _ _ _ _ rfl).trans rfl), Lib.cell?_alloc_some _ ((World.cell?_alloc_at _ _ _ _ rfl).trans rfl),
    (World.cell?_alloc_at _ _ _ _ (by simp)).trans rfl, (World.cell?_alloc_at _ _ _ _ (by simp)).trans rfl, (World.cell?_alloc_at _ _ _ _ (by simp)).trans rfl,
    fun i => (((Below.refl _ _).alloc (Nat.le_refl _) _).frozen (p := ⟨w.heap.size, i, none⟩) (by simp)).trans (World.frozen?_alloc_at _ _ _ _ rfl), fun i => World.frozen?_alloc_at _ _ _ _ (by simp), Fams.nil _ _, Fams.nil _ _, List.Pairwise.nil, by simp, hg, hrow.on hbl hg, hbl⟩
set_option maxRecDepth 100000 in
set_option maxHeartbeats 16000000 in
theorem eventAppliesLaw (es : List E) (ao : Option Addr) (g off cap : Nat) (w : World) (hao : 0 < es.length → ao = some ⟨g, off, none⟩) (hg : g < w.heap.size) (hrow : EvRow w g off es) (hs : ∀ e ∈ es, lens e.fam ≤ 10000000000000000) (hn : es.length ≤ 60) :
    Calls Try.prog 4 #[.slice ao es.length cap] w fun r w' => r = .returned (.bool true) ∧ Below w.heap.size w w' := by
  have hn' : ¬ (60 : Int) < (es.length : Int) := by omega
  go_enter Try.func4, Try.ntmps4
  go_wp2_with fail
  have HW0 : Hid (LB w g off es ⟨0, 1, []⟩ (.slice none 0 0) (.slice none 0 0) ((w.alloc (.cells #[.int .i64 0, .int .i64 1, .slice none 0 0] 33)).alloc (.cells #[.int .i64 0, .int .i64 1, .slice none 0 0] 33))) := lb_made w g off es hg hrow 33 33
  have HS : Hid (∀ e ∈ es, lens e.fam ≤ 10000000000000000) := hs
  clear hrow hs hg hn'
  go_loopg [5] es.length (fun gk iv wr => ∃ (j : Nat) (st : St) (va vb : Value), j + gk = es.length ∧ iv = .int .i64 j ∧ st.fams.length ≤ j ∧ Hid (LB w g off es st va vb wr))
  case atStart => exact ⟨0, _, _, _, by omega, rfl, Nat.le_refl _, HW0⟩
  case round =>
    obtain ⟨j, st, va, vb, hj, rfl, hjl, HR⟩ := hrel
    have HJ : Hid (j + gk = es.length) := hj
    clear hj HW0
    by_cases hlt : j < es.length
    · have hltI : (j : Int) < (es.length : Int) := by omega
      obtain rfl := hao (by omega)
      have hse := HS.out es[j] (List.getElem_mem hlt)
      have he : EvC wr g (off + j * 12) es[j] := HR.out.row j hlt
      generalize es[j] = e at *
      have HSH := fun (W : World) => short_is e W hse
      by_cases hsm : lens e.fam ≤ 300
      · rw [decide_eq_true hsm] at HSH
        have hS : Small 1000 e.fam := by unfold lens at hsm; unfold Small; omega
        have HHA := fun (W : World) => happens_is e W
        obtain ⟨m, hm⟩ : ∃ m : Bool, m = true ↔ Ev.may e := by
          by_cases h : Ev.may e
          · exact ⟨true, by simp [h]⟩
          · exact ⟨false, by simp [h]⟩
        have HMY := fun (W : World) => refMay_is e m hm hS W
        have HCE : Hid (EvC wr g (off + j * 12) e) := he
        have HAE : Hid (∀ (W : World) (va : Value), m = true → Fams (w.heap.size + 2) W va st.fams → Calls Try.prog 11 #[stV st.clock st.next va, evV e] W fun r w' => ∃ v', r = .returned (stV (applyP st e).clock (applyP st e).next v') ∧ Fams W.heap.size w' v' (applyP st e).fams ∧ Below W.heap.size W w') := fun W va h1 h2 => apply_is st e (hm.1 h1) h2 HR.out.ris (by omega)
        have HRE : Hid (∀ (W : World) (va : Value), m = true → Fams (w.heap.size + 2) W va st.fams → Calls Try.prog 12 #[stV st.clock st.next va, evV e] W fun r w' => ∃ v', r = .returned (stV (applyP st e).clock (applyP st e).next v') ∧ Fams W.heap.size w' v' (applyP st e).fams ∧ Below W.heap.size W w') := fun W va h1 h2 => refApply_is st e (hm.1 h1) h2 HR.out.ris (by omega)
        have HRI : Hid (Rising (applyP st e).fams ∧ (applyP st e).fams.length ≤ j + 1) := ⟨rising_apply HR.out.ris, Nat.le_trans (apply_len st e) (by omega)⟩
        generalize applyP st e = st' at *
        clear hm hsm hS hse
        obtain ⟨k, ⟨f1, f2, f3, f4, f5, f6, f7, f8, f9⟩, i, t⟩ := e
        have k0 := he 0 _ rfl; have k1 := he 1 _ rfl; have k2 := he 2 _ rfl; have k3 := he 3 _ rfl; have k4 := he 4 _ rfl; have k5 := he 5 _ rfl; have k6 := he 6 _ rfl; have k7 := he 7 _ rfl; have k8 := he 8 _ rfl; have k9 := he 9 _ rfl; have k10 := he 10 _ rfl; have k11 := he 11 _ rfl
        unfold evV evCs at HSH HHA HMY
        simp only [Nat.add_zero] at k0 k1 k2 k3 k4 k5 k6 k7 k8 k9 k10 k11 HSH HHA HMY
        have HAE2 := HAE.out
        have HRE2 := HRE.out
        unfold evV evCs stV at HAE2 HRE2
        simp only at HAE2 HRE2
        clear he HAE HRE
        go_wp2_with fail
        refine (HSH _).mono ?_
        rintro e1 w1 ⟨rfl, hb1⟩
        have hc1 : EvC w1 g (off + j * 12) ⟨k, ⟨f1, f2, f3, f4, f5, f6, f7, f8, f9⟩, i, t⟩ := EvC.on HCE.out hb1 (by have := HR.out.glt; have := HR.out.size; omega)
        have k0 := hc1 0 _ rfl; have k1 := hc1 1 _ rfl; have k2 := hc1 2 _ rfl; have k3 := hc1 3 _ rfl; have k4 := hc1 4 _ rfl; have k5 := hc1 5 _ rfl; have k6 := hc1 6 _ rfl; have k7 := hc1 7 _ rfl; have k8 := hc1 8 _ rfl; have k9 := hc1 9 _ rfl; have k10 := hc1 10 _ rfl; have k11 := hc1 11 _ rfl
        simp only [Nat.add_zero] at k0 k1 k2 k3 k4 k5 k6 k7 k8 k9 k10 k11
        have HC1 : Hid (EvC w1 g (off + j * 12) ⟨k, ⟨f1, f2, f3, f4, f5, f6, f7, f8, f9⟩, i, t⟩) := hc1
        have HR1 : Hid _ := HR.out.on hb1
        clear hc1 hb1 HR
        go_wp2_with fail
        refine (HHA _).mono ?_
        rintro e2 w2 ⟨rfl, hb2⟩
        have HR2 : Hid _ := HR1.out.on hb2
        have HC2 : Hid (EvC w2 g (off + j * 12) ⟨k, ⟨f1, f2, f3, f4, f5, f6, f7, f8, f9⟩, i, t⟩) := EvC.on HC1.out hb2 (by have := HR1.out.glt; have := HR1.out.size; omega)
        clear hb2 k0 k1 k2 k3 k4 k5 k6 k7 k8 k9 k10 k11
        go_wp2_with fail
        refine (HMY _).mono ?_
        rintro e3 w3 ⟨rfl, hb3⟩
        have HR3 : Hid _ := HR2.out.on hb3
        have HC3 : Hid (EvC w3 g (off + j * 12) ⟨k, ⟨f1, f2, f3, f4, f5, f6, f7, f8, f9⟩, i, t⟩) := EvC.on HC2.out hb3 (by have := HR2.out.glt; have := HR2.out.size; omega)
        clear hb3
        cases m with
        | false =>
          go_wp2_with fail
          go_roundg (gk - 1)
          case measure => have := HJ.out; omega
          case rel => exact ⟨j + 1, _, _, _, by have := HJ.out; omega, by go_num, by omega, HR3.out⟩
        | true =>
          go_wp2_with fail
          have HRD : Hid (LB w g off es st va vb w3.drew) := HR3.out.on (Below.refl _ _).drew
          clear k0 k1 k2 k3 k4 k5 k6 k7 k8 k9 k10 k11 HSH HMY
          have hS0 : LB w g off es st va vb w3.drew ∧ EvC w3.drew g (off + j * 12) ⟨k, ⟨f1, f2, f3, f4, f5, f6, f7, f8, f9⟩, i, t⟩ := ⟨HRD.out, EvC.on HC3.out (Below.refl _ _).drew (by have := HR3.out.glt; have := HR3.out.size; omega)⟩
          refine RegD.wp_region_D (fun w' => LB w g off es st va vb w' ∧ EvC w' g (off + j * 12) ⟨k, ⟨f1, f2, f3, f4, f5, f6, f7, f8, f9⟩, i, t⟩) 13 (by kernel_rfl) hS0 (fun hHeld => ?_)
          clear hS0
          refine RegD.wpAnyD_take 0 (oi := ?oi0) (v := .agg #[.int .i64 st.clock, .int .i64 st.next, va]) ?hi0 ?hB0 ?hQ0 ?hy0 hHeld ?rest0
          case hi0 => rfl
          case hB0 => kernel_rfl
          case hQ0 => exact fun _ _ _ h => h
          case hy0 => exact .inl ⟨by rfl, fun W hW => by
            have a0 := hW.1.a0
            have a1 := hW.1.a1
            have a2 := hW.1.a2
            go_simp⟩
          simp only [Act.put, List.setIfInBounds_toArray, List.set_cons_zero, List.set_cons_succ]
          refine RegD.wpAnyD_take 1 (oi := ?oi1) (v := .slice (some ⟨g, off, none⟩) es.length cap) ?hi1 ?hB1 ?hQ1 ?hy1 hHeld ?rest1
          case hi1 => rfl
          case hB1 => kernel_rfl
          case hQ1 => exact fun _ _ _ h => h
          case hy1 => exact .inl ⟨by rfl, fun W hW => by
            go_simp⟩
          simp only [Act.put, List.setIfInBounds_toArray, List.set_cons_zero, List.set_cons_succ]
          refine RegD.wpAnyD_take 2 (oi := ?oi2) (v := .int .i64 j) ?hi2 ?hB2 ?hQ2 ?hy2 hHeld ?rest2
          case hi2 => rfl
          case hB2 => kernel_rfl
          case hQ2 => exact fun _ _ _ h => h
          case hy2 => exact .inl ⟨by rfl, fun W hW => by
            go_simp⟩
          simp only [Act.put, List.setIfInBounds_toArray, List.set_cons_zero, List.set_cons_succ]
          refine RegD.wpAnyD_take 3 (oi := ?oi3) (v := .pointer (some ⟨g, off + j * 12, none⟩)) ?hi3 ?hB3 ?hQ3 ?hy3 hHeld ?rest3
          case hi3 => rfl
          case hB3 => kernel_rfl
          case hQ3 => exact fun _ _ _ h => h
          case hy3 => exact .inl ⟨by rfl, fun W hW => by
            go_simp⟩
          simp only [Act.put, List.setIfInBounds_toArray, List.set_cons_zero, List.set_cons_succ]
          refine RegD.wpAnyD_take 4 (oi := ?oi4) (v := .agg #[.int .i64 k, .int .i64 f1, .string f2, .string f3, .string f4, .int .i64 f5, .int .i64 f6, .int .i64 f7, .string f8, .bool f9, .int .i64 i, .int .i64 t]) ?hi4 ?hB4 ?hQ4 ?hy4 hHeld ?rest4
          case hi4 => rfl
          case hB4 => kernel_rfl
          case hQ4 => exact fun _ _ _ h => h
          case hy4 => exact .inl ⟨by rfl, fun W hW => by
            have c := hW.2
            have c0 := c 0 _ rfl
            have c1 := c 1 _ rfl
            have c2 := c 2 _ rfl
            have c3 := c 3 _ rfl
            have c4 := c 4 _ rfl
            have c5 := c 5 _ rfl
            have c6 := c 6 _ rfl
            have c7 := c 7 _ rfl
            have c8 := c 8 _ rfl
            have c9 := c 9 _ rfl
            have c10 := c 10 _ rfl
            have c11 := c 11 _ rfl
            simp only [Nat.add_zero] at c0 c1 c2 c3 c4 c5 c6 c7 c8 c9 c10 c11
            go_simp⟩
          simp only [Act.put, List.setIfInBounds_toArray, List.set_cons_zero, List.set_cons_succ]
          refine RegD.wpAnyD_take 6 (oi := ?oi6) (v := .agg #[.int .i64 st.clock, .int .i64 st.next, vb]) ?hi6 ?hB6 ?hQ6 ?hy6 hHeld ?rest6
          case hi6 => rfl
          case hB6 => kernel_rfl
          case hQ6 => exact fun _ _ _ h => h
          case hy6 => exact .inl ⟨by rfl, fun W hW => by
            have a0 := hW.1.b0
            have a1 := hW.1.b1
            have a2 := hW.1.b2
            go_simp⟩
          simp only [Act.put, List.setIfInBounds_toArray, List.set_cons_zero, List.set_cons_succ]
          refine RegD.wpAnyD_take 7 (oi := ?oi7) (v := .slice (some ⟨g, off, none⟩) es.length cap) ?hi7 ?hB7 ?hQ7 ?hy7 hHeld ?rest7
          case hi7 => rfl
          case hB7 => kernel_rfl
          case hQ7 => exact fun _ _ _ h => h
          case hy7 => exact .inl ⟨by rfl, fun W hW => by
            go_simp⟩
          simp only [Act.put, List.setIfInBounds_toArray, List.set_cons_zero, List.set_cons_succ]
          refine RegD.wpAnyD_take 8 (oi := ?oi8) (v := .int .i64 j) ?hi8 ?hB8 ?hQ8 ?hy8 hHeld ?rest8
          case hi8 => rfl
          case hB8 => kernel_rfl
          case hQ8 => exact fun _ _ _ h => h
          case hy8 => exact .inl ⟨by rfl, fun W hW => by
            go_simp⟩
          simp only [Act.put, List.setIfInBounds_toArray, List.set_cons_zero, List.set_cons_succ]
          refine RegD.wpAnyD_take 9 (oi := ?oi9) (v := .pointer (some ⟨g, off + j * 12, none⟩)) ?hi9 ?hB9 ?hQ9 ?hy9 hHeld ?rest9
          case hi9 => rfl
          case hB9 => kernel_rfl
          case hQ9 => exact fun _ _ _ h => h
          case hy9 => exact .inl ⟨by rfl, fun W hW => by
            go_simp⟩
          simp only [Act.put, List.setIfInBounds_toArray, List.set_cons_zero, List.set_cons_succ]
          refine RegD.wpAnyD_take 10 (oi := ?oi10) (v := .agg #[.int .i64 k, .int .i64 f1, .string f2, .string f3, .string f4, .int .i64 f5, .int .i64 f6, .int .i64 f7, .string f8, .bool f9, .int .i64 i, .int .i64 t]) ?hi10 ?hB10 ?hQ10 ?hy10 hHeld ?rest10
          case hi10 => rfl
          case hB10 => kernel_rfl
          case hQ10 => exact fun _ _ _ h => h
          case hy10 => exact .inl ⟨by rfl, fun W hW => by
            have c := hW.2
            have c0 := c 0 _ rfl
            have c1 := c 1 _ rfl
            have c2 := c 2 _ rfl
            have c3 := c 3 _ rfl
            have c4 := c 4 _ rfl
            have c5 := c 5 _ rfl
            have c6 := c 6 _ rfl
            have c7 := c 7 _ rfl
            have c8 := c 8 _ rfl
            have c9 := c 9 _ rfl
            have c10 := c 10 _ rfl
            have c11 := c 11 _ rfl
            simp only [Nat.add_zero] at c0 c1 c2 c3 c4 c5 c6 c7 c8 c9 c10 c11
            go_simp⟩
          simp only [Act.put, List.setIfInBounds_toArray, List.set_cons_zero, List.set_cons_succ]
          refine RegD.wpAnyD_one 5 (o := ?o5) ?ho5 ?hr5 ?h5
          case ho5 => rfl
          case hr5 => kernel_rfl
          intro K hK
          go_simp
          go_at_call_of 11 (Value.string f2)
          refine (HAE2 _ _ (by trivial) hHeld.1.fa).mono ?_
          rintro e4 w4 ⟨v4, rfl, hf4, hb4⟩
          obtain ⟨b4, c4, rfl⟩ := RowsK.slice hf4
          go_wp2_with fail
          have hS5 : LB w g off es st va vb w4 ∧ EvC w4 g (off + j * 12) ⟨k, ⟨f1, f2, f3, f4, f5, f6, f7, f8, f9⟩, i, t⟩ := ⟨hHeld.1.on hb4, EvC.on hHeld.2 hb4 (by have := hHeld.1.glt; have := hHeld.1.size; omega)⟩
          refine hK.out _ _ hS5 ?_
          clear hK hHeld
          intro hHeld
          clear hS5 K
          refine RegD.wpAnyD_one 11 (o := ?o11) ?ho11 ?hr11 ?h11
          case ho11 => rfl
          case hr11 => kernel_rfl
          intro K hK
          go_simp
          go_at_call_of 10 (Value.string f2)
          refine (HHA _).mono ?_
          rintro e5 w5 ⟨rfl, hb5⟩
          go_wp2_with fail
          have hS11 : LB w g off es st va vb w5 ∧ EvC w5 g (off + j * 12) ⟨k, ⟨f1, f2, f3, f4, f5, f6, f7, f8, f9⟩, i, t⟩ := ⟨hHeld.1.on hb5, EvC.on hHeld.2 hb5 (by have := hHeld.1.glt; have := hHeld.1.size; omega)⟩
          refine hK.out _ _ hS11 ?_
          clear hK hHeld
          intro hHeld
          clear hS11 K
          have HR5 : Hid (LB w g off es st va vb w5) := hHeld.1
          refine RegD.wpAnyD_one 12 (o := ?o12) ?ho12 ?hr12 ?h12
          case ho12 => rfl
          case hr12 => kernel_rfl
          intro K hK
          go_simp
          go_at_call_of 12 (Value.string f2)
          refine (HRE2 _ _ (by trivial) hHeld.1.fb).mono ?_
          rintro e6 w6 ⟨v6, rfl, hf6, hb6⟩
          obtain ⟨b6, c6, rfl⟩ := RowsK.slice hf6
          go_wp2_with fail
          have hS12 : LB w g off es st va vb w6 ∧ EvC w6 g (off + j * 12) ⟨k, ⟨f1, f2, f3, f4, f5, f6, f7, f8, f9⟩, i, t⟩ := ⟨hHeld.1.on hb6, EvC.on hHeld.2 hb6 (by have := hHeld.1.glt; have := hHeld.1.size; omega)⟩
          refine hK.out _ _ hS12 ?_
          clear hK hHeld
          intro hHeld
          clear hS12 K
          have HR6 : Hid (LB w g off es st va vb w6) := hHeld.1
          have z0 := hHeld.1.a0
          have z1 := hHeld.1.a1
          have z2 := hHeld.1.a2
          have zf := hHeld.1.fza
          clear hHeld
          refine RegD.wpAnyD_late 13 (o := ?o13) ?ho13 ?hr13 ?hd13 ?h13
          case ho13 => rfl
          case hr13 => kernel_rfl
          case hd13 => kernel_rfl
          intro K hK
          go_simp
          refine hK.out _ _ ?_
          clear hK K
          generalize hWA : World.setCell _ ⟨w.heap.size, 2, none⟩ _ = WA
          have y0 : WA.cell? ⟨w.heap.size + 1, 0, none⟩ = some (.int .i64 st.clock) := by rw [← hWA]; exact set_other (set_other (set_other HR6.out.b0 (by omega)) (by omega)) (by omega)
          have y1 : WA.cell? ⟨w.heap.size + 1, 1, none⟩ = some (.int .i64 st.next) := by rw [← hWA]; exact set_other (set_other (set_other HR6.out.b1 (by omega)) (by omega)) (by omega)
          have y2 : WA.cell? ⟨w.heap.size + 1, 2, none⟩ = some vb := by rw [← hWA]; exact set_other (set_other (set_other HR6.out.b2 (by omega)) (by omega)) (by omega)
          have yf : ∀ i, WA.frozen? ⟨w.heap.size + 1, i, none⟩ = false := fun i => by rw [← hWA]; simp only [World.frozen?_setCell]; exact HR6.out.fzb i
          clear z0 z1 z2 zf
          refine RegD.wpAnyD_late 14 (o := ?o14) ?ho14 ?hr14 ?hd14 ?h14
          case ho14 => rfl
          case hr14 => kernel_rfl
          case hd14 => kernel_rfl
          intro K hK
          go_simp
          refine hK.out _ _ ?_
          clear hK K y0 y1 y2 yf
          subst hWA
          refine RegD.wpAnyD_done (by kernel_rfl) ?_ _
          have F4 : Fams (w.heap.size + 2) w6 (.slice b4 st'.fams.length c4) st'.fams := RowsK.mono (RowsK.below (RowsK.below hf4 hb5 (Nat.le_refl _)) hb6 (Nat.le_refl _)) HRD.out.size
          have F6 : Fams (w.heap.size + 2) w6 (.slice b6 st'.fams.length c6) st'.fams := RowsK.mono hf6 HR5.out.size
          have HLF0 := lb_set HR6.out F4 F6 HRI.out.1
          generalize hWF : World.setCell _ ⟨w.heap.size + 1, 2, none⟩ _ = WF
          have HLF : Hid (LB w g off es st' (.slice b4 st'.fams.length c4) (.slice b6 st'.fams.length c6) WF) := by
            rw [← hWF]
            exact HLF0
          have z0 := HLF.out.a0
          have z1 := HLF.out.a1
          have z2 := HLF.out.a2
          have z3 := HLF.out.b0
          have z4 := HLF.out.b1
          have z5 := HLF.out.b2
          clear HLF0 hWF F4 F6 hf4 hf6
          go_wp2_with fail
          have hsame := same_is st'.clock st'.next HLF.out.fa HLF.out.fb (by have := HRI.out.2; omega)
          unfold stV at hsame
          refine hsame.mono ?_
          rintro e7 w7 ⟨rfl, hb7⟩
          have HL7 : Hid (LB w g off es st' (.slice b4 st'.fams.length c4) (.slice b6 st'.fams.length c6) w7) := HLF.out.on hb7
          clear hsame hb7 z0 z1 z2 z3 z4 z5
          go_wp2_with fail
          go_roundg (gk - 1)
          case measure => have := HJ.out; omega
          case rel => exact ⟨j + 1, _, _, _, by have := HJ.out; omega, by go_num, HRI.out.2, HL7.out⟩
      · rw [decide_eq_false hsm] at HSH
        obtain ⟨k, ⟨f1, f2, f3, f4, f5, f6, f7, f8, f9⟩, i, t⟩ := e
        have k0 := he 0 _ rfl; have k1 := he 1 _ rfl; have k2 := he 2 _ rfl; have k3 := he 3 _ rfl; have k4 := he 4 _ rfl; have k5 := he 5 _ rfl; have k6 := he 6 _ rfl; have k7 := he 7 _ rfl; have k8 := he 8 _ rfl; have k9 := he 9 _ rfl; have k10 := he 10 _ rfl; have k11 := he 11 _ rfl
        unfold evV evCs at HSH
        simp only [Nat.add_zero] at k0 k1 k2 k3 k4 k5 k6 k7 k8 k9 k10 k11 HSH
        clear he hse hsm
        go_wp2_with fail
        refine (HSH _).mono ?_
        rintro e1 w1 ⟨rfl, hb1⟩
        have HR1 : Hid _ := HR.out.on hb1
        clear hb1 HR
        go_wp2_with fail
        go_roundg (gk - 1)
        case measure => have := HJ.out; omega
        case rel => exact ⟨j + 1, _, _, _, by have := HJ.out; omega, by go_num, by omega, HR1.out⟩
    · obtain rfl : j = es.length := by have := HJ.out; omega
      go_wp2_with fail
      go_ret
      exact ⟨rfl, HR.out.below⟩
end Go.Proofs.Ytibelcnjmpedkaa
