/-
  Own texts put together: StRef.
-/
import Derived.Test.YtkggfahcdpgapaaGreatDoorB24
import Derived.Test.YtkggfahcdpgapaaGreatDoorB22
import Derived.Test.YtkggfahcdpgapaaGreatDoorB27
import Derived.Test.YtkggfahcdpgapaaGreatDoorB11
/-
  The document's store: its box, and what each of its calls makes of it.
-/

namespace Go.Proofs.YtkggfahcdpgapaaGreatDoor
open Go Go.RowKit Tok Sc Ev
/-- The document's store's cells: state, log, writes, off, left, down. -/
structure RefAt (w : World) (g : Nat) (p : Pub) (v : Value) : Prop where
  c0 : w.cell? ⟨g, 0, none⟩ = some (.int .i64 p.st.clock)
  c1 : w.cell? ⟨g, 1, none⟩ = some (.int .i64 p.st.next)
  c2 : w.cell? ⟨g, 2, none⟩ = some v
  c3 : w.cell? ⟨g, 3, none⟩ = some (.int .i64 p.lg)
  c4 : w.cell? ⟨g, 4, none⟩ = some (.int .i64 p.n)
  c5 : w.cell? ⟨g, 5, none⟩ = some (.bool p.c)
  c6 : ∃ l', w.cell? ⟨g, 6, none⟩ = some (.int .i64 l') ∧ (p.c = true → l' = p.l)
  c7 : w.cell? ⟨g, 7, none⟩ = some (.bool p.dn)
  free : ∀ i, w.frozen? ⟨g, i, none⟩ = false
  fam : Fams (g + 1) w v p.st.fams
  lt : g < w.heap.size
theorem RefAt.on {w w' : World} {g : Nat} {p : Pub} {v : Value} (h : RefAt w g p v) (hb : Below w.heap.size w w') : RefAt w' g p v := by
  have hc : ∀ i, w'.cell? ⟨g, i, none⟩ = w.cell? ⟨g, i, none⟩ := fun i => hb.cell (p := ⟨g, i, none⟩) h.lt
  obtain ⟨l', h1, h2⟩ := h.c6
  exact ⟨(hc 0).trans h.c0, (hc 1).trans h.c1, (hc 2).trans h.c2, (hc 3).trans h.c3, (hc 4).trans h.c4, (hc 5).trans h.c5, ⟨l', (hc 6).trans h1, h2⟩, (hc 7).trans h.c7, fun i => (hb.frozen (p := ⟨g, i, none⟩) h.lt).trans (h.free i), RowsK.below h.fam hb (Nat.le_refl _), Nat.lt_of_lt_of_le h.lt hb.size⟩
theorem keepR (g i : Nat) (a : Value) (w : World) : Keep [g] w (w.setCell ⟨g, i, none⟩ a) := (Keep.refl _ w).setCell (p := ⟨g, i, none⟩) (.inl (by simp)) a
theorem RefAt.putDown {w : World} {g : Nat} {p : Pub} {v : Value} (h : RefAt w g p v) : RefAt (w.setCell ⟨g, 7, none⟩ (.bool true)) g (downP p) v := by
  obtain ⟨l', h1, h2⟩ := h.c6
  exact ⟨setO h.c0 (by decide), setO h.c1 (by decide), setO h.c2 (by decide), setO h.c3 (by decide), setO h.c4 (by decide), setO h.c5 (by decide), ⟨l', setO h1 (by decide), h2⟩, World.cell?_setCell_same _ _ _ h.c7, fun i => by simp only [World.frozen?_setCell]; exact h.free i, h.fam.other (a := ⟨g, 7, none⟩) (Nat.lt_succ_self _) _, by simpa using h.lt⟩
theorem RefAt.putWrote {w : World} {g : Nat} {p : Pub} {v : Value} (l1 : Int) (h : RefAt w g p v) (hl : p.c = true → l1 = p.l - 1) : RefAt ((w.setCell ⟨g, 6, none⟩ (.int .i64 l1)).setCell ⟨g, 4, none⟩ (.int .i64 ((p.n + 1 : Nat) : Int))) g (wroteP p) v := by
  obtain ⟨l', h1, h2⟩ := h.c6
  exact ⟨setO (setO h.c0 (by decide)) (by decide), setO (setO h.c1 (by decide)) (by decide), setO (setO h.c2 (by decide)) (by decide), setO (setO h.c3 (by decide)) (by decide), World.cell?_setCell_same _ _ _ (setO h.c4 (by decide)), setO (setO h.c5 (by decide)) (by decide), ⟨l1, setO (World.cell?_setCell_same _ _ _ h1) (by decide), hl⟩, setO (setO h.c7 (by decide)) (by decide), fun i => by simp only [World.frozen?_setCell]; exact h.free i, (h.fam.other (a := ⟨g, 6, none⟩) (Nat.lt_succ_self _) _).other (a := ⟨g, 4, none⟩) (Nat.lt_succ_self _) _, by simpa using h.lt⟩
set_option maxHeartbeats 1000000 in
theorem newStore_is (w : World) : Calls Tryz.prog 25 #[] w fun r w' => r = .returned (.pointer (some ⟨w.heap.size, 0, none⟩)) ∧ RefAt w' w.heap.size ⟨⟨0, 1, []⟩, 0, 0, false, 0, false⟩ (.slice none 0 0) ∧ Below w.heap.size w w' := by
  have HR : Hid (RefAt (w.alloc (.cells #[.int .i64 0, .int .i64 1, .slice none 0 0, .int .i64 0, .int .i64 0, .bool false, .int .i64 0, .bool false] 80)) w.heap.size ⟨⟨0, 1, []⟩, 0, 0, false, 0, false⟩ (.slice none 0 0)) := by
    refine ⟨?_, ?_, ?_, ?_, ?_, ?_, ⟨0, ?_, fun _ => rfl⟩, ?_, fun i => World.frozen?_alloc_at _ _ _ _ rfl, Fams.nil _ _, by simp⟩ <;> exact (World.cell?_alloc_at _ _ _ _ rfl).trans rfl
  have HB : Hid (Below w.heap.size w (w.alloc (.cells #[.int .i64 0, .int .i64 1, .slice none 0 0, .int .i64 0, .int .i64 0, .bool false, .int .i64 0, .bool false] 80))) := (Below.refl _ _).alloc (Nat.le_refl _) _
  go_enter Tryz.func25, Tryz.ntmps25
  go_wp2_with fail
  go_ret
  exact ⟨rfl, HR.out, HB.out⟩
/-- One write. -/
def stepP (p : Pub) : Pub × Bool := if offP p then (downP p, false) else (wroteP p, true)
theorem step_off {p : Pub} (h : offP p = true) : stepP p = (downP p, false) := if_pos h
theorem step_on {p : Pub} (h : offP p = false) : stepP p = (wroteP p, true) := if_neg (by simp [h])
set_option maxRecDepth 100000 in
set_option maxHeartbeats 2000000 in
theorem refStoreWrite_is (w : World) (g : Nat) (p : Pub) (v : Value) (h : RefAt w g p v) (hn : p.n < 100000) (hl : p.c = true → 0 ≤ p.l ∧ p.l ≤ 9223372036854775807) :
    Calls Tryz.prog 73 #[.pointer (some ⟨g, 0, none⟩)] w fun r w' => r = .returned (.bool (stepP p).2) ∧ RefAt w' g (stepP p).1 v ∧ Keep [g] w w' := by
  obtain ⟨st, lg, n, c, l, dn⟩ := p
  obtain ⟨l', h1, h2⟩ := h.c6
  have c4 : w.cell? ⟨g, 4, none⟩ = some (.int .i64 n) := h.c4
  have c5 : w.cell? ⟨g, 5, none⟩ = some (.bool c) := h.c5
  have c7 : w.cell? ⟨g, 7, none⟩ = some (.bool dn) := h.c7
  have fz := h.free
  have HD : Hid _ := h.putDown
  have HW : Hid (∀ l1 : Int, (c = true → l1 = l - 1) → RefAt ((w.setCell ⟨g, 6, none⟩ (.int .i64 l1)).setCell ⟨g, 4, none⟩ (.int .i64 ((n + 1 : Nat) : Int))) g (wroteP ⟨st, lg, n, c, l, dn⟩) v) := fun l1 hl1 => h.putWrote l1 hl1
  simp only at hn hl h2
  obtain ⟨N, hN⟩ : ∃ N : Int, N = (n : Int) := ⟨_, rfl⟩
  have hN0 : 0 ≤ N := by omega
  have hN1 : N < 100000 := by omega
  rw [← hN] at c4
  have HP : Hid (((n + 1 : Nat) : Int) = N + 1) := by show ((n + 1 : Nat) : Int) = _; rw [hN]; push_cast; rfl
  clear hn hN
  cases c with
  | false =>
    have HO : Hid (stepP ⟨st, lg, n, false, l, dn⟩ = (wroteP ⟨st, lg, n, false, l, dn⟩, true)) := step_on rfl
    have HWF := HW.out (wrap64 (l' - 1)) (fun hh => by cases hh)
    rw [HP.out] at HWF
    have HW2 : Hid _ := HWF
    clear h h2 HWF HW hl
    go_enter Tryz.func73, Tryz.ntmps73
    go_wp2_with fail
    go_ret
    rw [HO.out]
    exact ⟨rfl, HW2.out, (keepR g 6 _ _).trans (keepR g 4 _ _)⟩
  | true =>
    obtain rfl := h2 rfl
    have hlb := hl rfl
    by_cases h0 : l' = 0
    · subst h0
      have HO : Hid (stepP ⟨st, lg, n, true, 0, dn⟩ = (downP ⟨st, lg, n, true, 0, dn⟩, false)) := step_off rfl
      clear h h2 HW hl hlb
      go_enter Tryz.func73, Tryz.ntmps73
      go_wp2_with fail
      go_ret
      rw [HO.out]
      exact ⟨rfl, HD.out, keepR g 7 _ _⟩
    · have HO : Hid (stepP ⟨st, lg, n, true, l', dn⟩ = (wroteP ⟨st, lg, n, true, l', dn⟩, true)) := step_on (by unfold offP; simp [h0])
      have HWF := HW.out (l' - 1) (fun _ => rfl)
      rw [HP.out] at HWF
      have HW2 : Hid _ := HWF
      have h0b : (l' == (0 : Int)) = false := by simp [h0]
      obtain ⟨hlb0, hlb1⟩ := hlb
      clear h h2 HWF HW hl
      go_enter Tryz.func73, Tryz.ntmps73
      go_wp2_with fail
      go_ret
      rw [HO.out]
      exact ⟨rfl, HW2.out, (keepR g 6 _ _).trans (keepR g 4 _ _)⟩
theorem RefAt.putCut {w : World} {g : Nat} {p : Pub} {v : Value} (k : Int) (h : RefAt w g p v) : RefAt ((w.setCell ⟨g, 5, none⟩ (.bool (decide (0 ≤ k)))).setCell ⟨g, 6, none⟩ (.int .i64 k)) g (cutP p k) v := by
  obtain ⟨l', h1, h2⟩ := h.c6
  exact ⟨setO (setO h.c0 (by decide)) (by decide), setO (setO h.c1 (by decide)) (by decide), setO (setO h.c2 (by decide)) (by decide), setO (setO h.c3 (by decide)) (by decide), setO (setO h.c4 (by decide)) (by decide), setO (World.cell?_setCell_same _ _ _ h.c5) (by decide), ⟨k, World.cell?_setCell_same _ _ _ (setO h1 (by decide)), fun _ => rfl⟩, setO (setO h.c7 (by decide)) (by decide), fun i => by simp only [World.frozen?_setCell]; exact h.free i, (h.fam.other (a := ⟨g, 5, none⟩) (Nat.lt_succ_self _) _).other (a := ⟨g, 6, none⟩) (Nat.lt_succ_self _) _, by simpa using h.lt⟩
theorem RefAt.putOpen {w : World} {g : Nat} {p : Pub} {v : Value} (h : RefAt w g p v) : RefAt ((w.setCell ⟨g, 5, none⟩ (.bool false)).setCell ⟨g, 7, none⟩ (.bool false)) g (openP p) v := by
  obtain ⟨l', h1, h2⟩ := h.c6
  exact ⟨setO (setO h.c0 (by decide)) (by decide), setO (setO h.c1 (by decide)) (by decide), setO (setO h.c2 (by decide)) (by decide), setO (setO h.c3 (by decide)) (by decide), setO (setO h.c4 (by decide)) (by decide), setO (World.cell?_setCell_same _ _ _ h.c5) (by decide), ⟨l', setO (setO h1 (by decide)) (by decide), fun hc => by cases hc⟩, World.cell?_setCell_same _ _ _ (setO h.c7 (by decide)), fun i => by simp only [World.frozen?_setCell]; exact h.free i, (h.fam.other (a := ⟨g, 5, none⟩) (Nat.lt_succ_self _) _).other (a := ⟨g, 7, none⟩) (Nat.lt_succ_self _) _, by simpa using h.lt⟩
theorem RefAt.putEmpty {w : World} {g : Nat} {p : Pub} {v : Value} (h : RefAt w g p v) : RefAt (w.setCell ⟨g, 3, none⟩ (.int .i64 0)) g (emptyLogP p) v := by
  obtain ⟨l', h1, h2⟩ := h.c6
  exact ⟨setO h.c0 (by decide), setO h.c1 (by decide), setO h.c2 (by decide), World.cell?_setCell_same _ _ _ h.c3, setO h.c4 (by decide), setO h.c5 (by decide), ⟨l', setO h1 (by decide), h2⟩, setO h.c7 (by decide), fun i => by simp only [World.frozen?_setCell]; exact h.free i, h.fam.other (a := ⟨g, 3, none⟩) (Nat.lt_succ_self _) _, by simpa using h.lt⟩
set_option maxRecDepth 100000 in
set_option maxHeartbeats 2000000 in
theorem refCut_is (w : World) (g : Nat) (p : Pub) (v : Value) (k : Int) (h : RefAt w g p v) : Calls Tryz.prog 31 #[.pointer (some ⟨g, 0, none⟩), .int .i64 k] w fun r w' => r = .returned (.tuple #[]) ∧ RefAt w' g (cutP p k) v ∧ Keep [g] w w' := by
  obtain ⟨l', h1, -⟩ := h.c6
  have c5 := h.c5
  have fz := h.free
  have HF : Hid _ := h.putCut k
  clear h
  go_enter Tryz.func31, Tryz.ntmps31
  go_wp2_with fail
  go_end0
  exact ⟨rfl, HF.out, (keepR g 5 _ _).trans (keepR g 6 _ _)⟩
set_option maxRecDepth 100000 in
set_option maxHeartbeats 2000000 in
theorem refOpen_is (w : World) (g : Nat) (p : Pub) (v : Value) (h : RefAt w g p v) : Calls Tryz.prog 32 #[.pointer (some ⟨g, 0, none⟩)] w fun r w' => r = .returned (.tuple #[]) ∧ RefAt w' g (openP p) v ∧ Keep [g] w w' := by
  have c5 := h.c5
  have c7 := h.c7
  have fz := h.free
  have HF : Hid _ := h.putOpen
  clear h
  go_enter Tryz.func32, Tryz.ntmps32
  go_wp2_with fail
  go_end0
  exact ⟨rfl, HF.out, (keepR g 5 _ _).trans (keepR g 7 _ _)⟩
theorem writesP_step (k : Nat) (p : Pub) : writesP (k + 1) p = if offP p then (downP p, false) else writesP k (wroteP p) := rfl
set_option maxRecDepth 100000 in
set_option maxHeartbeats 4000000 in
theorem refSave_is (w : World) (g : Nat) (p : Pub) (v : Value) (h : RefAt w g p v) (hn : p.n < 10000) (hf : p.st.fams.length ≤ 20) (hl : p.c = true → 0 ≤ p.l ∧ p.l ≤ 9223372036854775807) :
    Calls Tryz.prog 29 #[.pointer (some ⟨g, 0, none⟩)] w fun r w' => r = .returned (.int .i64 ((saveP p).2 : Nat)) ∧ RefAt w' g (saveP p).1 v ∧ Keep [g] w w' := by
  obtain ⟨ba, ca, rfl⟩ := RowsK.slice h.fam
  have H0 : Hid (RefAt w g p (.slice ba p.st.fams.length ca)) := h
  have c7 := h.c7
  have c2 := h.c2
  have HN : Hid (p.n < 10000) := hn
  have HLL : Hid (p.c = true → 0 ≤ p.l ∧ p.l ≤ 9223372036854775807) := hl
  have HF20 : Hid (p.st.fams.length ≤ 20) := hf
  obtain ⟨FL, hFL⟩ : ∃ FL, FL = p.st.fams.length := ⟨_, rfl⟩
  have HFL : Hid (FL = p.st.fams.length) := hFL
  have hFI : (FL : Int) ≤ 20 := by omega
  cases hd : p.dn with
  | true =>
    have HS : Hid (saveP p = (p, 6)) := by show saveP p = _; unfold saveP; rw [if_pos hd]
    rw [hd] at c7
    clear h hn hf hl hd
    go_enter Tryz.func29, Tryz.ntmps29
    go_wp2_with fail
    go_ret
    rw [HS.out]
    exact ⟨rfl, H0.out, Keep.refl _ _⟩
  | false =>
    have HD : Hid (p.dn = false) := hd
    have HSV : Hid (∀ q b, writesP (FL + 1) p = (q, b) → saveP p = if b then (emptyLogP q, 0) else (q, 14)) := fun q b hq => by
      unfold saveP
      rw [if_neg (by simp [hd]), ← hFL, hq]
    rw [hd] at c7
    rw [← hFL] at c2
    clear h hn hf hl hd
    go_enter Tryz.func29, Tryz.ntmps29
    go_wp2_with fail
    go_loopg [14] (FL + 1) (fun gk iv wr => ∃ (i : Nat) (q : Pub), i + gk = FL + 1 ∧ iv = .int .i64 i ∧ Hid (writesP (FL + 1) p = writesP gk q) ∧ Hid (q.n ≤ p.n + i ∧ (q.c = true → 0 ≤ q.l ∧ q.l ≤ 9223372036854775807)) ∧ Hid (RefAt wr g q (.slice ba p.st.fams.length ca)) ∧ Hid (Keep [g] w wr))
    case atStart => exact ⟨0, p, by omega, rfl, rfl, ⟨Nat.le_refl _, HLL.out⟩, H0.out, Keep.refl _ _⟩
    case round =>
      obtain ⟨i, q, hj, rfl, HW, HQ, HR, HKP⟩ := hrel
      have HJ : Hid (i + gk = FL + 1) := hj
      clear hj
      by_cases hlt : i < FL + 1
      · have hltI : (i : Int) < (FL : Int) + 1 := by omega
        obtain ⟨r, hr⟩ : ∃ r, gk = r + 1 := ⟨gk - 1, by have := HJ.out; omega⟩
        have HGK : Hid (gk = r + 1) := hr
        clear hr
        have hw := fun (W : World) (hW : RefAt W g q (.slice ba p.st.fams.length ca)) => refStoreWrite_is W g q _ hW (by have := HQ.out.1; have := HN.out; have := HF20.out; have := HFL.out; omega) HQ.out.2
        cases ho : offP q with
        | true =>
          have hst := step_off ho
          rw [hst] at hw
          have HS : Hid (saveP p = (downP q, 14)) := HSV.out (downP q) false (by rw [HW.out, HGK.out, writesP_step, if_pos ho])
          clear hst ho
          go_wp2_with fail
          refine (hw _ HR.out).mono ?_
          rintro e1 w1 ⟨rfl, h1, h2⟩
          have H1 : Hid _ := h1
          have H2 : Hid _ := HKP.out.trans h2
          clear h1 h2 hw
          go_wp2_with fail
          go_ret
          rw [HS.out]
          exact ⟨rfl, H1.out, H2.out⟩
        | false =>
          have hst := step_on ho
          rw [hst] at hw
          have HW2 : Hid (writesP (FL + 1) p = writesP r (wroteP q)) := by show _ = _; rw [HW.out, HGK.out, writesP_step, if_neg (by simp [ho])]
          have HQ2 : Hid ((wroteP q).n ≤ p.n + (i + 1) ∧ ((wroteP q).c = true → 0 ≤ (wroteP q).l ∧ (wroteP q).l ≤ 9223372036854775807)) := by
            refine ⟨by show q.n + 1 ≤ _; have := HQ.out.1; omega, fun hc => ?_⟩
            have hc' : q.c = true := hc
            have hh := HQ.out.2 hc'
            unfold offP at ho
            rw [hc'] at ho
            have h0 : q.l ≠ 0 := by simpa using ho
            show 0 ≤ q.l - 1 ∧ q.l - 1 ≤ _
            omega
          clear hst ho
          go_wp2_with fail
          refine (hw _ HR.out).mono ?_
          rintro e1 w1 ⟨rfl, h1, h2⟩
          have H1 : Hid _ := h1
          have H2 : Hid _ := HKP.out.trans h2
          clear h1 h2 hw
          go_wp2_with fail
          go_roundg r
          case measure => have := HGK.out; omega
          case rel => exact ⟨i + 1, wroteP q, by have := HJ.out; have := HGK.out; omega, by go_num, HW2, HQ2, H1, H2⟩
      · obtain rfl : i = FL + 1 := by have := HJ.out; omega
        obtain rfl : gk = 0 := by have := HJ.out; omega
        have HS : Hid (saveP p = (emptyLogP q, 0)) := HSV.out q true (by rw [HW.out]; rfl)
        have c3 := HR.out.c3
        have fz := HR.out.free
        have HE : Hid _ := HR.out.putEmpty
        go_wp2_with fail
        go_ret
        rw [HS.out]
        exact ⟨rfl, HE.out, HKP.out.trans (keepR g 3 _ _)⟩
end Go.Proofs.YtkggfahcdpgapaaGreatDoor
