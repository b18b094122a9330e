/-
  Own texts put together: StPub, StFill, StSave.
-/
import Derived.Test.YtlailakofhenkabGreatDoorB2
import Derived.Test.YtlailakofhenkabGreatDoorB3
import Derived.Test.YtlailakofhenkabGreatDoorB17
namespace Go.Proofs.YtlailakofhenkabGreatDoor.Ev
open Go.Lib Tok Sc
structure Pub where
  st : St
  lg : Nat
  n : Nat
  c : Bool
  l : Int
  dn : Bool
def offP (p : Pub) : Bool := p.c && (p.l == 0)
def wroteP (p : Pub) : Pub := ⟨p.st, p.lg, p.n + 1, p.c, p.l - 1, p.dn⟩
def downP (p : Pub) : Pub := ⟨p.st, p.lg, p.n, p.c, p.l, true⟩
def writesP : Nat → Pub → Pub × Bool
  | 0, p => (p, true)
  | k + 1, p => if offP p then (downP p, false) else writesP k (wroteP p)
def emptyLogP (p : Pub) : Pub := ⟨p.st, 0, p.n, p.c, p.l, p.dn⟩
def saveP (p : Pub) : Pub × Nat := if p.dn then (p, 6) else if (writesP (p.st.fams.length + 1) p).2 then (emptyLogP (writesP (p.st.fams.length + 1) p).1, 0) else ((writesP (p.st.fams.length + 1) p).1, 14)
def putP1 (p : Pub) (e : E) : Pub × Nat := if offP p then (downP p, 14) else (⟨applyP p.st e, p.lg + 1, p.n + 1, p.c, p.l - 1, p.dn⟩, 0)
def addP (p : Pub) (e : E) (m : Bool) : Pub × Nat :=
  if p.dn then (p, 6) else if m = false then (p, 1) else if 20 < (applyP p.st e).fams.length then (p, 12)
  else if p.lg = 16 then (if (saveP p).2 = 0 then putP1 (saveP p).1 e else saveP p) else putP1 p e
structure PubOk (N : Nat) (p : Pub) : Prop where
  good : Good p.st
  low : p.lg ≤ 16
  few : p.n ≤ N
  left : p.c = true → 0 ≤ p.l ∧ p.l ≤ 9223372036854775807
theorem writesP_st : ∀ (k : Nat) (p : Pub), (writesP k p).1.st = p.st ∧ (writesP k p).1.lg = p.lg ∧ (writesP k p).1.n ≤ p.n + k ∧ (writesP k p).1.c = p.c ∧ ((writesP k p).2 = true → (writesP k p).1.dn = p.dn) := by
  intro k
  induction k with
  | zero => intro p; exact ⟨rfl, rfl, Nat.le_refl _, rfl, fun _ => rfl⟩
  | succ k ih =>
    intro p
    rw [writesP]
    split
    · exact ⟨rfl, rfl, by show p.n ≤ _; omega, rfl, fun h => by cases h⟩
    · obtain ⟨h1, h2, h3, h4, h5⟩ := ih (wroteP p)
      exact ⟨h1, h2, Nat.le_trans h3 (by show p.n + 1 + k ≤ _; omega), h4, h5⟩
theorem ok_wrote {N : Nat} {p : Pub} (h : PubOk N p) (ho : offP p = false) : PubOk (N + 1) (wroteP p) :=
  ⟨h.good, h.low, by show p.n + 1 ≤ _; have := h.few; omega, fun hc => by
    have hc' : p.c = true := hc
    have := h.left hc'
    unfold offP at ho
    rw [hc'] at ho
    have h0 : p.l ≠ 0 := by simpa using ho
    show 0 ≤ p.l - 1 ∧ p.l - 1 ≤ _
    omega⟩
theorem ok_down {N : Nat} {p : Pub} (h : PubOk N p) : PubOk N (downP p) := ⟨h.good, h.low, h.few, h.left⟩
theorem ok_mono {N M : Nat} {p : Pub} (h : PubOk N p) (hm : N ≤ M) : PubOk M p := ⟨h.good, h.low, Nat.le_trans h.few hm, h.left⟩
theorem ok_writes : ∀ (k N : Nat) (p : Pub), PubOk N p → PubOk (N + k) (writesP k p).1 := by
  intro k
  induction k with
  | zero => intro N p h; exact h
  | succ k ih =>
    intro N p h
    rw [writesP]
    cases ho : offP p with
    | true => exact ok_mono (ok_down h) (by omega)
    | false => exact ok_mono (ih (N + 1) (wroteP p) (ok_wrote h ho)) (by omega)
theorem ok_save {N : Nat} {p : Pub} (h : PubOk N p) : PubOk (N + 21) (saveP p).1 := by
  have hw := ok_writes (p.st.fams.length + 1) N p h
  have hl := h.good.len
  unfold saveP
  split
  · exact ok_mono h (by omega)
  · split
    · exact ⟨hw.good, Nat.zero_le _, Nat.le_trans hw.few (by omega), hw.left⟩
    · exact ok_mono hw (by omega)
theorem save_st (p : Pub) : (saveP p).1.st = p.st := by
  unfold saveP
  split
  · rfl
  · split
    · exact (writesP_st _ p).1
    · exact (writesP_st _ p).1
theorem save_log {p : Pub} (h : (saveP p).2 = 0) : (saveP p).1.lg = 0 := by
  unfold saveP at h ⊢
  split
  · rename_i hd; rw [if_pos hd] at h; cases h
  · split
    · rfl
    · rename_i h1 h2; rw [if_neg h1, if_neg h2] at h; cases h
theorem ok_put1 {N : Nat} {p : Pub} {e : E} (h : PubOk N p) (he : Ev.may e) (hl : ¬ 20 < (applyP p.st e).fams.length) (hg : p.lg < 16) : PubOk (N + 1) (putP1 p e).1 := by
  unfold putP1
  cases ho : offP p with
  | true => exact ok_mono (ok_down h) (by omega)
  | false =>
    have := ok_wrote h ho
    exact ⟨good_apply h.good he (by omega), hg, this.few, this.left⟩
theorem ok_add {N : Nat} {p : Pub} {e : E} {m : Bool} (hm : m = true ↔ Ev.may e) (h : PubOk N p) : PubOk (N + 22) (addP p e m).1 := by
  unfold addP
  split
  · exact ok_mono h (by omega)
  split
  · exact ok_mono h (by omega)
  rename_i h1 h2
  have he : Ev.may e := hm.1 (by simpa using h2)
  split
  · exact ok_mono h (by omega)
  rename_i h3
  split
  · have hs := ok_save h
    split
    · rename_i h4
      exact ok_put1 hs he (by rw [save_st]; exact h3) (by rw [save_log h4]; omega)
    · exact ok_mono hs (by omega)
  · rename_i h4
    exact ok_mono (ok_put1 h he h3 (by have := h.low; omega)) (by omega)
theorem ok_zero : PubOk 0 ⟨⟨0, 1, []⟩, 0, 0, false, 0, false⟩ := ⟨good_zero, Nat.zero_le _, Nat.le_refl _, fun hc => by cases hc⟩
end Go.Proofs.YtlailakofhenkabGreatDoor.Ev

namespace Go.Proofs.YtlailakofhenkabGreatDoor.Ev
open Go.Lib Tok Sc
def fillA (A : AD) (b s : Nat) (l : List Fam) : Nat → AD
  | 0 => A
  | i + 1 => ⟨updN (fillA A b s l i).blk (b + i) (some (s, putE (l.getD i zeroF))), (fillA A b s l i).head⟩
theorem fill_blk (A : AD) (b s : Nat) (l : List Fam) : ∀ i j, j < i → (fillA A b s l i).blk (b + j) = some (s, putE (l.getD j zeroF))
  | 0, j, h => by omega
  | i + 1, j, h => by
    show updN (fillA A b s l i).blk (b + i) _ (b + j) = _
    unfold updN
    by_cases hj : j = i
    · subst hj; rw [if_pos rfl]
    · rw [if_neg (by omega)]
      exact fill_blk A b s l i j (by omega)
theorem fill_inv {A : AD} {st b : St} {sv lg : Nat} {es : List E} (h : Inv A st sv lg b es) : ∀ i, i ≤ st.fams.length → Inv (fillA A (17 + 21 * ((sv + 1) % 2)) (sv + 1) st.fams i) st sv lg b es
  | 0, _ => h
  | i + 1, hi => by
    have hl := h.good.len
    have hlt : i < st.fams.length := by omega
    have hg : st.fams.getD i zeroF = st.fams[i] := by simp [List.getD, hlt]
    refine inv_part (fill_inv h i (by omega)) i (by omega) (may_put ?_)
    rw [hg]
    exact (h.good.may _ (List.getElem_mem hlt)).1
theorem fill_done {A : AD} {st b : St} {sv lg : Nat} {es : List E} (h : Inv A st sv lg b es) :
    Inv ⟨(fillA A (17 + 21 * ((sv + 1) % 2)) (sv + 1) st.fams st.fams.length).blk, updN (fillA A (17 + 21 * ((sv + 1) % 2)) (sv + 1) st.fams st.fams.length).head ((sv + 1) % 2) (some (sv + 1, st.clock, st.next, st.fams.length))⟩ st (sv + 1) 0 st [] := by
  refine inv_head (fill_inv h _ (Nat.le_refl _)) (fun j hj => ?_)
  rw [fill_blk _ _ _ _ _ _ hj]
  simp [List.getD, hj]
theorem evL_join (s : Nat) (e : E) : join [itoa s, line e] [32] = evL s e := by
  rw [glue_two, join_one]
  rfl
theorem Inv.diskIs {A : AD} {st b : St} {sv lg : Nat} {es : List E} (h : Inv A st sv lg b es) (hs : okN ((sv : Int) + 1)) : (∀ k s e, A.blk k = some (s, e) → Ev.may e ∧ okN s) ∧ (∀ k s c nx n, A.head k = some (s, c, nx, n) → okN s ∧ okN c ∧ 0 ≤ nx ∧ nx ≤ 1099511627777 ∧ n ≤ 20) := by
  obtain ⟨h1, h2⟩ := hs
  refine ⟨fun k s e hk => ⟨(h.blks k s e hk).1, ?_⟩, fun k s c nx n hk => ⟨?_, (h.heads k s c nx n hk).2⟩⟩
  · have := (h.blks k s e hk).2
    exact (show 0 ≤ (s : Int) ∧ (s : Int) ≤ 1099511627776 from ⟨by omega, by omega⟩)
  · have := (h.heads k s c nx n hk).1
    exact (show 0 ≤ (s : Int) ∧ (s : Int) ≤ 1099511627776 from ⟨by omega, by omega⟩)
theorem save_ok {p : Pub} {N : Nat} (h : PubOk N p) (hd : p.dn = false) (h0 : (saveP p).2 = 0) : ∃ n1 l1, (saveP p).1 = ⟨p.st, 0, n1, p.c, l1, false⟩ ∧ n1 ≤ N + 21 ∧ (p.c = true → 0 ≤ l1 ∧ l1 ≤ 9223372036854775807) := by
  have h1 := ok_save h
  have h2 := save_st p
  have h3 := save_log h0
  have h4 : (saveP p).1.c = p.c ∧ (saveP p).1.dn = false := by
    unfold saveP at h0 ⊢
    rw [hd] at h0 ⊢
    rw [if_neg (by simp)] at h0 ⊢
    split
    · rename_i hw
      have := writesP_st (p.st.fams.length + 1) p
      exact ⟨this.2.2.2.1, (this.2.2.2.2 hw).trans hd⟩
    · rename_i hw
      rw [if_neg hw] at h0
      cases h0
  have h5 := h1.few
  have h6 := h1.left
  generalize (saveP p).1 = q at *
  obtain ⟨qs, ql, qn, qc, qll, qd⟩ := q
  simp only at h2 h3 h4 h5 h6
  obtain ⟨h4, h4'⟩ := h4
  subst h2; subst h3; subst h4; subst h4'
  exact ⟨_, _, rfl, h5, h6⟩
theorem add_full (p : Pub) (e : E) (hd : p.dn = false) (h : 20 < (applyP p.st e).fams.length) : addP p e true = (p, 12) := by
  unfold addP
  rw [if_neg (by simp [hd]), if_neg (by simp), if_pos h]
theorem add_plain (p : Pub) (e : E) (hd : p.dn = false) (h : ¬ 20 < (applyP p.st e).fams.length) (hg : p.lg ≠ 16) : addP p e true = putP1 p e := by
  unfold addP
  rw [if_neg (by simp [hd]), if_neg (by simp), if_neg h, if_neg hg]
theorem add_save0 (p : Pub) (e : E) (hd : p.dn = false) (h : ¬ 20 < (applyP p.st e).fams.length) (hg : p.lg = 16) (h0 : (saveP p).2 = 0) : addP p e true = putP1 (saveP p).1 e := by
  unfold addP
  rw [if_neg (by simp [hd]), if_neg (by simp), if_neg h, if_pos hg, if_pos h0]
theorem add_saveE (p : Pub) (e : E) (hd : p.dn = false) (h : ¬ 20 < (applyP p.st e).fams.length) (hg : p.lg = 16) (h0 : (saveP p).2 ≠ 0) : addP p e true = saveP p := by
  unfold addP
  rw [if_neg (by simp [hd]), if_neg (by simp), if_neg h, if_pos hg, if_neg h0]
theorem put_off (q : Pub) (e : E) (h : offP q = true) : putP1 q e = (downP q, 14) := by unfold putP1; rw [if_pos h]
theorem put_on (q : Pub) (e : E) (h : offP q = false) : putP1 q e = (⟨applyP q.st e, q.lg + 1, q.n + 1, q.c, q.l - 1, q.dn⟩, 0) := by unfold putP1; rw [if_neg (by simp [h])]
end Go.Proofs.YtlailakofhenkabGreatDoor.Ev

namespace Go.Proofs.YtlailakofhenkabGreatDoor
open Go Go.RowKit Tok Sc Ev
theorem small_may {f : Fam} (h : mayF f) : Small 5000 f := by
  obtain ⟨_, h2, h3, h4, h5⟩ := h
  have n1 := (nameB_iff.1 h2).2.2
  have n2 := (nameB_iff.1 h3).2.2
  have n3 := lst_len h5
  have n4 : f.request.data.toList.length ≤ 20 := by
    rcases h4 with h | h
    · rw [h]; simp
    · exact (nameB_iff.1 h).2.2
  have e : ∀ x : ByteArray, x.data.toList.length = x.size := fun x => Array.length_toList
  rw [e] at n1 n2 n3 n4
  unfold Small
  omega
set_option maxRecDepth 100000 in
set_option maxHeartbeats 8000000 in
theorem save_up (w0 : World) (gs gd : Nat) (A : AD) (n : Nat) (c : Bool) (l : Int) (sv lg : Nat) (st b : St) (es : List E) (v : Value) (w : World) (h : DS w0 gs gd A n c l false sv lg st v w) (hI : Inv A st sv lg b es) (hsv : okN ((sv : Int) + 1)) (hl : c = true → 0 ≤ l ∧ l ≤ 9223372036854775807) (hn : n + 22 < 100000) :
    Calls Tryz.prog 16 #[.pointer (some ⟨gs, 0, none⟩)] w fun r w' => ∃ p : Pub, p = ⟨st, lg, n, c, l, false⟩ ∧ r = .returned (errQ (saveP p).2) ∧ ∃ A' sv' b' es', Inv A' st sv' (saveP p).1.lg b' es' ∧ sv' ≤ sv + 1 ∧ DS w0 gs gd A' (saveP p).1.n c (saveP p).1.l (saveP p).1.dn sv' (saveP p).1.lg st v w' := by
  obtain ⟨ba, ca, rfl⟩ := RowsK.slice h.store.fam
  have H0 : Hid (DS w0 gs gd A n c l false sv lg st (.slice ba st.fams.length ca) w) := h
  have HI : Hid (Inv A st sv lg b es) := hI
  have HSV : Hid (okN ((sv : Int) + 1)) := hsv
  have HLL : Hid (c = true → 0 ≤ l ∧ l ≤ 9223372036854775807) := hl
  have HN : Hid (n + 22 < 100000) := hn
  have hsvI : (sv : Int) + 1 ≤ 1099511627776 := hsv.2
  have hsv0 : 0 ≤ (sv : Int) := by omega
  have hl20 : (st.fams.length : Int) ≤ 20 := by have := hI.good.len; omega
  have p1 := h.store.p1
  have p2 := h.store.p2
  have p6 := h.store.p6
  clear h hI hl hn
  go_enter Tryz.func16, Tryz.ntmps16
  go_wp2_with fail
  obtain ⟨sl, hsl⟩ : ∃ sl, sl = (sv + 1) % 2 := ⟨_, rfl⟩
  have hsl2 : sl < 2 := by omega
  have hslI : ((sv : Int) + 1) % 2 = (sl : Int) := by omega
  have HSL : Hid (sl = (sv + 1) % 2) := hsl
  have HSL2 : Hid (sl < 2) := hsl2
  have HFI : Hid (∀ i, i ≤ st.fams.length → Inv (fillA A (17 + 21 * sl) (sv + 1) st.fams i) st sv lg b es) := by rw [hsl]; exact fill_inv HI.out
  have HFD : Hid (Inv ⟨(fillA A (17 + 21 * sl) (sv + 1) st.fams st.fams.length).blk, updN (fillA A (17 + 21 * sl) (sv + 1) st.fams st.fams.length).head sl (some (sv + 1, st.clock, st.next, st.fams.length))⟩ st (sv + 1) 0 st []) := by rw [hsl]; exact fill_done HI.out
  have hsb := fun (W : World) => slotBlock_is sl W hsl2
  rw [hslI]
  refine (hsb _).mono ?_
  rintro e1 w1 ⟨rfl, rfl⟩
  have HK16 : Hid (((16 + 21 * sl : Nat) : Int) = 16 + 21 * sl) := by show ((16 + 21 * sl : Nat) : Int) = 16 + 21 * sl; push_cast; rfl
  generalize hKK : ((16 + 21 * sl : Nat) : Int) = K at *
  have HKK : Hid (K = ((16 + 21 * sl : Nat) : Int)) := hKK.symm
  have hK0 : 0 ≤ K ∧ K ≤ 37 := by omega
  clear hKK hsl hslI hsb hsl2
  go_wp2_with fail
  go_loopg [30] st.fams.length (fun gk iv wr => ∃ i : Nat, i + gk = st.fams.length ∧ iv = .int .i64 i ∧ Hid (writesP (st.fams.length + 1) ⟨st, lg, n, c, l, false⟩ = writesP (gk + 1) ⟨st, lg, n + i, c, l - i, false⟩) ∧ Hid (c = true → 0 ≤ l - i) ∧ Hid (DS w0 gs gd (fillA A (17 + 21 * sl) (sv + 1) st.fams i) (n + i) c (l - i) false sv lg st (.slice ba st.fams.length ca) wr))
  case atStart => exact ⟨0, by omega, rfl, by show _ = _; simp, fun hc => by have := HLL.out hc; omega, by simpa [fillA] using H0⟩
  case round =>
    obtain ⟨i, hj, rfl, HWP, HLI, HDS⟩ := hrel
    have HJ : Hid (i + gk = st.fams.length) := hj
    clear hj H0
    by_cases hlt : i < st.fams.length
    · have hltI : (i : Int) < (st.fams.length : Int) := by omega
      obtain ⟨r, hr⟩ : ∃ r, gk = r + 1 := ⟨gk - 1, by have := HJ.out; omega⟩
      have HR : Hid (gk = r + 1) := hr
      clear hr
      have hfm := (HI.out.good.may _ (List.getElem_mem hlt)).1
      have hgD : st.fams.getD i zeroF = st.fams[i] := by simp [List.getD, hlt]
      have HFN : Hid (fillA A (17 + 21 * sl) (sv + 1) st.fams (i + 1) = ⟨updN (fillA A (17 + 21 * sl) (sv + 1) st.fams i).blk (17 + 21 * sl + i) (some (sv + 1, putE st.fams[i])), (fillA A (17 + 21 * sl) (sv + 1) st.fams i).head⟩) := by show _ = _; rw [fillA, hgD]
      have HM : Hid (Ev.may (putE st.fams[i])) := may_put hfm
      obtain ⟨g, rfl, hglt, hfa⟩ := HDS.out.store.fam.fam i hlt
      have hwe : ∀ (W : World), LibsE W → Calls Tryz.prog 55 #[evV (putE st.fams[i])] W fun r w' => r = .returned (.tuple #[.string (bs8 (line (putE st.fams[i]))), .nilIface]) ∧ Below W.heap.size W w' := fun W hW => writeE_yes (putE st.fams[i]) W HM.out (small_may hfm) hW
      have HEV : Hid (evL (sv + 1) (putE st.fams[i]) = evL (sv + 1) (putE st.fams[i])) := rfl
      have hel := evL_len (s := sv + 1) (by push_cast; exact HSV.out) HM.out
      have HEL : Hid ((evL (sv + 1) (putE st.fams[i])).length ≤ 194) := hel
      have hit := fun (W : World) (hW : LibsE W) => itoaE_is ((sv : Int) + 1) W HSV.out.1 (by have := HSV.out.2; omega) hW
      have HBX : Hid (∀ W : World, FamAt (W.alloc (.cells #[.int .i64 st.fams[i].id, .string st.fams[i].client, .string st.fams[i].subject, .string st.fams[i].scope, .int .i64 st.fams[i].gen, .int .i64 st.fams[i].made, .int .i64 st.fams[i].used, .string st.fams[i].request, .bool st.fams[i].dead] 40)) W.heap.size 0 st.fams[i]) := fun W => famAt_made W _ _ _ rfl
      generalize st.fams[i] = f at *
      clear hfm hgD hel
      obtain ⟨f1, f2, f3, f4, f5, f6, f7, f8, f9⟩ := f
      have hwe2 := hwe
      unfold putE evV evCs at hwe2
      simp only at hwe2
      have k0 := hfa.c0; have k1 := hfa.c1; have k2 := hfa.c2; have k3 := hfa.c3; have k4 := hfa.c4; have k5 := hfa.c5; have k6 := hfa.c6; have k7 := hfa.c7; have k8 := hfa.c8
      have p6 := HDS.out.store.p6
      simp only at k0 k1 k2 k3 k4 k5 k6 k7 k8
      clear hfa hwe
      have HB0 : Hid (DS w0 gs gd (fillA A (17 + 21 * sl) (sv + 1) st.fams i) (n + i) c (l - i) false sv lg st (.slice (some ⟨g, 0, none⟩) st.fams.length ca) (wr.alloc (.cells #[.int .i64 f1, .string f2, .string f3, .string f4, .int .i64 f5, .int .i64 f6, .int .i64 f7, .string f8, .bool f9] 40))) := HDS.out.on ((Below.refl _ _).alloc (Nat.le_refl _) _)
      have HJN : Hid (Lib.join ([bs8 (Lib.itoa ((sv : Int) + 1)), bs8 (line (putE ⟨f1, f2, f3, f4, f5, f6, f7, f8, f9⟩))].map (·.data.toList)) [32] = evL (sv + 1) (putE ⟨f1, f2, f3, f4, f5, f6, f7, f8, f9⟩)) := by
        show _ = _
        rw [← evL_join]
        rfl
      have HKI : Hid (((17 + 21 * sl + i : Nat) : Int) = K + 1 + i) := by show ((17 + 21 * sl + i : Nat) : Int) = K + 1 + i; rw [HK16.out]; push_cast; omega
      have HI20 : Hid (i < 20) := by show i < 20; omega
      have HOFF : Hid (∀ (bb : Nat) (W : World), offB c (l - i) = true → DS w0 gs gd (fillA A (17 + 21 * sl) (sv + 1) st.fams i) (n + i) c (l - i) false sv lg st (.slice (some ⟨g, 0, none⟩) st.fams.length ca) W → WordsAt W bb [bs8 (Lib.itoa ((sv : Int) + 1)), bs8 (line (putE ⟨f1, f2, f3, f4, f5, f6, f7, f8, f9⟩))] →
          Calls Tryz.prog 56 #[.pointer (some ⟨gs, 0, none⟩), .int .i64 (K + 1 + i), .slice (some ⟨bb, 0, none⟩) 2 2] W fun r w' => r = .returned (.iface 47 (.int .i64 14)) ∧ DS w0 gs gd (fillA A (17 + 21 * sl) (sv + 1) st.fams i) (n + i) c (l - i) true sv lg st (.slice (some ⟨g, 0, none⟩) st.fams.length ca) w') := fun bb W ho hd hw => by
        rw [← HKI.out]
        exact writeS_off w0 gs gd _ _ c _ false sv lg st _ (17 + 21 * sl + i) [bs8 (Lib.itoa ((sv : Int) + 1)), bs8 (line (putE ⟨f1, f2, f3, f4, f5, f6, f7, f8, f9⟩))] bb 2 W hd (by have := HSL2.out; have := HI20.out; omega) hw (by simp) (Nat.le_refl _) (by rw [HJN.out]; have := HEL.out; omega) ho
      have HON : Hid (∀ (bb : Nat) (W : World), offB c (l - i) = false → DS w0 gs gd (fillA A (17 + 21 * sl) (sv + 1) st.fams i) (n + i) c (l - i) false sv lg st (.slice (some ⟨g, 0, none⟩) st.fams.length ca) W → WordsAt W bb [bs8 (Lib.itoa ((sv : Int) + 1)), bs8 (line (putE ⟨f1, f2, f3, f4, f5, f6, f7, f8, f9⟩))] →
          Calls Tryz.prog 56 #[.pointer (some ⟨gs, 0, none⟩), .int .i64 (K + 1 + i), .slice (some ⟨bb, 0, none⟩) 2 2] W fun r w' => r = .returned .nilIface ∧ DS w0 gs gd (fillA A (17 + 21 * sl) (sv + 1) st.fams (i + 1)) (n + i + 1) c (l - i - 1) false sv lg st (.slice (some ⟨g, 0, none⟩) st.fams.length ca) w') := fun bb W ho hd hw => by
        rw [← HKI.out]
        refine writeS_on w0 gs gd _ _ _ c _ false sv lg st _ (17 + 21 * sl + i) [bs8 (Lib.itoa ((sv : Int) + 1)), bs8 (line (putE ⟨f1, f2, f3, f4, f5, f6, f7, f8, f9⟩))] bb 2 W hd (by have := HSL2.out; have := HI20.out; omega) hw (by simp) (Nat.le_refl _) (by rw [HJN.out]; have := HEL.out; omega) ho (fun hc => ⟨HLI.out hc, by have := (HLL.out hc).2; omega⟩) (by have := HN.out; have := HI20.out; omega) (fun F F' hF h1 h2 => ?_)
        rw [HJN.out] at h1
        rw [HFN.out]
        exact enc_blk hF _ ⟨by have := HSL2.out; have := HI20.out; omega, by have := HSL2.out; have := HI20.out; omega⟩ (sv + 1) _ h1 h2
      generalize hLN : bs8 (line ⟨1, ⟨f1, f2, f3, f4, f5, f6, f7, f8, f9⟩, 0, 0⟩) = LN at *
      have HLN : Hid (bs8 (line (putE ⟨f1, f2, f3, f4, f5, f6, f7, f8, f9⟩)) = LN) := hLN
      clear hLN HBX HEV
      go_wp2_with fail
      refine (hwe2 _ HB0.out.libs.base).mono ?_
      rintro e2 w2 ⟨rfl, hb2⟩
      have HD2 : Hid _ := HB0.out.on hb2
      clear hb2 hwe2 k0 k1 k2 k3 k4 k5 k6 k7 k8
      go_wp2_with fail
      refine (hit _ HD2.out.libs.base).mono ?_
      rintro e3 w3 ⟨rfl, hb3⟩
      have HD3 : Hid _ := HD2.out.on hb3
      have HD4 : Hid _ := HD3.out.on (w' := w3.alloc (.cells #[.string ⟨(Lib.itoa ((sv : Int) + 1)).toArray⟩, .string LN] 9)) ((Below.refl _ _).alloc (Nat.le_refl _) _)
      have HWA : Hid (WordsAt (w3.alloc (.cells #[.string ⟨(Lib.itoa ((sv : Int) + 1)).toArray⟩, .string LN] 9)) w3.heap.size [bs8 (Lib.itoa ((sv : Int) + 1)), bs8 (line (putE ⟨f1, f2, f3, f4, f5, f6, f7, f8, f9⟩))]) := by
        rw [HLN.out]
        exact wordsAt_new w3 [bs8 (Lib.itoa ((sv : Int) + 1)), LN] _
      clear hb3 hit p6
      cases ho : offB c (l - i) with
      | true =>
        have HO : Hid (offB c (l - i) = true) := ho
        clear ho
        go_wp2_with fail
        refine (HOFF.out _ _ HO.out HD4.out HWA.out).mono ?_
        rintro e5 w5 ⟨rfl, hds⟩
        have H5 : Hid _ := hds
        clear hds
        go_wp2_with fail
        go_ret
        have hw : writesP (st.fams.length + 1) ⟨st, lg, n, c, l, false⟩ = (downP ⟨st, lg, n + i, c, l - i, false⟩, false) := by
          rw [HWP.out, writesP, if_pos (show offP ⟨st, lg, n + i, c, l - i, false⟩ = true from HO.out)]
        have hsv : saveP ⟨st, lg, n, c, l, false⟩ = (downP ⟨st, lg, n + i, c, l - i, false⟩, 14) := by
          unfold saveP
          rw [if_neg (by simp)]
          show (if (writesP (st.fams.length + 1) _).2 = true then _ else _) = _
          rw [hw]
          rfl
        refine ⟨_, rfl, by rw [hsv]; rfl, ?_⟩
        rw [hsv]
        exact ⟨_, sv, b, es, HFI.out i (Nat.le_of_lt hlt), by omega, H5.out⟩
      | false =>
        have HO : Hid (offB c (l - i) = false) := ho
        clear ho
        go_wp2_with fail
        refine (HON.out _ _ HO.out HD4.out HWA.out).mono ?_
        rintro e5 w5 ⟨rfl, hds⟩
        have H5 : Hid _ := hds
        clear hds
        have HLN2 : Hid (c = true → 0 ≤ l - ((i + 1 : Nat) : Int)) := fun hc => by
          have h1 := HLI.out hc
          have h2 := HO.out
          unfold offB at h2
          rw [hc] at h2
          have h3 : l - i ≠ 0 := by simpa using h2
          push_cast
          omega
        have HWN : Hid (writesP (st.fams.length + 1) ⟨st, lg, n, c, l, false⟩ = writesP (r + 1) ⟨st, lg, n + (i + 1), c, l - ((i + 1 : Nat) : Int), false⟩) := by
          show _ = _
          rw [HWP.out, HR.out, writesP, if_neg (show ¬ offP ⟨st, lg, n + i, c, l - i, false⟩ = true by have := HO.out; unfold offP; unfold offB at this; simp [this])]
          unfold wroteP
          congr 2
          push_cast
          omega
        have HDN : Hid (DS w0 gs gd (fillA A (17 + 21 * sl) (sv + 1) st.fams (i + 1)) (n + (i + 1)) c (l - ((i + 1 : Nat) : Int)) false sv lg st (.slice (some ⟨g, 0, none⟩) st.fams.length ca) w5) := by
          have e : l - ((i + 1 : Nat) : Int) = l - i - 1 := by push_cast; omega
          rw [e]
          exact H5.out
        go_wp2_with fail
        go_roundg r
        case measure => have := HR.out; omega
        case rel => exact ⟨i + 1, by have := HJ.out; have := HR.out; omega, by go_num, HWN, HLN2, HDN⟩
    · obtain hie : i = st.fams.length := by have := HJ.out; omega
      subst hie
      obtain rfl : gk = 0 := by have := HJ.out; omega
      have HJN : Hid (Lib.join (((hdWs (sv + 1) st.clock st.next st.fams.length).map bs8).map (·.data.toList)) [32] = hdL (sv + 1) st.clock st.next st.fams.length) := by show _ = _; rw [map_bs8]; rfl
      have hhl := hdL_len (s := sv + 1) (by push_cast; exact HSV.out) HI.out.good.clock (show okN (st.next - 1) from ⟨by have := HI.out.good.next0; omega, by have := HI.out.good.next1; omega⟩) HI.out.good.len
      have HHL : Hid ((hdL (sv + 1) st.clock st.next st.fams.length).length ≤ 55) := hhl
      have HS1 : Hid (((sv + 1 : Nat) : Int) = (sv : Int) + 1) := by show ((sv + 1 : Nat) : Int) = _; push_cast; rfl
      have HL20 : Hid (st.fams.length ≤ 20) := by show st.fams.length ≤ 20; omega
      have HOFF : Hid (offB c (l - (st.fams.length : Int)) = true → ∀ (W : World), DS w0 gs gd (fillA A (17 + 21 * sl) (sv + 1) st.fams st.fams.length) (n + st.fams.length) c (l - (st.fams.length : Int)) false sv lg st (.slice ba st.fams.length ca) W →
          Calls Tryz.prog 58 #[.pointer (some ⟨gs, 0, none⟩), .int .i64 K, .int .i64 ((sv : Int) + 1)] W fun r w' => r = .returned (.iface 47 (.int .i64 14)) ∧ DS w0 gs gd (fillA A (17 + 21 * sl) (sv + 1) st.fams st.fams.length) (n + st.fams.length) c (l - (st.fams.length : Int)) true sv lg st (.slice ba st.fams.length ca) w') := fun ho W hd => by
        rw [HKK.out, ← HS1.out]
        refine writeHead_gen _ _ w0 gs gd _ _ c _ false sv lg st _ (16 + 21 * sl) (sv + 1) W hd HI.out.good (by push_cast; exact HSV.out) (fun bb W2 hd2 hw2 => ?_)
        exact writeS_off w0 gs gd _ _ c _ false sv lg st _ (16 + 21 * sl) ((hdWs (sv + 1) st.clock st.next st.fams.length).map bs8) bb 4 W2 hd2 (by have := HSL2.out; omega) hw2 (by simp [hdWs]) (by simp [hdWs]) (by rw [HJN.out]; have := HHL.out; omega) ho
      have HON : Hid (offB c (l - (st.fams.length : Int)) = false → ∀ (W : World), DS w0 gs gd (fillA A (17 + 21 * sl) (sv + 1) st.fams st.fams.length) (n + st.fams.length) c (l - (st.fams.length : Int)) false sv lg st (.slice ba st.fams.length ca) W →
          Calls Tryz.prog 58 #[.pointer (some ⟨gs, 0, none⟩), .int .i64 K, .int .i64 ((sv : Int) + 1)] W fun r w' => r = .returned .nilIface ∧ DS w0 gs gd ⟨(fillA A (17 + 21 * sl) (sv + 1) st.fams st.fams.length).blk, updN (fillA A (17 + 21 * sl) (sv + 1) st.fams st.fams.length).head sl (some (sv + 1, st.clock, st.next, st.fams.length))⟩ (n + st.fams.length + 1) c (l - (st.fams.length : Int) - 1) false sv lg st (.slice ba st.fams.length ca) w') := fun ho W hd => by
        rw [HKK.out, ← HS1.out]
        refine writeHead_gen _ _ w0 gs gd _ _ c _ false sv lg st _ (16 + 21 * sl) (sv + 1) W hd HI.out.good (by push_cast; exact HSV.out) (fun bb W2 hd2 hw2 => ?_)
        refine writeS_on w0 gs gd _ _ _ c _ false sv lg st _ (16 + 21 * sl) ((hdWs (sv + 1) st.clock st.next st.fams.length).map bs8) bb 4 W2 hd2 (by have := HSL2.out; omega) hw2 (by simp [hdWs]) (by simp [hdWs]) (by rw [HJN.out]; have := HHL.out; omega) ho (fun hc => ⟨HLI.out hc, by have := (HLL.out hc).2; omega⟩) (by have := HN.out; have := HL20.out; omega) (fun F F' hF h1 h2 => ?_)
        rw [HJN.out] at h1
        exact enc_head hF sl HSL2.out (sv + 1) st.clock st.next st.fams.length h1 h2
      clear hhl
      cases ho : offB c (l - (st.fams.length : Int)) with
      | true =>
        have HO : Hid (offB c (l - (st.fams.length : Int)) = true) := ho
        clear ho
        go_wp2_with fail
        refine (HOFF.out HO.out _ HDS.out).mono ?_
        rintro e5 w5 ⟨rfl, hds⟩
        have H5 : Hid _ := hds
        clear hds
        go_wp2_with fail
        go_ret
        have hw : writesP (st.fams.length + 1) ⟨st, lg, n, c, l, false⟩ = (downP ⟨st, lg, n + st.fams.length, c, l - (st.fams.length : Int), false⟩, false) := by
          rw [HWP.out, writesP, if_pos (show offP ⟨st, lg, n + st.fams.length, c, l - (st.fams.length : Int), false⟩ = true from HO.out)]
        have hsv : saveP ⟨st, lg, n, c, l, false⟩ = (downP ⟨st, lg, n + st.fams.length, c, l - (st.fams.length : Int), false⟩, 14) := by
          unfold saveP
          rw [if_neg (by simp)]
          show (if (writesP (st.fams.length + 1) _).2 = true then _ else _) = _
          rw [hw]
          rfl
        refine ⟨_, rfl, by rw [hsv]; rfl, ?_⟩
        rw [hsv]
        exact ⟨_, sv, b, es, HFI.out _ (Nat.le_refl _), by omega, H5.out⟩
      | false =>
        have HO : Hid (offB c (l - (st.fams.length : Int)) = false) := ho
        clear ho
        go_wp2_with fail
        refine (HON.out HO.out _ HDS.out).mono ?_
        rintro e5 w5 ⟨rfl, hds⟩
        have H5 : Hid _ := hds
        have p2 := hds.store.p2
        have p3 := hds.store.p3
        have pf := hds.store.pf
        have H6 : Hid _ := hds.own (below1 gs 2 (.int .i64 ((sv + 1 : Nat) : Int)) _) (keep1 gs 2 _ _) (hds.store.putSaves (sv' := sv + 1))
        have H7 : Hid _ := H6.out.own (below1 gs 3 (.int .i64 ((0 : Nat) : Int)) _) (keep1 gs 3 _ _) (H6.out.store.putLog (lg' := 0))
        have H8 := H7.out
        rw [HS1.out] at H8
        have HF8 : Hid _ := H8
        clear hds H8
        go_wp2_with fail
        go_ret
        have hw : writesP (st.fams.length + 1) ⟨st, lg, n, c, l, false⟩ = (wroteP ⟨st, lg, n + st.fams.length, c, l - (st.fams.length : Int), false⟩, true) := by
          rw [HWP.out, writesP, if_neg (show ¬ offP ⟨st, lg, n + st.fams.length, c, l - (st.fams.length : Int), false⟩ = true by have := HO.out; unfold offP; unfold offB at this; simp [this])]
          rfl
        have hsv : saveP ⟨st, lg, n, c, l, false⟩ = (emptyLogP (wroteP ⟨st, lg, n + st.fams.length, c, l - (st.fams.length : Int), false⟩), 0) := by
          unfold saveP
          rw [if_neg (by simp)]
          show (if (writesP (st.fams.length + 1) _).2 = true then _ else _) = _
          rw [hw]
          rfl
        refine ⟨_, rfl, by rw [hsv]; rfl, ?_⟩
        rw [hsv]
        exact ⟨_, sv + 1, st, [], HFD.out, by omega, HF8.out⟩
end Go.Proofs.YtlailakofhenkabGreatDoor
