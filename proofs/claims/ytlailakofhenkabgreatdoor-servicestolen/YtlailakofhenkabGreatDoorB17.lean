/-
  Own texts put together: StOpen, StWrite, StHead.
-/
import Derived.Test.YtlailakofhenkabGreatDoorB16
import Derived.Test.YtlailakofhenkabGreatDoorB8
namespace Go.Proofs.YtlailakofhenkabGreatDoor
open Go Go.RowKit Tok Sc Ev
theorem slotGo_good (A : AD) (b s : Nat) : ∀ (r i m : Nat) (st st' : St), slotGo A b s i r st = some st' → Rising st.fams → st.fams.length ≤ m → Rising st'.fams ∧ st'.fams.length ≤ m + r := by
  intro r
  induction r with
  | zero =>
    intro i m st st' h hr hl
    simp only [slotGo, Option.some.injEq] at h
    subst h
    exact ⟨hr, by omega⟩
  | succ r ih =>
    intro i m st st' h hr hl
    rcases evOf_step A b s i r st with ⟨e, _, h2⟩ | ⟨_, h2⟩
    · rw [h2] at h
      have := ih (i + 1) (m + 1) _ _ h (rising_apply hr) (Nat.le_trans (apply_len st e) (by omega))
      exact ⟨this.1, by omega⟩
    · rw [h2] at h; cases h
theorem slotM_good {A : AD} {k : Nat} (h : ∀ s c nx n, A.head k = some (s, c, nx, n) → n ≤ 20) : Rising (slotM A k).1.fams ∧ (slotM A k).1.fams.length ≤ 20 := by
  unfold slotM
  cases hh : A.head k with
  | none => exact ⟨List.Pairwise.nil, Nat.zero_le _⟩
  | some p =>
    obtain ⟨s, c, nx, n⟩ := p
    simp only
    cases hs : slotGo A (17 + 21 * k) s 0 n ⟨c, nx, []⟩ with
    | none => exact ⟨List.Pairwise.nil, Nat.zero_le _⟩
    | some st =>
      have := slotGo_good A _ s n 0 0 _ _ hs List.Pairwise.nil (Nat.le_refl _)
      refine ⟨this.1, ?_⟩
      have h2 := this.2
      have h3 := h s c nx n hh
      show st.fams.length ≤ 20
      omega
theorem readSlot_is (g : Nat) (A : AD) (k : Nat) (hk : k < 2) (w : World) (hD : DiskIs w g A) (hL : LibsA w) :
    Calls Tryz.prog 52 #[.pointer (some ⟨g, 0, none⟩), .int .i64 k] w fun r w' => ∃ v, r = .returned (.tuple #[stV (slotM A k).1.clock (slotM A k).1.next v, .int .i64 ((slotM A k).2 : Nat)]) ∧ Fams w.heap.size w' v (slotM A k).1.fams ∧ Below w.heap.size w w' := by
  cases hh : A.head k with
  | none =>
    refine (readSlot_none g A k hk w hh hD hL).mono ?_
    rintro r w' ⟨rfl, hb⟩
    have hm : slotM A k = (⟨0, 0, []⟩, 0) := by unfold slotM; rw [hh]
    exact ⟨.slice none 0 0, by rw [hm]; rfl, by rw [hm]; exact Fams.nil _ _, hb⟩
  | some p =>
    obtain ⟨s, c, nx, n⟩ := p
    exact readSlot_some g A k s c nx n hk w hh hD hL
def bestK (A : AD) : Nat → St × Nat
  | 0 => (⟨0, 1, []⟩, 0)
  | k + 1 => best (bestK A k) (slotM A k)
theorem bestK_good {A : AD} (h : ∀ k s c nx n, A.head k = some (s, c, nx, n) → n ≤ 20) : ∀ k, Rising (bestK A k).1.fams ∧ (bestK A k).1.fams.length ≤ 20
  | 0 => ⟨List.Pairwise.nil, Nat.zero_le _⟩
  | k + 1 => by
    unfold bestK best
    split
    · exact slotM_good (h k)
    · exact bestK_good h k
theorem slotM_ok {A : AD} {k : Nat} (h : ∀ s c nx n, A.head k = some (s, c, nx, n) → okN s) : okN ((slotM A k).2 : Nat) := by
  unfold slotM
  have z : okN ((0 : Nat) : Int) := ⟨by decide, by decide⟩
  cases hh : A.head k with
  | none => exact z
  | some p =>
    obtain ⟨s, c, nx, n⟩ := p
    simp only
    cases slotGo A (17 + 21 * k) s 0 n ⟨c, nx, []⟩ with
    | none => exact z
    | some st => exact h s c nx n hh
theorem bestK_ok {A : AD} (h : ∀ k s c nx n, A.head k = some (s, c, nx, n) → okN s) : ∀ k, okN ((bestK A k).2 : Nat)
  | 0 => (show okN ((0 : Nat) : Int) from ⟨by decide, by decide⟩)
  | k + 1 => by
    unfold bestK best
    split
    · exact slotM_ok (h k)
    · exact bestK_ok h k
theorem openM_is (A : AD) : openM A = ((logGo A (bestK A 2).2 0 16 (bestK A 2).1).1, (bestK A 2).2, (logGo A (bestK A 2).2 0 16 (bestK A 2).1).2) := rfl
set_option maxRecDepth 100000 in
set_option maxHeartbeats 8000000 in
theorem open_is (gd : Nat) (A : AD) (w : World) (hD : DiskIs w gd A) (hL : LibsA w) :
    Calls Tryz.prog 12 #[.pointer (some ⟨gd, 0, none⟩)] w fun r w' => ∃ gs v, r = .returned (.tuple #[.pointer (some ⟨gs, 0, none⟩), .nilIface]) ∧ w.heap.size ≤ gs ∧ LW w gs gd A false (openM A).2.1 (openM A).2.2 (openM A).1 v w' := by
  have HG : Hid (∀ k, Rising (bestK A k).1.fams ∧ (bestK A k).1.fams.length ≤ 20) := bestK_good (fun k s c nx n h => (hD.heads k s c nx n h).2.2.2.2)
  have HK : Hid (∀ k, okN ((bestK A k).2 : Nat)) := bestK_ok (fun k s c nx n h => (hD.heads k s c nx n h).1)
  have HSO : Hid (∀ k, okN ((slotM A k).2 : Nat)) := fun k => slotM_ok (fun s c nx n h => (hD.heads k s c nx n h).1)
  have HL0 : Hid (LW w w.heap.size gd A false 0 0 ⟨0, 1, []⟩ (.slice none 0 0) (w.alloc (.cells #[.pointer (some ⟨gd, 0, none⟩), .bool false, .int .i64 0, .int .i64 0, .int .i64 0, .int .i64 1, .slice none 0 0] 111))) := by
    have hb : Below w.heap.size w (w.alloc (.cells #[.pointer (some ⟨gd, 0, none⟩), .bool false, .int .i64 0, .int .i64 0, .int .i64 0, .int .i64 1, .slice none 0 0] 111)) := (Below.refl _ _).alloc (Nat.le_refl _) _
    refine ⟨hD.on hb, hL.below hb, ⟨?_, ?_, ?_, ?_, ?_, ?_, ?_, fun i => World.frozen?_alloc_at _ _ _ _ rfl, Fams.nil _ _, by simp⟩, hD.lt, olds_of hL, hb⟩ <;> exact (World.cell?_alloc_at _ _ _ _ rfl).trans rfl
  clear hD hL
  go_enter Tryz.func12, Tryz.ntmps12
  go_wp2_with fail
  generalize w.alloc _ = W0 at *
  go_loopg [15] 2 (fun gk iv wr => ∃ (k : Nat) (v1 : Value), k + gk = 2 ∧ iv = .int .i64 k ∧ Hid (LW w w.heap.size gd A false (bestK A k).2 0 (bestK A k).1 v1 wr))
  case atStart => exact ⟨0, _, rfl, rfl, HL0⟩
  case round =>
    obtain ⟨k, v1, hj, rfl, HLW⟩ := hrel
    have HJ : Hid (k + gk = 2) := hj
    clear hj HL0
    by_cases hlt : k < 2
    · have hltI : (k : Int) < 2 := by omega
      have hrs := fun (W : World) (hw : LW w w.heap.size gd A false (bestK A k).2 0 (bestK A k).1 v1 W) => readSlot_is gd A k hlt W hw.disk hw.libs
      have HBK : Hid (bestK A (k + 1) = best (bestK A k) (slotM A k)) := rfl
      have HO1 : Hid (okN ((bestK A k).2 : Nat)) := HK.out k
      have HO2 : Hid (okN ((slotM A k).2 : Nat)) := HSO.out k
      generalize hBN0 : bestK A (k + 1) = BN at *
      have HBN0 : Hid (bestK A (k + 1) = BN) := hBN0
      clear hBN0
      generalize bestK A k = B0 at *
      generalize slotM A k = SM at *
      obtain ⟨bst, bn⟩ := B0
      obtain ⟨sst, sn⟩ := SM
      simp only at hrs HO1 HO2
      obtain ⟨ba, ca, rfl⟩ := RowsK.slice HLW.out.store.fam
      go_wp2_with fail
      refine (hrs _ HLW.out).mono ?_
      rintro e1 w1 ⟨v2, rfl, hf, hb1⟩
      obtain ⟨b2, c2, rfl⟩ := RowsK.slice hf
      have HLW1 : Hid _ := HLW.out.on hb1
      have HF1 : Hid (Fams (w.heap.size + 1) w1 (.slice b2 sst.fams.length c2) sst.fams) := RowsK.mono hf HLW.out.store.lt
      clear hf hb1 hrs HLW
      unfold stV
      have HLW2 : Hid _ := HLW1.out.on (w' := w1.alloc (.cells #[.int .i64 sst.clock, .int .i64 sst.next, .slice b2 sst.fams.length c2] 36)) ((Below.refl _ _).alloc (Nat.le_refl _) _)
      have HF2 : Hid (Fams (w.heap.size + 1) (w1.alloc (.cells #[.int .i64 sst.clock, .int .i64 sst.next, .slice b2 sst.fams.length c2] 36)) (.slice b2 sst.fams.length c2) sst.fams) := RowsK.below HF1.out ((Below.refl _ _).alloc (Nat.le_refl _) _) (Nat.le_refl _)
      have p2 := HLW2.out.store.p2
      have p4 := HLW2.out.store.p4
      have p5 := HLW2.out.store.p5
      have p6 := HLW2.out.store.p6
      have pf := HLW2.out.store.pf
      by_cases hlts : bn < sn
      · have hsI : (bn : Int) < (sn : Int) := by omega
        have HBN : Hid (BN = (sst, sn)) := by show BN = _; rw [HBK.out]; unfold best; simp only [if_pos hlts]
        have HNEW : Hid _ := (HLW2.out.over (below3 w.heap.size 4 5 6 (.int .i64 sst.clock) (.int .i64 sst.next) (.slice b2 sst.fams.length c2) _) (HLW2.out.store.putState HF2.out))
        have HNEW2 : Hid _ := HNEW.out.over (below1 w.heap.size 2 (.int .i64 sn) _) (HNEW.out.store.putSaves (sv' := sn))
        clear hlts
        go_wp2_with fail
        go_roundg (gk - 1)
        case measure => have := HJ.out; omega
        case rel => exact ⟨k + 1, _, by have := HJ.out; omega, by go_num, by rw [HBN0.out, HBN.out]; exact HNEW2.out⟩
      · have hsI : ¬ (bn : Int) < (sn : Int) := by omega
        have HBN : Hid (BN = (bst, bn)) := by show BN = _; rw [HBK.out]; unfold best; simp only [if_neg hlts]
        clear hlts
        go_wp2_with fail
        go_roundg (gk - 1)
        case measure => have := HJ.out; omega
        case rel => exact ⟨k + 1, _, by have := HJ.out; omega, by go_num, by rw [HBN0.out, HBN.out]; exact HLW2.out⟩
    · obtain rfl : k = 2 := by have := HJ.out; omega
      have hlog := fun (W : World) (hw : LW W w.heap.size gd A false (bestK A 2).2 0 (bestK A 2).1 v1 W) => readLog_is w.heap.size gd A false (bestK A 2).2 (bestK A 2).1 v1 W (HK.out 2) (HG.out 2).1 (HG.out 2).2 hw
      have HSELF : Hid (LW wr w.heap.size gd A false (bestK A 2).2 0 (bestK A 2).1 v1 wr) := ⟨HLW.out.disk, HLW.out.libs, HLW.out.store, HLW.out.ord, HLW.out.olds, Below.refl _ _⟩
      go_wp2_with fail
      refine (hlog _ HSELF.out).mono ?_
      rintro e2 w2 ⟨rfl, v', hlw⟩
      have HFIN : Hid (LW w w.heap.size gd A false (openM A).2.1 (openM A).2.2 (openM A).1 v' w2) := by
        rw [openM_is]
        exact ⟨hlw.disk, hlw.libs, hlw.store, hlw.ord, hlw.olds, HLW.out.below.trans hlw.below⟩
      clear hlw hlog
      go_wp2_with fail
      go_ret2
      exact ⟨_, _, rfl, Nat.le_refl _, HFIN.out⟩
end Go.Proofs.YtlailakofhenkabGreatDoor

namespace Go.Proofs.YtlailakofhenkabGreatDoor
open Go Go.RowKit Tok Sc Ev
def offB (c : Bool) (l : Int) : Bool := c && (l == 0)
theorem diskWrite_off (g : Nat) (F : Int → ByteArray) (n : Int) (c : Bool) (l : Int) (k : Nat) (s : ByteArray) (w : World) (h : IsDisk w g F n c l) (hk : k < 90) (hs : s.size ≤ 240) (ho : offB c l = true) : Calls Tryz.prog 116 #[.pointer (some ⟨g, 0, none⟩), .int .i64 k, .string s] w fun e w' => e = .returned (.iface 47 (.int .i64 14)) ∧ w' = w := by
  unfold offB at ho
  simp only [Bool.and_eq_true, beq_iff_eq] at ho
  obtain ⟨rfl, rfl⟩ := ho
  exact write_off g F n k s w h ⟨by omega, by omega⟩ (by omega)
theorem diskWrite_on (g : Nat) (F : Int → ByteArray) (n : Int) (c : Bool) (l : Int) (k : Nat) (s : ByteArray) (w : World) (h : IsDisk w g F n c l) (hg : g < w.heap.size) (hk : k < 90) (hs : s.size ≤ 240) (ho : offB c l = false) (hl : c = true → 0 ≤ l ∧ l ≤ 9223372036854775807) (hn0 : 0 ≤ n) (hn : n < 100000) :
    Calls Tryz.prog 116 #[.pointer (some ⟨g, 0, none⟩), .int .i64 k, .string s] w fun e w' => e = .returned .nilIface ∧ (∃ l', IsDisk w' g (upd F k s) (n + 1) c l' ∧ (c = true → l' = l - 1)) ∧ w.grownBy w' (some g) := by
  cases c with
  | false =>
    refine (write_plain g F n l k s w h hg hk (by omega) hn0 hn).mono ?_
    rintro e w' ⟨rfl, h1, h2⟩
    exact ⟨rfl, ⟨l, h1, fun hc => by cases hc⟩, h2⟩
  | true =>
    have hl' := hl rfl
    have hl0 : l ≠ 0 := by
      intro e
      subst e
      simp [offB] at ho
    refine (write_cut g F n l k s w h (by omega) hl'.2 hg hk (by omega) hn0 hn).mono ?_
    rintro e w' ⟨rfl, h1, h2⟩
    exact ⟨rfl, ⟨_, h1, fun _ => rfl⟩, h2⟩
structure DS (w0 : World) (gs gd : Nat) (A : AD) (n : Nat) (c : Bool) (l : Int) (dn : Bool) (sv lg : Nat) (st : St) (v : Value) (w : World) : Prop where
  disk : ∃ F l', IsDisk w gd F (n : Int) c l' ∧ (c = true → l' = l) ∧ EncF tag0 F A
  libs : LibsA w
  err : ErrVar w
  store : StoreAt w gs gd dn sv lg st v
  ord : gd < gs
  olds : Olds gd
  oldE : 0 < gd
  keep : Keep [gd, gs] w0 w
  was : gs < w0.heap.size
theorem DS.gdlt {w0 : World} {gs gd : Nat} {A : AD} {n : Nat} {c : Bool} {l : Int} {dn : Bool} {sv lg : Nat} {st : St} {v : Value} {w : World} (h : DS w0 gs gd A n c l dn sv lg st v w) : gd < w.heap.size := Nat.lt_trans h.ord h.store.lt
theorem DS.on {w0 : World} {gs gd : Nat} {A : AD} {n : Nat} {c : Bool} {l : Int} {dn : Bool} {sv lg : Nat} {st : St} {v : Value} {w w' : World} (h : DS w0 gs gd A n c l dn sv lg st v w) (hb : Below w.heap.size w w') : DS w0 gs gd A n c l dn sv lg st v w' := by
  obtain ⟨F, l', h1, h2, h3⟩ := h.disk
  exact ⟨⟨F, l', h1.below hb h.gdlt, h2, h3⟩, h.libs.below hb, h.err.on hb, h.store.on hb, h.ord, h.olds, h.oldE, h.keep.then hb, h.was⟩
theorem StoreAt.keep {w w' : World} {gs gd : Nat} {dn : Bool} {sv lg : Nat} {st : St} {v : Value} (h : StoreAt w gs gd dn sv lg st v) (hk : Keep [gd] w w') (ho : gd < gs) : StoreAt w' gs gd dn sv lg st v := by
  have hn : gs ∉ [gd] := by simp; omega
  have hc : ∀ i, w'.cell? ⟨gs, i, none⟩ = w.cell? ⟨gs, i, none⟩ := fun i => hk.cell (p := ⟨gs, i, none⟩) h.lt hn
  exact ⟨(hc 0).trans h.p0, (hc 1).trans h.p1, (hc 2).trans h.p2, (hc 3).trans h.p3, (hc 4).trans h.p4, (hc 5).trans h.p5, (hc 6).trans h.p6, fun i => (hk.frozen (p := ⟨gs, i, none⟩) h.lt hn).trans (h.pf i), hk.rows h.fam (fun x hx => by simp at hx; omega), Nat.lt_of_lt_of_le h.lt hk.size⟩
theorem DS.wrote {w0 : World} {gs gd : Nat} {A A' : AD} {n n' : Nat} {c : Bool} {l l1 : Int} {dn : Bool} {sv lg : Nat} {st : St} {v : Value} {w w' : World} (h : DS w0 gs gd A n c l dn sv lg st v w) (hg : w.grownBy w' (some gd)) (hd : ∃ F l', IsDisk w' gd F (n' : Int) c l' ∧ (c = true → l' = l1) ∧ EncF tag0 F A') : DS w0 gs gd A' n' c l1 dn sv lg st v w' := by
  have hk := Keep.grown hg
  have hb : Below gd w w' := hk.below (Nat.le_of_lt h.gdlt) (fun x hx => by simp at hx; omega)
  refine ⟨hd, h.libs.belowB hb h.olds, (hb.cell (p := ⟨0, 0, none⟩) h.oldE).trans h.err, h.store.keep hk h.ord, h.ord, h.olds, h.oldE, h.keep.trans (hk.mono (fun x hx => by simp at hx; simp [hx])), h.was⟩
theorem DS.own {w0 : World} {gs gd : Nat} {A : AD} {n : Nat} {c : Bool} {l : Int} {dn dn' : Bool} {sv sv' lg lg' : Nat} {st st' : St} {v v' : Value} {w w' : World} (h : DS w0 gs gd A n c l dn sv lg st v w) (hb : Below gs w w') (hk : Keep [gs] w w') (hs : StoreAt w' gs gd dn' sv' lg' st' v') : DS w0 gs gd A n c l dn' sv' lg' st' v' w' := by
  obtain ⟨F, l', h1, h2, h3⟩ := h.disk
  exact ⟨⟨F, l', h1.below hb h.ord, h2, h3⟩, h.libs.belowB hb (h.olds.mono (Nat.le_of_lt h.ord)), (hb.cell (p := ⟨0, 0, none⟩) (Nat.lt_trans h.oldE h.ord)).trans h.err, hs, h.ord, h.olds, h.oldE, h.keep.trans (hk.mono (fun x hx => by simp at hx; simp [hx])), h.was⟩
theorem keep1 (gs i : Nat) (a : Value) (w : World) : Keep [gs] w (w.setCell ⟨gs, i, none⟩ a) := (Keep.refl _ w).setCell (p := ⟨gs, i, none⟩) (.inl (by simp)) a
theorem DS.putDown {w0 : World} {gs gd : Nat} {A : AD} {n : Nat} {c : Bool} {l : Int} {dn : Bool} {sv lg : Nat} {st : St} {v : Value} {w : World} (h : DS w0 gs gd A n c l dn sv lg st v w) (dn' : Bool) : DS w0 gs gd A n c l dn' sv lg st v (w.setCell ⟨gs, 1, none⟩ (.bool dn')) :=
  h.own (below1 gs 1 _ w) (keep1 gs 1 _ w) h.store.putDown
set_option maxRecDepth 100000 in
set_option maxHeartbeats 8000000 in
theorem writeS_off (w0 : World) (gs gd : Nat) (A : AD) (n : Nat) (c : Bool) (l : Int) (dn : Bool) (sv lg : Nat) (st : St) (v : Value) (k : Nat) (xs : List ByteArray) (b cp : Nat) (w : World) (h : DS w0 gs gd A n c l dn sv lg st v w) (hk : k < 90) (hw : WordsAt w b xs) (hx : xs.length ≤ 10) (hc : xs.length ≤ cp) (hl : (Lib.join (xs.map (·.data.toList)) [32]).length ≤ 220) (ho : offB c l = true) :
    Calls Tryz.prog 56 #[.pointer (some ⟨gs, 0, none⟩), .int .i64 k, .slice (some ⟨b, 0, none⟩) xs.length cp] w fun r w' => r = .returned (.iface 47 (.int .i64 14)) ∧ DS w0 gs gd A n c l true sv lg st v w' := by
  obtain ⟨T, hT⟩ : ∃ T, T = Lib.join (xs.map (·.data.toList)) [32] := ⟨_, rfl⟩
  have hse := seal_is xs b cp w.drew (show WordsAt w.drew b xs from hw) hx hc (by omega)
  rw [← hT] at hse hl
  have hlen : (bs8 (sealL tag0 T)).size ≤ 240 := by rw [bsize, seal_len tagOk0]; omega
  have hwr : ∀ (W : World), DS w0 gs gd A n c l dn sv lg st v W → Calls Tryz.prog 116 #[.pointer (some ⟨gd, 0, none⟩), .int .i64 k, .string (bs8 (sealL tag0 T))] W fun e w' => e = .returned (.iface 47 (.int .i64 14)) ∧ w' = W := fun W hW => by
    obtain ⟨F, l', h1, h2, h3⟩ := hW.disk
    refine diskWrite_off gd F n c l' k _ W h1 hk hlen ?_
    unfold offB at ho ⊢
    cases c with
    | false => cases ho
    | true => rw [h2 rfl]; exact ho
  generalize bs8 (sealL tag0 T) = X at *
  have H0 : Hid (DS w0 gs gd A n c l dn sv lg st v w) := h
  have hXL : Hid (xs.length ≤ cp) := hc
  clear h hw hT hl hlen ho hk hx hc
  generalize xs.length = XL at *
  go_enter Tryz.func56, Tryz.ntmps56
  go_upto_region 1 with fail
  have hS0 : DS w0 gs gd A n c l dn sv lg st v w.drew := H0.out.on (Below.refl _ _).drew
  refine RegD.wp_region_D (fun w' => DS w0 gs gd A n c l dn sv lg st v w') 7 (by kernel_rfl) hS0 (fun hHeld => ?_)
  clear hS0
  refine RegD.wpAnyD_take 0 (oi := ?oi0) (v := .pointer (some ⟨gs, 0, none⟩)) ?hi0 ?hB0 ?hQ0 ?hy0 hHeld ?rest0
  case hi0 => rfl
  case hB0 => kernel_rfl
  case hQ0 => exact fun _ _ _ h => h
  case hy0 => exact .inl ⟨by rfl, fun W hW => by
    go_simp⟩
  simp only [Act.put, List.setIfInBounds_toArray, List.set_cons_zero, List.set_cons_succ]
  refine RegD.wpAnyD_take 1 (oi := ?oi1) (v := .pointer (some ⟨gs, 0, none⟩)) ?hi1 ?hB1 ?hQ1 ?hy1 hHeld ?rest1
  case hi1 => rfl
  case hB1 => kernel_rfl
  case hQ1 => exact fun _ _ _ h => h
  case hy1 => exact .inl ⟨by rfl, fun W hW => by
    go_simp⟩
  simp only [Act.put, List.setIfInBounds_toArray, List.set_cons_zero, List.set_cons_succ]
  refine RegD.wpAnyD_take 2 (oi := ?oi2) (v := .pointer (some ⟨gs, 0, none⟩)) ?hi2 ?hB2 ?hQ2 ?hy2 hHeld ?rest2
  case hi2 => rfl
  case hB2 => kernel_rfl
  case hQ2 => exact fun _ _ _ h => h
  case hy2 => exact .inl ⟨by rfl, fun W hW => by
    go_simp⟩
  simp only [Act.put, List.setIfInBounds_toArray, List.set_cons_zero, List.set_cons_succ]
  refine RegD.wpAnyD_take 3 (oi := ?oi3) (v := .pointer (some ⟨gd, 0, none⟩)) ?hi3 ?hB3 ?hQ3 ?hy3 hHeld ?rest3
  case hi3 => rfl
  case hB3 => kernel_rfl
  case hQ3 => exact fun _ _ _ h => h
  case hy3 => exact .inl ⟨by rfl, fun W hW => by
    have a0 := hW.store.p0
    go_simp⟩
  simp only [Act.put, List.setIfInBounds_toArray, List.set_cons_zero, List.set_cons_succ]
  refine RegD.wpAnyD_take 4 (oi := ?oi4) (v := .int .i64 k) ?hi4 ?hB4 ?hQ4 ?hy4 hHeld ?rest4
  case hi4 => rfl
  case hB4 => kernel_rfl
  case hQ4 => exact fun _ _ _ h => h
  case hy4 => exact .inl ⟨by rfl, fun W hW => by
    go_simp⟩
  simp only [Act.put, List.setIfInBounds_toArray, List.set_cons_zero, List.set_cons_succ]
  refine RegD.wpAnyD_take 5 (oi := ?oi5) (v := .slice (some ⟨b, 0, none⟩) XL cp) ?hi5 ?hB5 ?hQ5 ?hy5 hHeld ?rest5
  case hi5 => rfl
  case hB5 => kernel_rfl
  case hQ5 => exact fun _ _ _ h => h
  case hy5 => exact .inl ⟨by rfl, fun W hW => by
    go_simp⟩
  simp only [Act.put, List.setIfInBounds_toArray, List.set_cons_zero, List.set_cons_succ]
  refine RegD.wpAnyD_one 6 (o := ?o6) ?ho6 ?hr6 ?h6
  case ho6 => rfl
  case hr6 => kernel_rfl
  intro K hK
  go_simp
  go_at_call 117
  refine hse.mono ?_
  rintro e1 w1 ⟨rfl, hb1⟩
  go_wp2_with fail
  have hS6 := hHeld.on hb1
  refine hK.out _ _ hS6 ?_
  clear hK hHeld
  intro hHeld
  clear hS6 K
  refine RegD.wpAnyD_late 7 (o := ?o7) ?ho7 ?hr7 ?hd7 ?h7
  case ho7 => rfl
  case hr7 => kernel_rfl
  case hd7 => kernel_rfl
  intro K hK
  go_simp
  go_at_call 116
  refine (hwr _ hHeld).mono ?_
  rintro e2 w2 ⟨rfl, rfl⟩
  have H2 : Hid (DS w0 gs gd A n c l dn sv lg st v w2) := hHeld
  clear hHeld
  go_wp2_with fail
  refine hK.out _ _ ?_
  clear hK K
  refine RegD.wpAnyD_late 8 (o := ?o8) ?ho8 ?hr8 ?hd8 ?h8
  case ho8 => rfl
  case hr8 => kernel_rfl
  case hd8 => kernel_rfl
  intro K hK
  go_simp
  refine hK.out _ _ ?_
  clear hK K
  refine RegD.wpAnyD_done (by kernel_rfl) ?_ _
  go_wp2_with fail
  refine (tell_err 14 _ H2.out.err).mono ?_
  rintro e3 w3 ⟨rfl, hb3⟩
  have H3 : Hid (DS w0 gs gd A n c l dn sv lg st v w3) := H2.out.on hb3
  have p1 := H3.out.store.p1
  have pf := H3.out.store.pf
  clear hb3
  have HF : Hid _ := H3.out.putDown true
  go_wp2_with fail
  go_ret
  exact ⟨rfl, HF.out⟩
set_option maxRecDepth 100000 in
set_option maxHeartbeats 8000000 in
theorem writeS_on (w0 : World) (gs gd : Nat) (A A' : AD) (n : Nat) (c : Bool) (l : Int) (dn : Bool) (sv lg : Nat) (st : St) (v : Value) (k : Nat) (xs : List ByteArray) (b cp : Nat) (w : World) (h : DS w0 gs gd A n c l dn sv lg st v w) (hk : k < 90) (hw : WordsAt w b xs) (hx : xs.length ≤ 10) (hc : xs.length ≤ cp) (hl : (Lib.join (xs.map (·.data.toList)) [32]).length ≤ 220) (ho : offB c l = false) (hl2 : c = true → 0 ≤ l ∧ l ≤ 9223372036854775807) (hn : n < 100000) (hE : ∀ F F' : Int → ByteArray, EncF tag0 F A → F' k = bs8 (sealL tag0 (Lib.join (xs.map (·.data.toList)) [32])) → (∀ j : Int, j ≠ k → F' j = F j) → EncF tag0 F' A') :
    Calls Tryz.prog 56 #[.pointer (some ⟨gs, 0, none⟩), .int .i64 k, .slice (some ⟨b, 0, none⟩) xs.length cp] w fun r w' => r = .returned .nilIface ∧ DS w0 gs gd A' (n + 1) c (l - 1) false sv lg st v w' := by
  obtain ⟨T, hT⟩ : ∃ T, T = Lib.join (xs.map (·.data.toList)) [32] := ⟨_, rfl⟩
  have hse := seal_is xs b cp w.drew (show WordsAt w.drew b xs from hw) hx hc (by omega)
  rw [← hT] at hse hl hE
  have hlen : (bs8 (sealL tag0 T)).size ≤ 240 := by rw [bsize, seal_len tagOk0]; omega
  have hwr : ∀ (W : World), DS w0 gs gd A n c l dn sv lg st v W → Calls Tryz.prog 116 #[.pointer (some ⟨gd, 0, none⟩), .int .i64 k, .string (bs8 (sealL tag0 T))] W fun e w' => e = .returned .nilIface ∧ DS w0 gs gd A' (n + 1) c (l - 1) dn sv lg st v w' := fun W hW => by
    obtain ⟨F, l', h1, h2, h3⟩ := hW.disk
    refine (diskWrite_on gd F n c l' k _ W h1 hW.gdlt hk hlen ?_ ?_ (by omega) (by omega)).mono ?_
    · unfold offB at ho ⊢
      cases c with
      | false => rfl
      | true => rw [h2 rfl]; exact ho
    · intro hcc
      rw [h2 hcc]
      exact hl2 hcc
    · rintro e w' ⟨rfl, ⟨l1, q1, q2⟩, q3⟩
      refine ⟨rfl, hW.wrote q3 ⟨_, l1, by push_cast; exact q1, fun hcc => by rw [q2 hcc, h2 hcc], hE F _ h3 (by unfold upd; simp) (fun j hj => by unfold upd; simp [hj])⟩⟩
  generalize bs8 (sealL tag0 T) = X at *
  have H0 : Hid (DS w0 gs gd A n c l dn sv lg st v w) := h
  have hXL : Hid (xs.length ≤ cp) := hc
  clear h hw hT hl hlen ho hk hx hc hl2 hn hE
  generalize xs.length = XL at *
  go_enter Tryz.func56, Tryz.ntmps56
  go_upto_region 1 with fail
  have hS0 : DS w0 gs gd A n c l dn sv lg st v w.drew := H0.out.on (Below.refl _ _).drew
  refine RegD.wp_region_D (fun w' => DS w0 gs gd A n c l dn sv lg st v w') 7 (by kernel_rfl) hS0 (fun hHeld => ?_)
  clear hS0
  refine RegD.wpAnyD_take 0 (oi := ?oi0) (v := .pointer (some ⟨gs, 0, none⟩)) ?hi0 ?hB0 ?hQ0 ?hy0 hHeld ?rest0
  case hi0 => rfl
  case hB0 => kernel_rfl
  case hQ0 => exact fun _ _ _ h => h
  case hy0 => exact .inl ⟨by rfl, fun W hW => by
    go_simp⟩
  simp only [Act.put, List.setIfInBounds_toArray, List.set_cons_zero, List.set_cons_succ]
  refine RegD.wpAnyD_take 1 (oi := ?oi1) (v := .pointer (some ⟨gs, 0, none⟩)) ?hi1 ?hB1 ?hQ1 ?hy1 hHeld ?rest1
  case hi1 => rfl
  case hB1 => kernel_rfl
  case hQ1 => exact fun _ _ _ h => h
  case hy1 => exact .inl ⟨by rfl, fun W hW => by
    go_simp⟩
  simp only [Act.put, List.setIfInBounds_toArray, List.set_cons_zero, List.set_cons_succ]
  refine RegD.wpAnyD_take 2 (oi := ?oi2) (v := .pointer (some ⟨gs, 0, none⟩)) ?hi2 ?hB2 ?hQ2 ?hy2 hHeld ?rest2
  case hi2 => rfl
  case hB2 => kernel_rfl
  case hQ2 => exact fun _ _ _ h => h
  case hy2 => exact .inl ⟨by rfl, fun W hW => by
    go_simp⟩
  simp only [Act.put, List.setIfInBounds_toArray, List.set_cons_zero, List.set_cons_succ]
  refine RegD.wpAnyD_take 3 (oi := ?oi3) (v := .pointer (some ⟨gd, 0, none⟩)) ?hi3 ?hB3 ?hQ3 ?hy3 hHeld ?rest3
  case hi3 => rfl
  case hB3 => kernel_rfl
  case hQ3 => exact fun _ _ _ h => h
  case hy3 => exact .inl ⟨by rfl, fun W hW => by
    have a0 := hW.store.p0
    go_simp⟩
  simp only [Act.put, List.setIfInBounds_toArray, List.set_cons_zero, List.set_cons_succ]
  refine RegD.wpAnyD_take 4 (oi := ?oi4) (v := .int .i64 k) ?hi4 ?hB4 ?hQ4 ?hy4 hHeld ?rest4
  case hi4 => rfl
  case hB4 => kernel_rfl
  case hQ4 => exact fun _ _ _ h => h
  case hy4 => exact .inl ⟨by rfl, fun W hW => by
    go_simp⟩
  simp only [Act.put, List.setIfInBounds_toArray, List.set_cons_zero, List.set_cons_succ]
  refine RegD.wpAnyD_take 5 (oi := ?oi5) (v := .slice (some ⟨b, 0, none⟩) XL cp) ?hi5 ?hB5 ?hQ5 ?hy5 hHeld ?rest5
  case hi5 => rfl
  case hB5 => kernel_rfl
  case hQ5 => exact fun _ _ _ h => h
  case hy5 => exact .inl ⟨by rfl, fun W hW => by
    go_simp⟩
  simp only [Act.put, List.setIfInBounds_toArray, List.set_cons_zero, List.set_cons_succ]
  refine RegD.wpAnyD_one 6 (o := ?o6) ?ho6 ?hr6 ?h6
  case ho6 => rfl
  case hr6 => kernel_rfl
  intro K hK
  go_simp
  go_at_call 117
  refine hse.mono ?_
  rintro e1 w1 ⟨rfl, hb1⟩
  go_wp2_with fail
  have hS6 := hHeld.on hb1
  refine hK.out _ _ hS6 ?_
  clear hK hHeld
  intro hHeld
  clear hS6 K
  refine RegD.wpAnyD_late 7 (o := ?o7) ?ho7 ?hr7 ?hd7 ?h7
  case ho7 => rfl
  case hr7 => kernel_rfl
  case hd7 => kernel_rfl
  intro K hK
  go_simp
  go_at_call 116
  refine (hwr _ hHeld).mono ?_
  rintro e2 w2 ⟨rfl, hds⟩
  have H2 : Hid (DS w0 gs gd A' (n + 1) c (l - 1) dn sv lg st v w2) := hds
  clear hds
  clear hHeld
  go_wp2_with fail
  refine hK.out _ _ ?_
  clear hK K
  refine RegD.wpAnyD_late 8 (o := ?o8) ?ho8 ?hr8 ?hd8 ?h8
  case ho8 => rfl
  case hr8 => kernel_rfl
  case hd8 => kernel_rfl
  intro K hK
  go_simp
  refine hK.out _ _ ?_
  clear hK K
  refine RegD.wpAnyD_done (by kernel_rfl) ?_ _
  go_wp2_with fail
  refine (tell_nil _).mono ?_
  rintro e3 w3 ⟨rfl, rfl⟩
  have H3 : Hid (DS w0 gs gd A' (n + 1) c (l - 1) dn sv lg st v w3) := H2.out
  have p1 := H3.out.store.p1
  have pf := H3.out.store.pf
  have HF : Hid _ := H3.out.putDown false
  go_wp2_with fail
  go_ret
  exact ⟨rfl, HF.out⟩
end Go.Proofs.YtlailakofhenkabGreatDoor

namespace Go.Proofs.YtlailakofhenkabGreatDoor
open Go Go.RowKit Tok Sc Ev
set_option maxRecDepth 100000 in
set_option maxHeartbeats 8000000 in
theorem writeHead_gen (R : Value) (Q : World → Prop) (w0 : World) (gs gd : Nat) (A : AD) (n : Nat) (c : Bool) (l : Int) (dn : Bool) (sv lg : Nat) (st : St) (v : Value) (k s : Nat) (w : World) (h : DS w0 gs gd A n c l dn sv lg st v w) (hg : Ev.Good st) (hs : okN s)
    (hwr : ∀ (b : Nat) (W : World), DS w0 gs gd A n c l dn sv lg st v W → WordsAt W b ((hdWs s st.clock st.next st.fams.length).map bs8) → Calls Tryz.prog 56 #[.pointer (some ⟨gs, 0, none⟩), .int .i64 k, .slice (some ⟨b, 0, none⟩) 4 4] W fun r w' => r = .returned R ∧ Q w') :
    Calls Tryz.prog 58 #[.pointer (some ⟨gs, 0, none⟩), .int .i64 k, .int .i64 s] w fun r w' => r = .returned R ∧ Q w' := by
  have i0 := fun (W : World) (hW : LibsE W) => itoaE_is s W hs.1 (by have := hs.2; omega) hW
  have i1 := fun (W : World) (hW : LibsE W) => itoaE_is st.clock W hg.clock.1 (by have := hg.clock.2; omega) hW
  have i2 := fun (W : World) (hW : LibsE W) => itoaE_is st.next W (by have := hg.next0; omega) (by have := hg.next1; omega) hW
  have i3 := fun (W : World) (hW : LibsE W) => itoaE_is (st.fams.length : Int) W (by omega) (by have := hg.len; omega) hW
  obtain ⟨ba, ca, rfl⟩ := RowsK.slice h.store.fam
  have H0 : Hid (DS w0 gs gd A n c l dn sv lg st (.slice ba st.fams.length ca) w) := h
  clear h hg hs
  go_enter Tryz.func58, Tryz.ntmps58
  go_upto_region 1 with fail
  have hS0 : DS w0 gs gd A n c l dn sv lg st (.slice ba st.fams.length ca) w.drew := H0.out.on (Below.refl _ _).drew
  refine RegD.wp_region_D (fun w' => DS w0 gs gd A n c l dn sv lg st (.slice ba st.fams.length ca) w') 24 (by kernel_rfl) hS0 (fun hHeld => ?_)
  clear hS0
  refine RegD.wpAnyD_take 0 (oi := ?oi0) (v := .pointer (some ⟨gs, 0, none⟩)) ?hi0 ?hB0 ?hQ0 ?hy0 hHeld ?rest0
  case hi0 => rfl
  case hB0 => kernel_rfl
  case hQ0 => exact fun _ _ _ h => h
  case hy0 => exact .inl ⟨by rfl, fun W hW => by
    go_simp⟩
  simp only [Act.put, List.setIfInBounds_toArray, List.set_cons_zero, List.set_cons_succ]
  refine RegD.wpAnyD_take 1 (oi := ?oi1) (v := .int .i64 k) ?hi1 ?hB1 ?hQ1 ?hy1 hHeld ?rest1
  case hi1 => rfl
  case hB1 => kernel_rfl
  case hQ1 => exact fun _ _ _ h => h
  case hy1 => exact .inl ⟨by rfl, fun W hW => by
    go_simp⟩
  simp only [Act.put, List.setIfInBounds_toArray, List.set_cons_zero, List.set_cons_succ]
  refine RegD.wpAnyD_take 2 (oi := ?oi2) (v := .int .i64 s) ?hi2 ?hB2 ?hQ2 ?hy2 hHeld ?rest2
  case hi2 => rfl
  case hB2 => kernel_rfl
  case hQ2 => exact fun _ _ _ h => h
  case hy2 => exact .inl ⟨by rfl, fun W hW => by
    go_simp⟩
  simp only [Act.put, List.setIfInBounds_toArray, List.set_cons_zero, List.set_cons_succ]
  refine RegD.wpAnyD_take 4 (oi := ?oi4) (v := .pointer (some ⟨gs, 0, none⟩)) ?hi4 ?hB4 ?hQ4 ?hy4 hHeld ?rest4
  case hi4 => rfl
  case hB4 => kernel_rfl
  case hQ4 => exact fun _ _ _ h => h
  case hy4 => exact .inl ⟨by rfl, fun W hW => by
    go_simp⟩
  simp only [Act.put, List.setIfInBounds_toArray, List.set_cons_zero, List.set_cons_succ]
  refine RegD.wpAnyD_take 5 (oi := ?oi5) (v := .pointer (some ⟨gs, 0, none⟩)) ?hi5 ?hB5 ?hQ5 ?hy5 hHeld ?rest5
  case hi5 => rfl
  case hB5 => kernel_rfl
  case hQ5 => exact fun _ _ _ h => h
  case hy5 => exact .inl ⟨by rfl, fun W hW => by
    go_simp⟩
  simp only [Act.put, List.setIfInBounds_toArray, List.set_cons_zero, List.set_cons_succ]
  refine RegD.wpAnyD_take 6 (oi := ?oi6) (v := .pointer (some ⟨gs, 4, none⟩)) ?hi6 ?hB6 ?hQ6 ?hy6 hHeld ?rest6
  case hi6 => rfl
  case hB6 => kernel_rfl
  case hQ6 => exact fun _ _ _ h => h
  case hy6 => exact .inl ⟨by rfl, fun W hW => by
    go_simp⟩
  simp only [Act.put, List.setIfInBounds_toArray, List.set_cons_zero, List.set_cons_succ]
  refine RegD.wpAnyD_take 7 (oi := ?oi7) (v := .pointer (some ⟨gs, 4, none⟩)) ?hi7 ?hB7 ?hQ7 ?hy7 hHeld ?rest7
  case hi7 => rfl
  case hB7 => kernel_rfl
  case hQ7 => exact fun _ _ _ h => h
  case hy7 => exact .inl ⟨by rfl, fun W hW => by
    go_simp⟩
  simp only [Act.put, List.setIfInBounds_toArray, List.set_cons_zero, List.set_cons_succ]
  refine RegD.wpAnyD_take 8 (oi := ?oi8) (v := .int .i64 st.clock) ?hi8 ?hB8 ?hQ8 ?hy8 hHeld ?rest8
  case hi8 => rfl
  case hB8 => kernel_rfl
  case hQ8 => exact fun _ _ _ h => h
  case hy8 => exact .inl ⟨by rfl, fun W hW => by
    have a0 := hW.store.p4
    go_simp⟩
  simp only [Act.put, List.setIfInBounds_toArray, List.set_cons_zero, List.set_cons_succ]
  refine RegD.wpAnyD_take 10 (oi := ?oi10) (v := .pointer (some ⟨gs, 0, none⟩)) ?hi10 ?hB10 ?hQ10 ?hy10 hHeld ?rest10
  case hi10 => rfl
  case hB10 => kernel_rfl
  case hQ10 => exact fun _ _ _ h => h
  case hy10 => exact .inl ⟨by rfl, fun W hW => by
    go_simp⟩
  simp only [Act.put, List.setIfInBounds_toArray, List.set_cons_zero, List.set_cons_succ]
  refine RegD.wpAnyD_take 11 (oi := ?oi11) (v := .pointer (some ⟨gs, 0, none⟩)) ?hi11 ?hB11 ?hQ11 ?hy11 hHeld ?rest11
  case hi11 => rfl
  case hB11 => kernel_rfl
  case hQ11 => exact fun _ _ _ h => h
  case hy11 => exact .inl ⟨by rfl, fun W hW => by
    go_simp⟩
  simp only [Act.put, List.setIfInBounds_toArray, List.set_cons_zero, List.set_cons_succ]
  refine RegD.wpAnyD_take 12 (oi := ?oi12) (v := .pointer (some ⟨gs, 4, none⟩)) ?hi12 ?hB12 ?hQ12 ?hy12 hHeld ?rest12
  case hi12 => rfl
  case hB12 => kernel_rfl
  case hQ12 => exact fun _ _ _ h => h
  case hy12 => exact .inl ⟨by rfl, fun W hW => by
    go_simp⟩
  simp only [Act.put, List.setIfInBounds_toArray, List.set_cons_zero, List.set_cons_succ]
  refine RegD.wpAnyD_take 13 (oi := ?oi13) (v := .pointer (some ⟨gs, 5, none⟩)) ?hi13 ?hB13 ?hQ13 ?hy13 hHeld ?rest13
  case hi13 => rfl
  case hB13 => kernel_rfl
  case hQ13 => exact fun _ _ _ h => h
  case hy13 => exact .inl ⟨by rfl, fun W hW => by
    go_simp⟩
  simp only [Act.put, List.setIfInBounds_toArray, List.set_cons_zero, List.set_cons_succ]
  refine RegD.wpAnyD_take 14 (oi := ?oi14) (v := .int .i64 st.next) ?hi14 ?hB14 ?hQ14 ?hy14 hHeld ?rest14
  case hi14 => rfl
  case hB14 => kernel_rfl
  case hQ14 => exact fun _ _ _ h => h
  case hy14 => exact .inl ⟨by rfl, fun W hW => by
    have a0 := hW.store.p5
    go_simp⟩
  simp only [Act.put, List.setIfInBounds_toArray, List.set_cons_zero, List.set_cons_succ]
  refine RegD.wpAnyD_take 16 (oi := ?oi16) (v := .pointer (some ⟨gs, 0, none⟩)) ?hi16 ?hB16 ?hQ16 ?hy16 hHeld ?rest16
  case hi16 => rfl
  case hB16 => kernel_rfl
  case hQ16 => exact fun _ _ _ h => h
  case hy16 => exact .inl ⟨by rfl, fun W hW => by
    go_simp⟩
  simp only [Act.put, List.setIfInBounds_toArray, List.set_cons_zero, List.set_cons_succ]
  refine RegD.wpAnyD_take 17 (oi := ?oi17) (v := .pointer (some ⟨gs, 0, none⟩)) ?hi17 ?hB17 ?hQ17 ?hy17 hHeld ?rest17
  case hi17 => rfl
  case hB17 => kernel_rfl
  case hQ17 => exact fun _ _ _ h => h
  case hy17 => exact .inl ⟨by rfl, fun W hW => by
    go_simp⟩
  simp only [Act.put, List.setIfInBounds_toArray, List.set_cons_zero, List.set_cons_succ]
  refine RegD.wpAnyD_take 18 (oi := ?oi18) (v := .pointer (some ⟨gs, 4, none⟩)) ?hi18 ?hB18 ?hQ18 ?hy18 hHeld ?rest18
  case hi18 => rfl
  case hB18 => kernel_rfl
  case hQ18 => exact fun _ _ _ h => h
  case hy18 => exact .inl ⟨by rfl, fun W hW => by
    go_simp⟩
  simp only [Act.put, List.setIfInBounds_toArray, List.set_cons_zero, List.set_cons_succ]
  refine RegD.wpAnyD_take 19 (oi := ?oi19) (v := .pointer (some ⟨gs, 6, none⟩)) ?hi19 ?hB19 ?hQ19 ?hy19 hHeld ?rest19
  case hi19 => rfl
  case hB19 => kernel_rfl
  case hQ19 => exact fun _ _ _ h => h
  case hy19 => exact .inl ⟨by rfl, fun W hW => by
    go_simp⟩
  simp only [Act.put, List.setIfInBounds_toArray, List.set_cons_zero, List.set_cons_succ]
  refine RegD.wpAnyD_take 20 (oi := ?oi20) (v := .slice ba st.fams.length ca) ?hi20 ?hB20 ?hQ20 ?hy20 hHeld ?rest20
  case hi20 => rfl
  case hB20 => kernel_rfl
  case hQ20 => exact fun _ _ _ h => h
  case hy20 => exact .inl ⟨by rfl, fun W hW => by
    have a0 := hW.store.p6
    go_simp⟩
  simp only [Act.put, List.setIfInBounds_toArray, List.set_cons_zero, List.set_cons_succ]
  refine RegD.wpAnyD_take 21 (oi := ?oi21) (v := .int .i64 st.fams.length) ?hi21 ?hB21 ?hQ21 ?hy21 hHeld ?rest21
  case hi21 => rfl
  case hB21 => kernel_rfl
  case hQ21 => exact fun _ _ _ h => h
  case hy21 => exact .inl ⟨by rfl, fun W hW => by
    go_simp⟩
  simp only [Act.put, List.setIfInBounds_toArray, List.set_cons_zero, List.set_cons_succ]
  refine RegD.wpAnyD_one 3 (o := ?o3) ?ho3 ?hr3 ?h3
  case ho3 => rfl
  case hr3 => kernel_rfl
  intro K hK
  go_simp
  go_at_call 57
  refine (i0 _ hHeld.libs.base).mono ?_
  rintro e1 w1 ⟨rfl, hb1⟩
  go_wp2_with fail
  have hS3 := hHeld.on hb1
  refine hK.out _ _ hS3 ?_
  clear hK hHeld
  intro hHeld
  clear hS3 K
  refine RegD.wpAnyD_one 9 (o := ?o9) ?ho9 ?hr9 ?h9
  case ho9 => rfl
  case hr9 => kernel_rfl
  intro K hK
  go_simp
  go_at_call 57
  refine (i1 _ hHeld.libs.base).mono ?_
  rintro e2 w2 ⟨rfl, hb2⟩
  go_wp2_with fail
  have hS9 := hHeld.on hb2
  refine hK.out _ _ hS9 ?_
  clear hK hHeld
  intro hHeld
  clear hS9 K
  refine RegD.wpAnyD_one 15 (o := ?o15) ?ho15 ?hr15 ?h15
  case ho15 => rfl
  case hr15 => kernel_rfl
  intro K hK
  go_simp
  go_at_call 57
  refine (i2 _ hHeld.libs.base).mono ?_
  rintro e3 w3 ⟨rfl, hb3⟩
  go_wp2_with fail
  have hS15 := hHeld.on hb3
  refine hK.out _ _ hS15 ?_
  clear hK hHeld
  intro hHeld
  clear hS15 K
  refine RegD.wpAnyD_one 22 (o := ?o22) ?ho22 ?hr22 ?h22
  case ho22 => rfl
  case hr22 => kernel_rfl
  intro K hK
  go_simp
  go_at_call 57
  refine (i3 _ hHeld.libs.base).mono ?_
  rintro e4 w4 ⟨rfl, hb4⟩
  go_wp2_with fail
  have hS22 := hHeld.on hb4
  refine hK.out _ _ hS22 ?_
  clear hK hHeld
  intro hHeld
  clear hS22 K
  refine RegD.wpAnyD_one 23 (o := ?o23) ?ho23 ?hr23 ?h23
  case ho23 => rfl
  case hr23 => kernel_rfl
  intro K hK
  go_simp
  have hS23 := hHeld.on (w' := w4.alloc (.cells #[.string ⟨(Lib.itoa s).toArray⟩, .string ⟨(Lib.itoa st.clock).toArray⟩, .string ⟨(Lib.itoa st.next).toArray⟩, .string ⟨(Lib.itoa st.fams.length).toArray⟩] 9)) ((Below.refl _ _).alloc (Nat.le_refl _) _)
  refine hK.out _ _ hS23 ?_
  clear hK hHeld
  intro hHeld
  clear hS23 K
  refine RegD.wpAnyD_late 24 (o := ?o24) ?ho24 ?hr24 ?hd24 ?h24
  case ho24 => rfl
  case hr24 => kernel_rfl
  case hd24 => kernel_rfl
  intro K hK
  go_simp
  go_at_call 56
  refine (hwr _ _ hHeld (wordsAt_new w4 ((hdWs s st.clock st.next st.fams.length).map bs8) _)).mono ?_
  rintro e5 w5 ⟨rfl, hq⟩
  have HQ : Hid (Q w5) := hq
  clear hq hHeld
  go_wp2_with fail
  refine hK.out _ _ ?_
  clear hK K
  refine RegD.wpAnyD_late 25 (o := ?o25) ?ho25 ?hr25 ?hd25 ?h25
  case ho25 => rfl
  case hr25 => kernel_rfl
  case hd25 => kernel_rfl
  intro K hK
  go_simp
  refine hK.out _ _ ?_
  clear hK K
  refine RegD.wpAnyD_done (by kernel_rfl) ?_ _
  go_wp2_with fail
  go_ret
  exact ⟨rfl, HQ.out⟩
end Go.Proofs.YtlailakofhenkabGreatDoor
