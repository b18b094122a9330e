/-
  Own texts put together: SvP1, SvP2, Fmt16, RefTags.
-/
import Derived.Test.YtlailakofhenkabGreatDoorB25
import Derived.Test.YtlailakofhenkabGreatDoorB16
import Derived.Test.YtlailakofhenkabGreatDoorB13
import Derived.Laws.Tables
import Derived.Test.YtlailakofhenkabGreatDoorB14
/-
  A service's small functions: times, bounds, what is old, the first family that is so.
-/

namespace Go.Proofs.YtlailakofhenkabGreatDoor
open Go Go.RowKit Tok Sc Ev
theorem later_min (a b : Int) : laterI a b = min (a + b) 1099511627776 := by
  unfold laterI
  split <;> omega
theorem later_is (a b : Int) (ha : okN a) (hb : okN b) (w : World) : Calls Tryz.prog 82 #[.int .i64 a, .int .i64 b] w fun e w' => e = .returned (.int .i64 (laterI a b)) ∧ w' = w := by
  obtain ⟨a1, a2⟩ := ha
  obtain ⟨b1, b2⟩ := hb
  rw [later_min]
  go_enter Tryz.func82, Tryz.ntmps82
  go_wp2_with fail
  go_ret
  exact ⟨rfl, rfl⟩
theorem inB_is (n : Int) (w : World) : Calls Tryz.prog 64 #[.int .i64 n] w fun e w' => e = .returned (.bool (okB n)) ∧ w' = w := by
  by_cases h0 : 0 ≤ n
  · by_cases h1 : n ≤ 1099511627776
    · have hb : okB n = true := okB_t ⟨h0, h1⟩
      rw [hb]
      clear hb
      go_enter Tryz.func64, Tryz.ntmps64
      go_wp2_with fail
      go_ret
      exact ⟨rfl, rfl⟩
    · have hb : okB n = false := okB_f (fun k => h1 k.2)
      rw [hb]
      clear hb
      go_enter Tryz.func64, Tryz.ntmps64
      go_wp2_with fail
      go_ret
      exact ⟨rfl, rfl⟩
  · have hb : okB n = false := okB_f (fun k => h0 k.1)
    rw [hb]
    clear hb
    go_enter Tryz.func64, Tryz.ntmps64
    go_wp2_with fail
    go_ret
    exact ⟨rfl, rfl⟩
/-- What is asked of a closure that is asked of families. -/
def PredF (g : Nat) (lb : Array Value) (p : Fam → Bool) (w : World) : Prop :=
  ∀ (W : World) (f : Fam), mayF f → Below w.heap.size w W → Calls Tryz.prog g (#[famV f] ++ lb) W fun e w' => e = .returned (.bool (p f)) ∧ Below W.heap.size W w'
theorem find_none_of {l : List Fam} {p : Fam → Bool} (h : ∀ j (hj : j < l.length), p l[j] = false) : l.find? p = none := by
  rw [List.find?_eq_none]
  intro x hx
  obtain ⟨j, hj, rfl⟩ := List.mem_iff_getElem.1 hx
  simp [h j hj]
theorem find_some_of {l : List Fam} {p : Fam → Bool} {k : Nat} (hk : k < l.length) (hp : p l[k] = true) (h : ∀ j (hj : j < l.length), j < k → p l[j] = false) : l.find? p = some l[k] := by
  induction l generalizing k with
  | nil => simp at hk
  | cons x l ih =>
    cases k with
    | zero => simp at hp ⊢; simp [hp]
    | succ k =>
      have h0 := h 0 (by simp) (by omega)
      simp at h0
      rw [List.find?_cons_of_neg (by simp [h0])]
      simp at hp ⊢
      exact ih (by simpa using hk) hp (fun j hj hjk => by have := h (j + 1) (by simpa using hj) (by omega); simpa using this)
set_option maxRecDepth 100000 in
set_option maxHeartbeats 4000000 in
theorem indexF_is {B : Nat} (l : List Fam) (v : Value) (g : Nat) (lb : Array Value) (p : Fam → Bool) (w : World) (hf : Fams B w v l) (hm : ∀ f ∈ l, mayF f) (hl : l.length ≤ 5000) (hp : PredF g lb p w) (eg : ∀ args w, (callFunc g args).run Tryz.prog w = .ok (.enter g args) w) :
    Calls Tryz.prog 138 #[v, .func (.func g) #[] lb] w fun e w' => (∃ k : Int, e = .returned (.int .i64 k) ∧ ((k = -1 ∧ l.find? p = none) ∨ ∃ j : Nat, k = j ∧ ∃ h : j < l.length, l.find? p = some l[j])) ∧ Below w.heap.size w w' := by
  obtain ⟨ba, ca, rfl⟩ := RowsK.slice hf
  have HF : Hid (Fams B w (.slice ba l.length ca) l) := hf
  have HP : Hid (PredF g lb p w) := hp
  have HM : Hid (∀ f ∈ l, mayF f) := hm
  clear hf hp hm
  go_enter Tryz.func138, Tryz.ntmps138
  go_wp2_with fail
  go_loopg [5, 8] l.length (fun gk _ iv wr => ∃ k : Nat, k + gk = l.length ∧ iv = .int .i64 k ∧ Hid (Below w.heap.size w wr) ∧ Hid (∀ j (hj : j < l.length), j < k → p l[j] = false))
  case atStart => exact ⟨0, by omega, rfl, Below.refl _ _, fun j _ h => absurd h (Nat.not_lt_zero _)⟩
  case round =>
    obtain ⟨k, hk, rfl, HB, HA⟩ := hrel
    have HK : Hid (k + gk = l.length) := hk
    clear hk
    by_cases hlt : k < l.length
    · have hltI : (k : Int) < (l.length : Int) := by omega
      have hfw : Fams B wr (.slice ba l.length ca) l := RowsK.below HF.out HB.out (Nat.le_refl _)
      obtain ⟨gr, rfl, hgr, hfa⟩ := hfw.fam k hlt
      clear hfw
      have hcall := HP.out wr l[k] (HM.out _ (List.getElem_mem hlt)) HB.out
      have HE : Hid (∀ b : Bool, p l[k] = b → (b = true → l.find? p = some l[k]) ∧ (b = false → ∀ j (hj : j < l.length), j < k + 1 → p l[j] = false)) := fun b hb => by
        refine ⟨fun h => find_some_of hlt (hb.trans h) HA.out, fun h j hj hjk => ?_⟩
        by_cases e : j = k
        · subst e; exact hb.trans h
        · exact HA.out j hj (by omega)
      have HX : Hid (∃ h : k < l.length, l[k] = l[k]) := ⟨hlt, rfl⟩
      generalize hy : l[k] = y at hcall hfa HE
      have HY : Hid (l[k] = y) := hy
      clear hy
      obtain ⟨y1, y2, y3, y4, y5, y6, y7, y8, y9⟩ := y
      have c0 := hfa.c0; have c1 := hfa.c1; have c2 := hfa.c2; have c3 := hfa.c3; have c4 := hfa.c4; have c5 := hfa.c5; have c6 := hfa.c6; have c7 := hfa.c7; have c8 := hfa.c8
      simp only at c0 c1 c2 c3 c4 c5 c6 c7 c8
      clear hfa
      have HE2 := HE.out _ rfl
      have HE3 : Hid _ := HE2
      clear HE2 HE
      cases hq : p ⟨y1, y2, y3, y4, y5, y6, y7, y8, y9⟩ with
      | true =>
        rw [hq] at hcall HE3
        unfold famV famCs at hcall
        simp only at hcall
        clear hq
        go_wp2_with (go_at_fn g; refine hcall.mono ?_; rintro e w' ⟨rfl, hb'⟩)
        go_ret
        exact ⟨⟨k, rfl, .inr ⟨k, rfl, hlt, by rw [HY.out]; exact HE3.out.1 (by trivial)⟩⟩, HB.out.trans (hb'.mono HB.out.size)⟩
      | false =>
        rw [hq] at hcall HE3
        unfold famV famCs at hcall
        simp only at hcall
        clear hq
        go_wp2_with (go_at_fn g; refine hcall.mono ?_; rintro e w' ⟨rfl, hb'⟩)
        have HB2 : Hid (Below w.heap.size w w') := HB.out.trans (hb'.mono HB.out.size)
        clear hcall c0 c1 c2 c3 c4 c5 c6 c7 c8 hb'
        go_wp2_with fail
        go_roundg (gk - 1)
        case measure => have := HK.out; omega
        case rel => exact ⟨k + 1, by have := HK.out; omega, by go_num, HB2, HE3.out.2 (by trivial)⟩
    · obtain rfl : k = l.length := by have := HK.out; omega
      go_wp2_with fail
      go_ret
      exact ⟨⟨-1, rfl, .inl ⟨rfl, find_none_of (fun j hj => HA.out j hj hj)⟩⟩, HB.out⟩
theorem famZ (w : World) (t : TypeId) : FamAt (w.alloc (.cells #[.int .i64 0, .string ⟨#[]⟩, .string ⟨#[]⟩, .string ⟨#[]⟩, .int .i64 0, .int .i64 0, .int .i64 0, .string ⟨#[]⟩, .bool false] t)) w.heap.size 0 zeroF := famAt_made w zeroF t _ rfl
theorem famAt_cells {w : World} {g : Nat} {f : Fam} (h : FamAt w g 0 f) : w.cell? ⟨g, 0, none⟩ = some (.int .i64 f.id) ∧ w.cell? ⟨g, 1, none⟩ = some (.string f.client) ∧ w.cell? ⟨g, 2, none⟩ = some (.string f.subject) ∧ w.cell? ⟨g, 3, none⟩ = some (.string f.scope) ∧ w.cell? ⟨g, 4, none⟩ = some (.int .i64 f.gen) ∧ w.cell? ⟨g, 5, none⟩ = some (.int .i64 f.made) ∧ w.cell? ⟨g, 6, none⟩ = some (.int .i64 f.used) ∧ w.cell? ⟨g, 7, none⟩ = some (.string f.request) ∧ w.cell? ⟨g, 8, none⟩ = some (.bool f.dead) := by
  have h0 := h.c0; have h1 := h.c1; have h2 := h.c2; have h3 := h.c3; have h4 := h.c4; have h5 := h.c5; have h6 := h.c6; have h7 := h.c7; have h8 := h.c8
  simp only [Nat.zero_add] at h0 h1 h2 h3 h4 h5 h6 h7 h8
  exact ⟨h0, h1, h2, h3, h4, h5, h6, h7, h8⟩
end Go.Proofs.YtlailakofhenkabGreatDoor

/-
  A family in a box; the closure that asks for a family's number; the first family that is so.
-/

namespace Go.Proofs.YtlailakofhenkabGreatDoor
open Go Go.RowKit Tok Sc Ev
/-- A family's box. -/
structure FB (w : World) (g : Nat) (f : Fam) : Prop where
  c0 : w.cell? ⟨g, 0, none⟩ = some (.int .i64 f.id)
  c1 : w.cell? ⟨g, 1, none⟩ = some (.string f.client)
  c2 : w.cell? ⟨g, 2, none⟩ = some (.string f.subject)
  c3 : w.cell? ⟨g, 3, none⟩ = some (.string f.scope)
  c4 : w.cell? ⟨g, 4, none⟩ = some (.int .i64 f.gen)
  c5 : w.cell? ⟨g, 5, none⟩ = some (.int .i64 f.made)
  c6 : w.cell? ⟨g, 6, none⟩ = some (.int .i64 f.used)
  c7 : w.cell? ⟨g, 7, none⟩ = some (.string f.request)
  c8 : w.cell? ⟨g, 8, none⟩ = some (.bool f.dead)
  lt : g < w.heap.size
  fz : ∀ i, w.frozen? ⟨g, i, none⟩ = false
theorem FB.made (w : World) (f : Fam) (t : TypeId) : FB (w.alloc (.cells #[.int .i64 f.id, .string f.client, .string f.subject, .string f.scope, .int .i64 f.gen, .int .i64 f.made, .int .i64 f.used, .string f.request, .bool f.dead] t)) w.heap.size f := by
  obtain ⟨h0, h1, h2, h3, h4, h5, h6, h7, h8⟩ := famAt_cells (famAt_made w f t _ rfl)
  exact ⟨h0, h1, h2, h3, h4, h5, h6, h7, h8, by simp, fun i => World.frozen?_alloc_at _ _ _ _ rfl⟩
theorem FB.keep {l : List Nat} {w w' : World} {g : Nat} {f : Fam} (h : FB w g f) (hk : Keep l w w') (hn : g ∉ l) : FB w' g f := by
  have hc : ∀ i, w'.cell? ⟨g, i, none⟩ = w.cell? ⟨g, i, none⟩ := fun i => hk.cell (p := ⟨g, i, none⟩) h.lt hn
  exact ⟨(hc 0).trans h.c0, (hc 1).trans h.c1, (hc 2).trans h.c2, (hc 3).trans h.c3, (hc 4).trans h.c4, (hc 5).trans h.c5, (hc 6).trans h.c6, (hc 7).trans h.c7, (hc 8).trans h.c8, Nat.lt_of_lt_of_le h.lt hk.size, fun i => (hk.frozen (p := ⟨g, i, none⟩) h.lt hn).trans (h.fz i)⟩
theorem FB.on {w w' : World} {g : Nat} {f : Fam} (h : FB w g f) (hb : Below w.heap.size w w') : FB w' g f := h.keep (Keep.of [] hb) (by simp)
theorem FB.there {w : World} {g : Nat} {f : Fam} (h : FB w g f) : ∀ j, j < 9 → (w.cell? ⟨g, 0 + j, none⟩).isSome = true := by
  intro j hj
  have c0 := h.c0; have c1 := h.c1; have c2 := h.c2; have c3 := h.c3; have c4 := h.c4; have c5 := h.c5; have c6 := h.c6; have c7 := h.c7; have c8 := h.c8
  rw [Nat.zero_add]
  match j, hj with
  | 0, _ => rw [c0]; rfl
  | 1, _ => rw [c1]; rfl
  | 2, _ => rw [c2]; rfl
  | 3, _ => rw [c3]; rfl
  | 4, _ => rw [c4]; rfl
  | 5, _ => rw [c5]; rfl
  | 6, _ => rw [c6]; rfl
  | 7, _ => rw [c7]; rfl
  | 8, _ => rw [c8]; rfl
theorem frozen_setCells (g : Nat) (vs : List Value) : ∀ (o : Nat) (w : World) (a : Addr), (w.setCells g o vs).frozen? a = w.frozen? a := by
  induction vs with
  | nil => intro o w a; rfl
  | cons v vs ih =>
    intro o w a
    show ((w.setCell ⟨g, o, none⟩ v).setCells g (o + 1) vs).frozen? a = _
    rw [ih, World.frozen?_setCell]
/-- The box is written anew. -/
theorem FB.set {w : World} {g : Nat} {f f' : Fam} (h : FB w g f') : FB (w.setCells g 0 (famCs f)) g f := by
  have hq := fun (j : Nat) (hj : j < (famCs f).length) => World.cell?_setCells_in g (famCs f) 0 w h.there j hj
  have hlt : g < (w.setCells g 0 (famCs f)).heap.size := Nat.lt_of_lt_of_le h.lt (below_setCellsW (B := 0) (Nat.zero_le _) _ 0 _).size
  have hc : ∀ (j : Nat) (u : Value), (famCs f)[j]? = some u → (w.setCells g 0 (famCs f)).cell? ⟨g, j, none⟩ = some u := fun j u hj => by
    obtain ⟨h1, h2⟩ := List.getElem?_eq_some_iff.1 hj
    have := hq j h1
    rw [Nat.zero_add, h2] at this
    exact this
  exact ⟨hc 0 _ rfl, hc 1 _ rfl, hc 2 _ rfl, hc 3 _ rfl, hc 4 _ rfl, hc 5 _ rfl, hc 6 _ rfl, hc 7 _ rfl, hc 8 _ rfl, hlt, fun i => by rw [frozen_setCells]; exact h.fz i⟩
theorem PredF.on {g : Nat} {lb : Array Value} {p : Fam → Bool} {w w' : World} (h : PredF g lb p w) (hb : Below w.heap.size w w') : PredF g lb p w' := fun W f hm hW => h W f hm (hb.trans (hW.mono hb.size))
/-- The closure of 'of'. -/
theorem ofPred (i : Int) (B : Nat) (w : World) (hB : B < w.heap.size) (hc : w.cell? ⟨B, 0, none⟩ = some (.int .i64 i)) : PredF 139 #[.pointer (some ⟨B, 0, none⟩)] (isF i) w := fun W f _ hb => by
  have hc' : W.cell? ⟨B, 0, none⟩ = some (.int .i64 i) := (hb.cell (p := ⟨B, 0, none⟩) hB).trans hc
  have hlt : B < W.heap.size := Nat.lt_of_lt_of_le hB hb.size
  obtain ⟨f1, f2, f3, f4, f5, f6, f7, f8, f9⟩ := f
  have HB : Hid (Below W.heap.size W (W.alloc (.cells #[.int .i64 f1, .string f2, .string f3, .string f4, .int .i64 f5, .int .i64 f6, .int .i64 f7, .string f8, .bool f9] 40))) := (Below.refl _ _).alloc (Nat.le_refl _) _
  have hne : B ≠ W.heap.size := by omega
  have he : isF i ⟨f1, f2, f3, f4, f5, f6, f7, f8, f9⟩ = (f1 == i) := by unfold isF; rfl
  rw [he]
  show Calls Tryz.prog 139 #[.agg #[.int .i64 f1, .string f2, .string f3, .string f4, .int .i64 f5, .int .i64 f6, .int .i64 f7, .string f8, .bool f9], .pointer (some ⟨B, 0, none⟩)] W _
  clear he hc hb
  go_enter Tryz.func139, Tryz.ntmps139
  go_wp2_with fail
  go_ret
  exact ⟨rfl, HB.out⟩
theorem of_is (i : Int) (w : World) : Calls Tryz.prog 84 #[.int .i64 i] w fun e w' => e = .returned (.func (.func 139) #[] #[.pointer (some ⟨w.heap.size, 0, none⟩)]) ∧ w' = w.alloc (.cells #[.int .i64 i] 3) := by
  go_enter Tryz.func84, Tryz.ntmps84
  go_wp2_with fail
  go_ret
  exact ⟨rfl, rfl⟩
theorem ofCalls : ∀ args w, (callFunc 139 args).run Tryz.prog w = .ok (.enter 139 args) w := enters_of Tryz.func139 (by kernel_rfl) rfl
def ZF : Array Value := #[.int .i64 0, .string ⟨#[]⟩, .string ⟨#[]⟩, .string ⟨#[]⟩, .int .i64 0, .int .i64 0, .int .i64 0, .string ⟨#[]⟩, .bool false]
set_option maxRecDepth 100000 in
set_option maxHeartbeats 8000000 in
theorem first_is {B : Nat} (l : List Fam) (v : Value) (g : Nat) (lb : Array Value) (p : Fam → Bool) (w : World) (hf : Fams B w v l) (hm : ∀ f ∈ l, mayF f) (hl : l.length ≤ 5000) (hp : PredF g lb p w) (eg : ∀ args w, (callFunc g args).run Tryz.prog w = .ok (.enter g args) w) :
    Calls Tryz.prog 83 #[v, .func (.func g) #[] lb] w fun e w' => e = .returned (.tuple #[famV ((l.find? p).getD zeroF), .bool (l.find? p).isSome]) ∧ Below w.heap.size w w' := by
  obtain ⟨ba, ca, rfl⟩ := RowsK.slice hf
  have HB0 : Hid (Below w.heap.size w (w.alloc (.cells #[.int .i64 0, .string ⟨#[]⟩, .string ⟨#[]⟩, .string ⟨#[]⟩, .int .i64 0, .int .i64 0, .int .i64 0, .string ⟨#[]⟩, .bool false] 40))) := (Below.refl _ _).alloc (Nat.le_refl _) _
  have hf0 : Fams B (w.alloc (.cells #[.int .i64 0, .string ⟨#[]⟩, .string ⟨#[]⟩, .string ⟨#[]⟩, .int .i64 0, .int .i64 0, .int .i64 0, .string ⟨#[]⟩, .bool false] 40)) (.slice ba l.length ca) l := RowsK.below hf HB0.out (Nat.le_refl _)
  have HF0 : Hid _ := hf0
  have HIX : Hid _ := indexF_is l (.slice ba l.length ca) g lb p _ hf0 hm hl (hp.on HB0.out) eg
  have HFB : Hid (FB (w.alloc (.cells #[.int .i64 0, .string ⟨#[]⟩, .string ⟨#[]⟩, .string ⟨#[]⟩, .int .i64 0, .int .i64 0, .int .i64 0, .string ⟨#[]⟩, .bool false] 40)) w.heap.size zeroF) := FB.made w zeroF _
  clear hf hm hp hf0
  cases hq : l.find? p with
  | none =>
    have HQ : Hid (l.find? p = none) := hq
    clear hq
    go_enter Tryz.func83, Tryz.ntmps83
    go_wp2_with fail
    refine Calls.mono HIX.out ?_
    rintro e1 w1 ⟨⟨k, rfl, hk⟩, hb1⟩
    have HF1 : Hid (FB w1 w.heap.size zeroF) := HFB.out.on hb1
    have HB1 : Hid (Below w.heap.size w w1) := HB0.out.trans (hb1.mono HB0.out.size)
    clear hb1 HIX
    obtain rfl : k = -1 := by
      rcases hk with ⟨hk, -⟩ | ⟨j, -, hj, hs⟩
      · exact hk
      · rw [HQ.out] at hs; cases hs
    clear hk
    have z0 := HF1.out.c0; have z1 := HF1.out.c1; have z2 := HF1.out.c2; have z3 := HF1.out.c3; have z4 := HF1.out.c4; have z5 := HF1.out.c5; have z6 := HF1.out.c6; have z7 := HF1.out.c7; have z8 := HF1.out.c8; have zf := HF1.out.fz
    have HBF : Hid (Below w.heap.size w (w1.setCells w.heap.size 0 (famCs zeroF))) := HB1.out.trans (below_setCellsW (Nat.le_refl _) _ 0 w1)
    have HFF : Hid (FB (w1.setCells w.heap.size 0 (famCs zeroF)) w.heap.size zeroF) := HF1.out.set
    go_wp2_with fail
    generalize hWW : World.setCell _ ⟨w.heap.size, 8, none⟩ _ = WW
    have hW2 : w1.setCells w.heap.size 0 (famCs zeroF) = WW := hWW
    have HB2 := HBF.out
    have HF2 := HFF.out
    rw [hW2] at HB2 HF2
    have q0 := HF2.c0; have q1 := HF2.c1; have q2 := HF2.c2; have q3 := HF2.c3; have q4 := HF2.c4; have q5 := HF2.c5; have q6 := HF2.c6; have q7 := HF2.c7; have q8 := HF2.c8
    clear hW2 hWW HBF HFF z0 z1 z2 z3 z4 z5 z6 z7 z8 zf HF2
    exact bodyPost_ret (v := .tuple #[famV zeroF, .bool false]) (by simp [results, Tryz.results83, go_sem, q0, q1, q2, q3, q4, q5, q6, q7, q8, famV, famCs]) rfl ⟨rfl, HB2⟩
  | some y =>
    have HQ : Hid (l.find? p = some y) := hq
    clear hq
    go_enter Tryz.func83, Tryz.ntmps83
    go_wp2_with fail
    refine Calls.mono HIX.out ?_
    rintro e1 w1 ⟨⟨k, rfl, hk⟩, hb1⟩
    have HF1 : Hid (FB w1 w.heap.size zeroF) := HFB.out.on hb1
    have HB1 : Hid (Below w.heap.size w w1) := HB0.out.trans (hb1.mono HB0.out.size)
    have hfw : Fams B w1 (.slice ba l.length ca) l := RowsK.below HF0.out hb1 (Nat.le_refl _)
    have HFS : Hid (Fams B w1 (.slice ba l.length ca) l) := hfw
    clear hfw hb1 HIX
    obtain ⟨j, rfl, hj, hy⟩ : ∃ j : Nat, k = j ∧ ∃ hj : j < l.length, l[j] = y := by
      rcases hk with ⟨-, hn⟩ | ⟨j, hk, hj, hs⟩
      · rw [HQ.out] at hn; cases hn
      · rw [HQ.out] at hs
        exact ⟨j, hk, hj, (Option.some.inj hs).symm⟩
    clear hk
    have z0 := HF1.out.c0; have z1 := HF1.out.c1; have z2 := HF1.out.c2; have z3 := HF1.out.c3; have z4 := HF1.out.c4; have z5 := HF1.out.c5; have z6 := HF1.out.c6; have z7 := HF1.out.c7; have z8 := HF1.out.c8; have zf := HF1.out.fz
    have hfs : Fams B w1 (.slice ba l.length ca) l := HFS.out
    obtain ⟨gr, rfl, hgr, hfa⟩ := Fams.fam hfs j hj
    clear hfs
    rw [hy] at hfa
    have hjI : (j : Int) < (l.length : Int) := by omega
    have hgw : w.heap.size ≠ gr ∨ True := .inr trivial
    clear hy hgw
    have HBF : Hid (Below w.heap.size w (w1.setCells w.heap.size 0 (famCs y))) := HB1.out.trans (below_setCellsW (Nat.le_refl _) _ 0 w1)
    have HFF : Hid (FB (w1.setCells w.heap.size 0 (famCs y)) w.heap.size y) := HF1.out.set
    obtain ⟨y1, y2, y3, y4, y5, y6, y7, y8, y9⟩ := y
    have c0 := hfa.c0; have c1 := hfa.c1; have c2 := hfa.c2; have c3 := hfa.c3; have c4 := hfa.c4; have c5 := hfa.c5; have c6 := hfa.c6; have c7 := hfa.c7; have c8 := hfa.c8
    simp only at c0 c1 c2 c3 c4 c5 c6 c7 c8
    clear hfa
    go_wp2_with fail
    generalize hWW : World.setCell _ ⟨w.heap.size, 8, none⟩ _ = WW
    have hW2 : w1.setCells w.heap.size 0 (famCs ⟨y1, y2, y3, y4, y5, y6, y7, y8, y9⟩) = WW := hWW
    have HB2 := HBF.out
    have HF2 := HFF.out
    rw [hW2] at HB2 HF2
    have q0 := HF2.c0; have q1 := HF2.c1; have q2 := HF2.c2; have q3 := HF2.c3; have q4 := HF2.c4; have q5 := HF2.c5; have q6 := HF2.c6; have q7 := HF2.c7; have q8 := HF2.c8
    simp only at q0 q1 q2 q3 q4 q5 q6 q7 q8
    clear hW2 hWW HBF HFF z0 z1 z2 z3 z4 z5 z6 z7 z8 zf HF2 c0 c1 c2 c3 c4 c5 c6 c7 c8
    exact bodyPost_ret (v := .tuple #[famV ⟨y1, y2, y3, y4, y5, y6, y7, y8, y9⟩, .bool true]) (by simp [results, Tryz.results83, go_sem, q0, q1, q2, q3, q4, q5, q6, q7, q8, famV, famCs]) rfl ⟨rfl, HB2⟩
end Go.Proofs.YtlailakofhenkabGreatDoor

namespace Go.Proofs.YtlailakofhenkabGreatDoor
open Go.RowKit Sip Hex
/-- The one cell of the library's table that the base 16 asks for. -/
def Tab16 (w : World) : Prop := w.cell? ⟨9, 15, none⟩ = some (.int .u8 4)
theorem trail16 (w : World) (hT : Tab16 w) : Calls Tryz.prog 359 #[.int .u64 16] w fun e w' => e = .returned (.int .i64 4) ∧ w' = w := by
  have h1 : IntKind.u64.wrap (bits .and .u64 16 (IntKind.u64.wrap (-16)) * 285870213051353865) / 288230376151711744 = 15 := by decide +kernel
  unfold Tab16 at hT
  go_enter Tryz.func359, Tryz.ntmps359
  go_wp2_with fail
  go_ret
  exact ⟨rfl, rfl⟩
theorem pow16 (w : World) : Calls Tryz.prog 320 #[.int .i64 16] w fun e w' => e = .returned (.bool true) ∧ w' = w := by
  have h1 : bits .and .i64 16 15 = 0 := by decide +kernel
  go_enter Tryz.func320, Tryz.ntmps320
  go_wp2_with fail
  go_ret
  exact ⟨rfl, rfl⟩
theorem trailing16 (w : World) (hT : Tab16 w) : Calls Tryz.prog 321 #[.int .u64 16] w fun e w' => e = .returned (.int .i64 4) ∧ w' = w := by
  go_enter Tryz.func321, Tryz.ntmps321
  go_wp2_with fail
  refine (trail16 w hT).mono ?_
  rintro e w' ⟨rfl, rfl⟩
  go_wp2_with fail
  go_ret
  exact ⟨rfl, rfl⟩
theorem digs36 (d : Nat) (h : d < 16) : ((⟨#[48, 49, 50, 51, 52, 53, 54, 55, 56, 57, 97, 98, 99, 100, 101, 102, 103, 104, 105, 106, 107, 108, 109, 110, 111, 112, 113, 114, 115, 116, 117, 118, 119, 120, 121, 122]⟩ : ByteArray)[d]'(Nat.lt_trans h (by decide))) = hexc d := by
  revert d
  decide
theorem buf_step {B : Nat} {w : World} {g : Nat} {pre D : List UInt8} {j : Nat} (h : RowAt B w g 65 65 (bs (pre ++ D))) (hp : pre.length = j + 1) (u : UInt8) :
    ∃ pre', pre'.length = j ∧ RowAt B (w.setCell ⟨g, j, none⟩ (.int .u8 (u.toNat : Int))) g 65 65 (bs (pre' ++ u :: D)) := by
  have hj : j < 65 := by have := h.len; simp [bs] at this; omega
  have hs := h.store hj (.int .u8 (u.toNat : Int))
  obtain ⟨p, x, rfl, hl⟩ : ∃ p x, pre = p ++ [x] ∧ p.length = j := by
    refine ⟨pre.take j, pre[j]'(by omega), ?_, by simp; omega⟩
    rw [← List.take_succ_eq_append_getElem (by omega), List.take_of_length_le (by omega)]
  refine ⟨p, hl, ?_⟩
  have hE : (bs (p ++ [x] ++ D)).set j (.int .u8 (u.toNat : Int)) = bs (p ++ u :: D) := by
    simp only [bs, List.map_append, List.map_cons, List.append_assoc, List.cons_append, List.nil_append]
    rw [List.set_append_right _ _ (by rw [List.length_map]; omega)]
    simp [hl]
  rw [hE] at hs
  exact hs
theorem zeros65 (B : Nat) (w : World) (hB : B ≤ w.heap.size) : RowAt B (w.alloc (.cells Tryz.zeroCells372 372)) w.heap.size 65 65 (bs (List.replicate 65 0)) := by
  have hz : Tryz.zeroCells372 = (bs (List.replicate 65 0)).toArray := by kernel_rfl
  have hl : (bs (List.replicate 65 0)).length = 65 := by decide
  refine ⟨hB, by simp, hl, by omega, by unfold maxLen; omega, fun j u hj => ?_, fun j hj => ?_⟩
  · rw [World.cell?_alloc_new, hz]; simpa using hj
  · refine ⟨?_, World.frozen?_alloc_at _ _ _ _ rfl⟩
    rw [World.cell?_alloc_new, hz, List.getElem?_toArray, List.getElem?_eq_getElem (by rw [hl]; exact hj)]
    rfl
theorem sliceFrom (g j : Nat) (hj : j < 65) (w : World) : (Instr.sliceAt 372 (.pointer (some ⟨g, 0, none⟩)) (some (.int .i64 (j : Int))) none none).run Tryz.prog w = .ok (.slice (some ⟨g, j, none⟩) (65 - j) (65 - j)) w := by
  have hj' : (j : Int) ≤ 65 := by omega
  have hne : ¬ 65 = j := by omega
  go_simp
set_option maxRecDepth 100000 in
set_option maxHeartbeats 2000000 in
theorem formatBits16 (n : Nat) (hn : n < 16 ^ 16) (w : World) (hT : Tab16 w) (hTs : 9 < w.heap.size) :
    Calls Tryz.prog 271 #[.slice none 0 0, .int .u64 n, .int .i64 16, .bool false, .bool false] w fun e w' => e = .returned (.tuple #[.slice none 0 0, .string ⟨(hexMin 15 n).toArray⟩]) ∧ Below w.heap.size w w' := by
  go_enter Tryz.func271, Tryz.ntmps271
  have HT : Hid (Tab16 w) := hT
  clear hT
  go_wp2_with fail
  refine (pow16 _).mono ?_
  rintro e w1 ⟨rfl, rfl⟩
  go_wp2_with fail
  refine (trailing16 _ ?_).mono ?_
  · exact (((Below.refl w.heap.size w).alloc (Nat.le_refl _) _).cell (p := ⟨9, 15, none⟩) hTs).trans HT.out
  rintro e w1 ⟨rfl, rfl⟩
  go_wp2_with fail
  go_loopg [1, 13] 16 (fun gk u i wr => ∃ (m d : Nat) (pre D : List UInt8), u = .int .u64 m ∧ i = .int .i64 ((65 - d : Nat) : Int) ∧ d + gk = 16 ∧ d ≤ 15 ∧ m < 16 ^ (16 - d) ∧ pre.length = 65 - d ∧ D.length = d ∧ RowAt w.heap.size wr w.heap.size 65 65 (bs (pre ++ D)) ∧ Below w.heap.size w wr ∧ hexMin 15 n = hexMin (15 - d) m ++ D)
  case atStart => exact ⟨n, 0, List.replicate 65 0, [], rfl, rfl, rfl, by omega, by simpa using hn, by simp, rfl, by simpa using zeros65 _ w (Nat.le_refl _), (Below.refl _ _).alloc (Nat.le_refl _) _, by simp⟩
  case round =>
    obtain ⟨m, d, pre, D, rfl, rfl, hgk, hd15, hm, hpre, hD, hrow, hb, he⟩ := hrel
    have HG : Hid (d + gk = 16) := hgk
    have HD : Hid (D.length = d) := hD
    have HE : Hid (hexMin 15 n = hexMin (15 - d) m ++ D) := he
    have HM : Hid (m < 16 ^ (16 - d)) := hm
    have HP : Hid (pre.length = 65 - d) := hpre
    obtain ⟨j, hj⟩ : ∃ j, 65 - d = j + 1 := ⟨64 - d, by omega⟩
    have HJ : Hid (65 - d = j + 1) := hj
    have hj64 : j < 65 := by omega
    have hm2 : m < 18446744073709551616 := Nat.lt_of_lt_of_le hm (Nat.le_trans (Nat.pow_le_pow_right (by decide) (by omega : 16 - d ≤ 16)) (by decide))
    have hth := hrow.there j hj64
    obtain ⟨old, hold⟩ := Option.isSome_iff_exists.1 hth.1
    have hfz := hth.2
    clear hgk hD he hm hpre hth
    rw [hj]
    clear hj
    by_cases h16 : 16 ≤ m
    · have ha := and15 m
      obtain ⟨r, hr⟩ : ∃ r, r = m % 16 := ⟨_, rfl⟩
      have hr16 : r < 16 := by omega
      rw [← hr] at ha
      have HR : Hid (r = m % 16) := hr
      clear hr
      obtain ⟨pre', hpl, hrow'⟩ := buf_step hrow (HP.out.trans HJ.out) (hexc r)
      have HW : Hid (RowAt w.heap.size (wr.setCell ⟨w.heap.size, j, none⟩ (.int .u8 ((hexc r).toNat : Int))) w.heap.size 65 65 (bs (pre' ++ hexc r :: D))) := hrow'
      clear hrow'
      have hdr : ((⟨#[48, 49, 50, 51, 52, 53, 54, 55, 56, 57, 97, 98, 99, 100, 101, 102, 103, 104, 105, 106, 107, 108, 109, 110, 111, 112, 113, 114, 115, 116, 117, 118, 119, 120, 121, 122]⟩ : ByteArray)[r]'(Nat.lt_trans hr16 (by decide))) = hexc r := digs36 r hr16
      have hd14 : d ≤ 14 := by
        have h := HM.out
        rcases Nat.lt_or_ge d 15 with h1 | h1
        · omega
        · have : 16 - d = 1 := by omega
          rw [this] at h; omega
      go_wp2_with fail
      go_roundg (gk - 1)
      case measure => have := HG.out; omega
      case rel =>
        refine ⟨m / 16, d + 1, pre', hexc r :: D, by simp, by have := HJ.out; rw [show 65 - (d + 1) = j by omega], by have := HG.out; omega, by omega, ?_, by have := HJ.out; omega, by have := HD.out; simp; omega, HW.out, hb.setCell (p := ⟨w.heap.size, j, none⟩) (Nat.le_refl _) _, ?_⟩
        · have h := HM.out
          rw [show 16 - d = (16 - (d + 1)) + 1 by omega, Nat.pow_succ] at h
          omega
        · refine HE.out.trans ?_
          rw [show 15 - d = (15 - (d + 1)) + 1 by omega, hexMin, if_neg (by omega), HR.out]
          simp
    · have hsl := sliceFrom w.heap.size j hj64
      obtain ⟨pre', hpl, hrow'⟩ := buf_step hrow (HP.out.trans HJ.out) (hexc m)
      have hdm : ((⟨#[48, 49, 50, 51, 52, 53, 54, 55, 56, 57, 97, 98, 99, 100, 101, 102, 103, 104, 105, 106, 107, 108, 109, 110, 111, 112, 113, 114, 115, 116, 117, 118, 119, 120, 121, 122]⟩ : ByteArray)[m]'(Nat.lt_trans (Nat.lt_of_not_le h16) (by decide))) = hexc m := digs36 m (by omega)
      have hcv : (convert 164 9 (.slice (some ⟨w.heap.size, j, none⟩) (65 - j) (65 - j))).run Tryz.prog (wr.setCell ⟨w.heap.size, j, none⟩ (.int .u8 ((hexc m).toNat : Int))) = .ok (.string ⟨(hexc m :: D).toArray⟩) (wr.setCell ⟨w.heap.size, j, none⟩ (.int .u8 ((hexc m).toNat : Int))) := by
        refine run_row_string _ _ _ 5 Tryz.underlying164 Tryz.underlying5 Tryz.underlying9 _ _ _ _ _ (by have := HD.out; have := HJ.out; simp; omega) (fun i hi => ?_)
        refine hrow'.holds (j + i) _ ?_
        have hl : (hexc m :: D).length = 65 - j := by have := HD.out; have := HJ.out; simp; omega
        simp only [bs, List.map_append]
        rw [List.getElem?_append_right (by rw [List.length_map]; omega), List.length_map, hpl, Nat.add_sub_cancel_left, List.getElem?_map, List.getElem?_eq_getElem (by omega)]
        simp [List.getD, List.getElem?_eq_getElem (show i < (hexc m :: D).length by omega)]
      have HF : Hid (hexMin 15 n = hexc m :: D) := by
        refine HE.out.trans ?_
        generalize 15 - d = f
        cases f with
        | zero => rw [hexMin, Nat.mod_eq_of_lt (by omega)]; rfl
        | succ f => rw [hexMin, if_pos (by omega)]; rfl
      clear hrow'
      go_wp2_with fail
      go_ret2
      exact ⟨by rw [HF.out]; rfl, hb.setCell (p := ⟨w.heap.size, j, none⟩) (Nat.le_refl _) _⟩
set_option maxHeartbeats 1000000 in
theorem fmt16_any (n : Nat) (hn : n < 16 ^ 16) (w : World) (hT : Tab16 w) (hTs : 9 < w.heap.size) :
    Calls Tryz.prog 213 #[.int .u64 n, .int .i64 16] w fun e w' => e = .returned (.string ⟨(hexMin 15 n).toArray⟩) ∧ Below w.heap.size w w' := by
  have HT : Hid (Tab16 w) := hT
  clear hT
  have hi : Calls Tryz.prog 282 #[.int .u64 n, .int .i64 16] w fun e w' => e = .returned (.string ⟨(hexMin 15 n).toArray⟩) ∧ Below w.heap.size w w' := by
    go_enter Tryz.func282, Tryz.ntmps282
    go_wp2_with fail
    refine (formatBits16 n hn w HT.out hTs).mono ?_
    rintro e w' ⟨rfl, hb⟩
    go_wp2_with fail
    go_ret
    exact ⟨rfl, hb⟩
  go_enter Tryz.func213, Tryz.ntmps213
  go_wp2_with fail
  refine hi.mono ?_
  rintro e w' ⟨rfl, hb⟩
  go_wp2_with fail
  go_ret
  exact ⟨rfl, hb⟩
end Go.Proofs.YtlailakofhenkabGreatDoor

namespace Go.Proofs.YtlailakofhenkabGreatDoor
open Go.RowKit Sip Hex
theorem Tab16.below {B : Nat} {w w' : World} (h : Tab16 w) (hb : Below B w w') (hB : 9 < B) : Tab16 w' := (hb.cell (p := ⟨9, 15, none⟩) hB).trans h
theorem repeat_one (c : Nat) : Lib.repeatL (⟨#[48]⟩ : ByteArray).data.toList c = List.replicate c 48 := by
  induction c with
  | zero => rfl
  | succ c ih => rw [Lib.repeatL, ih]; rfl
set_option maxHeartbeats 1000000 in
theorem refTag_any (key : Int) (s : ByteArray) (w : World) (hs : s.size ≤ 1000000) (hT : Tab16 w) (hTs : 9 < w.heap.size) :
    Calls Tryz.prog 134 #[.int .i64 key, .string s] w fun e w' => e = .returned (.string ⟨(tag key s.data.toList).toArray⟩) ∧ Below w.heap.size w w' := by
  have hbd := sip_bd (IntKind.u64.wrap key) (rl (IntKind.u64.wrap key) 32) s.data.toList
  obtain ⟨n, hn⟩ := Int.eq_ofNat_of_zero_le hbd.1
  have HT : Hid (tag key s.data.toList = hexsN 16 n) := by unfold tag Hid; rw [hn]; rfl
  have HN : Hid (sip (IntKind.u64.wrap key) (rl (IntKind.u64.wrap key) 32) s.data.toList = (n : Int)) := hn
  have hn2 : n < 16 ^ 16 := by omega
  have HTab : Hid (Tab16 w) := hT
  clear hn hbd hT
  go_enter Tryz.func134, Tryz.ntmps134
  go_wp2_with fail
  refine (refTurn32 _ _).mono ?_
  rintro e w1 ⟨rfl, n1, rfl⟩
  go_wp2_with fail
  refine (refSum_any _ _ s _ hs).mono ?_
  rintro e w2 ⟨rfl, hb2⟩
  rw [HN.out]
  have hb2' : Below w.heap.size w w2 := (below_drewN (Below.refl _ _) n1).trans hb2
  have hsz2 := hb2'.size
  go_wp2_with fail
  refine (fmt16_any n hn2 _ (HTab.out.below hb2' hTs) (Nat.lt_of_lt_of_le hTs hsz2)).mono ?_
  rintro e w3 ⟨rfl, hb3⟩
  have hmin := hexMin_le 15 n 16 (by decide) hn2 (by decide)
  have HP : Hid (List.replicate (16 - (hexMin 15 n).length) 48 ++ hexMin 15 n = hexsN 16 n) := hex_pad 15 n 16 (by decide) hn2 (by decide)
  generalize hexMin 15 n = X at *
  obtain ⟨c, hc⟩ : ∃ c, c = 16 - X.length := ⟨_, rfl⟩
  have HC : Hid (c = 16 - X.length) := hc
  have hc16 : c ≤ 16 := by omega
  clear hc
  go_wp2_with fail
  have HI : Hid ((16 : Int) - (X.length : Int) = (c : Int)) := by have := HC.out; unfold Hid; omega
  rw [HI.out]
  refine (Tryz.strings_Repeat _ c _ (by omega) (by simp [ByteArray.size]; omega)).mono ?_
  rintro e w4 ⟨rfl, hb4⟩
  rw [repeat_one]
  go_wp2_with fail
  go_ret
  refine ⟨?_, hb2'.trans ((hb3.mono hsz2).trans (hb4.mono (Nat.le_trans hsz2 hb3.size)))⟩
  rw [HT.out, ← HP.out, ← HC.out]
  rfl
end Go.Proofs.YtlailakofhenkabGreatDoor
