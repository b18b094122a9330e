/-
  Own texts put together: SvHeld, StCr1, ScOrder, StCLaw.
-/
import Derived.Test.YtlailakofhenkabGreatDoorB28
import Derived.Test.YtlailakofhenkabGreatDoorB29
import Derived.Test.YtlailakofhenkabGreatDoorB30
import Derived.Test.YtlailakofhenkabGreatDoorB4
import Derived.Test.YtlailakofhenkabGreatDoorB20
import Derived.Test.YtlailakofhenkabGreatDoorB14
import Derived.Test.YtlailakofhenkabGreatDoorB5
import Derived.Test.YtlailakofhenkabGreatDoorB15
namespace Go.Proofs.YtlailakofhenkabGreatDoor
open Go Go.RowKit Tok Sc Ev
theorem wpList_append_rowK {P : Program} (w : World) {ops : Array Oper} {rest : List Oper} {o : Oper} {a : Act} {Q : Exit → Act → World → Prop}
    (hg : o.guard = none) (s x : Operand) (t : TypeId) (hop : o.op = Op.call { callee := Callee.builtin Builtin.append, args := #[s, x], argTypes := #[t, t] })
    (e : TypeId) (i : TypeInfo) (z : Value) (bytes : Nat) (h1 : P.underlying t = some (.slice e)) (h2 : P.info? e = some i) (h3 : i.zero = some z) (h4 : i.size = 1) (h5 : i.bytes = bytes) (h6 : z.cells.size = 1)
    (B g n c : Nat) (cs : List Value) (hs : a.eval s = .slice (some ⟨g, 0, none⟩) n c) (hrow : RowAt B w g c n cs)
    (ad : Addr) (c' : Nat) (u : Value) (hx : a.eval x = .slice (some ad) 1 c') (hc : w.cell? ad = some u) (h1c : u.oneCell' = true)
    (b1 : n + 1 ≤ maxLen) (b2 : (n + 1) * bytes ≤ 140737488355328)
    (hK : ∀ g' cc w', RowAt B w' g' cc (n + 1) (cs ++ [u]) → Keep [g] w w' → (g' = g ∨ w.heap.size ≤ g') → wpList P ops Q rest (a.put o.dst (.slice (some ⟨g', 0, none⟩) (n + 1) cc)) w') :
    wpList P ops Q (o :: rest) a w := by
  have hnews : ∀ j v, [u][j]? = some v → w.cell? (ad.add j) = some v := by
    intro j v hj
    match j, hj with
    | 0, hj => simp at hj; subst hj; simpa [Addr.add] using hc
    | j + 1, hj => simp at hj
  refine wpList_append_arg w hg s x t hop e i z 1 bytes h1 h2 h3 h4 h5 h6 (by decide) g 0 n c cs hs (by rw [hrow.len]; simp) (fun j v hj => by rw [Nat.zero_add]; exact hrow.holds j v hj) ad 1 c' [u] hx (by simp) hnews (by intro v hv; simp at hv; subst hv; exact h1c) (fun hr j hj => ?_) b1 b2 (fun hr => ?_) (fun hgr v' w' hown hgb => ?_)
  · simp at hj; subst hj
    simpa using hrow.there n (by omega)
  · have hw : w.setCells g (0 + n * 1) [u] = w.setCell ⟨g, n, none⟩ u := by simp [World.setCells]
    rw [hw]
    have hth := hrow.there n (by omega)
    obtain ⟨old, hold⟩ := Option.isSome_iff_exists.1 hth.1
    refine hK g c _ ⟨hrow.new, by simp [World.setCell]; exact hrow.lt, by simp [hrow.len], by omega, hrow.max, fun j v hj => ?_, fun j hj => ?_⟩ ((Keep.refl _ _).setCell (p := ⟨g, n, none⟩) (.inl (by simp)) _) (.inl rfl)
    · by_cases hjn : j < n
      · rw [List.getElem?_append_left (by rw [hrow.len]; exact hjn)] at hj
        have := hrow.holds j v hj
        have hne : j ≠ n := by omega
        go_simp
      · have hj' : j = n := by
          have := (List.getElem?_eq_some_iff.1 hj).1
          simp [hrow.len] at this; omega
        subst hj'
        rw [List.getElem?_append_right (by rw [hrow.len]; omega), hrow.len] at hj
        simp at hj; subst hj
        go_simp
    · have h := hrow.there j hj
      obtain ⟨v, hv⟩ := Option.isSome_iff_exists.1 h.1
      refine ⟨?_, ?_⟩
      · by_cases hjn : j = n
        · subst hjn; go_simp
        · go_simp
      · simpa using h.2
  · rcases hown.2 with ⟨hv, h0⟩ | ⟨g', cc, cur, hv, hge, hh, hle, hmx, hsz, htk⟩
    · omega
    · subst hv
      have hB : B ≤ w.heap.size := Nat.le_trans hrow.new (Nat.le_of_lt hrow.lt)
      have hlt : g' < w'.heap.size := by
        rcases Nat.lt_or_ge g' w'.heap.size with h | h
        · exact h
        · rw [Array.getElem?_eq_none h] at hh; cases hh
      refine hK g' cc w' ⟨Nat.le_trans hB hge, hlt, by simp [hrow.len], hle, hmx, fun j v hj => ?_, fun j hj => ?_⟩ (Keep.of _ ((Below.refl _ _).grown hgb (Nat.le_refl _) (fun k hk => by cases hk))) (.inr hge)
      · have hj2 := hown.cells (g := g') rfl j v hj
        rw [Addr.add_lit, Nat.zero_add] at hj2; exact hj2
      · have hjc : j < cur.size := by omega
        simp [World.cell?, World.frozen?, hh, hjc]
theorem Words.keepOut {l : List Nat} {B : Nat} {w w' : World} {v : Value} {xs : List ByteArray} (h : Words B w v xs) (hk : Keep l w w') (hl : ∀ x ∈ l, NotIn v x) : Words B w' v xs := by
  rcases h with h1 | ⟨g, c, rfl, hr⟩
  · exact .inl h1
  · exact .inr ⟨g, c, rfl, hr.block hk.size (hk.block g hr.lt (fun hx => hl g hx g 0 _ c rfl rfl))⟩
theorem Words.on {B : Nat} {w w' : World} {v : Value} {xs : List ByteArray} (h : Words B w v xs) (hb : Below w.heap.size w w') : Words B w' v xs := h.below hb (Nat.le_refl _)
theorem Words.notIn {B : Nat} {w : World} {v : Value} {xs : List ByteArray} (h : Words B w v xs) {b : Nat} (hb : b < B) : NotIn v b := by
  rcases h with ⟨rfl, -⟩ | ⟨g, c, rfl, hr⟩
  · exact NotIn.nil _ _ _
  · intro g' o n' c' he
    have := hr.new
    simp only [Value.slice.injEq, Option.some.injEq, Addr.mk.injEq] at he
    omega
def Apart (v u : Value) : Prop := ∀ g o n c, v = .slice (some ⟨g, o, none⟩) n c → NotIn u g
theorem wpList_append_wordsK {P : Program} (w : World) {ops : Array Oper} {rest : List Oper} {o : Oper} {a : Act} {Q : Exit → Act → World → Prop}
    (hg : o.guard = none) (s x : Operand) (t : TypeId) (hop : o.op = Op.call { callee := Callee.builtin Builtin.append, args := #[s, x], argTypes := #[t, t] })
    (e : TypeId) (i : TypeInfo) (h1 : P.underlying t = some (.slice e)) (h2 : P.info? e = some i) (h3 : i.zero = some (.string ⟨#[]⟩)) (h4 : i.size = 1) (h5 : i.bytes = 16)
    (B : Nat) (v : Value) (xs : List ByteArray) (hs : a.eval s = v) (h : Words B w v xs) (hB : B ≤ w.heap.size)
    (ad : Addr) (c' : Nat) (u : ByteArray) (hx : a.eval x = .slice (some ad) 1 c') (hc : w.cell? ad = some (.string u)) (hn : xs.length ≤ 1000000)
    (hK : ∀ v' w', Words B w' v' (xs ++ [u]) → w.heap.size ≤ w'.heap.size → (∀ l : List Nat, (∀ g o n c, v = .slice (some ⟨g, o, none⟩) n c → g ∈ l) → Keep l w w') → (∀ b, b < w.heap.size → NotIn v b → NotIn v' b) → (∀ y, Apart v y → (∀ b, w.heap.size ≤ b → NotIn y b) → Apart v' y) → wpList P ops Q rest (a.put o.dst v') w') :
    wpList P ops Q (o :: rest) a w := by
  rcases h with ⟨rfl, rfl⟩ | ⟨g, c, rfl, hr⟩
  · have hsrc : Src P i.size t (.slice (some ad) 1 c') 1 [.string u] w := by
      rw [h4]
      refine Src.ofSlice w h1 ad 1 c' [.string u] rfl (fun j y hj => ?_) (by intro y hy; simp at hy; subst hy; rfl)
      match j, hj with
      | 0, hj => simp at hj; subst hj; simpa [Addr.add] using hc
      | j + 1, hj => simp at hj
    have hrun := run_append_grow_src w t t o.type e i _ h1 h2 h3 none 0 0 [] (run_firstCells_none w.drew i.size 0 0 0) _ 1 [.string u] hsrc (by omega) (by omega) (by rw [h5]; exact growslice_fits (by omega) (by omega))
    refine Lib.wpList_append_run w hg s x t t hop _ _ hs hx _ _ hrun ?_
    have hm := grownCap_le_maxLen w (0 + 1) 0 e (by unfold maxLen; omega)
    have hm1 := grownCap_ge w (0 + 1) 0 e
    have hbl : Below w.heap.size w (w.drew.alloc (.cells (#[Value.string u] ++ Builtin.zeroCells #[Value.string ⟨#[]⟩] (grownCap w (0 + 1) 0 e - 1)) e)) := ((Below.refl _ w).drew).alloc (Nat.le_refl _) _
    refine hK _ _ (.inr ⟨_, _, rfl, rowAt_new (B := B) (w := w.drew) hB [.string u] 1 rfl (.string ⟨#[]⟩) _ e hm hm1⟩) hbl.size (fun l _ => Keep.of l hbl) (fun b hb _ => ?_) (fun y _ hy => ?_)
    · intro g o n c he
      simp only [Value.slice.injEq, Option.some.injEq, Addr.mk.injEq] at he
      have : w.drew.heap.size = w.heap.size := rfl
      omega
    · intro g o n c he
      simp only [Value.slice.injEq, Option.some.injEq, Addr.mk.injEq] at he
      exact hy g (by have : w.drew.heap.size = w.heap.size := rfl; omega)
  · refine wpList_append_rowK w hg s x t hop e i _ 16 h1 h2 h3 h4 h5 rfl B g xs.length c _ hs hr ad c' (.string u) hx hc rfl (by unfold maxLen; omega) (by omega) (fun g' cc w' hr' hk hg' => ?_)
    have e1 : xs.length + 1 = (xs ++ [u]).length := by simp
    rw [e1]
    refine hK _ _ (.inr ⟨g', cc, rfl, ?_⟩) hk.size (fun l hl => hk.mono (fun x hx => by simp at hx; subst hx; exact hl _ _ _ _ rfl)) (fun b hb hn => ?_) (fun y hy hy2 => ?_)
    · rw [← e1, List.map_append]
      exact hr'
    · intro g2 o n c he
      simp only [Value.slice.injEq, Option.some.injEq, Addr.mk.injEq] at he
      rcases hg' with e | e
      · have := hn g 0 _ _ rfl; omega
      · omega
    · intro g2 o n c he
      simp only [Value.slice.injEq, Option.some.injEq, Addr.mk.injEq] at he
      rcases hg' with e | e
      · have := hy g 0 _ _ rfl
        rw [← he.1.1, e]; exact this
      · exact hy2 g2 (by omega)
structure HAt (w : World) (gh gv : Nat) (vt : Value) (b1 b2 b3 : Nat) : Prop where
  c0 : w.cell? ⟨gh, 0, none⟩ = some (.pointer (some ⟨gv, 0, none⟩))
  c1 : w.cell? ⟨gh, 1, none⟩ = some vt
  c2 : w.cell? ⟨gh, 2, none⟩ = some (.map (some b1))
  c3 : w.cell? ⟨gh, 3, none⟩ = some (.map (some b2))
  c4 : w.cell? ⟨gh, 4, none⟩ = some (.map (some b3))
  fz : ∀ i, w.frozen? ⟨gh, i, none⟩ = false
  lt : gh < w.heap.size
theorem HAt.keep {l : List Nat} {w w' : World} {gh gv b1 b2 b3 : Nat} {vt : Value} (h : HAt w gh gv vt b1 b2 b3) (hk : Keep l w w') (hn : gh ∉ l) : HAt w' gh gv vt b1 b2 b3 := by
  have hc : ∀ i, w'.cell? ⟨gh, i, none⟩ = w.cell? ⟨gh, i, none⟩ := fun i => hk.cell (p := ⟨gh, i, none⟩) h.lt hn
  exact ⟨(hc 0).trans h.c0, (hc 1).trans h.c1, (hc 2).trans h.c2, (hc 3).trans h.c3, (hc 4).trans h.c4, fun i => (hk.frozen (p := ⟨gh, i, none⟩) h.lt hn).trans (h.fz i), Nat.lt_of_lt_of_le h.lt hk.size⟩
theorem HAt.set {w : World} {gh gv b1 b2 b3 : Nat} {vt : Value} (h : HAt w gh gv vt b1 b2 b3) (v' : Value) : HAt (w.setCell ⟨gh, 1, none⟩ v') gh gv v' b1 b2 b3 :=
  ⟨setO h.c0 (by decide), World.cell?_setCell_same _ _ _ h.c1, setO h.c2 (by decide), setO h.c3 (by decide), setO h.c4 (by decide), fun i => by rw [World.frozen?_setCell]; exact h.fz i, by simpa using h.lt⟩
structure Far (w : World) (gh gv gs gd b1 b2 b3 : Nat) (v vt : Value) : Prop where
  ord : gv < gh ∧ gv < b1 ∧ gv < b2 ∧ gv < b3
  ne : gh ≠ b1 ∧ gh ≠ b2 ∧ gh ≠ b3 ∧ b1 ≠ b2 ∧ b1 ≠ b3 ∧ b2 ≠ b3
  nv : ∀ x ∈ [gh, b1, b2, b3], NotIn v x
  nt : ∀ x ∈ [gh, b1, b2, b3, gv, gs, gd], NotIn vt x
  ap : Apart vt v
structure Held (w0 : World) (n c N : Nat) (gh gv gs gd b1 b2 b3 : Nat) (r : Rul) (p : Pub) (v vt : Value) (tks : List ByteArray) (S F : Int → Option Value) (G : List UInt8 → Option Value) (w : World) : Prop where
  sv : SvIs N w gv gs gd r p v
  box : HAt w gh gv vt b1 b2 b3
  far : Far w gh gv gs gd b1 b2 b3 v vt
  toks : Words (gv + 1) w vt tks
  tn : tks.length ≤ n
  ts : ∀ x ∈ tks, x.size ≤ 5000
  m1 : HasMap litI Tryz.prog 3 4 w b1 n S
  m2 : HasMap litI Tryz.prog 3 9 w b2 c F
  m3 : HasMap litS Tryz.prog 9 9 w b3 n G
  s1 : ∀ i x, S i = some x → x = .bool true ∧ Lost p.st i
  s3 : ∀ x y, G x = some y → ∃ t q, y = .string q ∧ Tok.Out (tag r.key) x t 0 ∧ Took p.st t.f t.g q
  bel : Below w0.heap.size w0 w
  low : w0.heap.size ≤ gd
structure SeenS (s0 s : St) (F : Int → Option Value) (Fn : Int → Option ByteArray) : Prop where
  fn : ∀ i, F i = (Fn i).map Value.string
  scp : Scp s0 Fn
  evo : Evo s0 s
  len : ∀ i x, Fn i = some x → x.size ≤ 44
section
variable {n c N gh gv gs gd b1 b2 b3 : Nat} {r : Rul} {p : Pub} {v vt : Value} {toks : List ByteArray} {S F : Int → Option Value} {G : List UInt8 → Option Value} {w0 w w' : World}
theorem Held.on (h : Held w0 n c N gh gv gs gd b1 b2 b3 r p v vt toks S F G w) (hb : Below w.heap.size w w') : Held w0 n c N gh gv gs gd b1 b2 b3 r p v vt toks S F G w' :=
  ⟨h.sv.on hb, h.box.keep (Keep.of [] hb) (by simp), ⟨h.far.ord, h.far.ne, h.far.nv, h.far.nt, h.far.ap⟩, h.toks.on hb, h.tn, h.ts, h.m1.on hb, h.m2.on hb, h.m3.on hb, h.s1, h.s3, h.bel.trans (hb.mono h.bel.size), h.low⟩
theorem Held.mono {m d M : Nat} (h : Held w0 n c N gh gv gs gd b1 b2 b3 r p v vt toks S F G w) (hm : n ≤ m) (hc : c ≤ d) (hM : N ≤ M) : Held w0 m d M gh gv gs gd b1 b2 b3 r p v vt toks S F G w :=
  ⟨h.sv.mono hM, h.box, h.far, h.toks, Nat.le_trans h.tn hm, h.ts, h.m1.mono hm, h.m2.mono hc, h.m3.mono hm, h.s1, h.s3, h.bel, h.low⟩
theorem HasMap.keep {κ : Type} {L : κ → Lit} {P : Program} {k e : TypeId} {w w' : World} {b n : Nat} {G : κ → Option Value} {l : List Nat} (h : HasMap L P k e w b n G) (hk : Keep l w w') (hn : b ∉ l) : HasMap L P k e w' b n G := h.block (hk.block b h.lt hn)
theorem Words.rowLt {B : Nat} {w : World} {xs : List ByteArray} {g o n c : Nat} (h : Words B w (.slice (some ⟨g, o, none⟩) n c) xs) : g < w.heap.size := by
  rcases h with ⟨h1, -⟩ | ⟨g', c', h1, hr⟩
  · cases h1
  · simp only [Value.slice.injEq, Option.some.injEq, Addr.mk.injEq] at h1
    rw [h1.1.1]; exact hr.lt
theorem Held.call {q : Pub} {v' : Value} (h : Held w0 n c N gh gv gs gd b1 b2 b3 r p v vt toks S F G w) (ht : SPto N gs gd v w w' q v') (he : Evo p.st q.st) : Held w0 n c (N + 22) gh gv gs gd b1 b2 b3 r q v' vt toks S F G w' := by
  have h1 := h.sv.sp.ord
  have h2 := h.sv.ord
  have h3 := h.far.ord
  have hl1 := h.m1.lt
  have hl2 := h.m2.lt
  have hl3 := h.m3.lt
  have hlg := h.box.lt
  have nt := h.far.nt
  have nv := h.far.nv
  simp only [List.mem_cons, List.not_mem_nil, or_false, forall_eq_or_imp, forall_eq] at nt nv
  refine ⟨h.sv.to ht, h.box.keep ht.keep (by simp; omega), ⟨h.far.ord, h.far.ne, ?_, h.far.nt, fun g o m c e => ?_⟩, h.toks.keepOut ht.keep ?_, h.tn, h.ts, h.m1.keep ht.keep (by simp; omega), h.m2.keep ht.keep (by simp; omega), h.m3.keep ht.keep (by simp; omega), fun i x hx => ⟨(h.s1 i x hx).1, lost_evo (h.s1 i x hx).2 he⟩, fun x y hx => ?_, h.bel.trans (ht.keep.below h.bel.size (by have := h.low; simp; omega)), h.low⟩
  · simp only [List.mem_cons, List.not_mem_nil, or_false, forall_eq_or_imp, forall_eq]
    exact ⟨ht.notIn nv.1 hlg, ht.notIn nv.2.1 hl1, ht.notIn nv.2.2.1 hl2, ht.notIn nv.2.2.2 hl3⟩
  · have hw := h.toks
    rw [e] at hw
    exact ht.notIn (h.far.ap g o m c e) hw.rowLt
  · simp only [List.mem_cons, List.not_mem_nil, or_false, forall_eq_or_imp, forall_eq]
    exact ⟨nt.2.2.2.2.2.2, nt.2.2.2.2.2.1⟩
  · obtain ⟨t, q', g1, g2, g3⟩ := h.s3 x y hx
    exact ⟨t, q', g1, g2, took_evo g3 he⟩
theorem SvIs.elsewhere {l : List Nat} {N : Nat} {w w' : World} {gv gs gd : Nat} {r : Rul} {p : Pub} {v : Value} (h : SvIs N w gv gs gd r p v) (hk : Keep l w w') (hl : ∀ x ∈ l, gv < x ∧ NotIn v x) : SvIs N w' gv gs gd r p v := by
  have h1 := h.sp.ord
  have h2 := h.sp.lt
  have h3 := h.ord
  exact ⟨h.sp.elsewhere hk (fun x hx => ⟨by have := (hl x hx).1; omega, by have := (hl x hx).1; omega, (hl x hx).2⟩), h.box.keep hk (fun hx => by have := (hl gv hx).1; omega), h.libs.belowO (hk.below (B := gd) (by omega) (fun x hx => by have := (hl x hx).1; omega)) h.old, h.rul, h.ord, h.out, h.old⟩
theorem Held.elsewhere {l : List Nat} (h : Held w0 n c N gh gv gs gd b1 b2 b3 r p v vt toks S F G w) (hk : Keep l w w') (hl : ∀ x ∈ l, gv < x ∧ x ∉ [gh, b1, b2, b3] ∧ NotIn v x ∧ NotIn vt x) : Held w0 n c N gh gv gs gd b1 b2 b3 r p v vt toks S F G w' :=
  ⟨h.sv.elsewhere hk (fun x hx => ⟨(hl x hx).1, (hl x hx).2.2.1⟩), h.box.keep hk (fun hx => (hl gh hx).2.1 (by simp)), ⟨h.far.ord, h.far.ne, h.far.nv, h.far.nt, h.far.ap⟩, h.toks.keepOut hk (fun x hx => (hl x hx).2.2.2), h.tn, h.ts, h.m1.keep hk (fun hx => (hl b1 hx).2.1 (by simp)), h.m2.keep hk (fun hx => (hl b2 hx).2.1 (by simp)), h.m3.keep hk (fun hx => (hl b3 hx).2.1 (by simp)), h.s1, h.s3, h.bel.trans (hk.below h.bel.size (fun x hx => by have := h.low; have := h.sv.sp.ord; have := h.sv.ord; have := (hl x hx).1; omega)), h.low⟩
theorem Words.past {B : Nat} {w : World} {v : Value} {xs : List ByteArray} (h : Words B w v xs) {b : Nat} (hb : w.heap.size ≤ b) : NotIn v b := by
  intro g o n c e
  rw [e] at h
  rcases h with ⟨h1, -⟩ | ⟨g', c', h1, hr⟩
  · cases h1
  · simp only [Value.slice.injEq, Option.some.injEq, Addr.mk.injEq] at h1
    have := hr.lt
    omega
theorem Held.stole (h : Held w0 n c N gh gv gs gd b1 b2 b3 r p v vt toks S F G w) (i : Int) (hi : Lost p.st i) (hm : HasMap litI Tryz.prog 3 4 w' b1 (n + 1) (putG S i (.bool true))) (hg : w.grownBy w' (some b1)) : Held w0 (n + 1) c N gh gv gs gd b1 b2 b3 r p v vt toks (putG S i (.bool true)) F G w' := by
  have hk : Keep [b1] w w' := Keep.grown hg
  have h3 := h.far.ord
  have hne := h.far.ne
  have nt := h.far.nt
  have nv := h.far.nv
  simp only [List.mem_cons, List.not_mem_nil, or_false, forall_eq_or_imp, forall_eq] at nt nv
  refine ⟨h.sv.elsewhere hk (by simp; exact ⟨h3.2.1, nv.2.1⟩), h.box.keep hk (by simp; omega), ⟨h.far.ord, h.far.ne, h.far.nv, h.far.nt, h.far.ap⟩, h.toks.keepOut hk (by simp; exact nt.2.1), Nat.le_succ_of_le h.tn, h.ts, hm, h.m2.keep hk (by simp; omega), (h.m3.keep hk (by simp; omega)).mono (by omega), fun j x hx => ?_, h.s3, h.bel.trans (hk.below h.bel.size (by have := h.low; have := h.sv.sp.ord; have := h.sv.ord; simp; omega)), h.low⟩
  by_cases e : j = i
  · subst e
    simp only [putG, if_true, Option.some.injEq] at hx
    exact ⟨hx.symm, hi⟩
  · simp only [putG, e, if_false] at hx
    exact h.s1 j x hx
theorem Held.took (h : Held w0 n c N gh gv gs gd b1 b2 b3 r p v vt toks S F G w) (x : List UInt8) (t : T) (q : ByteArray) (ho : Tok.Out (tag r.key) x t 0) (hq : Took p.st t.f t.g q) (hm : HasMap litS Tryz.prog 9 9 w' b3 (n + 1) (putG G x (.string q))) (hg : w.grownBy w' (some b3)) : Held w0 (n + 1) c N gh gv gs gd b1 b2 b3 r p v vt toks S F (putG G x (.string q)) w' := by
  have hk : Keep [b3] w w' := Keep.grown hg
  have h3 := h.far.ord
  have hne := h.far.ne
  have nt := h.far.nt
  have nv := h.far.nv
  simp only [List.mem_cons, List.not_mem_nil, or_false, forall_eq_or_imp, forall_eq] at nt nv
  refine ⟨h.sv.elsewhere hk (by simp; exact ⟨h3.2.2.2, nv.2.2.2⟩), h.box.keep hk (by simp; omega), ⟨h.far.ord, h.far.ne, h.far.nv, h.far.nt, h.far.ap⟩, h.toks.keepOut hk (by simp; exact nt.2.2.2.1), Nat.le_succ_of_le h.tn, h.ts, (h.m1.keep hk (by simp; omega)).mono (by omega), h.m2.keep hk (by simp; omega), hm, h.s1, fun y z hy => ?_, h.bel.trans (hk.below h.bel.size (by have := h.low; have := h.sv.sp.ord; have := h.sv.ord; simp; omega)), h.low⟩
  by_cases e : y = x
  · subst e
    simp only [putG, if_true, Option.some.injEq] at hy
    exact ⟨t, q, hy.symm, ho, hq⟩
  · simp only [putG, e, if_false] at hy
    exact h.s3 y z hy
theorem Held.kept (h : Held w0 n c N gh gv gs gd b1 b2 b3 r p v vt toks S F G w) (hk : ∀ l : List Nat, (∀ g o n c, vt = .slice (some ⟨g, o, none⟩) n c → g ∈ l) → Keep l w w') : ∃ l : List Nat, (∀ g ∈ l, gv < g ∧ g ∉ [gh, b1, b2, b3] ∧ NotIn v g) ∧ Keep l w w' := by
  have nt := h.far.nt
  simp only [List.mem_cons, List.not_mem_nil, or_false, forall_eq_or_imp, forall_eq] at nt
  rcases h.toks with ⟨e, -⟩ | ⟨g, c, e, hr⟩
  · exact ⟨[], by simp, hk [] (fun g o n c h' => by rw [e] at h'; cases h')⟩
  · refine ⟨[g], ?_, hk [g] (fun g' o n c h' => ?_)⟩
    · intro g' hg'
      simp only [List.mem_singleton] at hg'
      subst hg'
      refine ⟨hr.new, ?_, h.far.ap g' 0 _ c e⟩
      simp only [List.mem_cons, List.not_mem_nil, or_false]
      rintro (q | q | q | q)
      · exact nt.1 g' 0 _ c e q
      · exact nt.2.1 g' 0 _ c e q
      · exact nt.2.2.1 g' 0 _ c e q
      · exact nt.2.2.2.1 g' 0 _ c e q
    · rw [e] at h'
      simp only [Value.slice.injEq, Option.some.injEq, Addr.mk.injEq] at h'
      simp [h'.1.1]
theorem Held.noteBox (h : Held w0 n c N gh gv gs gd b1 b2 b3 r p v vt toks S F G w) (hk : ∀ l : List Nat, (∀ g o n c, vt = .slice (some ⟨g, o, none⟩) n c → g ∈ l) → Keep l w w') : HAt w' gh gv vt b1 b2 b3 := by
  obtain ⟨l, hl, hkl⟩ := h.kept hk
  exact h.box.keep hkl (fun hx => (hl gh hx).2.1 (by simp))
theorem Held.note {vt' : Value} {x : ByteArray} (h : Held w0 n c N gh gv gs gd b1 b2 b3 r p v vt toks S F G w) (hx : x.size ≤ 5000) (ht : Words (gv + 1) w' vt' (toks ++ [x])) (hk : ∀ l : List Nat, (∀ g o n c, vt = .slice (some ⟨g, o, none⟩) n c → g ∈ l) → Keep l w w') (hn : ∀ b, b < w.heap.size → NotIn vt b → NotIn vt' b) (ha : ∀ y, Apart vt y → (∀ b, w.heap.size ≤ b → NotIn y b) → Apart vt' y) :
    Held w0 (n + 1) c N gh gv gs gd b1 b2 b3 r p v vt' (toks ++ [x]) S F G (w'.setCell ⟨gh, 1, none⟩ vt') := by
  have h1 := h.sv.sp.ord
  have h2 := h.sv.ord
  have h3 := h.far.ord
  have hne := h.far.ne
  have hl1 := h.m1.lt
  have hl2 := h.m2.lt
  have hl3 := h.m3.lt
  have hlg := h.box.lt
  have nt := h.far.nt
  have nv := h.far.nv
  simp only [List.mem_cons, List.not_mem_nil, or_false, forall_eq_or_imp, forall_eq] at nt nv
  obtain ⟨l, hl, hkl⟩ := h.kept hk
  have hs1 : SvIs N w' gv gs gd r p v := h.sv.elsewhere hkl (fun x hx => ⟨(hl x hx).1, (hl x hx).2.2⟩)
  have hb1 : HAt w' gh gv vt b1 b2 b3 := h.box.keep hkl (fun hx => (hl gh hx).2.1 (by simp))
  have hk2 : Keep [gh] w' (w'.setCell ⟨gh, 1, none⟩ vt') := (Keep.refl _ w').setCell (p := ⟨gh, 1, none⟩) (.inl (by simp)) vt'
  have hnh : NotIn vt' gh := hn gh hlg nt.1
  refine ⟨hs1.elsewhere hk2 (by simp; exact ⟨h3.1, nv.1⟩), hb1.set vt', ⟨h.far.ord, h.far.ne, h.far.nv, ?_, ha v h.far.ap (fun b hb => ?_)⟩, ht.keepOut hk2 (by simp; exact hnh), by simp; exact h.tn, ?_, ((h.m1.keep hkl (fun hx => (hl b1 hx).2.1 (by simp))).keep hk2 (by simp; omega)).mono (by omega), (h.m2.keep hkl (fun hx => (hl b2 hx).2.1 (by simp))).keep hk2 (by simp; omega), ((h.m3.keep hkl (fun hx => (hl b3 hx).2.1 (by simp))).keep hk2 (by simp; omega)).mono (by omega), h.s1, h.s3, (h.bel.trans (hkl.below h.bel.size (fun x hx => by have := h.low; have := (hl x hx).1; omega))).trans (hk2.below (Nat.le_trans h.bel.size hkl.size) (by have := h.low; simp; omega)), h.low⟩
  · have g1 := h.box.lt
    have g2 := h.sv.sp.lt
    have g3 := h.sv.box.lt
    simp only [List.mem_cons, List.not_mem_nil, or_false, forall_eq_or_imp, forall_eq]
    exact ⟨hnh, hn b1 hl1 nt.2.1, hn b2 hl2 nt.2.2.1, hn b3 hl3 nt.2.2.2.1, hn gv g3 nt.2.2.2.2.1, hn gs g2 nt.2.2.2.2.2.1, hn gd (by omega) nt.2.2.2.2.2.2⟩
  · exact NotIn.past h.sv.sp.fam hb
  · intro y hy
    rcases List.mem_append.1 hy with hy | hy
    · exact h.ts y hy
    · simp only [List.mem_singleton] at hy
      subst hy; exact hx
theorem Held.seen (h : Held w0 n c N gh gv gs gd b1 b2 b3 r p v vt toks S F G w) (i : Int) (x : ByteArray) (hm : HasMap litI Tryz.prog 3 9 w' b2 (c + 1) (putG F i (.string x))) (hg : w.grownBy w' (some b2)) : Held w0 n (c + 1) N gh gv gs gd b1 b2 b3 r p v vt toks S (putG F i (.string x)) G w' := by
  have hk : Keep [b2] w w' := Keep.grown hg
  have h3 := h.far.ord
  have hne := h.far.ne
  have nt := h.far.nt
  have nv := h.far.nv
  simp only [List.mem_cons, List.not_mem_nil, or_false, forall_eq_or_imp, forall_eq] at nt nv
  exact ⟨h.sv.elsewhere hk (by simp; exact ⟨h3.2.2.1, nv.2.2.1⟩), h.box.keep hk (by simp; omega), ⟨h.far.ord, h.far.ne, h.far.nv, h.far.nt, h.far.ap⟩, h.toks.keepOut hk (by simp; exact nt.2.2.1), h.tn, h.ts, h.m1.keep hk (by simp; omega), hm, h.m3.keep hk (by simp; omega), h.s1, h.s3, h.bel.trans (hk.below h.bel.size (by have := h.low; have := h.sv.sp.ord; have := h.sv.ord; simp; omega)), h.low⟩
end
end Go.Proofs.YtlailakofhenkabGreatDoor

namespace Go.Proofs.YtlailakofhenkabGreatDoor
open Go Go.RowKit Tok Sc Ev
theorem pickN_math (a : Int) (n : Nat) (h0 : 0 < n) (h1 : n ≤ 9223372036854775807) : ∃ p : Nat, p < n ∧ (p : Int) = (a % 18446744073709551616) % n ∧ wrap64 ((IntKind.u64.wrap a).tmod n) = p := by
  have hn : 0 ≤ a % 18446744073709551616 % n := Int.emod_nonneg _ (by omega)
  have hl : a % 18446744073709551616 % n < n := Int.emod_lt_of_pos _ (by omega)
  refine ⟨(a % 18446744073709551616 % n).toNat, by omega, by omega, ?_⟩
  rw [IntKind.wrap_u64, Int.tmod_eq_emod_of_nonneg (by omega)]
  unfold wrap64
  omega
theorem wrapN (n : Nat) (h1 : n ≤ 9223372036854775807) : IntKind.u64.wrap (n : Int) = n := by
  rw [IntKind.wrap_u64]; omega
set_option maxHeartbeats 1000000 in
theorem pickN_is (a : Int) (n : Nat) (h0 : 0 < n) (h1 : n ≤ 9223372036854775807) (w : World) : Calls Tryz.prog 14 #[.int .i64 a, .int .i64 n] w fun e w' => ∃ p : Nat, p < n ∧ (p : Int) = (a % 18446744073709551616) % n ∧ e = .returned (.int .i64 p) ∧ w' = w := by
  obtain ⟨p, hp, hq, he⟩ := pickN_math a n h0 h1
  have hw := wrapN n h1
  have hz : ¬ (n : Int) = 0 := by omega
  have HE : Hid (wrap64 ((IntKind.u64.wrap a).tmod n) = p) := he
  clear he h0 h1
  go_enter Tryz.func14, Tryz.ntmps14
  go_wp2_with fail
  go_ret
  exact ⟨p, hp, hq, by rw [← HE.out]; rfl, rfl⟩
structure CB (w0 : World) (N bc bd gn gx gs gd : Nat) (cs : List Int) (ca : Option Addr) (cc : Nat) (p : Pub) (v : Value) (s : St) (vn : Value) (k : Nat) (w : World) : Prop where
  prog : SP N w gs gd p v
  cuts : w.cell? ⟨bc, 0, none⟩ = some (.slice ca cs.length cc)
  disk : w.cell? ⟨bd, 0, none⟩ = some (.pointer (some ⟨gd, 0, none⟩))
  n0 : w.cell? ⟨gn, 0, none⟩ = some (.int .i64 s.clock)
  n1 : w.cell? ⟨gn, 1, none⟩ = some (.int .i64 s.next)
  n2 : w.cell? ⟨gn, 2, none⟩ = some vn
  nf : ∀ i, w.frozen? ⟨gn, i, none⟩ = false
  nx : w.cell? ⟨gx, 0, none⟩ = some (.int .i64 k)
  xf : ∀ i, w.frozen? ⟨gx, i, none⟩ = false
  kle : k ≤ cs.length
  fam : Fams 0 w vn s.fams
  o1 : w0.heap.size ≤ bc ∧ bc < gd ∧ gd < bd ∧ bd < gn ∧ gn < gx ∧ gx < w.heap.size
  o2 : gs ≠ gn ∧ gs ≠ gx ∧ gs ≠ bd
  out : NotIn v gn ∧ NotIn v gx
  outN : NotIn vn gs ∧ NotIn vn gd ∧ NotIn vn gx ∧ NotIn vn gn
  below : Below w0.heap.size w0 w
theorem CB.on {w0 : World} {N bc bd gn gx gs gd : Nat} {cs : List Int} {ca : Option Addr} {cc : Nat} {p : Pub} {v : Value} {s : St} {vn : Value} {k : Nat} {w w' : World} (h : CB w0 N bc bd gn gx gs gd cs ca cc p v s vn k w) (hb : Below w.heap.size w w') : CB w0 N bc bd gn gx gs gd cs ca cc p v s vn k w' := by
  obtain ⟨o1, o2, o3, o4, o5, o6⟩ := h.o1
  have hc : ∀ n j, n < w.heap.size → w'.cell? ⟨n, j, none⟩ = w.cell? ⟨n, j, none⟩ := fun n j hn => hb.cell (p := ⟨n, j, none⟩) hn
  have hf : ∀ n j, n < w.heap.size → w'.frozen? ⟨n, j, none⟩ = w.frozen? ⟨n, j, none⟩ := fun n j hn => hb.frozen (p := ⟨n, j, none⟩) hn
  exact ⟨h.prog.on hb, (hc _ _ (by omega)).trans h.cuts, (hc _ _ (by omega)).trans h.disk, (hc _ _ (by omega)).trans h.n0, (hc _ _ (by omega)).trans h.n1, (hc _ _ (by omega)).trans h.n2, fun i => (hf _ _ (by omega)).trans (h.nf i), (hc _ _ (by omega)).trans h.nx, fun i => (hf _ _ (by omega)).trans (h.xf i), h.kle, h.fam.below hb (Nat.le_refl _), ⟨o1, o2, o3, o4, o5, Nat.lt_of_lt_of_le o6 hb.size⟩, h.o2, h.out, h.outN, h.below.trans (hb.mono h.below.size)⟩
theorem CB.mono {w0 : World} {N M bc bd gn gx gs gd : Nat} {cs : List Int} {ca : Option Addr} {cc : Nat} {p : Pub} {v : Value} {s : St} {vn : Value} {k : Nat} {w : World} (h : CB w0 N bc bd gn gx gs gd cs ca cc p v s vn k w) (hm : N ≤ M) : CB w0 M bc bd gn gx gs gd cs ca cc p v s vn k w :=
  ⟨h.prog.mono hm, h.cuts, h.disk, h.n0, h.n1, h.n2, h.nf, h.nx, h.xf, h.kle, h.fam, h.o1, h.o2, h.out, h.outN, h.below⟩
theorem CB.anew {w0 : World} {N bc bd gn gx gs g2 gd : Nat} {cs : List Int} {ca : Option Addr} {cc : Nat} {p q : Pub} {v v2 : Value} {s : St} {vn : Value} {k : Nat} {w w' : World} (h : CB w0 N bc bd gn gx gs gd cs ca cc p v s vn k w) (hb : Below w.heap.size w w') (hle : w.heap.size ≤ g2) (hp : SP N w' g2 gd q v2) : CB w0 N bc bd gn gx g2 gd cs ca cc q v2 s vn k w' := by
  have h' := h.on hb
  obtain ⟨o1, o2, o3, o4, o5, o6⟩ := h.o1
  exact ⟨hp, h'.cuts, h'.disk, h'.n0, h'.n1, h'.n2, h'.nf, h'.nx, h'.xf, h'.kle, h'.fam, h'.o1, ⟨by omega, by omega, by omega⟩, ⟨NotIn.above hp.fam (by omega), NotIn.above hp.fam (by omega)⟩, ⟨NotIn.past h.fam hle, h.outN.2⟩, h'.below⟩
end Go.Proofs.YtlailakofhenkabGreatDoor

namespace Go.Proofs.YtlailakofhenkabGreatDoor
open Go Go.RowKit Sc
theorem out_by {s : List UInt8} {l ws : List Word} (hw : words s = ws) (hf : ws.all wordB = true) (hs : l.Pairwise (· < ·)) (hm : ∀ x, x ∈ l ↔ x ∈ ws) (h5 : l.length ≤ 5) (h8 : ∀ w ∈ ws, w.length ≤ 8) : Out s l 0 := by
  refine .inl ⟨rfl, ?_, ?_, h5, ?_⟩
  · unfold formedB; rw [hw]; exact hf
  · rw [hw]; exact ⟨hs, hm⟩
  · rw [hw]; exact h8
theorem words_read : words [114, 101, 97, 100] = [[114, 101, 97, 100]] := by
  rw [words_ne (by simp), Tok.parts_no (by simp)]
theorem out_read : Out [114, 101, 97, 100] [[114, 101, 97, 100]] 0 := out_by words_read (by decide) (by simp) (fun _ => Iff.rfl) (by simp) (by simp)
end Go.Proofs.YtlailakofhenkabGreatDoor

namespace Go.Proofs.YtlailakofhenkabGreatDoor
open Go Go.RowKit Tok Sc Ev
structure XC (w : World) (g : Nat) (a : Int) (e : E) : Prop where
  c0 : w.cell? ⟨g, 0, none⟩ = some (.int .i64 a)
  c1 : w.cell? ⟨g, 1, none⟩ = some (.int .i64 e.kind)
  c2 : w.cell? ⟨g, 2, none⟩ = some (.int .i64 e.fam.id)
  c3 : w.cell? ⟨g, 3, none⟩ = some (.string e.fam.client)
  c4 : w.cell? ⟨g, 4, none⟩ = some (.string e.fam.subject)
  c5 : w.cell? ⟨g, 5, none⟩ = some (.string e.fam.scope)
  c6 : w.cell? ⟨g, 6, none⟩ = some (.int .i64 e.fam.gen)
  c7 : w.cell? ⟨g, 7, none⟩ = some (.int .i64 e.fam.made)
  c8 : w.cell? ⟨g, 8, none⟩ = some (.int .i64 e.fam.used)
  c9 : w.cell? ⟨g, 9, none⟩ = some (.string e.fam.request)
  c10 : w.cell? ⟨g, 10, none⟩ = some (.bool e.fam.dead)
  c11 : w.cell? ⟨g, 11, none⟩ = some (.int .i64 e.id)
  c12 : w.cell? ⟨g, 12, none⟩ = some (.int .i64 e.time)
  lt : g < w.heap.size
theorem XC.keep {l : List Nat} {w w' : World} {g : Nat} {a : Int} {e : E} (h : XC w g a e) (hk : Keep l w w') (hn : g ∉ l) : XC w' g a e := by
  have hc : ∀ i, w'.cell? ⟨g, i, none⟩ = w.cell? ⟨g, i, none⟩ := fun i => hk.cell (p := ⟨g, i, none⟩) h.lt hn
  exact ⟨(hc 0).trans h.c0, (hc 1).trans h.c1, (hc 2).trans h.c2, (hc 3).trans h.c3, (hc 4).trans h.c4, (hc 5).trans h.c5, (hc 6).trans h.c6, (hc 7).trans h.c7, (hc 8).trans h.c8, (hc 9).trans h.c9, (hc 10).trans h.c10, (hc 11).trans h.c11, (hc 12).trans h.c12, Nat.lt_of_lt_of_le h.lt hk.size⟩
theorem XC.on {w w' : World} {g : Nat} {a : Int} {e : E} (h : XC w g a e) (hb : Below w.heap.size w w') : XC w' g a e := h.keep (Keep.of [] hb) (by simp)
theorem XC.made (w : World) (a : Int) (e : E) (t : TypeId) : XC (w.alloc (.cells #[.int .i64 a, .int .i64 e.kind, .int .i64 e.fam.id, .string e.fam.client, .string e.fam.subject, .string e.fam.scope, .int .i64 e.fam.gen, .int .i64 e.fam.made, .int .i64 e.fam.used, .string e.fam.request, .bool e.fam.dead, .int .i64 e.id, .int .i64 e.time] t)) w.heap.size a e := by
  refine ⟨?_, ?_, ?_, ?_, ?_, ?_, ?_, ?_, ?_, ?_, ?_, ?_, ?_, by simp⟩ <;> exact (World.cell?_alloc_at _ _ _ _ rfl).trans rfl
structure BH (w : World) (gb gs gd gx gn : Nat) (s : St) (v : Value) : Prop where
  c0 : w.cell? ⟨gb, 0, none⟩ = some (.int .i64 s.clock)
  c1 : w.cell? ⟨gb, 1, none⟩ = some (.int .i64 s.next)
  c2 : w.cell? ⟨gb, 2, none⟩ = some v
  fz : ∀ i, w.frozen? ⟨gb, i, none⟩ = false
  fam : Fams 0 w v s.fams
  lt : gb < w.heap.size
  ne : gb ≠ gs ∧ gd < gb ∧ gx < gb ∧ gn < gb
  out : NotIn v gs ∧ NotIn v gd ∧ NotIn v gx ∧ NotIn v gn
theorem BH.keep {l : List Nat} {w w' : World} {gb gs gd gx gn : Nat} {s : St} {v : Value} (h : BH w gb gs gd gx gn s v) (hk : Keep l w w') (hl : ∀ x ∈ l, x = gs ∨ x = gd) : BH w' gb gs gd gx gn s v := by
  obtain ⟨n1, n2, n3, n4⟩ := h.ne
  have hn : gb ∉ l := fun hx => by rcases hl _ hx with e | e <;> omega
  have hc : ∀ i, w'.cell? ⟨gb, i, none⟩ = w.cell? ⟨gb, i, none⟩ := fun i => hk.cell (p := ⟨gb, i, none⟩) h.lt hn
  exact ⟨(hc 0).trans h.c0, (hc 1).trans h.c1, (hc 2).trans h.c2, fun i => (hk.frozen (p := ⟨gb, i, none⟩) h.lt hn).trans (h.fz i), hk.rowsOut h.fam (fun x hx => by rcases hl _ hx with rfl | rfl; exact h.out.1; exact h.out.2.1), Nat.lt_of_lt_of_le h.lt hk.size, h.ne, h.out⟩
theorem BH.on {w w' : World} {gb gs gd gx gn : Nat} {s : St} {v : Value} (h : BH w gb gs gd gx gn s v) (hb : Below w.heap.size w w') : BH w' gb gs gd gx gn s v := h.keep (Keep.of [] hb) (by simp)
theorem BH.put {B : Nat} {w : World} {gb gs gd gx gn : Nat} {s s' : St} {v v' : Value} (h : BH w gb gs gd gx gn s v) (hf : Fams B w v' s'.fams) (hB : gs < B ∧ gd < B ∧ gx < B ∧ gn < B ∧ gb < B) : BH (((w.setCell ⟨gb, 0, none⟩ (.int .i64 s'.clock)).setCell ⟨gb, 1, none⟩ (.int .i64 s'.next)).setCell ⟨gb, 2, none⟩ v') gb gs gd gx gn s' v' := by
  obtain ⟨b1, b2, b3, b4, b5⟩ := hB
  obtain ⟨p0, p1, p2⟩ := @three_set w gb (.int .i64 s'.clock) (.int .i64 s'.next) v' _ _ _ h.c0 h.c1 h.c2
  exact ⟨p0, p1, p2, fun i => by simp only [World.frozen?_setCell]; exact h.fz i, RowsK.mono (((hf.other (a := ⟨gb, 0, none⟩) b5 _).other (a := ⟨gb, 1, none⟩) b5 _).other (a := ⟨gb, 2, none⟩) b5 _) (Nat.zero_le _), by simpa using h.lt, h.ne, ⟨NotIn.above hf b1, NotIn.above hf b2, NotIn.above hf b3, NotIn.above hf b4⟩⟩
theorem CB.beside {w0 : World} {N bc bd gn gx gs gd gb : Nat} {cs : List Int} {ca : Option Addr} {cc : Nat} {p : Pub} {v : Value} {s : St} {vn : Value} {k : Nat} {w w' : World} (h : CB w0 N bc bd gn gx gs gd cs ca cc p v s vn k w) (hk : Keep [gb] w w') (hg : gb ≠ gs ∧ gd < gb ∧ gx < gb ∧ gn < gb) (hv : NotIn v gb) (hvn : NotIn vn gb) : CB w0 N bc bd gn gx gs gd cs ca cc p v s vn k w' := by
  obtain ⟨o1, o2, o3, o4, o5, o6⟩ := h.o1
  obtain ⟨g1, g2, g3, g4⟩ := hg
  have hc : ∀ n j, n < w.heap.size → n ≠ gb → w'.cell? ⟨n, j, none⟩ = w.cell? ⟨n, j, none⟩ := fun n j hn h1 => hk.cell (p := ⟨n, j, none⟩) hn (by simp [h1])
  have hf : ∀ n j, n < w.heap.size → n ≠ gb → w'.frozen? ⟨n, j, none⟩ = w.frozen? ⟨n, j, none⟩ := fun n j hn h1 => hk.frozen (p := ⟨n, j, none⟩) hn (by simp [h1])
  exact ⟨h.prog.elsewhere hk (fun x hx => by simp at hx; subst hx; exact ⟨g2, g1, hv⟩), (hc _ _ (by omega) (by omega)).trans h.cuts, (hc _ _ (by omega) (by omega)).trans h.disk, (hc _ _ (by omega) (by omega)).trans h.n0, (hc _ _ (by omega) (by omega)).trans h.n1, (hc _ _ (by omega) (by omega)).trans h.n2, fun i => (hf _ _ (by omega) (by omega)).trans (h.nf i), (hc _ _ (by omega) (by omega)).trans h.nx, fun i => (hf _ _ (by omega) (by omega)).trans (h.xf i), h.kle, hk.rowsOut h.fam (fun x hx => by simp at hx; subst hx; exact hvn), ⟨o1, o2, o3, o4, o5, Nat.lt_of_lt_of_le o6 hk.size⟩, h.o2, h.out, h.outN, h.below.trans (hk.below h.below.size (fun x hx => by simp at hx; omega))⟩
theorem tellQ (n : Nat) (w : World) (hE : ErrVar w) : Calls Tryz.prog 18 #[errQ n] w fun e w' => e = .returned (.int .i64 (n : Nat)) ∧ Below w.heap.size w w' := by
  match n with
  | 0 => exact (tell_nil w).mono (by rintro e w' ⟨rfl, rfl⟩; exact ⟨rfl, Below.refl _ _⟩)
  | n + 1 => exact tell_err ((n + 1 : Nat) : Int) w hE
theorem DB.on {N : Nat} {w w' : World} {gd : Nat} {p : Pub} (h : DB N w gd p) (hb : Below w.heap.size w w') : DB N w' gd p := by
  obtain ⟨A, sv, b, es, h1, h2, F, l', d1, d2, d3⟩ := h.run
  exact ⟨h.ok, ⟨A, sv, b, es, h1, h2, F, l', d1.below hb h.lt, d2, d3⟩, h.libs.below hb, h.err.on hb, h.olds, h.oldE, Nat.lt_of_lt_of_le h.lt hb.size⟩
end Go.Proofs.YtlailakofhenkabGreatDoor
