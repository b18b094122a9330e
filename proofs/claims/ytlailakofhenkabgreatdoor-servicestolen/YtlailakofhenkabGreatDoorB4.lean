/-
  Own texts put together: RowK, EvRow, EvWS, EvName, EvBox, ScScan, ScSort, ScApp.
-/
import Derived.Test.YtlailakofhenkabGreatDoorB3
import Derived.Deep.AppendSrc
import Derived.Lib.AppendZeros
import Derived.Shelf.Spec.SlicesInsertGrow
import Derived.Test.YtlailakofhenkabGreatDoorB2
import Derived.Deep.RegionHeld3
import Derived.Test.YtlailakofhenkabGreatDoorB1
import Derived.WalkKit
import Derived.WalkSpells
import Derived.WalkLawsBesides
import Derived.Deep.LoopGhost
import Derived.BigQuiet
import Derived.Test.YtlailakofhenkabGreatDoorShelf
import Derived.Lib.SortBridge
namespace Go.Proofs.YtlailakofhenkabGreatDoor
open Go Go.RowKit
structure RowK (k B : Nat) (w : World) (g c n : Nat) (cs : List Value) : Prop where
  new : B ≤ g
  lt : g < w.heap.size
  len : cs.length = n * k
  le : n ≤ c
  max : c ≤ maxLen
  one : ∀ u ∈ cs, u.oneCell' = true
  holds : ∀ j u, cs[j]? = some u → w.cell? ⟨g, j, none⟩ = some u
  there : ∀ j, j < c * k → (w.cell? ⟨g, j, none⟩).isSome = true ∧ w.frozen? ⟨g, j, none⟩ = false
theorem RowK.block {k B : Nat} {w w' : World} {g c n : Nat} {cs : List Value} (h : RowK k B w g c n cs) (hs : w.heap.size ≤ w'.heap.size) (hb : w'.heap[g]? = w.heap[g]?) : RowK k B w' g c n cs :=
  ⟨h.new, Nat.lt_of_lt_of_le h.lt hs, h.len, h.le, h.max, h.one, fun j u hj => (World.cell?_of_block (a := ⟨g, j, none⟩) hb).trans (h.holds j u hj),
    fun j hj => ⟨by rw [World.cell?_of_block (a := ⟨g, j, none⟩) hb]; exact (h.there j hj).1, (World.frozen?_of_block (a := ⟨g, j, none⟩) hb).trans (h.there j hj).2⟩⟩
theorem RowK.below {k B B' : Nat} {w w' : World} {g c n : Nat} {cs : List Value} (h : RowK k B w g c n cs) (hb : Below B' w w') (hg : g < B') : RowK k B w' g c n cs := h.block hb.size (hb.block g hg)
theorem RowK.mono {k B B' : Nat} {w : World} {g c n : Nat} {cs : List Value} (h : RowK k B w g c n cs) (hB : B' ≤ B) : RowK k B' w g c n cs := { h with new := Nat.le_trans hB h.new }
theorem RowK.setCells {k B : Nat} {w : World} {g c n n' : Nat} {cs cs' : List Value} (h : RowK k B w g c n cs) (o : Nat) (vs : List Value) (ho : o + vs.length ≤ c * k) (hn : n' ≤ c) (hl : cs'.length = n' * k) (h1 : ∀ u ∈ cs', u.oneCell' = true)
    (hh : ∀ j u, cs'[j]? = some u → (o ≤ j ∧ j < o + vs.length → vs[j - o]? = some u) ∧ (¬ (o ≤ j ∧ j < o + vs.length) → w.cell? ⟨g, j, none⟩ = some u)) : RowK k B (w.setCells g o vs) g c n' cs' := by
  have hthere : ∀ j, j < vs.length → (w.cell? ⟨g, o + j, none⟩).isSome = true := fun j hj => (h.there (o + j) (by omega)).1
  refine ⟨h.new, ?_, hl, hn, h.max, h1, fun j u hj => ?_, fun j hj => ⟨?_, ?_⟩⟩
  · have hb := below_setCellsW (B := 0) (Nat.zero_le g) vs o w
    exact Nat.lt_of_lt_of_le h.lt hb.size
  · by_cases hin : o ≤ j ∧ j < o + vs.length
    · obtain ⟨d, rfl⟩ : ∃ d, j = o + d := ⟨j - o, by omega⟩
      have hv := (hh _ u hj).1 hin
      rw [show o + d - o = d by omega] at hv
      have hd : d < vs.length := (List.getElem?_eq_some_iff.1 hv).1
      rw [World.cell?_setCells_in g vs o w hthere d hd, ← hv, List.getElem?_eq_getElem hd]
    · rw [World.cell?_setCells_out g vs o w ⟨g, j, none⟩ (fun _ _ => by show j < o ∨ o + vs.length ≤ j; omega)]
      exact (hh _ u hj).2 hin
  · by_cases hin : o ≤ j ∧ j < o + vs.length
    · obtain ⟨d, rfl⟩ : ∃ d, j = o + d := ⟨j - o, by omega⟩
      rw [World.cell?_setCells_in g vs o w hthere d (by omega)]
      rfl
    · rw [World.cell?_setCells_out g vs o w ⟨g, j, none⟩ (fun _ _ => by show j < o ∨ o + vs.length ≤ j; omega)]
      exact (h.there j hj).1
  · rw [World.frozen?_setCells]
    exact (h.there j hj).2
theorem rowK_new {k B : Nat} {w : World} (hB : B ≤ w.heap.size) (cs : List Value) (n : Nat) (hn : cs.length = n * k) (h1 : ∀ u ∈ cs, u.oneCell' = true) (z : Array Value) (hz : z.size = k) (G : Nat) (t : TypeId) (hm : G ≤ maxLen) (hl : n ≤ G) : RowK k B (w.alloc (.cells (cs.toArray ++ Builtin.zeroCells z (G - n)) t)) w.heap.size G n cs := by
  have hs : (cs.toArray ++ Builtin.zeroCells z (G - n)).size = G * k := by
    rw [Array.size_append, size_zeroCells, hz, List.size_toArray, hn, ← Nat.add_mul]
    congr 1
    omega
  refine ⟨hB, by simp, hn, hl, hm, h1, fun j u hj => ?_, fun j hj => ⟨?_, World.frozen?_alloc_at _ _ _ _ (by simp)⟩⟩
  · have hl := (List.getElem?_eq_some_iff.1 hj).1
    rw [World.cell?_alloc_at _ _ _ _ (by simp), Array.getElem?_append_left (by simpa using hl)]
    simpa using hj
  · rw [World.cell?_alloc_at _ _ _ _ (by simp), Array.getElem?_eq_getElem (by rw [hs]; exact hj)]
    rfl
def RowsK (k B : Nat) (w : World) (v : Value) (n : Nat) (cs : List Value) : Prop :=
  (v = .slice none 0 0 ∧ n = 0 ∧ cs = []) ∨ ∃ g c, v = .slice (some ⟨g, 0, none⟩) n c ∧ RowK k B w g c n cs
theorem RowsK.below {k B B' : Nat} {w w' : World} {v : Value} {n : Nat} {cs : List Value} (h : RowsK k B w v n cs) (hb : Below B' w w') (hB : w.heap.size ≤ B') : RowsK k B w' v n cs := by
  rcases h with h | ⟨g, c, rfl, hr⟩
  · exact .inl h
  · exact .inr ⟨g, c, rfl, hr.below hb (Nat.lt_of_lt_of_le hr.lt hB)⟩
theorem RowsK.mono {k B B' : Nat} {w : World} {v : Value} {n : Nat} {cs : List Value} (h : RowsK k B w v n cs) (hB : B' ≤ B) : RowsK k B' w v n cs := by
  rcases h with h | ⟨g, c, rfl, hr⟩
  · exact .inl h
  · exact .inr ⟨g, c, rfl, hr.mono hB⟩
theorem RowsK.slice {k B : Nat} {w : World} {v : Value} {n : Nat} {cs : List Value} (h : RowsK k B w v n cs) : ∃ base c, v = .slice base n c := by
  rcases h with ⟨rfl, rfl, _⟩ | ⟨g, c, rfl, _⟩
  · exact ⟨_, _, rfl⟩
  · exact ⟨_, _, rfl⟩
theorem RowsK.src {k B : Nat} {P : Program} {w : World} {v : Value} {n : Nat} {cs : List Value} (h : RowsK k B w v n cs) {t e : TypeId} (ht : P.underlying t = some (.slice e)) : Src P k t v n cs w := by
  rcases h with ⟨rfl, rfl, rfl⟩ | ⟨g, c, rfl, hr⟩
  · exact Src.ofNil w ht 0
  · exact Src.ofSlice w ht ⟨g, 0, none⟩ n c cs hr.len (fun j u hj => by rw [Addr.add_lit, Nat.zero_add]; exact hr.holds j u hj) hr.one
theorem RowsK.first {k B : Nat} {P : Program} {w : World} {v : Value} {n : Nat} {cs : List Value} (h : RowsK k B w v n cs) : (Builtin.firstCells k n v).run P w.drew = .ok cs.toArray w.drew := by
  rcases h with ⟨rfl, rfl, rfl⟩ | ⟨g, c, rfl, hr⟩
  · exact run_firstCells_none w.drew k 0 0 0
  · exact run_firstCells_some w.drew k n ⟨g, 0, none⟩ n c cs hr.len (fun j u hj => by rw [Addr.add_lit, Nat.zero_add]; exact hr.holds j u hj)
theorem run_append_rowsK {P : Program} (w : World) (t ty e : TypeId) (i : TypeInfo) (z : Value) (k bytes : Nat) (h1 : P.underlying t = some (.slice e)) (h2 : P.info? e = some i) (h3 : i.zero = some z) (h4 : i.size = k) (h5 : i.bytes = bytes) (h6 : z.cells.size = k)
    (B : Nat) (v : Value) (n : Nat) (cs : List Value) (h : RowsK k B w v n cs) (hB : B ≤ w.heap.size) (x : Value) (m : Nat) (us : List Value) (hs : Src P k t x m us w) (hb : n + m ≤ 1000000) (hby : bytes ≤ 1000000) :
    ∃ v' w', (Builtin.append_ #[t, t] ty #[v, x]).run P w = .ok v' w' ∧ RowsK k B w' v' (n + m) (cs ++ us) ∧ Below B w w' ∧ (m ≠ 0 → v' ≠ .slice none 0 0) := by
  have hmul : (n + m) * bytes ≤ 1000000 * 1000000 := Nat.mul_le_mul hb hby
  have hlen : (cs ++ us).length = (n + m) * k := by
    rw [List.length_append, hs.newsLen, Nat.add_mul]
    congr 1
    rcases h with ⟨_, rfl, rfl⟩ | ⟨g, c, _, hr⟩
    · simp
    · exact hr.len
  have hone : ∀ u ∈ cs ++ us, u.oneCell' = true := by
    intro u hu
    rw [List.mem_append] at hu
    rcases hu with hu | hu
    · rcases h with ⟨_, _, rfl⟩ | ⟨g, c, _, hr⟩
      · cases hu
      · exact hr.one u hu
    · exact hs.one u hu
  have grown : ∀ (base : Option Addr) (c : Nat), v = .slice base n c → c < n + m → ∃ v' w', (Builtin.append_ #[t, t] ty #[v, x]).run P w = .ok v' w' ∧ RowsK k B w' v' (n + m) (cs ++ us) ∧ Below B w w' ∧ (m ≠ 0 → v' ≠ .slice none 0 0) := by
    intro base c hv hc
    have hf := h.first (P := P)
    rw [hv] at hf ⊢
    subst h4
    have hr := run_append_grow_src w t t ty e i z h1 h2 h3 base n c cs hf x m us hs hc (by omega) (by rw [h5]; exact growslice_fits hc (by omega))
    have hm := grownCap_le_maxLen w (n + m) c e (by unfold maxLen; omega)
    have hge := grownCap_ge w (n + m) c e
    refine ⟨_, _, hr, .inr ⟨_, _, rfl, ?_⟩, ((Below.refl B w).drew).alloc hB _, fun _ h => by cases h⟩
    exact rowK_new (B := B) (w := w.drew) hB (cs ++ us) (n + m) hlen hone _ h6 _ e hm hge
  rcases h with ⟨rfl, rfl, rfl⟩ | ⟨g, c, rfl, hr⟩
  · by_cases hm : m = 0
    · subst hm
      have hu : us = [] := List.eq_nil_of_length_eq_zero (by simpa using hs.newsLen)
      subst hu
      refine ⟨.slice none 0 0, w, ?_, .inl ⟨rfl, rfl, rfl⟩, Below.refl _ _, fun h => absurd rfl h⟩
      simp [Builtin.append_, run_underlying h1, sizeOf, typeInfo, h2, h4, hs.len, hs.cells]
    · exact grown none 0 rfl (by omega)
  · by_cases hc : n + m ≤ c
    · have hul := hs.newsLen
      have hk : n * k + m * k ≤ c * k := by rw [← Nat.add_mul]; exact Nat.mul_le_mul_right _ hc
      subst h4
      have hrr := run_append_room_src w t t ty e i h1 h2 g 0 n c x m us hs hc (fun j hj => by rw [Nat.zero_add]; exact (hr.there _ (by omega)).1) (fun j hj => by rw [Nat.zero_add]; exact (hr.there _ (by omega)).2)
      rw [Nat.zero_add] at hrr
      refine ⟨_, _, hrr, .inr ⟨g, c, rfl, ?_⟩, below_setCellsW hr.new us (n * i.size) w, fun _ h => by cases h⟩
      refine hr.setCells (n * i.size) us (by omega) hc hlen hone (fun j u hj => ⟨fun hin => ?_, fun hout => ?_⟩)
      · rw [List.getElem?_append_right (by rw [hr.len]; omega), hr.len] at hj
        exact hj
      · have hjl := (List.getElem?_eq_some_iff.1 hj).1
        rw [hlen, Nat.add_mul] at hjl
        rw [List.getElem?_append_left (by rw [hr.len]; omega)] at hj
        exact hr.holds j u hj
    · exact grown _ c rfl (by omega)
theorem wpList_append_rowsK {P : Program} (w : World) {ops : Array Oper} {rest : List Oper} {o : Oper} {a : Act} {Q : Exit → Act → World → Prop}
    (hg : o.guard = none) (s x : Operand) (t : TypeId) (hop : o.op = Op.call { callee := Callee.builtin Builtin.append, args := #[s, x], argTypes := #[t, t] })
    (e : TypeId) (i : TypeInfo) (z : Value) (k bytes : Nat) (h1 : P.underlying t = some (.slice e)) (h2 : P.info? e = some i) (h3 : i.zero = some z) (h4 : i.size = k) (h5 : i.bytes = bytes) (h6 : z.cells.size = k)
    (B : Nat) (v : Value) (n : Nat) (cs : List Value) (hs : a.eval s = v) (h : RowsK k B w v n cs) (hB : B ≤ w.heap.size)
    (y : Value) (m : Nat) (us : List Value) (hx : a.eval x = y) (hsrc : Src P k t y m us w) (hb : n + m ≤ 1000000) (hby : bytes ≤ 1000000)
    (hK : ∀ v' w', RowsK k B w' v' (n + m) (cs ++ us) → Below B w w' → (m ≠ 0 → v' ≠ .slice none 0 0) → wpList P ops Q rest (a.put o.dst v') w') :
    wpList P ops Q (o :: rest) a w := by
  obtain ⟨v', w', hr, h7, h8, h9⟩ := run_append_rowsK (P := P) w t o.type e i z k bytes h1 h2 h3 h4 h5 h6 B v n cs h hB y m us hsrc hb hby
  exact Lib.wpList_append_run w hg s x t t hop _ _ hs hx _ _ hr (hK v' w' h7 h8 h9)
theorem run_copy_cellsK {P : Program} (w : World) (dT sT ty elem : TypeId) (k b o dLen dCap : Nat) (a : Addr) (sLen sCap : Nat) (cs : List Value)
    (hu : P.underlying dT = some (.slice elem)) (hs : (P.info? elem).map (·.size) = some k) (hn : cs.length = Nat.min sLen dLen * k)
    (hsrc : ∀ j v, cs[j]? = some v → w.cell? (a.add j) = some v) (hc : ∀ j, j < cs.length → (w.cell? ⟨b, o + j, none⟩).isSome = true) (hf : ∀ j, j < cs.length → w.frozen? ⟨b, o + j, none⟩ = false) (h1 : ∀ v ∈ cs, v.oneCell' = true) :
    (Builtin.copy_ #[dT, sT] ty #[.slice (some ⟨b, o, none⟩) dLen dCap, .slice (some a) sLen sCap]).run P w = .ok (goInt (Nat.min sLen dLen)) (w.setCells b o cs) := by
  have hl := run_loadCells_list (P := P) w a cs hsrc
  have hst := run_storeCells_cells (P := P) b o cs 0 w (by simpa using hc) (by simpa using hf) h1
  cases hq : P.info? elem with
  | none => simp [hq] at hs
  | some i =>
    have hi : i.size = k := by simpa [hq] using hs
    simp [Builtin.copy_, run_underlying hu, Builtin.lenOf, Builtin.firstCells, sizeOf, typeInfo, hq, hi, ← hn, hl, hst]
end Go.Proofs.YtlailakofhenkabGreatDoor

namespace Go.Proofs.YtlailakofhenkabGreatDoor
open Go Go.RowKit Ev
def famCs (f : Fam) : List Value := [.int .i64 f.id, .string f.client, .string f.subject, .string f.scope, .int .i64 f.gen, .int .i64 f.made, .int .i64 f.used, .string f.request, .bool f.dead]
def famV (f : Fam) : Value := .agg (famCs f).toArray
theorem famCs_len (f : Fam) : (famCs f).length = 9 := rfl
theorem famCs_one (f : Fam) : ∀ u ∈ famCs f, u.oneCell' = true := by
  intro u hu
  simp only [famCs, List.mem_cons, List.not_mem_nil, or_false] at hu
  rcases hu with rfl | rfl | rfl | rfl | rfl | rfl | rfl | rfl | rfl <;> rfl
def famsCs (l : List Fam) : List Value := l.flatMap famCs
theorem famsCs_cons (f : Fam) (l : List Fam) : famsCs (f :: l) = famCs f ++ famsCs l := rfl
theorem famsCs_app (l m : List Fam) : famsCs (l ++ m) = famsCs l ++ famsCs m := List.flatMap_append
theorem famsCs_one1 (f : Fam) : famsCs [f] = famCs f := by simp [famsCs]
theorem famsCs_len : ∀ l : List Fam, (famsCs l).length = l.length * 9
  | [] => rfl
  | f :: l => by rw [famsCs_cons, List.length_append, famCs_len, famsCs_len l, List.length_cons]; omega
theorem famsCs_at : ∀ (l : List Fam) (j i : Nat) (hj : j < l.length), i < 9 → (famsCs l)[j * 9 + i]? = (famCs l[j])[i]?
  | f :: l, 0, i, _, hi => by
    rw [famsCs_cons, List.getElem?_append_left (by rw [famCs_len]; omega), Nat.zero_mul, Nat.zero_add]
    rfl
  | f :: l, j + 1, i, hj, hi => by
    rw [famsCs_cons, List.getElem?_append_right (by rw [famCs_len]; omega), famCs_len, show (j + 1) * 9 + i - 9 = j * 9 + i by omega, famsCs_at l j i (by simpa using hj) hi]
    rfl
theorem famsCs_take (l : List Fam) (i : Nat) (hi : i ≤ l.length) : famsCs (l.take i) = (famsCs l).take (i * 9) := by
  have e : famsCs l = famsCs (l.take i) ++ famsCs (l.drop i) := by rw [← famsCs_app, List.take_append_drop]
  have hl : (famsCs (l.take i)).length = i * 9 := by rw [famsCs_len, List.length_take]; congr 1; omega
  rw [e, ← hl, List.take_left]
theorem famsCs_drop (l : List Fam) (i : Nat) (hi : i ≤ l.length) : famsCs (l.drop i) = (famsCs l).drop (i * 9) := by
  have e : famsCs l = famsCs (l.take i) ++ famsCs (l.drop i) := by rw [← famsCs_app, List.take_append_drop]
  have hl : (famsCs (l.take i)).length = i * 9 := by rw [famsCs_len, List.length_take]; congr 1; omega
  rw [e, ← hl, List.drop_left]
abbrev Fams (B : Nat) (w : World) (v : Value) (l : List Fam) : Prop := RowsK 9 B w v l.length (famsCs l)
theorem Fams.nil (B : Nat) (w : World) : Fams B w (.slice none 0 0) [] := .inl ⟨rfl, rfl, rfl⟩
theorem Fams.cell {B : Nat} {w : World} {base : Option Addr} {c : Nat} {l : List Fam} (h : Fams B w (.slice base l.length c) l) (j : Nat) (hj : j < l.length) : ∃ g, base = some ⟨g, 0, none⟩ ∧ g < w.heap.size ∧ ∀ i u, (famCs l[j])[i]? = some u → w.cell? ⟨g, j * 9 + i, none⟩ = some u := by
  rcases h with ⟨_, h0, _⟩ | ⟨g, c', e, hr⟩
  · omega
  · injection e with e _ _
    refine ⟨g, e, hr.lt, fun i u hi => hr.holds _ _ ?_⟩
    have hi9 : i < 9 := by
      have := (List.getElem?_eq_some_iff.1 hi).1
      rwa [famCs_len] at this
    rw [famsCs_at l j i hj hi9]
    exact hi
structure FamAt (w : World) (g o : Nat) (f : Fam) : Prop where
  c0 : w.cell? ⟨g, o, none⟩ = some (.int .i64 f.id)
  c1 : w.cell? ⟨g, o + 1, none⟩ = some (.string f.client)
  c2 : w.cell? ⟨g, o + 2, none⟩ = some (.string f.subject)
  c3 : w.cell? ⟨g, o + 3, none⟩ = some (.string f.scope)
  c4 : w.cell? ⟨g, o + 4, none⟩ = some (.int .i64 f.gen)
  c5 : w.cell? ⟨g, o + 5, none⟩ = some (.int .i64 f.made)
  c6 : w.cell? ⟨g, o + 6, none⟩ = some (.int .i64 f.used)
  c7 : w.cell? ⟨g, o + 7, none⟩ = some (.string f.request)
  c8 : w.cell? ⟨g, o + 8, none⟩ = some (.bool f.dead)
theorem famAt_of {w : World} {g o : Nat} {f : Fam} (h : ∀ i u, (famCs f)[i]? = some u → w.cell? ⟨g, o + i, none⟩ = some u) : FamAt w g o f :=
  ⟨h 0 _ rfl, h 1 _ rfl, h 2 _ rfl, h 3 _ rfl, h 4 _ rfl, h 5 _ rfl, h 6 _ rfl, h 7 _ rfl, h 8 _ rfl⟩
theorem famAt_made (w : World) (f : Fam) (t : TypeId) (g : Nat) (hg : g = w.heap.size) : FamAt (w.alloc (.cells #[.int .i64 f.id, .string f.client, .string f.subject, .string f.scope, .int .i64 f.gen, .int .i64 f.made, .int .i64 f.used, .string f.request, .bool f.dead] t)) g 0 f := by
  constructor <;> exact (World.cell?_alloc_at _ _ _ _ hg).trans rfl
theorem FamAt.all {w : World} {g o : Nat} {f : Fam} (h : FamAt w g o f) : ∀ i u, (famCs f)[i]? = some u → w.cell? ⟨g, o + i, none⟩ = some u := by
  intro i u hi
  match i, hi with
  | 0, hi => cases hi; exact h.c0
  | 1, hi => cases hi; exact h.c1
  | 2, hi => cases hi; exact h.c2
  | 3, hi => cases hi; exact h.c3
  | 4, hi => cases hi; exact h.c4
  | 5, hi => cases hi; exact h.c5
  | 6, hi => cases hi; exact h.c6
  | 7, hi => cases hi; exact h.c7
  | 8, hi => cases hi; exact h.c8
  | i + 9, hi => simp [famCs] at hi
theorem FamAt.on {w w' : World} {g o B : Nat} {f : Fam} (h : FamAt w g o f) (hb : Below B w w') (hg : g < B) : FamAt w' g o f :=
  famAt_of (fun i u hi => (hb.cell (p := ⟨g, o + i, none⟩) hg).trans (h.all i u hi))
theorem Fams.fam {B : Nat} {w : World} {base : Option Addr} {c : Nat} {l : List Fam} (h : Fams B w (.slice base l.length c) l) (j : Nat) (hj : j < l.length) : ∃ g, base = some ⟨g, 0, none⟩ ∧ g < w.heap.size ∧ FamAt w g (j * 9) l[j] := by
  obtain ⟨g, e, hl, hc⟩ := h.cell j hj
  exact ⟨g, e, hl, famAt_of hc⟩
end Go.Proofs.YtlailakofhenkabGreatDoor

namespace Go.Proofs.YtlailakofhenkabGreatDoor
open Go Go.RowKit Tok Sc Ev
structure WS (w0 : World) (g : Nat) (f : Fam) (w' : World) : Prop where
  libs : LibsE w'
  box : FamAt w' g 0 f
  lt : g < w'.heap.size
  below : Below w0.heap.size w0 w'
theorem WS.on {w0 : World} {g : Nat} {f : Fam} {w w' : World} (h : WS w0 g f w) (hb : Below w.heap.size w w') : WS w0 g f w' :=
  ⟨h.libs.below hb, h.box.on hb h.lt, Nat.lt_of_lt_of_le h.lt hb.size, h.below.trans (hb.mono h.below.size)⟩
theorem ws_all {w0 : World} {g : Nat} {f1 : Int} {f2 f3 f4 : ByteArray} {f5 f6 f7 : Int} {f8 : ByteArray} {f9 : Bool} {w : World} (h : WS w0 g ⟨f1, f2, f3, f4, f5, f6, f7, f8, f9⟩ w) : (w.cell? ⟨g, 0, none⟩ = some (.int .i64 f1) ∧ w.cell? ⟨g, 1, none⟩ = some (.string f2) ∧ w.cell? ⟨g, 2, none⟩ = some (.string f3) ∧ w.cell? ⟨g, 3, none⟩ = some (.string f4) ∧ w.cell? ⟨g, 4, none⟩ = some (.int .i64 f5) ∧ w.cell? ⟨g, 5, none⟩ = some (.int .i64 f6) ∧ w.cell? ⟨g, 6, none⟩ = some (.int .i64 f7) ∧ w.cell? ⟨g, 7, none⟩ = some (.string f8) ∧ w.cell? ⟨g, 8, none⟩ = some (.bool f9) ∧ WS w0 g ⟨f1, f2, f3, f4, f5, f6, f7, f8, f9⟩ w) := by
  have b := h.box
  exact ⟨b.c0, b.c1, b.c2, b.c3, b.c4, b.c5, b.c6, b.c7, b.c8, h⟩
theorem ws_keep {w0 : World} {g : Nat} {f1 : Int} {f2 f3 f4 : ByteArray} {f5 f6 f7 : Int} {f8 : ByteArray} {f9 : Bool} {w w' : World} (h : (w.cell? ⟨g, 0, none⟩ = some (.int .i64 f1) ∧ w.cell? ⟨g, 1, none⟩ = some (.string f2) ∧ w.cell? ⟨g, 2, none⟩ = some (.string f3) ∧ w.cell? ⟨g, 3, none⟩ = some (.string f4) ∧ w.cell? ⟨g, 4, none⟩ = some (.int .i64 f5) ∧ w.cell? ⟨g, 5, none⟩ = some (.int .i64 f6) ∧ w.cell? ⟨g, 6, none⟩ = some (.int .i64 f7) ∧ w.cell? ⟨g, 7, none⟩ = some (.string f8) ∧ w.cell? ⟨g, 8, none⟩ = some (.bool f9) ∧ WS w0 g ⟨f1, f2, f3, f4, f5, f6, f7, f8, f9⟩ w)) (hb : Below w.heap.size w w') : (w'.cell? ⟨g, 0, none⟩ = some (.int .i64 f1) ∧ w'.cell? ⟨g, 1, none⟩ = some (.string f2) ∧ w'.cell? ⟨g, 2, none⟩ = some (.string f3) ∧ w'.cell? ⟨g, 3, none⟩ = some (.string f4) ∧ w'.cell? ⟨g, 4, none⟩ = some (.int .i64 f5) ∧ w'.cell? ⟨g, 5, none⟩ = some (.int .i64 f6) ∧ w'.cell? ⟨g, 6, none⟩ = some (.int .i64 f7) ∧ w'.cell? ⟨g, 7, none⟩ = some (.string f8) ∧ w'.cell? ⟨g, 8, none⟩ = some (.bool f9) ∧ WS w0 g ⟨f1, f2, f3, f4, f5, f6, f7, f8, f9⟩ w') := ws_all (h.2.2.2.2.2.2.2.2.2.on hb)
theorem ws_drew {w0 : World} {g : Nat} {f1 : Int} {f2 f3 f4 : ByteArray} {f5 f6 f7 : Int} {f8 : ByteArray} {f9 : Bool} {w : World} (h : WS w0 g ⟨f1, f2, f3, f4, f5, f6, f7, f8, f9⟩ w) : (w.drew.cell? ⟨g, 0, none⟩ = some (.int .i64 f1) ∧ w.drew.cell? ⟨g, 1, none⟩ = some (.string f2) ∧ w.drew.cell? ⟨g, 2, none⟩ = some (.string f3) ∧ w.drew.cell? ⟨g, 3, none⟩ = some (.string f4) ∧ w.drew.cell? ⟨g, 4, none⟩ = some (.int .i64 f5) ∧ w.drew.cell? ⟨g, 5, none⟩ = some (.int .i64 f6) ∧ w.drew.cell? ⟨g, 6, none⟩ = some (.int .i64 f7) ∧ w.drew.cell? ⟨g, 7, none⟩ = some (.string f8) ∧ w.drew.cell? ⟨g, 8, none⟩ = some (.bool f9) ∧ WS w0 g ⟨f1, f2, f3, f4, f5, f6, f7, f8, f9⟩ w.drew) := ws_all (h.on (Below.refl _ _).drew)
theorem ws_libs {w0 : World} {g : Nat} {f1 : Int} {f2 f3 f4 : ByteArray} {f5 f6 f7 : Int} {f8 : ByteArray} {f9 : Bool} {w : World} (h : (w.cell? ⟨g, 0, none⟩ = some (.int .i64 f1) ∧ w.cell? ⟨g, 1, none⟩ = some (.string f2) ∧ w.cell? ⟨g, 2, none⟩ = some (.string f3) ∧ w.cell? ⟨g, 3, none⟩ = some (.string f4) ∧ w.cell? ⟨g, 4, none⟩ = some (.int .i64 f5) ∧ w.cell? ⟨g, 5, none⟩ = some (.int .i64 f6) ∧ w.cell? ⟨g, 6, none⟩ = some (.int .i64 f7) ∧ w.cell? ⟨g, 7, none⟩ = some (.string f8) ∧ w.cell? ⟨g, 8, none⟩ = some (.bool f9) ∧ WS w0 g ⟨f1, f2, f3, f4, f5, f6, f7, f8, f9⟩ w)) : LibsE w := h.2.2.2.2.2.2.2.2.2.libs
end Go.Proofs.YtlailakofhenkabGreatDoor

namespace Go.Proofs.YtlailakofhenkabGreatDoor
open Go Go.RowKit Tok Sc Ev
def inB3 (n a b : Int) : Bool := decide (a ≤ n) && decide (n ≤ b)
theorem nm_take (s : ByteArray) (k : Nat) (h : k < s.size) : (s.data.toList.take (k + 1)).all nmB = ((s.data.toList.take k).all nmB && nmB s[k]) := by
  rw [List.take_succ_eq_append_getElem (by simpa using h), List.all_append]
  simp
  rfl
theorem nm_bad {s : ByteArray} {k : Nat} (h : k < s.size) (hb : nmB s[k] = false) : nameB s.data.toList = false := by
  cases hw : nameB s.data.toList with
  | false => rfl
  | true =>
    have := (nameB_iff.1 hw).1 s[k] (by
      show s.data[k] ∈ s.data.toList
      exact Array.mem_toList_iff.2 (Array.getElem_mem h))
    rw [hb] at this
    cases this
theorem nm_full {s : ByteArray} (h : (s.data.toList.take s.size).all nmB = true) : nameB s.data.toList = inB3 s.size 1 20 := by
  rw [List.take_of_length_le (by simp)] at h
  unfold nameB inB3
  rw [h, Bool.true_and]
  have hl : s.data.toList.length = s.size := Array.length_toList
  rw [hl, Bool.eq_iff_iff]
  simp only [Bool.and_eq_true, decide_eq_true_eq]
  omega
theorem nm_lo {c : UInt8} (h1 : 97 ≤ c.toNat) (h2 : c.toNat ≤ 122) : nmB c = true := nmB_iff.2 (.inl ⟨h1, h2⟩)
theorem nm_di {c : UInt8} (h1 : 48 ≤ c.toNat) (h2 : c.toNat ≤ 57) : nmB c = true := nmB_iff.2 (.inr (.inl ⟨h1, h2⟩))
theorem nm_da {c : UInt8} (h1 : c.toNat = 45) : nmB c = true := nmB_iff.2 (.inr (.inr h1))
theorem nm_no {c : UInt8} (h : ¬ ((97 ≤ c.toNat ∧ c.toNat ≤ 122) ∨ (48 ≤ c.toNat ∧ c.toNat ≤ 57) ∨ c.toNat = 45)) : nmB c = false := Bool.eq_false_iff.2 (fun k => h (nmB_iff.1 k))
theorem nmB_def (c : UInt8) : nmB c = ((decide ((97 : Int) ≤ c.toNat) && decide ((c.toNat : Int) ≤ 122)) || (decide ((48 : Int) ≤ c.toNat) && decide ((c.toNat : Int) ≤ 57)) || ((c.toNat : Int) == 45)) := by
  rw [Bool.eq_iff_iff, nmB_iff]
  simp only [Bool.or_eq_true, Bool.and_eq_true, decide_eq_true_eq, beq_iff_eq]
  omega
set_option maxHeartbeats 2000000 in
theorem letter_is (c : UInt8) (w : World) : Calls Tryz.prog 95 #[.int .u8 c.toNat] w fun e w' => e = .returned (.bool (nmB c)) ∧ w' = w := by
  have HD := nmB_def c
  by_cases h1 : (97 : Int) ≤ c.toNat
  · by_cases h2 : (c.toNat : Int) ≤ 122
    · have HL : Hid (nmB c = true) := nm_lo (by omega) (by omega)
      clear HD
      go_enter Tryz.func95, Tryz.ntmps95
      go_wp2_with fail
      go_ret
      exact ⟨by rw [HL.out]; rfl, rfl⟩
    · have HL : Hid (nmB c = false) := nm_no (by omega)
      have h3 : (48 : Int) ≤ c.toNat := by omega
      have h4 : ¬ (c.toNat : Int) ≤ 57 := by omega
      have h5 : ((c.toNat : Int) == 45) = false := by rw [beq_eq_false_iff_ne]; omega
      clear HD
      go_enter Tryz.func95, Tryz.ntmps95
      go_wp2_with fail
      go_ret
      exact ⟨by rw [HL.out]; rfl, rfl⟩
  · by_cases h3 : (48 : Int) ≤ c.toNat
    · by_cases h4 : (c.toNat : Int) ≤ 57
      · have HL : Hid (nmB c = true) := nm_di (by omega) (by omega)
        clear HD
        go_enter Tryz.func95, Tryz.ntmps95
        go_wp2_with fail
        go_ret
        exact ⟨by rw [HL.out]; rfl, rfl⟩
      · have HL : Hid (nmB c = false) := nm_no (by omega)
        have h5 : ((c.toNat : Int) == 45) = false := by rw [beq_eq_false_iff_ne]; omega
        clear HD
        go_enter Tryz.func95, Tryz.ntmps95
        go_wp2_with fail
        go_ret
        exact ⟨by rw [HL.out]; rfl, rfl⟩
    · by_cases h5 : c.toNat = 45
      · have HL : Hid (nmB c = true) := nm_da h5
        have h6 : ((c.toNat : Int) == 45) = true := by rw [beq_iff_eq]; omega
        clear HD
        go_enter Tryz.func95, Tryz.ntmps95
        go_wp2_with fail
        go_ret
        exact ⟨by rw [HL.out]; rfl, rfl⟩
      · have HL : Hid (nmB c = false) := nm_no (by omega)
        have h6 : ((c.toNat : Int) == 45) = false := by rw [beq_eq_false_iff_ne]; omega
        clear HD
        go_enter Tryz.func95, Tryz.ntmps95
        go_wp2_with fail
        go_ret
        exact ⟨by rw [HL.out]; rfl, rfl⟩
set_option maxRecDepth 100000 in
set_option maxHeartbeats 4000000 in
theorem name_is (s : ByteArray) (w : World) (hs : s.size ≤ 1000000) : Calls Tryz.prog 47 #[.string s] w fun e w' => e = .returned (.bool (nameB s.data.toList)) ∧ w' = w := by
  have HBAD : Hid (∀ k (h : k < s.size), nmB s[k] = false → nameB s.data.toList = false) := fun k h => nm_bad h
  have HT : Hid (∀ k (h : k < s.size), (s.data.toList.take (k + 1)).all nmB = ((s.data.toList.take k).all nmB && nmB s[k])) := nm_take s
  have HF : Hid ((s.data.toList.take s.size).all nmB = true → nameB s.data.toList = inB3 s.size 1 20) := nm_full
  have hl : s.data.toList.length = s.size := Array.length_toList
  by_cases h0 : s.data.toList = []
  · have HW : Hid (nameB s.data.toList = false) := by show _ = _; rw [h0]; rfl
    have he : s.toList.isEmpty = true := by rw [ByteArray.toList_eq, h0]; rfl
    clear h0 hl
    go_enter Tryz.func47, Tryz.ntmps47
    go_wp2_with fail
    go_ret
    exact ⟨by rw [HW.out]; rfl, rfl⟩
  · have he : s.toList.isEmpty = false := by rw [ByteArray.toList_eq, List.isEmpty_eq_false_iff]; exact h0
    have hpos : 0 < s.data.toList.length := List.length_pos_iff.2 h0
    rw [hl] at hpos
    by_cases h20 : s.size ≤ 20
    · have h20' : (s.size : Int) ≤ 20 := by omega
      have HW1 : Hid (inB3 s.size 1 20 = true) := by
        show _ = _
        unfold inB3
        simp only [Bool.and_eq_true, decide_eq_true_eq]
        omega
      clear h0 hl hpos
      go_enter Tryz.func47, Tryz.ntmps47
      go_wp2_with fail
      go_loopg [13] s.size (fun gk i wr => ∃ k : Nat, k + gk = s.size ∧ i = .int .i64 k ∧ Hid ((s.data.toList.take k).all nmB = true) ∧ wr = w)
      case atStart => exact ⟨0, by omega, rfl, by simp [Hid], rfl⟩
      case round =>
        obtain ⟨k, hk, rfl, HA, rfl⟩ := hrel
        have HK : Hid (k + gk = s.size) := hk
        have hks : k ≤ s.size := by omega
        clear hk
        by_cases hlt : k < s.size
        · have hltI : (k : Int) < (s.size : Int) := by omega
          have HGO : Hid (nmB s[k] = true → (s.data.toList.take (k + 1)).all nmB = true) := fun h => by rw [HT.out k hlt, HA.out, h]; rfl
          have HST : Hid (nmB s[k] = false → nameB s.data.toList = false) := HBAD.out k hlt
          go_wp2_with fail
          refine (letter_is s[k] _).mono ?_
          rintro e w' ⟨rfl, rfl⟩
          cases hq : nmB s[k] with
          | true =>
            have HL : Hid ((s.data.toList.take (k + 1)).all nmB = true) := HGO.out hq
            clear hq
            go_wp2_with fail
            go_roundg (gk - 1)
            case measure => have := HK.out; omega
            case rel => exact ⟨k + 1, by have := HK.out; omega, by go_num, HL, rfl⟩
          | false =>
            have HW : Hid (nameB s.data.toList = false) := HST.out hq
            clear hq
            go_wp2_with fail
            go_ret
            exact ⟨by rw [HW.out]; rfl, rfl⟩
        · obtain rfl : k = s.size := by omega
          have HW : Hid (nameB s.data.toList = true) := (HF.out HA.out).trans HW1.out
          go_wp2_with fail
          go_ret
          exact ⟨by rw [HW.out]; rfl, rfl⟩
    · have h20' : ¬ (s.size : Int) ≤ 20 := by omega
      have h20'' : (20 : Int) < (s.size : Int) := by omega
      have HW : Hid (nameB s.data.toList = false) := Bool.eq_false_iff.2 (fun h => by have := (nameB_iff.1 h).2.2; omega)
      clear h0 hl hpos
      go_enter Tryz.func47, Tryz.ntmps47
      go_wp2_with fail
      go_ret
      exact ⟨by rw [HW.out]; rfl, rfl⟩
end Go.Proofs.YtlailakofhenkabGreatDoor

namespace Go.Proofs.YtlailakofhenkabGreatDoor
open Go Go.RowKit Ev
def evCs (e : E) : List Value := [.int .i64 e.kind, .int .i64 e.fam.id, .string e.fam.client, .string e.fam.subject, .string e.fam.scope, .int .i64 e.fam.gen, .int .i64 e.fam.made, .int .i64 e.fam.used, .string e.fam.request, .bool e.fam.dead, .int .i64 e.id, .int .i64 e.time]
def evV (e : E) : Value := .agg (evCs e).toArray
structure EvAt (w : World) (g : Nat) (e : E) : Prop where
  lt : g < w.heap.size
  c0 : w.cell? ⟨g, 0, none⟩ = some (.int .i64 e.kind)
  fam : FamAt w g 1 e.fam
  c10 : w.cell? ⟨g, 10, none⟩ = some (.int .i64 e.id)
  c11 : w.cell? ⟨g, 11, none⟩ = some (.int .i64 e.time)
theorem EvAt.on {w w' : World} {g : Nat} {e : E} (h : EvAt w g e) (hb : Below w.heap.size w w') : EvAt w' g e :=
  ⟨Nat.lt_of_lt_of_le h.lt hb.size, (hb.cell (p := ⟨g, 0, none⟩) h.lt).trans h.c0, h.fam.on hb h.lt, (hb.cell (p := ⟨g, 10, none⟩) h.lt).trans h.c10, (hb.cell (p := ⟨g, 11, none⟩) h.lt).trans h.c11⟩
theorem evAt_made (w : World) (e : E) (t : TypeId) (g : Nat) (hg : g = w.heap.size) : EvAt (w.alloc (.cells #[.int .i64 e.kind, .int .i64 e.fam.id, .string e.fam.client, .string e.fam.subject, .string e.fam.scope, .int .i64 e.fam.gen, .int .i64 e.fam.made, .int .i64 e.fam.used, .string e.fam.request, .bool e.fam.dead, .int .i64 e.id, .int .i64 e.time] t)) g e :=
  ⟨by simp [hg], (World.cell?_alloc_at _ _ _ _ hg).trans rfl, by constructor <;> exact (World.cell?_alloc_at _ _ _ _ hg).trans rfl, (World.cell?_alloc_at _ _ _ _ hg).trans rfl, (World.cell?_alloc_at _ _ _ _ hg).trans rfl⟩
end Go.Proofs.YtlailakofhenkabGreatDoor

namespace Go.Proofs.YtlailakofhenkabGreatDoor.Sc
open Go.Lib Tok
structure Scan (s : List UInt8) (i : Nat) (pre : List Word) (cur : Word) : Prop where
  rest : (i ≤ s.length ∧ parts 43 s = pre ++ parts 43 (cur ++ s.drop i)) ∨ (i = s.length + 1 ∧ parts 43 s = pre ∧ cur = [])
  low : ∀ c ∈ cur, lowB c = true
  good : ∀ p ∈ pre, wordB p = true
  len : cur.length ≤ i
def Once (out pre : List Word) : Prop := out.Nodup ∧ ∀ x, x ∈ out ↔ x ∈ pre
end Go.Proofs.YtlailakofhenkabGreatDoor.Sc

namespace Go.Proofs.YtlailakofhenkabGreatDoor
open Go Go.RowKit
end Go.Proofs.YtlailakofhenkabGreatDoor

namespace Go.Proofs.YtlailakofhenkabGreatDoor
open Go Go.RowKit
end Go.Proofs.YtlailakofhenkabGreatDoor
