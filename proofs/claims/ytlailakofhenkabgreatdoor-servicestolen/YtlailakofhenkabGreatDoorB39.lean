/-
  Own texts put together: StCLaw.
-/
import Derived.Test.YtlailakofhenkabGreatDoorB38
import Derived.Test.YtlailakofhenkabGreatDoorB8
import Derived.Test.YtlailakofhenkabGreatDoorB5
import Derived.Test.YtlailakofhenkabGreatDoorB20
/-
  The law StoreCrashes: wherever the power goes off, a store that is opened anew has all that was added, and of what was under way all or nothing.
-/

namespace Go.Proofs.YtlailakofhenkabGreatDoor
open Go Go.RowKit Tok Sc Ev
/-- One of what is done to a store, in a box. -/
structure XC (w : World) (g : Nat) (a : Int) (e : E) : Prop where
  c0 : w.cell? ⟨g, 0, none⟩ = some (.int .i64 a)
  c1 : w.cell? ⟨g, 1, none⟩ = some (.int .i64 e.kind)
  c2 : w.cell? ⟨g, 2, none⟩ = some (.int .i64 e.fam.id)
  c3 : w.cell? ⟨g, 3, none⟩ = some (.string e.fam.client)
  c4 : w.cell? ⟨g, 4, none⟩ = some (.string e.fam.subject)
  c5 : w.cell? ⟨g, 5, none⟩ = some (.string e.fam.scope)
  c6 : w.cell? ⟨g, 6, none⟩ = some (.int .i64 e.fam.gen)
  c7 : w.cell? ⟨g, 7, none⟩ = some (.int .i64 e.fam.made)
  c8 : w.cell? ⟨g, 8, none⟩ = some (.int .i64 e.fam.used)
  c9 : w.cell? ⟨g, 9, none⟩ = some (.string e.fam.request)
  c10 : w.cell? ⟨g, 10, none⟩ = some (.bool e.fam.dead)
  c11 : w.cell? ⟨g, 11, none⟩ = some (.int .i64 e.id)
  c12 : w.cell? ⟨g, 12, none⟩ = some (.int .i64 e.time)
  lt : g < w.heap.size
theorem XC.keep {l : List Nat} {w w' : World} {g : Nat} {a : Int} {e : E} (h : XC w g a e) (hk : Keep l w w') (hn : g ∉ l) : XC w' g a e := by
  have hc : ∀ i, w'.cell? ⟨g, i, none⟩ = w.cell? ⟨g, i, none⟩ := fun i => hk.cell (p := ⟨g, i, none⟩) h.lt hn
  exact ⟨(hc 0).trans h.c0, (hc 1).trans h.c1, (hc 2).trans h.c2, (hc 3).trans h.c3, (hc 4).trans h.c4, (hc 5).trans h.c5, (hc 6).trans h.c6, (hc 7).trans h.c7, (hc 8).trans h.c8, (hc 9).trans h.c9, (hc 10).trans h.c10, (hc 11).trans h.c11, (hc 12).trans h.c12, Nat.lt_of_lt_of_le h.lt hk.size⟩
theorem XC.on {w w' : World} {g : Nat} {a : Int} {e : E} (h : XC w g a e) (hb : Below w.heap.size w w') : XC w' g a e := h.keep (Keep.of [] hb) (by simp)
theorem XC.made (w : World) (a : Int) (e : E) (t : TypeId) : XC (w.alloc (.cells #[.int .i64 a, .int .i64 e.kind, .int .i64 e.fam.id, .string e.fam.client, .string e.fam.subject, .string e.fam.scope, .int .i64 e.fam.gen, .int .i64 e.fam.made, .int .i64 e.fam.used, .string e.fam.request, .bool e.fam.dead, .int .i64 e.id, .int .i64 e.time] t)) w.heap.size a e := by
  refine ⟨?_, ?_, ?_, ?_, ?_, ?_, ?_, ?_, ?_, ?_, ?_, ?_, ?_, by simp⟩ <;> exact (World.cell?_alloc_at _ _ _ _ rfl).trans rfl
/-- One, as it stands in a list. -/
structure Do2 where
  a : Int
  e : E
def doCs (x : Do2) : List Value := .int .i64 x.a :: evCs x.e
def DoRow (w : World) (g off : Nat) (ds : List Do2) : Prop := ∀ (i : Nat) (h : i < ds.length) (k : Nat) (x : Value), (doCs ds[i])[k]? = some x → w.cell? ⟨g, off + i * 13 + k, none⟩ = some x
/-- The state behind, in its box. -/
structure BH (w : World) (gb gs gd gx gn : Nat) (s : St) (v : Value) : Prop where
  c0 : w.cell? ⟨gb, 0, none⟩ = some (.int .i64 s.clock)
  c1 : w.cell? ⟨gb, 1, none⟩ = some (.int .i64 s.next)
  c2 : w.cell? ⟨gb, 2, none⟩ = some v
  fz : ∀ i, w.frozen? ⟨gb, i, none⟩ = false
  fam : Fams 0 w v s.fams
  lt : gb < w.heap.size
  ne : gb ≠ gs ∧ gd < gb ∧ gx < gb ∧ gn < gb
  out : NotIn v gs ∧ NotIn v gd ∧ NotIn v gx ∧ NotIn v gn
theorem BH.keep {l : List Nat} {w w' : World} {gb gs gd gx gn : Nat} {s : St} {v : Value} (h : BH w gb gs gd gx gn s v) (hk : Keep l w w') (hl : ∀ x ∈ l, x = gs ∨ x = gd) : BH w' gb gs gd gx gn s v := by
  obtain ⟨n1, n2, n3, n4⟩ := h.ne
  have hn : gb ∉ l := fun hx => by rcases hl _ hx with e | e <;> omega
  have hc : ∀ i, w'.cell? ⟨gb, i, none⟩ = w.cell? ⟨gb, i, none⟩ := fun i => hk.cell (p := ⟨gb, i, none⟩) h.lt hn
  exact ⟨(hc 0).trans h.c0, (hc 1).trans h.c1, (hc 2).trans h.c2, fun i => (hk.frozen (p := ⟨gb, i, none⟩) h.lt hn).trans (h.fz i), hk.rowsOut h.fam (fun x hx => by rcases hl _ hx with rfl | rfl; exact h.out.1; exact h.out.2.1), Nat.lt_of_lt_of_le h.lt hk.size, h.ne, h.out⟩
theorem BH.on {w w' : World} {gb gs gd gx gn : Nat} {s : St} {v : Value} (h : BH w gb gs gd gx gn s v) (hb : Below w.heap.size w w') : BH w' gb gs gd gx gn s v := h.keep (Keep.of [] hb) (by simp)
theorem BH.put {B : Nat} {w : World} {gb gs gd gx gn : Nat} {s s' : St} {v v' : Value} (h : BH w gb gs gd gx gn s v) (hf : Fams B w v' s'.fams) (hB : gs < B ∧ gd < B ∧ gx < B ∧ gn < B ∧ gb < B) : BH (((w.setCell ⟨gb, 0, none⟩ (.int .i64 s'.clock)).setCell ⟨gb, 1, none⟩ (.int .i64 s'.next)).setCell ⟨gb, 2, none⟩ v') gb gs gd gx gn s' v' := by
  obtain ⟨b1, b2, b3, b4, b5⟩ := hB
  obtain ⟨p0, p1, p2⟩ := @three_set w gb (.int .i64 s'.clock) (.int .i64 s'.next) v' _ _ _ h.c0 h.c1 h.c2
  exact ⟨p0, p1, p2, fun i => by simp only [World.frozen?_setCell]; exact h.fz i, RowsK.mono (((hf.other (a := ⟨gb, 0, none⟩) b5 _).other (a := ⟨gb, 1, none⟩) b5 _).other (a := ⟨gb, 2, none⟩) b5 _) (Nat.zero_le _), by simpa using h.lt, h.ne, ⟨NotIn.above hf b1, NotIn.above hf b2, NotIn.above hf b3, NotIn.above hf b4⟩⟩
/-- A block beside all is written. -/
theorem CB.beside {w0 : World} {N bc bd gn gx gs gd gb : Nat} {cs : List Int} {ca : Option Addr} {cc : Nat} {p : Pub} {v : Value} {s : St} {vn : Value} {k : Nat} {w w' : World} (h : CB w0 N bc bd gn gx gs gd cs ca cc p v s vn k w) (hk : Keep [gb] w w') (hg : gb ≠ gs ∧ gd < gb ∧ gx < gb ∧ gn < gb) (hv : NotIn v gb) (hvn : NotIn vn gb) : CB w0 N bc bd gn gx gs gd cs ca cc p v s vn k w' := by
  obtain ⟨o1, o2, o3, o4, o5, o6⟩ := h.o1
  obtain ⟨g1, g2, g3, g4⟩ := hg
  have hc : ∀ n j, n < w.heap.size → n ≠ gb → w'.cell? ⟨n, j, none⟩ = w.cell? ⟨n, j, none⟩ := fun n j hn h1 => hk.cell (p := ⟨n, j, none⟩) hn (by simp [h1])
  have hf : ∀ n j, n < w.heap.size → n ≠ gb → w'.frozen? ⟨n, j, none⟩ = w.frozen? ⟨n, j, none⟩ := fun n j hn h1 => hk.frozen (p := ⟨n, j, none⟩) hn (by simp [h1])
  exact ⟨h.prog.elsewhere hk (fun x hx => by simp at hx; subst hx; exact ⟨g2, g1, hv⟩), (hc _ _ (by omega) (by omega)).trans h.cuts, (hc _ _ (by omega) (by omega)).trans h.disk, (hc _ _ (by omega) (by omega)).trans h.n0, (hc _ _ (by omega) (by omega)).trans h.n1, (hc _ _ (by omega) (by omega)).trans h.n2, fun i => (hf _ _ (by omega) (by omega)).trans (h.nf i), (hc _ _ (by omega) (by omega)).trans h.nx, fun i => (hf _ _ (by omega) (by omega)).trans (h.xf i), h.kle, hk.rowsOut h.fam (fun x hx => by simp at hx; subst hx; exact hvn), ⟨o1, o2, o3, o4, o5, Nat.lt_of_lt_of_le o6 hk.size⟩, h.o2, h.out, h.outN, h.below.trans (hk.below h.below.size (fun x hx => by simp at hx; omega))⟩
theorem add_out (p : Pub) (e : E) (m : Bool) : ((addP p e m).2 = 0 → m = true ∧ (addP p e m).1.st = applyP p.st e) ∧ ((addP p e m).2 = 14 → m = true) ∧ ((addP p e m).2 ≠ 0 → (addP p e m).1.st = p.st) := by
  have hput : ∀ q : Pub, ((putP1 q e).2 = 0 → (putP1 q e).1.st = applyP q.st e) ∧ ((putP1 q e).2 ≠ 0 → (putP1 q e).1.st = q.st) := fun q => by
    unfold putP1
    split
    · exact ⟨fun h => (by cases h), fun _ => rfl⟩
    · exact ⟨fun _ => rfl, fun h => absurd rfl h⟩
  unfold addP
  split
  · exact ⟨fun h => (by cases h), fun h => (by cases h), fun _ => rfl⟩
  split
  · exact ⟨fun h => (by cases h), fun h => (by cases h), fun _ => rfl⟩
  rename_i hm
  have hm' : m = true := by simpa using hm
  split
  · exact ⟨fun h => (by cases h), fun h => (by cases h), fun _ => rfl⟩
  split
  · split
    · have := hput (saveP p).1
      rw [save_st] at this
      exact ⟨fun h => ⟨hm', this.1 h⟩, fun _ => hm', this.2⟩
    · rename_i hn
      exact ⟨fun h => absurd h hn, fun _ => hm', fun _ => save_st p⟩
  · have := hput p
    exact ⟨fun h => ⟨hm', this.1 h⟩, fun _ => hm', this.2⟩
theorem tellQ (n : Nat) (w : World) (hE : ErrVar w) : Calls Tryz.prog 18 #[errQ n] w fun e w' => e = .returned (.int .i64 (n : Nat)) ∧ Below w.heap.size w w' := by
  match n with
  | 0 => exact (tell_nil w).mono (by rintro e w' ⟨rfl, rfl⟩; exact ⟨rfl, Below.refl _ _⟩)
  | n + 1 => exact tell_err ((n + 1 : Nat) : Int) w hE
theorem DB.on {N : Nat} {w w' : World} {gd : Nat} {p : Pub} (h : DB N w gd p) (hb : Below w.heap.size w w') : DB N w' gd p := by
  obtain ⟨A, sv, b, es, h1, h2, F, l', d1, d2, d3⟩ := h.run
  exact ⟨h.ok, ⟨A, sv, b, es, h1, h2, F, l', d1.below hb h.lt, d2, d3⟩, h.libs.below hb, h.err.on hb, h.olds, h.oldE, Nat.lt_of_lt_of_le h.lt hb.size⟩
set_option maxRecDepth 100000 in
set_option maxHeartbeats 16000000 in
theorem storeCrashesLaw (ds : List Do2) (cs : List Int) (ao ca : Option Addr) (g off cap cb co cc : Nat) (w : World) (hao : 0 < ds.length → ao = some ⟨g, off, none⟩) (hg : g < w.heap.size) (hrow : DoRow w g off ds) (hs : ∀ x ∈ ds, lens x.e.fam ≤ 10000000000000000) (hn : ds.length ≤ 60)
    (hca : 0 < cs.length → ca = some ⟨cb, co, none⟩) (hcb : cb < w.heap.size) (hcrow : ∀ (i : Nat) (h : i < cs.length), w.cell? ⟨cb, co + i, none⟩ = some (.int .i64 cs[i])) (hcn : cs.length ≤ 30) (hL : LibsA w) (hE : ErrVar w) (hO : Olds w.heap.size) :
    Calls Tryz.prog 3 #[.slice ao ds.length cap, .slice ca cs.length cc] w fun r w' => r = .returned (.bool true) ∧ Below w.heap.size w w' := by
  have hn' : ¬ (60 : Int) < (ds.length : Int) := by omega
  have hcn' : ¬ (30 : Int) < (cs.length : Int) := by omega
  have HB0 : Hid (Below w.heap.size w (w.alloc (.cells #[.slice ca cs.length cc] 23))) := (Below.refl _ _).alloc (Nat.le_refl _) _
  have hc0 : (w.alloc (.cells #[.slice ca cs.length cc] 23)).cell? ⟨w.heap.size, 0, none⟩ = some (.slice ca cs.length cc) := (World.cell?_alloc_at _ _ _ _ rfl).trans rfl
  have HC0 : Hid _ := hc0
  have hsz0 : (w.alloc (.cells #[.slice ca cs.length cc] 23)).heap.size = w.heap.size + 1 := by simp
  have HS0 : Hid _ := hsz0
  have HKE : Hid _ := kept_is (w.alloc (.cells #[.slice ca cs.length cc] 23)) (hL.below HB0.out) (hE.on HB0.out) (hO.mono (by simp))
  have HR : Hid (DoRow w g off ds) := hrow
  have HG : Hid (g < w.heap.size) := hg
  have HS : Hid (∀ x ∈ ds, lens x.e.fam ≤ 10000000000000000) := hs
  have HN : Hid (ds.length ≤ 60) := hn
  have HL0 : Hid (LibsA w) := hL
  have HE0 : Hid (ErrVar w) := hE
  have HO0 : Hid (Olds w.heap.size) := hO
  have HCUT : Hid (∀ (N bd gn gx gs gd : Nat) (p : Pub) (v : Value) (s : St) (vn : Value) (k : Nat) (W : World), CB w N w.heap.size bd gn gx gs gd cs ca cc p v s vn k W → Calls Tryz.prog 13 #[.pointer (some ⟨gx, 0, none⟩), .pointer (some ⟨w.heap.size, 0, none⟩), .pointer (some ⟨bd, 0, none⟩)] W fun r w' => r = .returned (.tuple #[]) ∧ ∃ (n : Int) (k' : Nat), CB w N w.heap.size bd gn gx gs gd cs ca cc (cutP p n) v s vn k' w') :=
    fun N bd gn gx gs gd p v s vn k W hW => cutC_is w N w.heap.size bd gn gx gs gd cb co cs ca cc p v s vn k W hW hca hcb hcrow (by omega)
  clear hrow hg hs hL hE hO hn hc0 hsz0 hca hcb hcrow
  go_enter Tryz.func3, Tryz.ntmps3
  go_wp2_with fail
  refine Calls.mono HKE.out ?_
  rintro e1 w1 ⟨rfl, hb1⟩
  have HB1 : Hid (Below w.heap.size w w1) := HB0.out.trans (hb1.mono (by rw [HS0.out]; omega))
  have HLT1 : Hid (w.heap.size < w1.heap.size) := by have h1 := hb1.size; rw [HS0.out] at h1; show _ < _; omega
  have HC1 : Hid (w1.cell? ⟨w.heap.size, 0, none⟩ = some (.slice ca cs.length cc)) := (hb1.cell (p := ⟨w.heap.size, 0, none⟩) (by rw [HS0.out]; show w.heap.size < _; omega)).trans HC0.out
  have HDB1 : Hid _ := db_zero w1 (HL0.out.below HB1.out) (HE0.out.on HB1.out) (HO0.out.mono (by have := HLT1.out; omega))
  clear hb1 HKE
  go_upto_region 6 with fail
  have hbz : Below (w1.alloc (.cells Tryz.zeroCells28 28)).heap.size (w1.alloc (.cells Tryz.zeroCells28 28)) ((w1.alloc (.cells Tryz.zeroCells28 28)).alloc (.cells #[.pointer (some ⟨w1.heap.size, 0, none⟩)] 25)) := (Below.refl _ _).alloc (Nat.le_refl _) _
  have HDB2 : Hid _ := HDB1.out.on hbz
  have HB2 : Hid (Below w1.heap.size w1 ((w1.alloc (.cells Tryz.zeroCells28 28)).alloc (.cells #[.pointer (some ⟨w1.heap.size, 0, none⟩)] 25))) := ((Below.refl _ _).alloc (Nat.le_refl _) _).trans (hbz.mono (by simp))
  have hd2 : ((w1.alloc (.cells Tryz.zeroCells28 28)).alloc (.cells #[.pointer (some ⟨w1.heap.size, 0, none⟩)] 25)).cell? ⟨w1.heap.size + 1, 0, none⟩ = some (.pointer (some ⟨w1.heap.size, 0, none⟩)) := (World.cell?_alloc_at _ _ _ _ (by simp)).trans rfl
  have HSZ2 : Hid (((w1.alloc (.cells Tryz.zeroCells28 28)).alloc (.cells #[.pointer (some ⟨w1.heap.size, 0, none⟩)] 25)).heap.size = w1.heap.size + 2) := by show _ = _; simp
  have hbd : (w1.alloc (.cells Tryz.zeroCells28 28)).heap.size = w1.heap.size + 1 := by simp
  clear hbz
  generalize ((w1.alloc (.cells Tryz.zeroCells28 28)).alloc (.cells #[.pointer (some ⟨w1.heap.size, 0, none⟩)] 25)) = W2 at *
  go_wp2_with fail
  refine (openS_is 0 _ w1.heap.size _ HDB2.out (by omega)).mono ?_
  rintro e3 w3 ⟨gs, v, rfl, hle, hsp, hb3⟩
  have HSP3 : Hid (SP 0 w3 gs w1.heap.size ⟨⟨0, 1, []⟩, 0, 0, false, 0, false⟩ v) := hsp
  have HD3 : Hid (w3.cell? ⟨w1.heap.size + 1, 0, none⟩ = some (.pointer (some ⟨w1.heap.size, 0, none⟩))) := (hb3.cell (p := ⟨w1.heap.size + 1, 0, none⟩) (by rw [HSZ2.out]; show w1.heap.size + 1 < _; omega)).trans hd2
  have HB3 : Hid (Below w1.heap.size w1 w3) := HB2.out.trans (hb3.mono HB2.out.size)
  have HLE : Hid (w1.heap.size + 2 ≤ gs ∧ gs < w3.heap.size) := ⟨by rw [← HSZ2.out]; exact hle, hsp.lt⟩
  clear hle hsp hb3 hd2 HDB1 HDB2 HB2 HSZ2
  go_upto_region 12 with fail
  have hbA : Below w3.heap.size w3 ((w3.alloc (.cells #[.int .i64 0, .int .i64 1, .slice none 0 0] 36)).alloc (.cells #[.int .i64 0] 3)) := ((Below.refl _ _).alloc (Nat.le_refl _) _).alloc (by simp) _
  have HCB0 : Hid (CB w 0 w.heap.size (w1.heap.size + 1) w3.heap.size (w3.heap.size + 1) gs w1.heap.size cs ca cc ⟨⟨0, 1, []⟩, 0, 0, false, 0, false⟩ v ⟨0, 1, []⟩ (.slice none 0 0) 0 ((w3.alloc (.cells #[.int .i64 0, .int .i64 1, .slice none 0 0] 36)).alloc (.cells #[.int .i64 0] 3))) := by
    have h1 := HLT1.out
    have h2 := HLE.out
    have h3 := HB3.out.size
    have hA : ∀ j : Nat, ((w3.alloc (.cells #[.int .i64 0, .int .i64 1, .slice none 0 0] 36)).alloc (.cells #[.int .i64 0] 3)).cell? ⟨w3.heap.size, j, none⟩ = (w3.alloc (.cells #[.int .i64 0, .int .i64 1, .slice none 0 0] 36)).cell? ⟨w3.heap.size, j, none⟩ := fun j => World.cell?_alloc_lt _ _ _ (by simp)
    exact ⟨HSP3.out.on hbA, (hbA.cell (p := ⟨w.heap.size, 0, none⟩) (by show w.heap.size < _; omega)).trans ((HB3.out.cell (p := ⟨w.heap.size, 0, none⟩) (by show w.heap.size < _; omega)).trans HC1.out), (hbA.cell (p := ⟨w1.heap.size + 1, 0, none⟩) (by show w1.heap.size + 1 < _; omega)).trans HD3.out,
      (hA 0).trans ((World.cell?_alloc_at _ _ _ _ rfl).trans rfl), (hA 1).trans ((World.cell?_alloc_at _ _ _ _ rfl).trans rfl), (hA 2).trans ((World.cell?_alloc_at _ _ _ _ rfl).trans rfl), fun i => by rw [World.frozen?_alloc_past _ _ _ (by simp)]; exact World.frozen?_alloc_at _ _ _ _ rfl, (World.cell?_alloc_at _ _ _ _ (by simp)).trans rfl, fun i => World.frozen?_alloc_at _ _ _ _ (by simp), Nat.zero_le _, Fams.nil _ _,
      ⟨Nat.le_refl _, h1, by omega, by omega, by omega, by simp⟩, ⟨by omega, by omega, by omega⟩, ⟨NotIn.past HSP3.out.fam (Nat.le_refl _), NotIn.past HSP3.out.fam (Nat.le_succ _)⟩, ⟨NotIn.nil _ _ _, NotIn.nil _ _ _, NotIn.nil _ _ _, NotIn.nil _ _ _⟩, (HB1.out.trans (HB3.out.mono HB1.out.size)).trans (hbA.mono (by have := HB1.out.size; omega))⟩
  have hgx : (w3.alloc (.cells #[.int .i64 0, .int .i64 1, .slice none 0 0] 36)).heap.size = w3.heap.size + 1 := by simp
  clear hbA HSP3 HD3 HC1 HC0
  generalize ((w3.alloc (.cells #[.int .i64 0, .int .i64 1, .slice none 0 0] 36)).alloc (.cells #[.int .i64 0] 3)) = W4 at *
  go_wp2_with fail
  refine (HCUT.out _ _ _ _ _ _ _ _ _ _ _ _ HCB0.out).mono ?_
  rintro e5 w5 ⟨rfl, n5, k5, hc5⟩
  have HCB5 : Hid _ := hc5
  clear hc5 HCB0
  have HP5 : Hid ((cutP ⟨⟨0, 1, []⟩, 0, 0, false, 0, false⟩ n5).st = ⟨0, 1, []⟩) := rfl
  generalize cutP ⟨⟨0, 1, []⟩, 0, 0, false, 0, false⟩ n5 = p5 at *
  clear HLE HB3 HLT1 HB1 HS0 HB0
  generalize w1.heap.size = gd at *
  generalize gd + 1 = bd at *
  generalize w3.heap.size = gn at *
  generalize gn + 1 = gx at *
  go_wp2_with fail
  go_loopg [6, 11] ds.length (fun gk sp iv wr => ∃ (j gs : Nat) (p : Pub) (v : Value) (s : St) (vn : Value) (k : Nat), j + gk = ds.length ∧ iv = .int .i64 j ∧ sp = .pointer (some ⟨gs, 0, none⟩) ∧ Hid (p.st = s) ∧ Hid (CB w (22 * j) w.heap.size bd gn gx gs gd cs ca cc p v s vn k wr))
  case atStart => exact ⟨0, _, _, _, _, _, _, by omega, rfl, rfl, HP5, HCB5⟩
  case round =>
    obtain ⟨j, gs, p, v, s, vn, k, hj, rfl, rfl, HPS, HC⟩ := hrel
    obtain ⟨bvn, cvn, rfl⟩ := RowsK.slice HC.out.fam
    have HJ : Hid (j + gk = ds.length) := hj
    clear hj HCB5 HP5
    by_cases hlt : j < ds.length
    · have hltI : (j : Int) < (ds.length : Int) := by omega
      obtain rfl := hao (by omega)
      have hse := HS.out ds[j] (List.getElem_mem hlt)
      have he : ∀ (m : Nat) (x : Value), (doCs ds[j])[m]? = some x → wr.cell? ⟨g, off + j * 13 + m, none⟩ = some x := fun m x hx => (HC.out.below.cell (p := ⟨g, off + j * 13 + m, none⟩) HG.out).trans (HR.out j hlt m x hx)
      generalize ds[j] = x at *
      obtain ⟨a, e⟩ := x
      have HN9 : Hid (22 * j < 98000) := by have := HN.out; show 22 * j < 98000; omega
      have HXM : Hid (∀ W : World, XC (W.alloc (.cells #[.int .i64 a, .int .i64 e.kind, .int .i64 e.fam.id, .string e.fam.client, .string e.fam.subject, .string e.fam.scope, .int .i64 e.fam.gen, .int .i64 e.fam.made, .int .i64 e.fam.used, .string e.fam.request, .bool e.fam.dead, .int .i64 e.id, .int .i64 e.time] 44)) W.heap.size a e) := fun W => XC.made W a e _
      have HFM : Hid (∀ W : World, FamAt (W.alloc (.cells #[.int .i64 e.fam.id, .string e.fam.client, .string e.fam.subject, .string e.fam.scope, .int .i64 e.fam.gen, .int .i64 e.fam.made, .int .i64 e.fam.used, .string e.fam.request, .bool e.fam.dead] 40)) W.heap.size 0 e.fam) := fun W => famAt_made W e.fam _ _ rfl
      obtain ⟨m, hm⟩ : ∃ m : Bool, m = true ↔ Ev.may e := by
        by_cases h : Ev.may e
        · exact ⟨true, by simp [h]⟩
        · exact ⟨false, by simp [h]⟩
      have HM : Hid (m = true ↔ Ev.may e) := hm
      clear hm
      by_cases hsm : lens e.fam ≤ 300
      · have HSM : Hid (Small 5000 e.fam) := by have := hsm; unfold lens at this; show Small 5000 e.fam; unfold Small; omega
        have HAP := fun (W : World) (N gs : Nat) (p : Pub) (v : Value) (h : SP N W gs gd p v) (hN : N < 99000) => addS_is N W gs gd p v e m HM.out HSM.out h hN
        have HAY := fun (W : World) (v : Value) (hm2 : m = true) (h : Fams 0 W v s.fams) (hr : Rising s.fams ∧ s.fams.length ≤ 20) => apply_is s e (HM.out.1 hm2) h hr.1 (by have := hr.2; omega)
        have HAO := fun (p : Pub) => add_out p e m
        obtain ⟨kk, ⟨f1, f2, f3, f4, f5, f6, f7, f8, f9⟩, ei, et⟩ := e
        have k0 := he 0 _ rfl; have k1 := he 1 _ rfl; have k2 := he 2 _ rfl; have k3 := he 3 _ rfl; have k4 := he 4 _ rfl; have k5 := he 5 _ rfl; have k6 := he 6 _ rfl; have k7 := he 7 _ rfl; have k8 := he 8 _ rfl; have k9 := he 9 _ rfl; have k10 := he 10 _ rfl; have k11 := he 11 _ rfl; have k12 := he 12 _ rfl
        unfold lens at hsm hse
        unfold evV evCs at HAP HAY
        simp only [Nat.add_zero] at k0 k1 k2 k3 k4 k5 k6 k7 k8 k9 k10 k11 k12 HAP HAY hsm hse
        have hsmI : ¬ (300 : Int) < (f2.size : Int) + f3.size + f4.size + f8.size := by omega
        have n1 : ¬ 9223372036854775807 < f2.size + f3.size := by omega
        have n2 : ¬ 9223372036854775807 < f2.size + f3.size + f4.size := by omega
        have n3 : ¬ 9223372036854775807 < f2.size + f3.size + f4.size + f8.size := by omega
        have HXM2 := HXM.out wr
        have HFM2 := HFM.out (wr.alloc (.cells #[.int .i64 a, .int .i64 kk, .int .i64 f1, .string f2, .string f3, .string f4, .int .i64 f5, .int .i64 f6, .int .i64 f7, .string f8, .bool f9, .int .i64 ei, .int .i64 et] 44))
        simp only at HXM2 HFM2
        have hbX : Below wr.heap.size wr (wr.alloc (.cells #[.int .i64 a, .int .i64 kk, .int .i64 f1, .string f2, .string f3, .string f4, .int .i64 f5, .int .i64 f6, .int .i64 f7, .string f8, .bool f9, .int .i64 ei, .int .i64 et] 44)) := (Below.refl _ _).alloc (Nat.le_refl _) _
        have hbF : Below (wr.alloc (.cells #[.int .i64 a, .int .i64 kk, .int .i64 f1, .string f2, .string f3, .string f4, .int .i64 f5, .int .i64 f6, .int .i64 f7, .string f8, .bool f9, .int .i64 ei, .int .i64 et] 44)).heap.size (wr.alloc (.cells #[.int .i64 a, .int .i64 kk, .int .i64 f1, .string f2, .string f3, .string f4, .int .i64 f5, .int .i64 f6, .int .i64 f7, .string f8, .bool f9, .int .i64 ei, .int .i64 et] 44)) ((wr.alloc (.cells #[.int .i64 a, .int .i64 kk, .int .i64 f1, .string f2, .string f3, .string f4, .int .i64 f5, .int .i64 f6, .int .i64 f7, .string f8, .bool f9, .int .i64 ei, .int .i64 et] 44)).alloc (.cells #[.int .i64 f1, .string f2, .string f3, .string f4, .int .i64 f5, .int .i64 f6, .int .i64 f7, .string f8, .bool f9] 40)) := (Below.refl _ _).alloc (Nat.le_refl _) _
        have HX0 : Hid (XC ((wr.alloc (.cells #[.int .i64 a, .int .i64 kk, .int .i64 f1, .string f2, .string f3, .string f4, .int .i64 f5, .int .i64 f6, .int .i64 f7, .string f8, .bool f9, .int .i64 ei, .int .i64 et] 44)).alloc (.cells #[.int .i64 f1, .string f2, .string f3, .string f4, .int .i64 f5, .int .i64 f6, .int .i64 f7, .string f8, .bool f9] 40)) wr.heap.size a ⟨kk, ⟨f1, f2, f3, f4, f5, f6, f7, f8, f9⟩, ei, et⟩) := HXM2.on hbF
        have HC0 : Hid (CB w (22 * j) w.heap.size bd gn gx gs gd cs ca cc p v s (.slice bvn s.fams.length cvn) k ((wr.alloc (.cells #[.int .i64 a, .int .i64 kk, .int .i64 f1, .string f2, .string f3, .string f4, .int .i64 f5, .int .i64 f6, .int .i64 f7, .string f8, .bool f9, .int .i64 ei, .int .i64 et] 44)).alloc (.cells #[.int .i64 f1, .string f2, .string f3, .string f4, .int .i64 f5, .int .i64 f6, .int .i64 f7, .string f8, .bool f9] 40))) := (HC.out.on hbX).on hbF
        have HGX : Hid (wr.heap.size ≠ gs ∧ gx < wr.heap.size ∧ gn < wr.heap.size ∧ gd < wr.heap.size ∧ wr.heap.size < ((wr.alloc (.cells #[.int .i64 a, .int .i64 kk, .int .i64 f1, .string f2, .string f3, .string f4, .int .i64 f5, .int .i64 f6, .int .i64 f7, .string f8, .bool f9, .int .i64 ei, .int .i64 et] 44)).alloc (.cells #[.int .i64 f1, .string f2, .string f3, .string f4, .int .i64 f5, .int .i64 f6, .int .i64 f7, .string f8, .bool f9] 40)).heap.size) := by
          have h1 := HC.out.prog.lt
          have h2 := HC.out.o1
          have h3 := HX0.out.lt
          exact ⟨by omega, by omega, by omega, by omega, h3⟩
        clear he HXM HXM2 HFM HC hbX hbF HM HSM
        go_upto_region 18 with fail
        have q1 := HFM2.c1
        have q2 := HFM2.c2
        have q3 := HFM2.c3
        have q7 := HFM2.c7
        simp only [Nat.zero_add] at q1 q2 q3 q7
        clear HFM2 k0 k1 k2 k3 k4 k5 k6 k7 k8 k9 k10 k11 k12
        generalize hWX : ((wr.alloc (.cells #[.int .i64 a, .int .i64 kk, .int .i64 f1, .string f2, .string f3, .string f4, .int .i64 f5, .int .i64 f6, .int .i64 f7, .string f8, .bool f9, .int .i64 ei, .int .i64 et] 44)).alloc (.cells #[.int .i64 f1, .string f2, .string f3, .string f4, .int .i64 f5, .int .i64 f6, .int .i64 f7, .string f8, .bool f9] 40)) = W1 at *
        have hgf : (wr.alloc (.cells #[.int .i64 a, .int .i64 kk, .int .i64 f1, .string f2, .string f3, .string f4, .int .i64 f5, .int .i64 f6, .int .i64 f7, .string f8, .bool f9, .int .i64 ei, .int .i64 et] 44)).heap.size = wr.heap.size + 1 := by simp
        rw [hgf] at q1 q2 q3 q7
        clear hWX
        go_upto_region 19 with fail
        clear q1 q2 q3 q7 hsmI n1 n2 n3 hsm hse hgf
        generalize wr.heap.size = gxb at *
        have n0 := HC0.out.n0
        have n1 := HC0.out.n1
        have n2 := HC0.out.n2
        have HBH : Hid (BH (W1.alloc (.cells #[.int .i64 s.clock, .int .i64 s.next, (.slice bvn s.fams.length cvn)] 36)) W1.heap.size gs gd gx gn s (.slice bvn s.fams.length cvn)) := by
          have h1 := HC0.out.prog.lt
          have h2 := HC0.out.o1
          have hb : Below W1.heap.size W1 (W1.alloc (.cells #[.int .i64 s.clock, .int .i64 s.next, (.slice bvn s.fams.length cvn)] 36)) := (Below.refl _ _).alloc (Nat.le_refl _) _
          exact ⟨(World.cell?_alloc_at _ _ _ _ rfl).trans rfl, (World.cell?_alloc_at _ _ _ _ rfl).trans rfl, (World.cell?_alloc_at _ _ _ _ rfl).trans rfl, fun i => World.frozen?_alloc_at _ _ _ _ rfl, HC0.out.fam.below hb (Nat.le_refl _), by simp, ⟨by omega, by omega, by omega, by omega⟩, HC0.out.outN⟩
        have HX1 : Hid (XC (W1.alloc (.cells #[.int .i64 s.clock, .int .i64 s.next, (.slice bvn s.fams.length cvn)] 36)) gxb a ⟨kk, ⟨f1, f2, f3, f4, f5, f6, f7, f8, f9⟩, ei, et⟩) := HX0.out.on ((Below.refl _ _).alloc (Nat.le_refl _) _)
        have HC1 : Hid (CB w (22 * j) w.heap.size bd gn gx gs gd cs ca cc p v s (.slice bvn s.fams.length cvn) k (W1.alloc (.cells #[.int .i64 s.clock, .int .i64 s.next, (.slice bvn s.fams.length cvn)] 36))) := HC0.out.on ((Below.refl _ _).alloc (Nat.le_refl _) _)
        have HVN : Hid (NotIn (.slice bvn s.fams.length cvn) W1.heap.size) := NotIn.past HC0.out.fam (Nat.le_refl _)
        have HV0 : Hid (NotIn v W1.heap.size) := NotIn.past HC0.out.prog.fam (Nat.le_refl _)
        have HGB : Hid (gxb ≠ W1.heap.size) := by have := HGX.out; show _ ≠ _; omega
        go_upto_region 21 with fail
        clear n0 n1 n2 HX0 HC0
        generalize hW2 : (W1.alloc (.cells #[.int .i64 s.clock, .int .i64 s.next, (.slice bvn s.fams.length cvn)] 36)) = W2 at *
        clear hW2
        generalize W1.heap.size = gb at *
        have x0 := HX1.out.c0
        go_upto_if 77 with fail
        go_cut [15] from 75 to 95 (fun ev wx => ∃ (n : Nat) (p' : Pub) (v' : Value) (s' : St) (vb : Value), ev = errQ n ∧ Hid (CB w (22 * j + 22) w.heap.size bd gn gx gs gd cs ca cc p' v' s (.slice bvn s.fams.length cvn) k wx) ∧ Hid (BH wx gb gs gd gx gn s' vb) ∧ Hid ((n = 0 → p'.st = s') ∧ (n ≠ 0 → p'.st = s)))
        case first =>
          by_cases ha1 : a = 1
          · subst ha1
            go_wp2_with fail
            refine (saveS_is _ _ _ _ _ _ HC1.out.prog (by have := HN9.out; omega)).mono ?_
            rintro e3 w3 ⟨rfl, hp3, hk3⟩
            have HC3 : Hid _ := HC1.out.step hp3 hk3 HC1.out.out
            have HB3 : Hid _ := HBH.out.keep hk3 (fun x hx => by simp at hx; rcases hx with rfl | rfl; exact .inr rfl; exact .inl rfl)
            have HST : Hid ((saveP p).1.st = s) := (save_st p).trans HPS.out
            clear hp3 hk3
            go_wp2_with fail
            go_meet
            case rel => exact ⟨_, _, _, _, _, rfl, HC3, HB3, ⟨fun _ => HST.out, fun _ => HST.out⟩⟩
          · have hb1 : (a == 1) = false := by simp [ha1]
            have x1 := HX1.out.c1
            have x2 := HX1.out.c2
            have x3 := HX1.out.c3
            have x4 := HX1.out.c4
            have x5 := HX1.out.c5
            have x6 := HX1.out.c6
            have x7 := HX1.out.c7
            have x8 := HX1.out.c8
            have x9 := HX1.out.c9
            have x10 := HX1.out.c10
            have x11 := HX1.out.c11
            have x12 := HX1.out.c12
            go_wp2_with fail
            refine (HAP _ _ _ _ _ HC1.out.prog (by have := HN9.out; omega)).mono ?_
            rintro e3 w3 ⟨rfl, v3, hp3, hk3, hf3⟩
            have ho3 : NotIn v3 gn ∧ NotIn v3 gx := by
              have h1 := HC1.out.o1
              rcases hf3 with rfl | hf3
              · exact HC1.out.out
              · exact ⟨NotIn.above hf3 (by omega), NotIn.above hf3 (by omega)⟩
            have HV3 : Hid (NotIn v3 gb) := by
              rcases hf3 with rfl | hf3
              · exact HV0.out
              · exact NotIn.above hf3 HBH.out.lt
            have HC3 : Hid _ := HC1.out.step hp3 hk3 ho3
            have HB3 : Hid _ := HBH.out.keep hk3 (fun x hx => by simp at hx; rcases hx with rfl | rfl; exact .inr rfl; exact .inl rfl)
            have HX3 : Hid _ := HX1.out.keep hk3 (by have h1 := HGX.out; simp; omega)
            have HAO3 : Hid _ := HAO p
            have HGO : Hid (Rising s.fams ∧ s.fams.length ≤ 20) := by have := HC1.out.prog.ok.good; rw [HPS.out] at this; exact ⟨this.ris, this.len⟩
            clear hp3 hk3 hf3 ho3 x0 x1 x2 x3 x4 x5 x6 x7 x8 x9 x10 x11 x12 HAO
            generalize (addP p ⟨kk, ⟨f1, f2, f3, f4, f5, f6, f7, f8, f9⟩, ei, et⟩ m).2 = n at *
            generalize (addP p ⟨kk, ⟨f1, f2, f3, f4, f5, f6, f7, f8, f9⟩, ei, et⟩ m).1 = p' at *
            go_wp2_with fail
            refine (tellQ n _ HC3.out.prog.err).mono ?_
            rintro e4 w4 ⟨rfl, hb4⟩
            have HC4 : Hid _ := HC3.out.on hb4
            have HB4 : Hid _ := HB3.out.on hb4
            have HX4 : Hid _ := HX3.out.on hb4
            clear hb4 HC3 HB3 HX3
            by_cases h0 : n = 0
            · subst h0
              obtain ⟨hmt, hst⟩ := HAO3.out.1 rfl
              have b0 := HC4.out.n0
              have b1 := HC4.out.n1
              have b2 := HC4.out.n2
              have y1 := HX4.out.c1
              have y2 := HX4.out.c2
              have y3 := HX4.out.c3
              have y4 := HX4.out.c4
              have y5 := HX4.out.c5
              have y6 := HX4.out.c6
              have y7 := HX4.out.c7
              have y8 := HX4.out.c8
              have y9 := HX4.out.c9
              have y10 := HX4.out.c10
              have y11 := HX4.out.c11
              have y12 := HX4.out.c12
              go_wp2_with fail
              refine (HAY _ _ hmt HC4.out.fam HGO.out).mono ?_
              rintro e6 w6 ⟨v6, rfl, hf6, hb6⟩
              obtain ⟨bb6, cc6, rfl⟩ := RowsK.slice hf6
              have HCx : Hid _ := HC4.out.on hb6
              have HBx : Hid _ := HB4.out.on hb6
              unfold stV
              have HC6 : Hid (CB w (22 * j + 22) w.heap.size bd gn gx gs gd cs ca cc p' v3 s (.slice bvn s.fams.length cvn) k (((w6.setCell ⟨gb, 0, none⟩ (.int .i64 (applyP s ⟨kk, ⟨f1, f2, f3, f4, f5, f6, f7, f8, f9⟩, ei, et⟩).clock)).setCell ⟨gb, 1, none⟩ (.int .i64 (applyP s ⟨kk, ⟨f1, f2, f3, f4, f5, f6, f7, f8, f9⟩, ei, et⟩).next)).setCell ⟨gb, 2, none⟩ (.slice bb6 (applyP s ⟨kk, ⟨f1, f2, f3, f4, f5, f6, f7, f8, f9⟩, ei, et⟩).fams.length cc6))) := CB.beside HCx.out (keep3 gb 0 1 2 _ _ _ _) HBx.out.ne HV3.out HVN.out
              have HB6 : Hid (BH (((w6.setCell ⟨gb, 0, none⟩ (.int .i64 (applyP s ⟨kk, ⟨f1, f2, f3, f4, f5, f6, f7, f8, f9⟩, ei, et⟩).clock)).setCell ⟨gb, 1, none⟩ (.int .i64 (applyP s ⟨kk, ⟨f1, f2, f3, f4, f5, f6, f7, f8, f9⟩, ei, et⟩).next)).setCell ⟨gb, 2, none⟩ (.slice bb6 (applyP s ⟨kk, ⟨f1, f2, f3, f4, f5, f6, f7, f8, f9⟩, ei, et⟩).fams.length cc6)) gb gs gd gx gn (applyP s ⟨kk, ⟨f1, f2, f3, f4, f5, f6, f7, f8, f9⟩, ei, et⟩) (.slice bb6 (applyP s ⟨kk, ⟨f1, f2, f3, f4, f5, f6, f7, f8, f9⟩, ei, et⟩).fams.length cc6)) := HBx.out.put hf6 (by have h1 := HC4.out.prog.lt; have h2 := HC4.out.o1; have h3 := HB4.out.lt; exact ⟨h1, by omega, by omega, by omega, h3⟩)
              have d0 := HBx.out.c0
              have d1 := HBx.out.c1
              have d2 := HBx.out.c2
              have dz := HBx.out.fz
              clear b0 b1 b2 y1 y2 y3 y4 y5 y6 y7 y8 y9 y10 y11 y12 hf6 hb6 HCx HBx
              go_wp2_with fail
              go_meet
              case rel => exact ⟨0, _, _, _, _, rfl, HC6, HB6, ⟨fun _ => (by rw [hst, HPS.out]), fun h => absurd rfl h⟩⟩
            · have hst := HAO3.out.2.2 h0
              have hbn : ((n : Int) == 0) = false := by simp [h0]
              by_cases h14 : n = 14
              · subst h14
                have hmt := HAO3.out.2.1 rfl
                go_wp2_with fail
                refine (tellQ 14 _ HC4.out.prog.err).mono ?_
                rintro e5 w5 ⟨rfl, hb5⟩
                have HC5 : Hid _ := HC4.out.on hb5
                have HB5 : Hid _ := HB4.out.on hb5
                have HX5 : Hid _ := HX4.out.on hb5
                clear hb5
                have b0 := HC5.out.n0
                have b1 := HC5.out.n1
                have b2 := HC5.out.n2
                have y1 := HX5.out.c1
                have y2 := HX5.out.c2
                have y3 := HX5.out.c3
                have y4 := HX5.out.c4
                have y5 := HX5.out.c5
                have y6 := HX5.out.c6
                have y7 := HX5.out.c7
                have y8 := HX5.out.c8
                have y9 := HX5.out.c9
                have y10 := HX5.out.c10
                have y11 := HX5.out.c11
                have y12 := HX5.out.c12
                go_wp2_with fail
                refine (HAY _ _ hmt HC5.out.fam HGO.out).mono ?_
                rintro e6 w6 ⟨v6, rfl, hf6, hb6⟩
                obtain ⟨bb6, cc6, rfl⟩ := RowsK.slice hf6
                have HCx : Hid _ := HC5.out.on hb6
                have HBx : Hid _ := HB5.out.on hb6
                unfold stV
                have HC6 : Hid (CB w (22 * j + 22) w.heap.size bd gn gx gs gd cs ca cc p' v3 s (.slice bvn s.fams.length cvn) k (((w6.setCell ⟨gb, 0, none⟩ (.int .i64 (applyP s ⟨kk, ⟨f1, f2, f3, f4, f5, f6, f7, f8, f9⟩, ei, et⟩).clock)).setCell ⟨gb, 1, none⟩ (.int .i64 (applyP s ⟨kk, ⟨f1, f2, f3, f4, f5, f6, f7, f8, f9⟩, ei, et⟩).next)).setCell ⟨gb, 2, none⟩ (.slice bb6 (applyP s ⟨kk, ⟨f1, f2, f3, f4, f5, f6, f7, f8, f9⟩, ei, et⟩).fams.length cc6))) := CB.beside HCx.out (keep3 gb 0 1 2 _ _ _ _) HBx.out.ne HV3.out HVN.out
                have HB6 : Hid (BH (((w6.setCell ⟨gb, 0, none⟩ (.int .i64 (applyP s ⟨kk, ⟨f1, f2, f3, f4, f5, f6, f7, f8, f9⟩, ei, et⟩).clock)).setCell ⟨gb, 1, none⟩ (.int .i64 (applyP s ⟨kk, ⟨f1, f2, f3, f4, f5, f6, f7, f8, f9⟩, ei, et⟩).next)).setCell ⟨gb, 2, none⟩ (.slice bb6 (applyP s ⟨kk, ⟨f1, f2, f3, f4, f5, f6, f7, f8, f9⟩, ei, et⟩).fams.length cc6)) gb gs gd gx gn (applyP s ⟨kk, ⟨f1, f2, f3, f4, f5, f6, f7, f8, f9⟩, ei, et⟩) (.slice bb6 (applyP s ⟨kk, ⟨f1, f2, f3, f4, f5, f6, f7, f8, f9⟩, ei, et⟩).fams.length cc6)) := HBx.out.put hf6 (by have h1 := HC5.out.prog.lt; have h2 := HC5.out.o1; have h3 := HB5.out.lt; exact ⟨h1, by omega, by omega, by omega, h3⟩)
                have d0 := HBx.out.c0
                have d1 := HBx.out.c1
                have d2 := HBx.out.c2
                have dz := HBx.out.fz
                clear b0 b1 b2 y1 y2 y3 y4 y5 y6 y7 y8 y9 y10 y11 y12 hf6 hb6 HCx HBx
                go_wp2_with fail
                go_meet
                case rel => exact ⟨14, _, _, _, _, rfl, HC6, HB6, ⟨fun h => (by cases h), fun _ => (by rw [hst, HPS.out])⟩⟩
              · have hbn2 : ((n : Int) == 14) = false := by rw [beq_eq_false_iff_ne]; omega
                go_wp2_with fail
                refine (tellQ n _ HC4.out.prog.err).mono ?_
                rintro e5 w5 ⟨rfl, hb5⟩
                have HC5 : Hid _ := HC4.out.on hb5
                have HB5 : Hid _ := HB4.out.on hb5
                clear hb5
                go_wp2_with fail
                go_meet
                case rel => exact ⟨n, _, _, _, _, rfl, HC5, HB5, ⟨fun h => absurd h h0, fun _ => (by rw [hst, HPS.out])⟩⟩
        case rest =>
          obtain ⟨n, p', v', s', vb, rfl, HC2, HB2, HST⟩ := hcut
          clear HX1 HC1 HBH HAP HAY HAO HGX HGB x0 HVN HV0
          go_wp2_with fail
          refine (tellQ n _ HC2.out.prog.err).mono ?_
          rintro e3 w3 ⟨rfl, hb3⟩
          obtain ⟨bvb, cvb, rfl⟩ := RowsK.slice HB2.out.fam
          have HC3 : Hid _ := HC2.out.on hb3
          have HB3 : Hid _ := HB2.out.on hb3
          clear hb3 HC2 HB2
          go_upto_block 2 with fail
          go_cut [6] from 98 to 130 (fun sp wx => ∃ (gs : Nat) (p : Pub) (v : Value) (s : St) (vq : Value) (k : Nat), sp = .pointer (some ⟨gs, 0, none⟩) ∧ Hid (p.st = s) ∧ Hid (CB w (22 * j + 22) w.heap.size bd gn gx gs gd cs ca cc p v s vq k wx))
          case first =>
            by_cases h0 : n = 0
            · subst h0
              have b0 := HB3.out.c0
              have b1 := HB3.out.c1
              have b2 := HB3.out.c2
              have d0 := HC3.out.n0
              have d1 := HC3.out.n1
              have d2 := HC3.out.n2
              have dz := HC3.out.nf
              have HC4 : Hid _ := HC3.out.setNow HB3.out.fam HB3.out.out
              have HP4 : Hid (p'.st = s') := HST.out.1 rfl
              go_wp2_with fail
              go_meet
              case rel => exact ⟨_, _, _, _, _, _, rfl, HP4, HC4⟩
            · have hbn : ((n : Int) == 0) = false := by simp [h0]
              have HP3 : Hid (p'.st = s) := HST.out.2 h0
              by_cases h14 : n = 14
              · subst h14
                have d0 := HC3.out.disk
                go_wp2_with fail
                refine (cutS_is _ _ _ _ _ _ (-1) (by omega) HC3.out.prog).mono ?_
                rintro e4 w4 ⟨rfl, hp4, hk4⟩
                have HC4 : Hid _ := HC3.out.step hp4 (hk4.mono (l' := [gd, gs]) (fun x hx => by simp at hx; simp [hx])) HC3.out.out
                have HP4 : Hid ((cutP p' (-1)).st = s) := HP3.out
                clear hp4 hk4 d0 HC3 HB3
                generalize cutP p' (-1) = p4 at *
                have d0 := HC4.out.disk
                go_wp2_with fail
                refine (openS_is _ _ _ _ HC4.out.prog.db (by have := HN9.out; omega)).mono ?_
                rintro e5 w5 ⟨g5, v5, rfl, hle5, hp5, hb5⟩
                have HC5 : Hid _ := HC4.out.anew hb5 hle5 hp5
                have HP5 : Hid ((⟨p4.st, p4.lg, p4.n, p4.c, p4.l, false⟩ : Pub).st = s) := HP4.out
                clear hp5 hle5 hb5 d0 HC4
                generalize (⟨p4.st, p4.lg, p4.n, p4.c, p4.l, false⟩ : Pub) = q5 at *
                obtain ⟨sv5, hst5⟩ := HC5.out.prog.store
                have HST5 : Hid _ := hst5
                clear hst5
                go_wp2_with fail
                refine (state_is _ _ _ _ _ _ _ _ HST5.out (by have := HC5.out.prog.ok.good.len; omega)).mono ?_
                rintro e6 w6 ⟨v6, rfl, hf6, hb6⟩
                rw [HP5.out] at hf6 ⊢
                obtain ⟨bb6, cc6, rfl⟩ := RowsK.slice hf6
                have HC6 : Hid _ := HC5.out.on hb6
                have HO6 : Hid (NotIn (.slice bb6 s.fams.length cc6) g5 ∧ NotIn (.slice bb6 s.fams.length cc6) gd ∧ NotIn (.slice bb6 s.fams.length cc6) gx ∧ NotIn (.slice bb6 s.fams.length cc6) gn) := by
                  have h1 := HC5.out.prog.lt
                  have h2 := HC5.out.o1
                  exact ⟨NotIn.above hf6 (by omega), NotIn.above hf6 (by omega), NotIn.above hf6 (by omega), NotIn.above hf6 (by omega)⟩
                have HF6 : Hid (Fams 0 w6 (.slice bb6 s.fams.length cc6) s.fams) := RowsK.mono hf6 (Nat.zero_le _)
                clear hf6 hb6 HC5 HST5
                unfold stV
                have HBA : Hid (Below w6.heap.size w6 (w6.alloc (.cells #[.int .i64 s.clock, .int .i64 s.next, .slice bb6 s.fams.length cc6] 36))) := (Below.refl _ _).alloc (Nat.le_refl _) _
                have HC7 : Hid _ := HC6.out.on HBA.out
                have HF7 : Hid (Fams 0 (w6.alloc (.cells #[.int .i64 s.clock, .int .i64 s.next, .slice bb6 s.fams.length cc6] 36)) (.slice bb6 s.fams.length cc6) s.fams) := HF6.out.below HBA.out (Nat.le_refl _)
                have z0 : (w6.alloc (.cells #[.int .i64 s.clock, .int .i64 s.next, .slice bb6 s.fams.length cc6] 36)).cell? ⟨w6.heap.size, 0, none⟩ = some (.int .i64 s.clock) := (World.cell?_alloc_at _ _ _ _ rfl).trans rfl
                have z1 : (w6.alloc (.cells #[.int .i64 s.clock, .int .i64 s.next, .slice bb6 s.fams.length cc6] 36)).cell? ⟨w6.heap.size, 1, none⟩ = some (.int .i64 s.next) := (World.cell?_alloc_at _ _ _ _ rfl).trans rfl
                have z2 : (w6.alloc (.cells #[.int .i64 s.clock, .int .i64 s.next, .slice bb6 s.fams.length cc6] 36)).cell? ⟨w6.heap.size, 2, none⟩ = some (.slice bb6 s.fams.length cc6) := (World.cell?_alloc_at _ _ _ _ rfl).trans rfl
                have hzl : w6.heap.size < (w6.alloc (.cells #[.int .i64 s.clock, .int .i64 s.next, .slice bb6 s.fams.length cc6] 36)).heap.size := by simp
                go_upto_region 35 with fail
                have HZ : Hid (gn ≠ w6.heap.size) := by have := HC6.out.o1; show _ ≠ _; omega
                clear HC6 HF6 HBA
                generalize (w6.alloc (.cells #[.int .i64 s.clock, .int .i64 s.next, .slice bb6 s.fams.length cc6] 36)) = W7 at *
                generalize w6.heap.size = gi at *
                have d0 := HC7.out.n0
                have d1 := HC7.out.n1
                have d2 := HC7.out.n2
                have hsame := same_is s.clock s.next HF7.out HC7.out.fam (by have := HC7.out.prog.ok.good.len; rw [HP5.out] at this; omega)
                unfold stV at hsame
                go_wp2_with fail
                refine hsame.mono ?_
                rintro e8 w8 ⟨rfl, hb8⟩
                have HC8 : Hid _ := HC7.out.on hb8
                have HF8 : Hid (Fams 0 w8 (.slice bb6 s.fams.length cc6) s.fams) := HF7.out.below hb8 (Nat.le_refl _)
                replace z0 := (hb8.cell (p := ⟨gi, 0, none⟩) hzl).trans z0
                replace z1 := (hb8.cell (p := ⟨gi, 1, none⟩) hzl).trans z1
                replace z2 := (hb8.cell (p := ⟨gi, 2, none⟩) hzl).trans z2
                clear hsame hb8 d0 d1 d2 HC7 HF7 hzl
                have d0 := HC8.out.n0
                have d1 := HC8.out.n1
                have d2 := HC8.out.n2
                have dz := HC8.out.nf
                have HC9 : Hid _ := HC8.out.setNow HF8.out HO6.out
                go_wp2_with fail
                refine (HCUT.out _ _ _ _ _ _ _ _ _ _ _ _ HC9.out).mono ?_
                rintro e9 w9 ⟨rfl, n9, k9, hc9⟩
                have HCF : Hid _ := hc9
                have HPF : Hid ((cutP q5 n9).st = s) := HP5.out
                clear hc9 z0 z1 z2 d0 d1 d2 dz
                go_wp2_with fail
                go_meet
                case rel => exact ⟨_, _, _, _, _, _, rfl, HPF, HCF⟩
              · have hbn2 : ((n : Int) == 14) = false := by rw [beq_eq_false_iff_ne]; omega
                go_wp2_with fail
                go_meet
                case rel => exact ⟨_, _, _, _, _, _, rfl, HP3, HC3⟩
          case rest =>
            obtain ⟨gs2, p2, v2, s2, vn2, k2, rfl, HP2, HC4⟩ := hcut
            clear HC3 HB3 HST
            have hp2 := HP2.out
            subst hp2
            clear HP2
            have d0 := HC4.out.disk
            go_wp2_with fail
            refine (openS_is _ _ _ _ HC4.out.prog.db (by have := HN9.out; omega)).mono ?_
            rintro e5 w5 ⟨g5, v5, rfl, hle5, hp5, hb5⟩
            have HC5 : Hid _ := HC4.out.on hb5
            have HP5 : Hid (SP (22 * j + 22) w5 g5 gd ⟨p2.st, p2.lg, p2.n, p2.c, p2.l, false⟩ v5) := hp5
            obtain ⟨bn, cn, rfl⟩ := RowsK.slice HC4.out.fam
            clear hp5 hle5 hb5 d0 HC4
            go_upto_region 40 with fail
            refine RegD.wp_region_D (fun W => CB w (22 * j + 22) w.heap.size bd gn gx gs2 gd cs ca cc p2 v2 p2.st (.slice bn p2.st.fams.length cn) k2 W ∧ SP (22 * j + 22) W g5 gd ⟨p2.st, p2.lg, p2.n, p2.c, p2.l, false⟩ v5) 19 (by kernel_rfl) (⟨HC5.out.on (Below.refl _ _).drew, HP5.out.on (Below.refl _ _).drew⟩) (fun hHeld => ?_)
            refine RegD.wpAnyD_take 0 (oi := ?oi0x2) (v := .nilIface) ?hi0x2 ?hB0x2 ?hQ0x2 ?hy0x2 hHeld ?rest0x2
            case hi0x2 => rfl
            case hB0x2 => kernel_rfl
            case hQ0x2 => exact fun _ _ _ h => h
            case hy0x2 => exact .inl ⟨by rfl, fun W hW => by
              go_simp⟩
            simp only [Act.put, List.setIfInBounds_toArray, List.set_cons_zero, List.set_cons_succ]
            refine RegD.wpAnyD_take 1 (oi := ?oi1x3) (v := .bool false) ?hi1x3 ?hB1x3 ?hQ1x3 ?hy1x3 hHeld ?rest1x3
            case hi1x3 => rfl
            case hB1x3 => kernel_rfl
            case hQ1x3 => exact fun _ _ _ h => h
            case hy1x3 => exact .inl ⟨by rfl, fun W hW => by
              go_simp⟩
            simp only [Act.put, List.setIfInBounds_toArray, List.set_cons_zero, List.set_cons_succ]
            refine RegD.wpAnyD_take 2 (oi := ?oi2x4) (v := .bool false) ?hi2x4 ?hB2x4 ?hQ2x4 ?hy2x4 hHeld ?rest2x4
            case hi2x4 => rfl
            case hB2x4 => kernel_rfl
            case hQ2x4 => exact fun _ _ _ h => h
            case hy2x4 => exact .inl ⟨by rfl, fun W hW => by
              go_simp⟩
            simp only [Act.put, List.setIfInBounds_toArray, List.set_cons_zero, List.set_cons_succ]
            refine RegD.wpAnyD_take 3 (oi := ?oi3x5) (v := .pointer (some ⟨g5, 0, none⟩)) ?hi3x5 ?hB3x5 ?hQ3x5 ?hy3x5 hHeld ?rest3x5
            case hi3x5 => rfl
            case hB3x5 => kernel_rfl
            case hQ3x5 => exact fun _ _ _ h => h
            case hy3x5 => exact .inl ⟨by rfl, fun W hW => by
              go_simp⟩
            simp only [Act.put, List.setIfInBounds_toArray, List.set_cons_zero, List.set_cons_succ]
            refine RegD.wpAnyD_take 4 (oi := ?oi4x6) (v := .bool false) ?hi4x6 ?hB4x6 ?hQ4x6 ?hy4x6 hHeld ?rest4x6
            case hi4x6 => rfl
            case hB4x6 => kernel_rfl
            case hQ4x6 => exact fun _ _ _ h => h
            case hy4x6 => exact .inl ⟨by rfl, fun W hW => by
              go_simp⟩
            simp only [Act.put, List.setIfInBounds_toArray, List.set_cons_zero, List.set_cons_succ]
            refine RegD.wpAnyD_take 5 (oi := ?oi5x7) (v := .bool false) ?hi5x7 ?hB5x7 ?hQ5x7 ?hy5x7 hHeld ?rest5x7
            case hi5x7 => rfl
            case hB5x7 => kernel_rfl
            case hQ5x7 => exact fun _ _ _ h => h
            case hy5x7 => exact .inl ⟨by rfl, fun W hW => by
              go_simp⟩
            simp only [Act.put, List.setIfInBounds_toArray, List.set_cons_zero, List.set_cons_succ]
            refine RegD.wpAnyD_take 6 (oi := ?oi6x8) (v := .bool false) ?hi6x8 ?hB6x8 ?hQ6x8 ?hy6x8 hHeld ?rest6x8
            case hi6x8 => rfl
            case hB6x8 => kernel_rfl
            case hQ6x8 => exact fun _ _ _ h => h
            case hy6x8 => exact .inl ⟨by rfl, fun W hW => by
              go_simp⟩
            simp only [Act.put, List.setIfInBounds_toArray, List.set_cons_zero, List.set_cons_succ]
            refine RegD.wpAnyD_take 7 (oi := ?oi7x9) (v := .pointer (some ⟨g5, 0, none⟩)) ?hi7x9 ?hB7x9 ?hQ7x9 ?hy7x9 hHeld ?rest7x9
            case hi7x9 => rfl
            case hB7x9 => kernel_rfl
            case hQ7x9 => exact fun _ _ _ h => h
            case hy7x9 => exact .inl ⟨by rfl, fun W hW => by
              go_simp⟩
            simp only [Act.put, List.setIfInBounds_toArray, List.set_cons_zero, List.set_cons_succ]
            refine RegD.wpAnyD_take 9 (oi := ?oi9x10) (v := .agg #[.int .i64 p2.st.clock, .int .i64 p2.st.next, .slice bn p2.st.fams.length cn]) ?hi9x10 ?hB9x10 ?hQ9x10 ?hy9x10 hHeld ?rest9x10
            case hi9x10 => rfl
            case hB9x10 => kernel_rfl
            case hQ9x10 => exact fun _ _ _ h => h
            case hy9x10 => exact .inl ⟨by rfl, fun W hW => by
              have a0 := hW.1.n0
              have a1 := hW.1.n1
              have a2 := hW.1.n2
              go_simp⟩
            simp only [Act.put, List.setIfInBounds_toArray, List.set_cons_zero, List.set_cons_succ]
            obtain ⟨svx6, hstx6⟩ := hHeld.2.store
            refine RegD.wpAnyD_one 8 (o := ?o8x11) ?ho8x11 ?hr8x11 ?h8x11
            case ho8x11 => rfl
            case hr8x11 => kernel_rfl
            intro K hK
            go_simp
            go_at_call 20
            refine (state_is _ _ _ _ _ _ p2.st _ hstx6 (by have := hHeld.1.prog.ok.good.len; show p2.st.fams.length ≤ 5000; omega)).mono ?_
            rintro ex6 wx6 ⟨vx6, rfl, hfx6, hbx6⟩
            obtain ⟨bx6, cx6, rfl⟩ := RowsK.slice hfx6
            unfold stV
            go_wp2_with fail
            refine hK.out _ _ (⟨hHeld.1.on hbx6, hHeld.2.on hbx6⟩) ?_
            clear hK hHeld
            intro hHeld
            clear K
            clear hstx6 hbx6
            refine RegD.wpAnyD_one 10 (o := ?o10x13) ?ho10x13 ?hr10x13 ?h10x13
            case ho10x13 => rfl
            case hr10x13 => kernel_rfl
            intro K hK
            go_simp
            go_at_call 21
            refine (same_is p2.st.clock p2.st.next hfx6 hHeld.1.fam (by have := hHeld.1.prog.ok.good.len; omega)).mono ?_
            rintro ex7 wx7 ⟨rfl, hbx7⟩
            go_wp2_with fail
            refine hK.out _ _ (⟨hHeld.1.on hbx7, hHeld.2.on hbx7⟩) ?_
            clear hK hHeld
            intro hHeld
            clear K
            clear hbx7
            refine RegD.wpAnyD_take 11 (oi := ?oi11x15) (v := .bool false) ?hi11x15 ?hB11x15 ?hQ11x15 ?hy11x15 hHeld ?rest11x15
            case hi11x15 => rfl
            case hB11x15 => kernel_rfl
            case hQ11x15 => exact fun _ _ _ h => h
            case hy11x15 => exact .inl ⟨by rfl, fun W hW => by
              go_simp⟩
            simp only [Act.put, List.setIfInBounds_toArray, List.set_cons_zero, List.set_cons_succ]
            refine RegD.wpAnyD_take 12 (oi := ?oi12x16) (v := .bool false) ?hi12x16 ?hB12x16 ?hQ12x16 ?hy12x16 hHeld ?rest12x16
            case hi12x16 => rfl
            case hB12x16 => kernel_rfl
            case hQ12x16 => exact fun _ _ _ h => h
            case hy12x16 => exact .inl ⟨by rfl, fun W hW => by
              go_simp⟩
            simp only [Act.put, List.setIfInBounds_toArray, List.set_cons_zero, List.set_cons_succ]
            refine RegD.wpAnyD_take 13 (oi := ?oi13x17) (v := .bool false) ?hi13x17 ?hB13x17 ?hQ13x17 ?hy13x17 hHeld ?rest13x17
            case hi13x17 => rfl
            case hB13x17 => kernel_rfl
            case hQ13x17 => exact fun _ _ _ h => h
            case hy13x17 => exact .inl ⟨by rfl, fun W hW => by
              go_simp⟩
            simp only [Act.put, List.setIfInBounds_toArray, List.set_cons_zero, List.set_cons_succ]
            refine RegD.wpAnyD_take 14 (oi := ?oi14x18) (v := .pointer (some ⟨gs2, 0, none⟩)) ?hi14x18 ?hB14x18 ?hQ14x18 ?hy14x18 hHeld ?rest14x18
            case hi14x18 => rfl
            case hB14x18 => kernel_rfl
            case hQ14x18 => exact fun _ _ _ h => h
            case hy14x18 => exact .inl ⟨by rfl, fun W hW => by
              go_simp⟩
            simp only [Act.put, List.setIfInBounds_toArray, List.set_cons_zero, List.set_cons_succ]
            refine RegD.wpAnyD_take 16 (oi := ?oi16x19) (v := .agg #[.int .i64 p2.st.clock, .int .i64 p2.st.next, .slice bn p2.st.fams.length cn]) ?hi16x19 ?hB16x19 ?hQ16x19 ?hy16x19 hHeld ?rest16x19
            case hi16x19 => rfl
            case hB16x19 => kernel_rfl
            case hQ16x19 => exact fun _ _ _ h => h
            case hy16x19 => exact .inl ⟨by rfl, fun W hW => by
              have a0 := hW.1.n0
              have a1 := hW.1.n1
              have a2 := hW.1.n2
              go_simp⟩
            simp only [Act.put, List.setIfInBounds_toArray, List.set_cons_zero, List.set_cons_succ]
            obtain ⟨svx8, hstx8⟩ := hHeld.1.prog.store
            refine RegD.wpAnyD_one 15 (o := ?o15x20) ?ho15x20 ?hr15x20 ?h15x20
            case ho15x20 => rfl
            case hr15x20 => kernel_rfl
            intro K hK
            go_simp
            go_at_call 20
            refine (state_is _ _ _ _ _ _ p2.st _ hstx8 (by have := hHeld.1.prog.ok.good.len; show p2.st.fams.length ≤ 5000; omega)).mono ?_
            rintro ex8 wx8 ⟨vx8, rfl, hfx8, hbx8⟩
            obtain ⟨bx8, cx8, rfl⟩ := RowsK.slice hfx8
            unfold stV
            go_wp2_with fail
            refine hK.out _ _ (⟨hHeld.1.on hbx8, hHeld.2.on hbx8⟩) ?_
            clear hK hHeld
            intro hHeld
            clear K
            clear hstx8 hbx8
            refine RegD.wpAnyD_one 17 (o := ?o17x22) ?ho17x22 ?hr17x22 ?h17x22
            case ho17x22 => rfl
            case hr17x22 => kernel_rfl
            intro K hK
            go_simp
            go_at_call 21
            refine (same_is p2.st.clock p2.st.next hfx8 hHeld.1.fam (by have := hHeld.1.prog.ok.good.len; omega)).mono ?_
            rintro ex9 wx9 ⟨rfl, hbx9⟩
            go_wp2_with fail
            refine hK.out _ _ (⟨hHeld.1.on hbx9, hHeld.2.on hbx9⟩) ?_
            clear hK hHeld
            intro hHeld
            clear K
            clear hbx9
            refine RegD.wpAnyD_take 18 (oi := ?oi18x24) (v := .bool false) ?hi18x24 ?hB18x24 ?hQ18x24 ?hy18x24 hHeld ?rest18x24
            case hi18x24 => rfl
            case hB18x24 => kernel_rfl
            case hQ18x24 => exact fun _ _ _ h => h
            case hy18x24 => exact .inl ⟨by rfl, fun W hW => by
              go_simp⟩
            simp only [Act.put, List.setIfInBounds_toArray, List.set_cons_zero, List.set_cons_succ]
            have HCF : Hid (CB w (22 * j + 22) w.heap.size bd gn gx gs2 gd cs ca cc p2 v2 p2.st (.slice bn p2.st.fams.length cn) k2 wx9) := hHeld.1
            clear hHeld
            refine RegD.wpAnyD_late 19 (o := ?o19x25) ?ho19x25 ?hr19x25 ?hd19x25 ?h19x25
            case ho19x25 => rfl
            case hr19x25 => kernel_rfl
            case hd19x25 => kernel_rfl
            intro K hK
            go_simp
            refine hK.out _ _ ?_
            clear hK K
            refine RegD.wpAnyD_done (by kernel_rfl) ?_ _
            go_wp2_with fail
            go_roundg (gk - 1)
            case measure => have := HJ.out; omega
            case rel => exact ⟨j + 1, _, _, _, _, _, _, by have := HJ.out; omega, by go_num, rfl, rfl, HCF⟩
      · obtain ⟨kk, ⟨f1, f2, f3, f4, f5, f6, f7, f8, f9⟩, ei, et⟩ := e
        have k0 := he 0 _ rfl; have k1 := he 1 _ rfl; have k2 := he 2 _ rfl; have k3 := he 3 _ rfl; have k4 := he 4 _ rfl; have k5 := he 5 _ rfl; have k6 := he 6 _ rfl; have k7 := he 7 _ rfl; have k8 := he 8 _ rfl; have k9 := he 9 _ rfl; have k10 := he 10 _ rfl; have k11 := he 11 _ rfl; have k12 := he 12 _ rfl
        unfold lens at hsm hse
        simp only [Nat.add_zero] at k0 k1 k2 k3 k4 k5 k6 k7 k8 k9 k10 k11 k12 hsm hse
        have hsmI : (300 : Int) < (f2.size : Int) + f3.size + f4.size + f8.size := by omega
        have n1 : ¬ 9223372036854775807 < f2.size + f3.size := by omega
        have n2 : ¬ 9223372036854775807 < f2.size + f3.size + f4.size := by omega
        have n3 : ¬ 9223372036854775807 < f2.size + f3.size + f4.size + f8.size := by omega
        have HFM2 := HFM.out (wr.alloc (.cells #[.int .i64 a, .int .i64 kk, .int .i64 f1, .string f2, .string f3, .string f4, .int .i64 f5, .int .i64 f6, .int .i64 f7, .string f8, .bool f9, .int .i64 ei, .int .i64 et] 44))
        simp only at HFM2
        have hbX : Below wr.heap.size wr (wr.alloc (.cells #[.int .i64 a, .int .i64 kk, .int .i64 f1, .string f2, .string f3, .string f4, .int .i64 f5, .int .i64 f6, .int .i64 f7, .string f8, .bool f9, .int .i64 ei, .int .i64 et] 44)) := (Below.refl _ _).alloc (Nat.le_refl _) _
        have hbF : Below (wr.alloc (.cells #[.int .i64 a, .int .i64 kk, .int .i64 f1, .string f2, .string f3, .string f4, .int .i64 f5, .int .i64 f6, .int .i64 f7, .string f8, .bool f9, .int .i64 ei, .int .i64 et] 44)).heap.size (wr.alloc (.cells #[.int .i64 a, .int .i64 kk, .int .i64 f1, .string f2, .string f3, .string f4, .int .i64 f5, .int .i64 f6, .int .i64 f7, .string f8, .bool f9, .int .i64 ei, .int .i64 et] 44)) ((wr.alloc (.cells #[.int .i64 a, .int .i64 kk, .int .i64 f1, .string f2, .string f3, .string f4, .int .i64 f5, .int .i64 f6, .int .i64 f7, .string f8, .bool f9, .int .i64 ei, .int .i64 et] 44)).alloc (.cells #[.int .i64 f1, .string f2, .string f3, .string f4, .int .i64 f5, .int .i64 f6, .int .i64 f7, .string f8, .bool f9] 40)) := (Below.refl _ _).alloc (Nat.le_refl _) _
        have HC0 : Hid (CB w (22 * j) w.heap.size bd gn gx gs gd cs ca cc p v s (.slice bvn s.fams.length cvn) k ((wr.alloc (.cells #[.int .i64 a, .int .i64 kk, .int .i64 f1, .string f2, .string f3, .string f4, .int .i64 f5, .int .i64 f6, .int .i64 f7, .string f8, .bool f9, .int .i64 ei, .int .i64 et] 44)).alloc (.cells #[.int .i64 f1, .string f2, .string f3, .string f4, .int .i64 f5, .int .i64 f6, .int .i64 f7, .string f8, .bool f9] 40))) := (HC.out.on hbX).on hbF
        clear he HXM HFM HC hbX hbF HM
        go_upto_region 18 with fail
        have q1 := HFM2.c1
        have q2 := HFM2.c2
        have q3 := HFM2.c3
        have q7 := HFM2.c7
        simp only [Nat.zero_add] at q1 q2 q3 q7
        clear HFM2 k0 k1 k2 k3 k4 k5 k6 k7 k8 k9 k10 k11 k12
        generalize hWX : ((wr.alloc (.cells #[.int .i64 a, .int .i64 kk, .int .i64 f1, .string f2, .string f3, .string f4, .int .i64 f5, .int .i64 f6, .int .i64 f7, .string f8, .bool f9, .int .i64 ei, .int .i64 et] 44)).alloc (.cells #[.int .i64 f1, .string f2, .string f3, .string f4, .int .i64 f5, .int .i64 f6, .int .i64 f7, .string f8, .bool f9] 40)) = W1 at *
        have hgf : (wr.alloc (.cells #[.int .i64 a, .int .i64 kk, .int .i64 f1, .string f2, .string f3, .string f4, .int .i64 f5, .int .i64 f6, .int .i64 f7, .string f8, .bool f9, .int .i64 ei, .int .i64 et] 44)).heap.size = wr.heap.size + 1 := by simp
        rw [hgf] at q1 q2 q3 q7
        clear hWX
        go_wp2_with fail
        go_roundg (gk - 1)
        case measure => have := HJ.out; omega
        case rel => exact ⟨j + 1, _, _, _, _, _, _, by have := HJ.out; omega, by go_num, rfl, HPS, HC0.out.mono (by omega)⟩
    · obtain rfl : j = ds.length := by have := HJ.out; omega
      go_wp2_with fail
      go_ret
      exact ⟨rfl, HC.out.below⟩
end Go.Proofs.YtlailakofhenkabGreatDoor
