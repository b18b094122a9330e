/-
  Own texts put together: StPLaw.
-/
import Derived.Test.YtkggfahcdpgapaaGreatDoorB29
import Derived.Test.YtkggfahcdpgapaaGreatDoorB12
import Derived.Test.YtkggfahcdpgapaaGreatDoorB19
import Derived.Test.YtkggfahcdpgapaaGreatDoorB11
import Derived.Test.YtkggfahcdpgapaaGreatDoorB21
/-
  The law StorePlays: whatever is added and saved, whenever the power goes off, a store is the document's.
-/

namespace Go.Proofs.YtkggfahcdpgapaaGreatDoor
open Go Go.RowKit Tok Sc Ev
/-- One of what is done to a store, in a box. -/
structure XB (w : World) (g : Nat) (a k : Int) (e : E) : Prop where
  c0 : w.cell? ⟨g, 0, none⟩ = some (.int .i64 a)
  c1 : w.cell? ⟨g, 1, none⟩ = some (.int .i64 k)
  c2 : w.cell? ⟨g, 2, none⟩ = some (.int .i64 e.kind)
  c3 : w.cell? ⟨g, 3, none⟩ = some (.int .i64 e.fam.id)
  c4 : w.cell? ⟨g, 4, none⟩ = some (.string e.fam.client)
  c5 : w.cell? ⟨g, 5, none⟩ = some (.string e.fam.subject)
  c6 : w.cell? ⟨g, 6, none⟩ = some (.string e.fam.scope)
  c7 : w.cell? ⟨g, 7, none⟩ = some (.int .i64 e.fam.gen)
  c8 : w.cell? ⟨g, 8, none⟩ = some (.int .i64 e.fam.made)
  c9 : w.cell? ⟨g, 9, none⟩ = some (.int .i64 e.fam.used)
  c10 : w.cell? ⟨g, 10, none⟩ = some (.string e.fam.request)
  c11 : w.cell? ⟨g, 11, none⟩ = some (.bool e.fam.dead)
  c12 : w.cell? ⟨g, 12, none⟩ = some (.int .i64 e.id)
  c13 : w.cell? ⟨g, 13, none⟩ = some (.int .i64 e.time)
  lt : g < w.heap.size
theorem XB.keep {l : List Nat} {w w' : World} {g : Nat} {a k : Int} {e : E} (h : XB w g a k e) (hk : Keep l w w') (hn : g ∉ l) : XB w' g a k e := by
  have hc : ∀ i, w'.cell? ⟨g, i, none⟩ = w.cell? ⟨g, i, none⟩ := fun i => hk.cell (p := ⟨g, i, none⟩) h.lt hn
  exact ⟨(hc 0).trans h.c0, (hc 1).trans h.c1, (hc 2).trans h.c2, (hc 3).trans h.c3, (hc 4).trans h.c4, (hc 5).trans h.c5, (hc 6).trans h.c6, (hc 7).trans h.c7, (hc 8).trans h.c8, (hc 9).trans h.c9, (hc 10).trans h.c10, (hc 11).trans h.c11, (hc 12).trans h.c12, (hc 13).trans h.c13, Nat.lt_of_lt_of_le h.lt hk.size⟩
theorem XB.on {w w' : World} {g : Nat} {a k : Int} {e : E} (h : XB w g a k e) (hb : Below w.heap.size w w') : XB w' g a k e := h.keep (Keep.of [] hb) (by simp)
theorem XB.made (w : World) (a k : Int) (e : E) (t : TypeId) : XB (w.alloc (.cells #[.int .i64 a, .int .i64 k, .int .i64 e.kind, .int .i64 e.fam.id, .string e.fam.client, .string e.fam.subject, .string e.fam.scope, .int .i64 e.fam.gen, .int .i64 e.fam.made, .int .i64 e.fam.used, .string e.fam.request, .bool e.fam.dead, .int .i64 e.id, .int .i64 e.time] t)) w.heap.size a k e := by
  refine ⟨?_, ?_, ?_, ?_, ?_, ?_, ?_, ?_, ?_, ?_, ?_, ?_, ?_, ?_, by simp⟩ <;> exact (World.cell?_alloc_at _ _ _ _ rfl).trans rfl
/-- One, as it stands in a list. -/
structure Do3 where
  a : Int
  k : Int
  e : E
def doCs (x : Do3) : List Value := .int .i64 x.a :: .int .i64 x.k :: evCs x.e
def DoRow (w : World) (g off : Nat) (ds : List Do3) : Prop := ∀ (i : Nat) (h : i < ds.length) (k : Nat) (x : Value), (doCs ds[i])[k]? = some x → w.cell? ⟨g, off + i * 14 + k, none⟩ = some x
/-- Between two rounds. -/
structure PL (w0 : World) (N gs gr : Nat) (p : Pub) (v vr : Value) (w : World) : Prop where
  two : Two N w gs w0.heap.size gr p p v vr
  below : Below w0.heap.size w0 w
theorem PL.on {w0 : World} {N gs gr : Nat} {p : Pub} {v vr : Value} {w w' : World} (h : PL w0 N gs gr p v vr w) (hb : Below w.heap.size w w') : PL w0 N gs gr p v vr w' :=
  ⟨h.two.on hb, h.below.trans (hb.mono h.below.size)⟩
theorem PL.keep {w0 : World} {N M gs gs' gr : Nat} {p q : Pub} {v v' vr vr' : Value} {w w' : World} {l : List Nat} (h : PL w0 N gs gr p v vr w) (ht : Two M w' gs' w0.heap.size gr q q v' vr') (hk : Keep l w w') (hl : ∀ x ∈ l, w0.heap.size ≤ x) : PL w0 M gs' gr q v' vr' w' :=
  ⟨ht, h.below.trans (hk.below h.below.size hl)⟩
theorem bareZ (n : Nat) (w : World) (hE : ErrVar w) : Calls Tryz.prog 11 #[errQ n, .int .i64 (n : Nat)] w fun e w' => e = .returned (.bool true) ∧ Below w.heap.size w w' := bareQ n w hE
set_option maxRecDepth 100000 in
set_option maxHeartbeats 16000000 in
theorem storePlaysLaw (ds : List Do3) (ao : Option Addr) (g off cap : Nat) (w : World) (hao : 0 < ds.length → ao = some ⟨g, off, none⟩) (hg : g < w.heap.size) (hrow : DoRow w g off ds) (hs : ∀ x ∈ ds, lens x.e.fam ≤ 10000000000000000 ∧ x.k ≤ 9223372036854775807) (hn : ds.length ≤ 120)
    (hL : LibsA w) (hE : ErrVar w) (hO : Olds w.heap.size) :
    Calls Tryz.prog 7 #[.slice ao ds.length cap] w fun r w' => r = .returned (.bool true) ∧ Below w.heap.size w w' := by
  have hn' : ¬ (120 : Int) < (ds.length : Int) := by omega
  have HDB : Hid _ := db_zero w hL hE hO
  have HB0 : Hid (Below w.heap.size w (w.alloc (.cells Tryz.zeroCells65 65))) := (Below.refl _ _).alloc (Nat.le_refl _) _
  have hs0 : (w.alloc (.cells Tryz.zeroCells65 65)).heap.size = w.heap.size + 1 := by simp
  have HS0 : Hid _ := hs0
  have HR : Hid (DoRow w g off ds) := hrow
  have HG : Hid (g < w.heap.size) := hg
  have HS : Hid (∀ x ∈ ds, lens x.e.fam ≤ 10000000000000000 ∧ x.k ≤ 9223372036854775807) := hs
  have HN : Hid (ds.length ≤ 120) := hn
  have HE0 : Hid (ErrVar w) := hE
  clear hrow hg hs hL hE hO hs0
  go_enter Tryz.func7, Tryz.ntmps7
  go_wp2_with fail
  refine (openS_is 0 _ w.heap.size _ HDB.out (by omega)).mono ?_
  rintro e1 w1 ⟨gs, v, rfl, hle, hsp, hb1⟩
  have HSP1 : Hid (SP 0 w1 gs w.heap.size ⟨⟨0, 1, []⟩, 0, 0, false, 0, false⟩ v) := hsp
  have HB1 : Hid (Below w.heap.size w w1) := HB0.out.trans (hb1.mono HB0.out.size)
  have HLE : Hid (w.heap.size + 1 ≤ gs) := by rw [← HS0.out]; exact hle
  clear hle hsp hb1
  go_wp2_with fail
  refine (open_nil _).mono ?_
  rintro e2 w2 ⟨rfl, rfl⟩
  go_wp2_with fail
  refine (newStore_is _).mono ?_
  rintro e3 w3 ⟨rfl, hr3, hb3⟩
  have HT3 : Hid (Two 0 w3 gs w.heap.size w2.heap.size ⟨⟨0, 1, []⟩, 0, 0, false, 0, false⟩ ⟨⟨0, 1, []⟩, 0, 0, false, 0, false⟩ v (.slice none 0 0)) := by
    have h1 := HSP1.out.lt
    have h2 := HLE.out
    exact ⟨HSP1.out.on hb3, ok_zero, hr3, by omega, by omega, NotIn.past HSP1.out.fam (Nat.le_refl _), NotIn.nil _ _ _⟩
  have HPL3 : Hid (PL w 0 gs w2.heap.size ⟨⟨0, 1, []⟩, 0, 0, false, 0, false⟩ v (.slice none 0 0) w3) := ⟨HT3.out, HB1.out.trans (hb3.mono HB1.out.size)⟩
  generalize w2.heap.size = gr at *
  clear hr3 hb3
  go_wp2_with fail
  refine (bareZ 7 _ HPL3.out.two.prog.err).mono ?_
  rintro e4 w4 ⟨rfl, hb4⟩
  have HPL4 : Hid _ := HPL3.out.on hb4
  clear hb4
  go_wp2_with fail
  go_loopg [4, 9] ds.length (fun gk sp iv wr => ∃ (j gs : Nat) (p : Pub) (v vr : Value), j + gk = ds.length ∧ iv = .int .i64 j ∧ sp = .pointer (some ⟨gs, 0, none⟩) ∧ Hid (PL w (44 * j) gs gr p v vr wr))
  case atStart => exact ⟨0, _, _, _, _, by omega, rfl, rfl, HPL4⟩
  case round =>
    obtain ⟨j, gs, p, v, vr, hj, rfl, rfl, HP⟩ := hrel
    have HJ : Hid (j + gk = ds.length) := hj
    clear hj HPL4 HPL3 HT3 HSP1
    by_cases hlt : j < ds.length
    · have hltI : (j : Int) < (ds.length : Int) := by omega
      obtain rfl := hao (by omega)
      obtain ⟨hse, hkm⟩ := HS.out ds[j] (List.getElem_mem hlt)
      have he : ∀ (m : Nat) (x : Value), (doCs ds[j])[m]? = some x → wr.cell? ⟨g, off + j * 14 + m, none⟩ = some x := fun m x hx => (HP.out.below.cell (p := ⟨g, off + j * 14 + m, none⟩) HG.out).trans (HR.out j hlt m x hx)
      generalize ds[j] = x at *
      obtain ⟨a, k, e⟩ := x
      have HN9 : Hid (44 * j + 44 < 9000 - 22) := by have := HN.out; show 44 * j + 44 < 9000 - 22; omega
      have HKM : Hid (k ≤ 9223372036854775807) := hkm
      have HSH := fun (W : World) => short_is e W hse
      clear hkm
      by_cases hsm : lens e.fam ≤ 300
      · have hdum := True.intro
        rw [decide_eq_true hsm] at HSH
        have HSM : Hid (Small 1000 e.fam) := by have := hsm; unfold lens at this; show Small 1000 e.fam; unfold Small; omega
        have HHA := fun (W : World) => happens_is e W
        obtain ⟨m, hm⟩ : ∃ m : Bool, m = true ↔ Ev.may e := by
          by_cases h : Ev.may e
          · exact ⟨true, by simp [h]⟩
          · exact ⟨false, by simp [h]⟩
        have HM : Hid (m = true ↔ Ev.may e) := hm
        have HAP := fun (W : World) (N : Nat) (gs : Nat) (p q : Pub) (v vr : Value) (h : Two N W gs w.heap.size gr p q v vr) (hN : N < 9000) => twoAddP N W gs w.heap.size gr p q v vr e m HM.out HSM.out h hN
        have HAR := fun (W : World) (N : Nat) (gs : Nat) (p q : Pub) (v vr : Value) (h : Two N W gs w.heap.size gr p q v vr) (hN : N < 9000) => twoAddR N W gs w.heap.size gr p q v vr e m HM.out HSM.out h hN
        have HXM : Hid (∀ W : World, XB (W.alloc (.cells #[.int .i64 a, .int .i64 k, .int .i64 e.kind, .int .i64 e.fam.id, .string e.fam.client, .string e.fam.subject, .string e.fam.scope, .int .i64 e.fam.gen, .int .i64 e.fam.made, .int .i64 e.fam.used, .string e.fam.request, .bool e.fam.dead, .int .i64 e.id, .int .i64 e.time] 72)) W.heap.size a k e) := fun W => XB.made W a k e _
        clear hm hsm hse
        obtain ⟨kk, ⟨f1, f2, f3, f4, f5, f6, f7, f8, f9⟩, ei, et⟩ := e
        have k0 := he 0 _ rfl; have k1 := he 1 _ rfl; have k2 := he 2 _ rfl; have k3 := he 3 _ rfl; have k4 := he 4 _ rfl; have k5 := he 5 _ rfl; have k6 := he 6 _ rfl; have k7 := he 7 _ rfl; have k8 := he 8 _ rfl; have k9 := he 9 _ rfl; have k10 := he 10 _ rfl; have k11 := he 11 _ rfl; have k12 := he 12 _ rfl; have k13 := he 13 _ rfl
        unfold evV evCs at HSH HHA HAP HAR
        simp only [Nat.add_zero] at k0 k1 k2 k3 k4 k5 k6 k7 k8 k9 k10 k11 k12 k13 HSH HHA HAP HAR
        have HXM2 := HXM.out wr
        simp only at HXM2
        have HX0 : Hid (XB (wr.alloc (.cells #[.int .i64 a, .int .i64 k, .int .i64 kk, .int .i64 f1, .string f2, .string f3, .string f4, .int .i64 f5, .int .i64 f6, .int .i64 f7, .string f8, .bool f9, .int .i64 ei, .int .i64 et] 72)) wr.heap.size a k ⟨kk, ⟨f1, f2, f3, f4, f5, f6, f7, f8, f9⟩, ei, et⟩) := HXM2
        have HP0 : Hid (PL w (44 * j) gs gr p v vr (wr.alloc (.cells #[.int .i64 a, .int .i64 k, .int .i64 kk, .int .i64 f1, .string f2, .string f3, .string f4, .int .i64 f5, .int .i64 f6, .int .i64 f7, .string f8, .bool f9, .int .i64 ei, .int .i64 et] 72))) := HP.out.on ((Below.refl _ _).alloc (Nat.le_refl _) _)
        have HGX : Hid (wr.heap.size ≠ gs ∧ wr.heap.size ≠ gr ∧ w.heap.size < wr.heap.size) := by
          have h1 := HP.out.two.prog.lt
          have h2 := HP.out.two.doc.lt
          have h3 := HP.out.two.prog.ord
          show _ ≠ _ ∧ _ ≠ _ ∧ _ < _
          omega
        clear he HXM HXM2 HP
        go_wp2_with fail
        refine (HSH _).mono ?_
        rintro e1 w1 ⟨rfl, hb1⟩
        have HX1 : Hid _ := HX0.out.on hb1
        have HP1 : Hid _ := HP0.out.on hb1
        clear hb1 HX0 HP0 HSH k0 k1 k2 k3 k4 k5 k6 k7 k8 k9 k10 k11 k12 k13
        generalize hgx : wr.heap.size = gx at *
        clear hgx
        have x0 := HX1.out.c0
        go_upto_block 2 with fail
        go_cut [4] from 59 to 113 (fun sp wx => ∃ (gs : Nat) (p : Pub) (v vr : Value), sp = .pointer (some ⟨gs, 0, none⟩) ∧ Hid (PL w (44 * j + 44) gs gr p v vr wx))
        case first =>
          by_cases ha0 : a = 0
          · subst ha0
            go_upto_region 16 with fail
            refine RegD.wp_region_D (fun W => XB W gx 0 k ⟨kk, ⟨f1, f2, f3, f4, f5, f6, f7, f8, f9⟩, ei, et⟩) 8 (by kernel_rfl) (HX1.out.on (Below.refl _ _).drew) (fun hHeld => ?_)
            refine RegD.wpAnyD_take 0 (oi := ?oi0x2) (v := .pointer (some ⟨gs, 0, none⟩)) ?hi0x2 ?hB0x2 ?hQ0x2 ?hy0x2 hHeld ?rest0x2
            case hi0x2 => rfl
            case hB0x2 => kernel_rfl
            case hQ0x2 => exact fun _ _ _ h => h
            case hy0x2 => exact .inl ⟨by rfl, fun W hW => by
              go_simp⟩
            simp only [Act.put, List.setIfInBounds_toArray, List.set_cons_zero, List.set_cons_succ]
            refine RegD.wpAnyD_take 1 (oi := ?oi1x3) (v := .pointer (some ⟨gx, 2, none⟩)) ?hi1x3 ?hB1x3 ?hQ1x3 ?hy1x3 hHeld ?rest1x3
            case hi1x3 => rfl
            case hB1x3 => kernel_rfl
            case hQ1x3 => exact fun _ _ _ h => h
            case hy1x3 => exact .inl ⟨by rfl, fun W hW => by
              go_simp⟩
            simp only [Act.put, List.setIfInBounds_toArray, List.set_cons_zero, List.set_cons_succ]
            refine RegD.wpAnyD_take 2 (oi := ?oi2x4) (v := .agg #[.int .i64 kk, .int .i64 f1, .string f2, .string f3, .string f4, .int .i64 f5, .int .i64 f6, .int .i64 f7, .string f8, .bool f9, .int .i64 ei, .int .i64 et]) ?hi2x4 ?hB2x4 ?hQ2x4 ?hy2x4 hHeld ?rest2x4
            case hi2x4 => rfl
            case hB2x4 => kernel_rfl
            case hQ2x4 => exact fun _ _ _ h => h
            case hy2x4 => exact .inl ⟨by rfl, fun W hW => by
              have a2 := hW.c2
              have a3 := hW.c3
              have a4 := hW.c4
              have a5 := hW.c5
              have a6 := hW.c6
              have a7 := hW.c7
              have a8 := hW.c8
              have a9 := hW.c9
              have a10 := hW.c10
              have a11 := hW.c11
              have a12 := hW.c12
              have a13 := hW.c13
              go_simp⟩
            simp only [Act.put, List.setIfInBounds_toArray, List.set_cons_zero, List.set_cons_succ]
            refine RegD.wpAnyD_take 4 (oi := ?oi4x5) (v := .pointer (some ⟨gr, 0, none⟩)) ?hi4x5 ?hB4x5 ?hQ4x5 ?hy4x5 hHeld ?rest4x5
            case hi4x5 => rfl
            case hB4x5 => kernel_rfl
            case hQ4x5 => exact fun _ _ _ h => h
            case hy4x5 => exact .inl ⟨by rfl, fun W hW => by
              go_simp⟩
            simp only [Act.put, List.setIfInBounds_toArray, List.set_cons_zero, List.set_cons_succ]
            refine RegD.wpAnyD_take 5 (oi := ?oi5x6) (v := .pointer (some ⟨gx, 2, none⟩)) ?hi5x6 ?hB5x6 ?hQ5x6 ?hy5x6 hHeld ?rest5x6
            case hi5x6 => rfl
            case hB5x6 => kernel_rfl
            case hQ5x6 => exact fun _ _ _ h => h
            case hy5x6 => exact .inl ⟨by rfl, fun W hW => by
              go_simp⟩
            simp only [Act.put, List.setIfInBounds_toArray, List.set_cons_zero, List.set_cons_succ]
            refine RegD.wpAnyD_take 6 (oi := ?oi6x7) (v := .agg #[.int .i64 kk, .int .i64 f1, .string f2, .string f3, .string f4, .int .i64 f5, .int .i64 f6, .int .i64 f7, .string f8, .bool f9, .int .i64 ei, .int .i64 et]) ?hi6x7 ?hB6x7 ?hQ6x7 ?hy6x7 hHeld ?rest6x7
            case hi6x7 => rfl
            case hB6x7 => kernel_rfl
            case hQ6x7 => exact fun _ _ _ h => h
            case hy6x7 => exact .inl ⟨by rfl, fun W hW => by
              have a2 := hW.c2
              have a3 := hW.c3
              have a4 := hW.c4
              have a5 := hW.c5
              have a6 := hW.c6
              have a7 := hW.c7
              have a8 := hW.c8
              have a9 := hW.c9
              have a10 := hW.c10
              have a11 := hW.c11
              have a12 := hW.c12
              have a13 := hW.c13
              go_simp⟩
            simp only [Act.put, List.setIfInBounds_toArray, List.set_cons_zero, List.set_cons_succ]
            refine RegD.wpAnyD_one 3 (o := ?o3x8) ?ho3x8 ?hr3x8 ?h3x8
            case ho3x8 => rfl
            case hr3x8 => kernel_rfl
            intro K hK
            go_simp
            go_at_call 26
            refine (HAP _ _ _ _ _ _ _ (HP1.out.two.on (Below.refl _ _).drew) (by have := HN9.out; omega)).mono ?_
            rintro e3 w3 ⟨rfl, v3, ht3, hk3⟩
            have HPK3 : Hid (Two (44 * j + 22) w3 gs w.heap.size gr (addP p ⟨kk, ⟨f1, f2, f3, f4, f5, f6, f7, f8, f9⟩, ei, et⟩ m).1 p v3 vr ∧ Below w.heap.size w w3) := ⟨ht3, (HP1.out.below.trans ((Below.refl _ _).drew.trans (hk3.below (by have := HP1.out.below.size; simpa using this) (fun x hx => by have := HP1.out.two.prog.ord; simp at hx; omega))))⟩
            go_wp2_with fail
            refine hK.out _ _ (hHeld.keep hk3 (by have := HGX.out; simp; omega)) ?_
            clear hK hHeld
            intro hHeld
            clear K
            clear ht3 hk3
            refine RegD.wpAnyD_one 7 (o := ?o7x10) ?ho7x10 ?hr7x10 ?h7x10
            case ho7x10 => rfl
            case hr7x10 => kernel_rfl
            intro K hK
            go_simp
            go_at_call 15
            refine (HHA _).mono ?_
            rintro e7 w7 ⟨rfl, hb7⟩
            have HPK7 : Hid (Two (44 * j + 22) w7 gs w.heap.size gr (addP p ⟨kk, ⟨f1, f2, f3, f4, f5, f6, f7, f8, f9⟩, ei, et⟩ m).1 p v3 vr ∧ Below w.heap.size w w7) := ⟨HPK3.out.1.on hb7, HPK3.out.2.trans (hb7.mono HPK3.out.2.size)⟩
            go_wp2_with fail
            refine hK.out _ _ (hHeld.on hb7) ?_
            clear hK hHeld
            intro hHeld
            clear K
            clear hb7
            refine RegD.wpAnyD_late 8 (o := ?o8x12) ?ho8x12 ?hr8x12 ?hd8x12 ?h8x12
            case ho8x12 => rfl
            case hr8x12 => kernel_rfl
            case hd8x12 => kernel_rfl
            intro K hK
            go_simp
            go_at_call 27
            refine (HAR _ _ _ _ _ _ _ HPK7.out.1 (by have := HN9.out; omega)).mono ?_
            rintro e8 w8 ⟨rfl, vr8, ht8, hk8⟩
            have HP8 : Hid (PL w (44 * j + 44) gs gr (addP p ⟨kk, ⟨f1, f2, f3, f4, f5, f6, f7, f8, f9⟩, ei, et⟩ m).1 v3 vr8 w8) := ⟨ht8, HPK7.out.2.trans (hk8.below HPK7.out.2.size (fun x hx => by have := HPK7.out.1.far; simp at hx; omega))⟩
            clear ht8 hk8
            go_wp2_with fail
            refine hK.out _ _ ?_
            clear hK K
            refine RegD.wpAnyD_late 9 (o := ?o9x14) ?ho9x14 ?hr9x14 ?hd9x14 ?h9x14
            case ho9x14 => rfl
            case hr9x14 => kernel_rfl
            case hd9x14 => kernel_rfl
            intro K hK
            go_simp
            go_at_call 11
            refine (bareZ _ _ HP8.out.two.prog.err).mono ?_
            rintro e9 w9 ⟨rfl, hb9⟩
            have HP9 : Hid _ := HP8.out.on hb9
            clear hb9
            go_wp2_with fail
            refine hK.out _ _ ?_
            clear hK K
            refine RegD.wpAnyD_late 10 (o := ?o10x16) ?ho10x16 ?hr10x16 ?hd10x16 ?h10x16
            case ho10x16 => rfl
            case hr10x16 => kernel_rfl
            case hd10x16 => kernel_rfl
            intro K hK
            go_simp
            refine hK.out _ _ ?_
            clear hK K
            refine RegD.wpAnyD_done (by kernel_rfl) ?_ _
            go_wp2_with fail
            go_meet
            case rel => exact ⟨_, _, _, _, rfl, HP9⟩
          · by_cases ha1 : a = 1
            · subst ha1
              go_wp2_with fail
              refine (twoSaveP _ _ _ _ _ _ _ _ _ HP1.out.two (by have := HN9.out; omega)).mono ?_
              rintro e3 w3 ⟨rfl, ht3, hk3⟩
              have HPK3 : Hid (Two (44 * j + 22) w3 gs w.heap.size gr (saveP p).1 p v vr ∧ Below w.heap.size w w3) := ⟨ht3, HP1.out.below.trans (hk3.below HP1.out.below.size (fun x hx => by have := HP1.out.two.prog.ord; simp at hx; omega))⟩
              clear ht3 hk3
              go_wp2_with fail
              refine (twoSaveR _ _ _ _ _ _ _ _ _ HPK3.out.1 (by have := HN9.out; omega)).mono ?_
              rintro e8 w8 ⟨rfl, ht8, hk8⟩
              have HP8 : Hid (PL w (44 * j + 44) gs gr (saveP p).1 v vr w8) := ⟨ht8, HPK3.out.2.trans (hk8.below HPK3.out.2.size (fun x hx => by have := HPK3.out.1.far; simp at hx; omega))⟩
              clear ht8 hk8
              go_wp2_with fail
              refine (bareZ _ _ HP8.out.two.prog.err).mono ?_
              rintro e9 w9 ⟨rfl, hb9⟩
              have HP9 : Hid _ := HP8.out.on hb9
              clear hb9
              go_wp2_with fail
              go_meet
              case rel => exact ⟨_, _, _, _, rfl, HP9⟩
            · by_cases ha2 : a = 2
              · subst ha2
                have x1 := HX1.out.c1
                go_wp2_with fail
                refine (twoCutP _ _ _ _ _ _ _ _ _ k HKM.out HP1.out.two).mono ?_
                rintro e3 w3 ⟨rfl, ht3, hk3⟩
                have HPK3 : Hid (Two (44 * j) w3 gs w.heap.size gr (cutP p k) p v vr ∧ Below w.heap.size w w3) := ⟨ht3, (HP1.out.below.trans (hk3.below HP1.out.below.size (fun x hx => by have := HP1.out.two.prog.ord; simp at hx; omega)))⟩
                have x1 := (HX1.out.keep hk3 (by have := HGX.out; simp; omega)).c1
                clear ht3 hk3
                go_wp2_with fail
                refine (twoCutR _ _ _ _ _ _ _ _ _ k HKM.out HPK3.out.1).mono ?_
                rintro e8 w8 ⟨rfl, ht8, hk8⟩
                have HP8 : Hid (PL w (44 * j + 44) gs gr (cutP p k) v vr w8) := ⟨ht8.mono (by omega), HPK3.out.2.trans (hk8.below HPK3.out.2.size (fun x hx => by have := HPK3.out.1.far; simp at hx; omega))⟩
                clear ht8 hk8
                go_wp2_with fail
                go_meet
                case rel => exact ⟨_, _, _, _, rfl, HP8⟩
              · by_cases ha3 : a = 3
                · subst ha3
                  go_wp2_with fail
                  refine (twoCutP _ _ _ _ _ _ _ _ _ (-1) (by omega) HP1.out.two).mono ?_
                  rintro e3 w3 ⟨rfl, ht3, hk3⟩
                  have HPK3 : Hid (Two (44 * j) w3 gs w.heap.size gr (cutP p (-1)) p v vr ∧ Below w.heap.size w w3) := ⟨ht3, (HP1.out.below.trans (hk3.below HP1.out.below.size (fun x hx => by have := HP1.out.two.prog.ord; simp at hx; omega)))⟩
                  clear ht3 hk3
                  go_wp2_with fail
                  refine (twoOpenP _ _ _ _ _ _ _ _ _ HPK3.out.1 (by have := HN9.out; omega)).mono ?_
                  rintro e5 w5 ⟨g2, v2, rfl, hle5, ht5, -, hb5⟩
                  have HPK5 : Hid (Two (44 * j) w5 g2 w.heap.size gr ⟨p.st, p.lg, p.n, false, -1, false⟩ p v2 vr ∧ Below w.heap.size w w5) := ⟨ht5, HPK3.out.2.trans (hb5.mono HPK3.out.2.size)⟩
                  clear ht5 hb5 hle5
                  go_wp2_with fail
                  refine (twoOpenR _ _ _ _ _ _ _ _ _ HPK5.out.1).mono ?_
                  rintro e8 w8 ⟨rfl, ht8, hk8⟩
                  have HP8 : Hid (PL w (44 * j + 44) g2 gr (openP p) v2 vr w8) := ⟨(Two.left ht8 rfl p.l).mono (by omega), HPK5.out.2.trans (hk8.below HPK5.out.2.size (fun x hx => by have := HPK5.out.1.far; simp at hx; omega))⟩
                  clear ht8 hk8
                  go_wp2_with fail
                  go_meet
                  case rel => exact ⟨_, _, _, _, rfl, HP8⟩
                · by_cases ha4 : a = 4
                  · subst ha4
                    go_wp2_with fail
                    refine (twoOpenP _ _ _ _ _ _ _ _ _ HP1.out.two (by have := HN9.out; omega)).mono ?_
                    rintro e5 w5 ⟨g2, v2, rfl, hle5, ht5, hu5, hb5⟩
                    have HPK5 : Hid (SP (44 * j) w5 g2 w.heap.size ⟨p.st, p.lg, p.n, p.c, p.l, false⟩ v2 ∧ PL w (44 * j) gs gr p v vr w5) := ⟨ht5.prog, hu5, HP1.out.below.trans (hb5.mono HP1.out.below.size)⟩
                    clear ht5 hu5 hb5 hle5
                    go_upto_region 32 with fail
                    refine RegD.wp_region_D (fun W => SP (44 * j) W g2 w.heap.size ⟨p.st, p.lg, p.n, p.c, p.l, false⟩ v2 ∧ PL w (44 * j) gs gr p v vr W) 28 (by kernel_rfl) (⟨HPK5.out.1.on (Below.refl _ _).drew, HPK5.out.2.on (Below.refl _ _).drew⟩) (fun hHeld => ?_)
                    refine RegD.wpAnyD_take 0 (oi := ?oi0x20) (v := .nilIface) ?hi0x20 ?hB0x20 ?hQ0x20 ?hy0x20 hHeld ?rest0x20
                    case hi0x20 => rfl
                    case hB0x20 => kernel_rfl
                    case hQ0x20 => exact fun _ _ _ h => h
                    case hy0x20 => exact .inl ⟨by rfl, fun W hW => by
                      go_simp⟩
                    simp only [Act.put, List.setIfInBounds_toArray, List.set_cons_zero, List.set_cons_succ]
                    refine RegD.wpAnyD_take 1 (oi := ?oi1x21) (v := .bool false) ?hi1x21 ?hB1x21 ?hQ1x21 ?hy1x21 hHeld ?rest1x21
                    case hi1x21 => rfl
                    case hB1x21 => kernel_rfl
                    case hQ1x21 => exact fun _ _ _ h => h
                    case hy1x21 => exact .inl ⟨by rfl, fun W hW => by
                      go_simp⟩
                    simp only [Act.put, List.setIfInBounds_toArray, List.set_cons_zero, List.set_cons_succ]
                    refine RegD.wpAnyD_take 2 (oi := ?oi2x22) (v := .bool false) ?hi2x22 ?hB2x22 ?hQ2x22 ?hy2x22 hHeld ?rest2x22
                    case hi2x22 => rfl
                    case hB2x22 => kernel_rfl
                    case hQ2x22 => exact fun _ _ _ h => h
                    case hy2x22 => exact .inl ⟨by rfl, fun W hW => by
                      go_simp⟩
                    simp only [Act.put, List.setIfInBounds_toArray, List.set_cons_zero, List.set_cons_succ]
                    refine RegD.wpAnyD_take 3 (oi := ?oi3x23) (v := .pointer (some ⟨g2, 0, none⟩)) ?hi3x23 ?hB3x23 ?hQ3x23 ?hy3x23 hHeld ?rest3x23
                    case hi3x23 => rfl
                    case hB3x23 => kernel_rfl
                    case hQ3x23 => exact fun _ _ _ h => h
                    case hy3x23 => exact .inl ⟨by rfl, fun W hW => by
                      go_simp⟩
                    simp only [Act.put, List.setIfInBounds_toArray, List.set_cons_zero, List.set_cons_succ]
                    refine RegD.wpAnyD_take 4 (oi := ?oi4x24) (v := .bool false) ?hi4x24 ?hB4x24 ?hQ4x24 ?hy4x24 hHeld ?rest4x24
                    case hi4x24 => rfl
                    case hB4x24 => kernel_rfl
                    case hQ4x24 => exact fun _ _ _ h => h
                    case hy4x24 => exact .inl ⟨by rfl, fun W hW => by
                      go_simp⟩
                    simp only [Act.put, List.setIfInBounds_toArray, List.set_cons_zero, List.set_cons_succ]
                    refine RegD.wpAnyD_take 5 (oi := ?oi5x25) (v := .bool false) ?hi5x25 ?hB5x25 ?hQ5x25 ?hy5x25 hHeld ?rest5x25
                    case hi5x25 => rfl
                    case hB5x25 => kernel_rfl
                    case hQ5x25 => exact fun _ _ _ h => h
                    case hy5x25 => exact .inl ⟨by rfl, fun W hW => by
                      go_simp⟩
                    simp only [Act.put, List.setIfInBounds_toArray, List.set_cons_zero, List.set_cons_succ]
                    refine RegD.wpAnyD_take 6 (oi := ?oi6x26) (v := .bool false) ?hi6x26 ?hB6x26 ?hQ6x26 ?hy6x26 hHeld ?rest6x26
                    case hi6x26 => rfl
                    case hB6x26 => kernel_rfl
                    case hQ6x26 => exact fun _ _ _ h => h
                    case hy6x26 => exact .inl ⟨by rfl, fun W hW => by
                      go_simp⟩
                    simp only [Act.put, List.setIfInBounds_toArray, List.set_cons_zero, List.set_cons_succ]
                    refine RegD.wpAnyD_take 7 (oi := ?oi7x27) (v := .pointer (some ⟨g2, 0, none⟩)) ?hi7x27 ?hB7x27 ?hQ7x27 ?hy7x27 hHeld ?rest7x27
                    case hi7x27 => rfl
                    case hB7x27 => kernel_rfl
                    case hQ7x27 => exact fun _ _ _ h => h
                    case hy7x27 => exact .inl ⟨by rfl, fun W hW => by
                      go_simp⟩
                    simp only [Act.put, List.setIfInBounds_toArray, List.set_cons_zero, List.set_cons_succ]
                    refine RegD.wpAnyD_take 9 (oi := ?oi9x28) (v := .pointer (some ⟨gr, 0, none⟩)) ?hi9x28 ?hB9x28 ?hQ9x28 ?hy9x28 hHeld ?rest9x28
                    case hi9x28 => rfl
                    case hB9x28 => kernel_rfl
                    case hQ9x28 => exact fun _ _ _ h => h
                    case hy9x28 => exact .inl ⟨by rfl, fun W hW => by
                      go_simp⟩
                    simp only [Act.put, List.setIfInBounds_toArray, List.set_cons_zero, List.set_cons_succ]
                    refine RegD.wpAnyD_take 10 (oi := ?oi10x29) (v := .pointer (some ⟨gr, 0, none⟩)) ?hi10x29 ?hB10x29 ?hQ10x29 ?hy10x29 hHeld ?rest10x29
                    case hi10x29 => rfl
                    case hB10x29 => kernel_rfl
                    case hQ10x29 => exact fun _ _ _ h => h
                    case hy10x29 => exact .inl ⟨by rfl, fun W hW => by
                      go_simp⟩
                    simp only [Act.put, List.setIfInBounds_toArray, List.set_cons_zero, List.set_cons_succ]
                    refine RegD.wpAnyD_take 11 (oi := ?oi11x30) (v := .pointer (some ⟨gr, 0, none⟩)) ?hi11x30 ?hB11x30 ?hQ11x30 ?hy11x30 hHeld ?rest11x30
                    case hi11x30 => rfl
                    case hB11x30 => kernel_rfl
                    case hQ11x30 => exact fun _ _ _ h => h
                    case hy11x30 => exact .inl ⟨by rfl, fun W hW => by
                      go_simp⟩
                    simp only [Act.put, List.setIfInBounds_toArray, List.set_cons_zero, List.set_cons_succ]
                    refine RegD.wpAnyD_take 12 (oi := ?oi12x31) (v := .agg #[.int .i64 p.st.clock, .int .i64 p.st.next, vr]) ?hi12x31 ?hB12x31 ?hQ12x31 ?hy12x31 hHeld ?rest12x31
                    case hi12x31 => rfl
                    case hB12x31 => kernel_rfl
                    case hQ12x31 => exact fun _ _ _ h => h
                    case hy12x31 => exact .inl ⟨by rfl, fun W hW => by
                      have a0 := hW.2.two.doc.c0
                      have a1 := hW.2.two.doc.c1
                      have a2 := hW.2.two.doc.c2
                      go_simp⟩
                    simp only [Act.put, List.setIfInBounds_toArray, List.set_cons_zero, List.set_cons_succ]
                    obtain ⟨sv4, hst4⟩ := hHeld.1.store
                    refine RegD.wpAnyD_one 8 (o := ?o8x32) ?ho8x32 ?hr8x32 ?h8x32
                    case ho8x32 => rfl
                    case hr8x32 => kernel_rfl
                    intro K hK
                    go_simp
                    go_at_call 33
                    refine (state_is _ _ _ _ _ _ _ _ hst4 (by have := hHeld.2.two.ok.good.len; show p.st.fams.length ≤ 1000; omega)).mono ?_
                    rintro e6 w6 ⟨v6, rfl, hf6, hb6⟩
                    obtain ⟨b6, c6, rfl⟩ := RowsK.slice hf6
                    unfold stV
                    go_wp2_with fail
                    refine hK.out _ _ (⟨hHeld.1.on hb6, hHeld.2.on hb6⟩) ?_
                    clear hK hHeld
                    intro hHeld
                    clear K
                    clear hst4 hb6
                    refine RegD.wpAnyD_one 13 (o := ?o13x34) ?ho13x34 ?hr13x34 ?h13x34
                    case ho13x34 => rfl
                    case hr13x34 => kernel_rfl
                    intro K hK
                    go_simp
                    go_at_call 22
                    refine (same_is _ _ hf6 hHeld.2.two.doc.fam (by have := hHeld.2.two.ok.good.len; show p.st.fams.length ≤ 1000; omega)).mono ?_
                    rintro e7 w7 ⟨rfl, hb7⟩
                    go_wp2_with fail
                    refine hK.out _ _ (⟨hHeld.1.on hb7, hHeld.2.on hb7⟩) ?_
                    clear hK hHeld
                    intro hHeld
                    clear K
                    clear hf6 hb7
                    refine RegD.wpAnyD_take 14 (oi := ?oi14x36) (v := .bool false) ?hi14x36 ?hB14x36 ?hQ14x36 ?hy14x36 hHeld ?rest14x36
                    case hi14x36 => rfl
                    case hB14x36 => kernel_rfl
                    case hQ14x36 => exact fun _ _ _ h => h
                    case hy14x36 => exact .inl ⟨by rfl, fun W hW => by
                      go_simp⟩
                    simp only [Act.put, List.setIfInBounds_toArray, List.set_cons_zero, List.set_cons_succ]
                    refine RegD.wpAnyD_take 15 (oi := ?oi15x37) (v := .bool false) ?hi15x37 ?hB15x37 ?hQ15x37 ?hy15x37 hHeld ?rest15x37
                    case hi15x37 => rfl
                    case hB15x37 => kernel_rfl
                    case hQ15x37 => exact fun _ _ _ h => h
                    case hy15x37 => exact .inl ⟨by rfl, fun W hW => by
                      go_simp⟩
                    simp only [Act.put, List.setIfInBounds_toArray, List.set_cons_zero, List.set_cons_succ]
                    refine RegD.wpAnyD_take 16 (oi := ?oi16x38) (v := .bool false) ?hi16x38 ?hB16x38 ?hQ16x38 ?hy16x38 hHeld ?rest16x38
                    case hi16x38 => rfl
                    case hB16x38 => kernel_rfl
                    case hQ16x38 => exact fun _ _ _ h => h
                    case hy16x38 => exact .inl ⟨by rfl, fun W hW => by
                      go_simp⟩
                    simp only [Act.put, List.setIfInBounds_toArray, List.set_cons_zero, List.set_cons_succ]
                    refine RegD.wpAnyD_take 17 (oi := ?oi17x39) (v := .pointer (some ⟨g2, 0, none⟩)) ?hi17x39 ?hB17x39 ?hQ17x39 ?hy17x39 hHeld ?rest17x39
                    case hi17x39 => rfl
                    case hB17x39 => kernel_rfl
                    case hQ17x39 => exact fun _ _ _ h => h
                    case hy17x39 => exact .inl ⟨by rfl, fun W hW => by
                      go_simp⟩
                    simp only [Act.put, List.setIfInBounds_toArray, List.set_cons_zero, List.set_cons_succ]
                    refine RegD.wpAnyD_take 19 (oi := ?oi19x40) (v := .pointer (some ⟨gr, 0, none⟩)) ?hi19x40 ?hB19x40 ?hQ19x40 ?hy19x40 hHeld ?rest19x40
                    case hi19x40 => rfl
                    case hB19x40 => kernel_rfl
                    case hQ19x40 => exact fun _ _ _ h => h
                    case hy19x40 => exact .inl ⟨by rfl, fun W hW => by
                      go_simp⟩
                    simp only [Act.put, List.setIfInBounds_toArray, List.set_cons_zero, List.set_cons_succ]
                    refine RegD.wpAnyD_take 20 (oi := ?oi20x41) (v := .pointer (some ⟨gr, 0, none⟩)) ?hi20x41 ?hB20x41 ?hQ20x41 ?hy20x41 hHeld ?rest20x41
                    case hi20x41 => rfl
                    case hB20x41 => kernel_rfl
                    case hQ20x41 => exact fun _ _ _ h => h
                    case hy20x41 => exact .inl ⟨by rfl, fun W hW => by
                      go_simp⟩
                    simp only [Act.put, List.setIfInBounds_toArray, List.set_cons_zero, List.set_cons_succ]
                    refine RegD.wpAnyD_take 21 (oi := ?oi21x42) (v := .pointer (some ⟨gr, 3, none⟩)) ?hi21x42 ?hB21x42 ?hQ21x42 ?hy21x42 hHeld ?rest21x42
                    case hi21x42 => rfl
                    case hB21x42 => kernel_rfl
                    case hQ21x42 => exact fun _ _ _ h => h
                    case hy21x42 => exact .inl ⟨by rfl, fun W hW => by
                      go_simp⟩
                    simp only [Act.put, List.setIfInBounds_toArray, List.set_cons_zero, List.set_cons_succ]
                    refine RegD.wpAnyD_take 22 (oi := ?oi22x43) (v := .int .i64 p.lg) ?hi22x43 ?hB22x43 ?hQ22x43 ?hy22x43 hHeld ?rest22x43
                    case hi22x43 => rfl
                    case hB22x43 => kernel_rfl
                    case hQ22x43 => exact fun _ _ _ h => h
                    case hy22x43 => exact .inl ⟨by rfl, fun W hW => by
                      have a0 := hW.2.two.doc.c3
                      go_simp⟩
                    simp only [Act.put, List.setIfInBounds_toArray, List.set_cons_zero, List.set_cons_succ]
                    obtain ⟨sv5, hst5⟩ := hHeld.1.store
                    refine RegD.wpAnyD_one 18 (o := ?o18x44) ?ho18x44 ?hr18x44 ?h18x44
                    case ho18x44 => rfl
                    case hr18x44 => kernel_rfl
                    intro K hK
                    go_simp
                    go_at_call 34
                    refine (log_is _ _ _ _ _ _ _ _ hst5).mono ?_
                    rintro e8 w8 ⟨rfl, rfl⟩
                    go_wp2_with fail
                    refine hK.out _ _ (hHeld) ?_
                    clear hK hHeld
                    intro hHeld
                    clear K
                    clear hst5
                    refine RegD.wpAnyD_take 23 (oi := ?oi23x46) (v := .bool false) ?hi23x46 ?hB23x46 ?hQ23x46 ?hy23x46 hHeld ?rest23x46
                    case hi23x46 => rfl
                    case hB23x46 => kernel_rfl
                    case hQ23x46 => exact fun _ _ _ h => h
                    case hy23x46 => exact .inl ⟨by rfl, fun W hW => by
                      go_simp⟩
                    simp only [Act.put, List.setIfInBounds_toArray, List.set_cons_zero, List.set_cons_succ]
                    refine RegD.wpAnyD_take 24 (oi := ?oi24x47) (v := .bool false) ?hi24x47 ?hB24x47 ?hQ24x47 ?hy24x47 hHeld ?rest24x47
                    case hi24x47 => rfl
                    case hB24x47 => kernel_rfl
                    case hQ24x47 => exact fun _ _ _ h => h
                    case hy24x47 => exact .inl ⟨by rfl, fun W hW => by
                      go_simp⟩
                    simp only [Act.put, List.setIfInBounds_toArray, List.set_cons_zero, List.set_cons_succ]
                    refine RegD.wpAnyD_take 25 (oi := ?oi25x48) (v := .bool false) ?hi25x48 ?hB25x48 ?hQ25x48 ?hy25x48 hHeld ?rest25x48
                    case hi25x48 => rfl
                    case hB25x48 => kernel_rfl
                    case hQ25x48 => exact fun _ _ _ h => h
                    case hy25x48 => exact .inl ⟨by rfl, fun W hW => by
                      go_simp⟩
                    simp only [Act.put, List.setIfInBounds_toArray, List.set_cons_zero, List.set_cons_succ]
                    refine RegD.wpAnyD_take 26 (oi := ?oi26x49) (v := .pointer (some ⟨g2, 0, none⟩)) ?hi26x49 ?hB26x49 ?hQ26x49 ?hy26x49 hHeld ?rest26x49
                    case hi26x49 => rfl
                    case hB26x49 => kernel_rfl
                    case hQ26x49 => exact fun _ _ _ h => h
                    case hy26x49 => exact .inl ⟨by rfl, fun W hW => by
                      go_simp⟩
                    simp only [Act.put, List.setIfInBounds_toArray, List.set_cons_zero, List.set_cons_succ]
                    obtain ⟨sv6, hst6⟩ := hHeld.1.store
                    refine RegD.wpAnyD_one 27 (o := ?o27x50) ?ho27x50 ?hr27x50 ?h27x50
                    case ho27x50 => rfl
                    case hr27x50 => kernel_rfl
                    intro K hK
                    go_simp
                    go_at_call 35
                    refine (down_is _ _ _ _ _ _ _ _ hst6).mono ?_
                    rintro e9 w9 ⟨rfl, rfl⟩
                    go_wp2_with fail
                    refine hK.out _ _ (hHeld) ?_
                    clear hK hHeld
                    intro hHeld
                    clear K
                    clear hst6
                    have HP9 : Hid (PL w (44 * j + 44) gs gr p v vr w9) := ⟨hHeld.2.two.mono (by omega), hHeld.2.below⟩
                    clear hHeld
                    refine RegD.wpAnyD_late 28 (o := ?o28x52) ?ho28x52 ?hr28x52 ?hd28x52 ?h28x52
                    case ho28x52 => rfl
                    case hr28x52 => kernel_rfl
                    case hd28x52 => kernel_rfl
                    intro K hK
                    go_simp
                    refine hK.out _ _ ?_
                    clear hK K
                    refine RegD.wpAnyD_done (by kernel_rfl) ?_ _
                    go_wp2_with fail
                    go_meet
                    case rel => exact ⟨_, _, _, _, rfl, HP9⟩
                  · have b0 : (a == 0) = false := by simp [ha0]
                    have b1 : (a == 1) = false := by simp [ha1]
                    have b2 : (a == 2) = false := by simp [ha2]
                    have b3 : (a == 3) = false := by simp [ha3]
                    have b4 : (a == 4) = false := by simp [ha4]
                    go_wp2_with fail
                    go_meet
                    case rel => exact ⟨_, _, _, _, rfl, HP1.out.two.mono (by omega), HP1.out.below⟩
        case rest =>
          obtain ⟨gs2, p2, v2, vr2, rfl, HC⟩ := hcut
          clear HX1 HP1 HGX x0 HAP HAR HHA HM HSM
          go_upto_region 34 with fail
          refine RegD.wp_region_D (fun W => PL w (44 * j + 44) gs2 gr p2 v2 vr2 W) 34 (by kernel_rfl) (HC.out.on (Below.refl _ _).drew) (fun hHeld => ?_)
          refine RegD.wpAnyD_take 0 (oi := ?oi0x56) (v := .pointer (some ⟨gs2, 0, none⟩)) ?hi0x56 ?hB0x56 ?hQ0x56 ?hy0x56 hHeld ?rest0x56
          case hi0x56 => rfl
          case hB0x56 => kernel_rfl
          case hQ0x56 => exact fun _ _ _ h => h
          case hy0x56 => exact .inl ⟨by rfl, fun W hW => by
            go_simp⟩
          simp only [Act.put, List.setIfInBounds_toArray, List.set_cons_zero, List.set_cons_succ]
          refine RegD.wpAnyD_take 2 (oi := ?oi2x57) (v := .pointer (some ⟨gr, 0, none⟩)) ?hi2x57 ?hB2x57 ?hQ2x57 ?hy2x57 hHeld ?rest2x57
          case hi2x57 => rfl
          case hB2x57 => kernel_rfl
          case hQ2x57 => exact fun _ _ _ h => h
          case hy2x57 => exact .inl ⟨by rfl, fun W hW => by
            go_simp⟩
          simp only [Act.put, List.setIfInBounds_toArray, List.set_cons_zero, List.set_cons_succ]
          refine RegD.wpAnyD_take 3 (oi := ?oi3x58) (v := .pointer (some ⟨gr, 0, none⟩)) ?hi3x58 ?hB3x58 ?hQ3x58 ?hy3x58 hHeld ?rest3x58
          case hi3x58 => rfl
          case hB3x58 => kernel_rfl
          case hQ3x58 => exact fun _ _ _ h => h
          case hy3x58 => exact .inl ⟨by rfl, fun W hW => by
            go_simp⟩
          simp only [Act.put, List.setIfInBounds_toArray, List.set_cons_zero, List.set_cons_succ]
          refine RegD.wpAnyD_take 4 (oi := ?oi4x59) (v := .pointer (some ⟨gr, 0, none⟩)) ?hi4x59 ?hB4x59 ?hQ4x59 ?hy4x59 hHeld ?rest4x59
          case hi4x59 => rfl
          case hB4x59 => kernel_rfl
          case hQ4x59 => exact fun _ _ _ h => h
          case hy4x59 => exact .inl ⟨by rfl, fun W hW => by
            go_simp⟩
          simp only [Act.put, List.setIfInBounds_toArray, List.set_cons_zero, List.set_cons_succ]
          refine RegD.wpAnyD_take 5 (oi := ?oi5x60) (v := .agg #[.int .i64 p2.st.clock, .int .i64 p2.st.next, vr2]) ?hi5x60 ?hB5x60 ?hQ5x60 ?hy5x60 hHeld ?rest5x60
          case hi5x60 => rfl
          case hB5x60 => kernel_rfl
          case hQ5x60 => exact fun _ _ _ h => h
          case hy5x60 => exact .inl ⟨by rfl, fun W hW => by
            have a0 := hW.two.doc.c0
            have a1 := hW.two.doc.c1
            have a2 := hW.two.doc.c2
            go_simp⟩
          simp only [Act.put, List.setIfInBounds_toArray, List.set_cons_zero, List.set_cons_succ]
          obtain ⟨sv4, hst4⟩ := hHeld.two.prog.store
          refine RegD.wpAnyD_one 1 (o := ?o1x61) ?ho1x61 ?hr1x61 ?h1x61
          case ho1x61 => rfl
          case hr1x61 => kernel_rfl
          intro K hK
          go_simp
          go_at_call 33
          refine (state_is _ _ _ _ _ _ _ _ hst4 (by have := hHeld.two.ok.good.len; omega)).mono ?_
          rintro e6 w6 ⟨v6, rfl, hf6, hb6⟩
          obtain ⟨b6, c6, rfl⟩ := RowsK.slice hf6
          unfold stV
          go_wp2_with fail
          refine hK.out _ _ (hHeld.on hb6) ?_
          clear hK hHeld
          intro hHeld
          clear K
          clear hst4 hb6
          refine RegD.wpAnyD_one 6 (o := ?o6x63) ?ho6x63 ?hr6x63 ?h6x63
          case ho6x63 => rfl
          case hr6x63 => kernel_rfl
          intro K hK
          go_simp
          go_at_call 22
          refine (same_is _ _ hf6 hHeld.two.doc.fam (by have := hHeld.two.ok.good.len; omega)).mono ?_
          rintro e7 w7 ⟨rfl, hb7⟩
          go_wp2_with fail
          refine hK.out _ _ (hHeld.on hb7) ?_
          clear hK hHeld
          intro hHeld
          clear K
          clear hf6 hb7
          refine RegD.wpAnyD_take 7 (oi := ?oi7x65) (v := .bool false) ?hi7x65 ?hB7x65 ?hQ7x65 ?hy7x65 hHeld ?rest7x65
          case hi7x65 => rfl
          case hB7x65 => kernel_rfl
          case hQ7x65 => exact fun _ _ _ h => h
          case hy7x65 => exact .inl ⟨by rfl, fun W hW => by
            go_simp⟩
          simp only [Act.put, List.setIfInBounds_toArray, List.set_cons_zero, List.set_cons_succ]
          refine RegD.wpAnyD_take 8 (oi := ?oi8x66) (v := .bool false) ?hi8x66 ?hB8x66 ?hQ8x66 ?hy8x66 hHeld ?rest8x66
          case hi8x66 => rfl
          case hB8x66 => kernel_rfl
          case hQ8x66 => exact fun _ _ _ h => h
          case hy8x66 => exact .inl ⟨by rfl, fun W hW => by
            go_simp⟩
          simp only [Act.put, List.setIfInBounds_toArray, List.set_cons_zero, List.set_cons_succ]
          refine RegD.wpAnyD_take 9 (oi := ?oi9x67) (v := .pointer (some ⟨gs2, 0, none⟩)) ?hi9x67 ?hB9x67 ?hQ9x67 ?hy9x67 hHeld ?rest9x67
          case hi9x67 => rfl
          case hB9x67 => kernel_rfl
          case hQ9x67 => exact fun _ _ _ h => h
          case hy9x67 => exact .inl ⟨by rfl, fun W hW => by
            go_simp⟩
          simp only [Act.put, List.setIfInBounds_toArray, List.set_cons_zero, List.set_cons_succ]
          refine RegD.wpAnyD_take 11 (oi := ?oi11x68) (v := .pointer (some ⟨gr, 0, none⟩)) ?hi11x68 ?hB11x68 ?hQ11x68 ?hy11x68 hHeld ?rest11x68
          case hi11x68 => rfl
          case hB11x68 => kernel_rfl
          case hQ11x68 => exact fun _ _ _ h => h
          case hy11x68 => exact .inl ⟨by rfl, fun W hW => by
            go_simp⟩
          simp only [Act.put, List.setIfInBounds_toArray, List.set_cons_zero, List.set_cons_succ]
          refine RegD.wpAnyD_take 12 (oi := ?oi12x69) (v := .pointer (some ⟨gr, 0, none⟩)) ?hi12x69 ?hB12x69 ?hQ12x69 ?hy12x69 hHeld ?rest12x69
          case hi12x69 => rfl
          case hB12x69 => kernel_rfl
          case hQ12x69 => exact fun _ _ _ h => h
          case hy12x69 => exact .inl ⟨by rfl, fun W hW => by
            go_simp⟩
          simp only [Act.put, List.setIfInBounds_toArray, List.set_cons_zero, List.set_cons_succ]
          refine RegD.wpAnyD_take 13 (oi := ?oi13x70) (v := .pointer (some ⟨gr, 3, none⟩)) ?hi13x70 ?hB13x70 ?hQ13x70 ?hy13x70 hHeld ?rest13x70
          case hi13x70 => rfl
          case hB13x70 => kernel_rfl
          case hQ13x70 => exact fun _ _ _ h => h
          case hy13x70 => exact .inl ⟨by rfl, fun W hW => by
            go_simp⟩
          simp only [Act.put, List.setIfInBounds_toArray, List.set_cons_zero, List.set_cons_succ]
          refine RegD.wpAnyD_take 14 (oi := ?oi14x71) (v := .int .i64 p2.lg) ?hi14x71 ?hB14x71 ?hQ14x71 ?hy14x71 hHeld ?rest14x71
          case hi14x71 => rfl
          case hB14x71 => kernel_rfl
          case hQ14x71 => exact fun _ _ _ h => h
          case hy14x71 => exact .inl ⟨by rfl, fun W hW => by
            have a0 := hW.two.doc.c3
            go_simp⟩
          simp only [Act.put, List.setIfInBounds_toArray, List.set_cons_zero, List.set_cons_succ]
          obtain ⟨sv5, hst5⟩ := hHeld.two.prog.store
          refine RegD.wpAnyD_one 10 (o := ?o10x72) ?ho10x72 ?hr10x72 ?h10x72
          case ho10x72 => rfl
          case hr10x72 => kernel_rfl
          intro K hK
          go_simp
          go_at_call 34
          refine (log_is _ _ _ _ _ _ _ _ hst5).mono ?_
          rintro e8 w8 ⟨rfl, rfl⟩
          go_wp2_with fail
          refine hK.out _ _ (hHeld) ?_
          clear hK hHeld
          intro hHeld
          clear K
          clear hst5
          refine RegD.wpAnyD_take 15 (oi := ?oi15x74) (v := .bool false) ?hi15x74 ?hB15x74 ?hQ15x74 ?hy15x74 hHeld ?rest15x74
          case hi15x74 => rfl
          case hB15x74 => kernel_rfl
          case hQ15x74 => exact fun _ _ _ h => h
          case hy15x74 => exact .inl ⟨by rfl, fun W hW => by
            go_simp⟩
          simp only [Act.put, List.setIfInBounds_toArray, List.set_cons_zero, List.set_cons_succ]
          refine RegD.wpAnyD_take 16 (oi := ?oi16x75) (v := .bool false) ?hi16x75 ?hB16x75 ?hQ16x75 ?hy16x75 hHeld ?rest16x75
          case hi16x75 => rfl
          case hB16x75 => kernel_rfl
          case hQ16x75 => exact fun _ _ _ h => h
          case hy16x75 => exact .inl ⟨by rfl, fun W hW => by
            go_simp⟩
          simp only [Act.put, List.setIfInBounds_toArray, List.set_cons_zero, List.set_cons_succ]
          refine RegD.wpAnyD_take 17 (oi := ?oi17x76) (v := .bool false) ?hi17x76 ?hB17x76 ?hQ17x76 ?hy17x76 hHeld ?rest17x76
          case hi17x76 => rfl
          case hB17x76 => kernel_rfl
          case hQ17x76 => exact fun _ _ _ h => h
          case hy17x76 => exact .inl ⟨by rfl, fun W hW => by
            go_simp⟩
          simp only [Act.put, List.setIfInBounds_toArray, List.set_cons_zero, List.set_cons_succ]
          refine RegD.wpAnyD_take 18 (oi := ?oi18x77) (v := .pointer (some ⟨gs2, 0, none⟩)) ?hi18x77 ?hB18x77 ?hQ18x77 ?hy18x77 hHeld ?rest18x77
          case hi18x77 => rfl
          case hB18x77 => kernel_rfl
          case hQ18x77 => exact fun _ _ _ h => h
          case hy18x77 => exact .inl ⟨by rfl, fun W hW => by
            go_simp⟩
          simp only [Act.put, List.setIfInBounds_toArray, List.set_cons_zero, List.set_cons_succ]
          refine RegD.wpAnyD_take 20 (oi := ?oi20x78) (v := .pointer (some ⟨gr, 0, none⟩)) ?hi20x78 ?hB20x78 ?hQ20x78 ?hy20x78 hHeld ?rest20x78
          case hi20x78 => rfl
          case hB20x78 => kernel_rfl
          case hQ20x78 => exact fun _ _ _ h => h
          case hy20x78 => exact .inl ⟨by rfl, fun W hW => by
            go_simp⟩
          simp only [Act.put, List.setIfInBounds_toArray, List.set_cons_zero, List.set_cons_succ]
          refine RegD.wpAnyD_take 21 (oi := ?oi21x79) (v := .pointer (some ⟨gr, 0, none⟩)) ?hi21x79 ?hB21x79 ?hQ21x79 ?hy21x79 hHeld ?rest21x79
          case hi21x79 => rfl
          case hB21x79 => kernel_rfl
          case hQ21x79 => exact fun _ _ _ h => h
          case hy21x79 => exact .inl ⟨by rfl, fun W hW => by
            go_simp⟩
          simp only [Act.put, List.setIfInBounds_toArray, List.set_cons_zero, List.set_cons_succ]
          refine RegD.wpAnyD_take 22 (oi := ?oi22x80) (v := .pointer (some ⟨gr, 7, none⟩)) ?hi22x80 ?hB22x80 ?hQ22x80 ?hy22x80 hHeld ?rest22x80
          case hi22x80 => rfl
          case hB22x80 => kernel_rfl
          case hQ22x80 => exact fun _ _ _ h => h
          case hy22x80 => exact .inl ⟨by rfl, fun W hW => by
            go_simp⟩
          simp only [Act.put, List.setIfInBounds_toArray, List.set_cons_zero, List.set_cons_succ]
          refine RegD.wpAnyD_take 23 (oi := ?oi23x81) (v := .bool p2.dn) ?hi23x81 ?hB23x81 ?hQ23x81 ?hy23x81 hHeld ?rest23x81
          case hi23x81 => rfl
          case hB23x81 => kernel_rfl
          case hQ23x81 => exact fun _ _ _ h => h
          case hy23x81 => exact .inl ⟨by rfl, fun W hW => by
            have a0 := hW.two.doc.c7
            go_simp⟩
          simp only [Act.put, List.setIfInBounds_toArray, List.set_cons_zero, List.set_cons_succ]
          obtain ⟨sv6, hst6⟩ := hHeld.two.prog.store
          refine RegD.wpAnyD_one 19 (o := ?o19x82) ?ho19x82 ?hr19x82 ?h19x82
          case ho19x82 => rfl
          case hr19x82 => kernel_rfl
          intro K hK
          go_simp
          go_at_call 35
          refine (down_is _ _ _ _ _ _ _ _ hst6).mono ?_
          rintro e9 w9 ⟨rfl, rfl⟩
          go_wp2_with fail
          refine hK.out _ _ (hHeld) ?_
          clear hK hHeld
          intro hHeld
          clear K
          clear hst6
          refine RegD.wpAnyD_take 24 (oi := ?oi24x84) (v := .bool false) ?hi24x84 ?hB24x84 ?hQ24x84 ?hy24x84 hHeld ?rest24x84
          case hi24x84 => rfl
          case hB24x84 => kernel_rfl
          case hQ24x84 => exact fun _ _ _ h => h
          case hy24x84 => exact .inl ⟨by rfl, fun W hW => by
            go_simp⟩
          simp only [Act.put, List.setIfInBounds_toArray, List.set_cons_zero, List.set_cons_succ]
          refine RegD.wpAnyD_take 25 (oi := ?oi25x85) (v := .bool false) ?hi25x85 ?hB25x85 ?hQ25x85 ?hy25x85 hHeld ?rest25x85
          case hi25x85 => rfl
          case hB25x85 => kernel_rfl
          case hQ25x85 => exact fun _ _ _ h => h
          case hy25x85 => exact .inl ⟨by rfl, fun W hW => by
            go_simp⟩
          simp only [Act.put, List.setIfInBounds_toArray, List.set_cons_zero, List.set_cons_succ]
          refine RegD.wpAnyD_take 26 (oi := ?oi26x86) (v := .bool false) ?hi26x86 ?hB26x86 ?hQ26x86 ?hy26x86 hHeld ?rest26x86
          case hi26x86 => rfl
          case hB26x86 => kernel_rfl
          case hQ26x86 => exact fun _ _ _ h => h
          case hy26x86 => exact .inl ⟨by rfl, fun W hW => by
            go_simp⟩
          simp only [Act.put, List.setIfInBounds_toArray, List.set_cons_zero, List.set_cons_succ]
          refine RegD.wpAnyD_take 27 (oi := ?oi27x87) (v := .pointer (some ⟨w.heap.size, 0, none⟩)) ?hi27x87 ?hB27x87 ?hQ27x87 ?hy27x87 hHeld ?rest27x87
          case hi27x87 => rfl
          case hB27x87 => kernel_rfl
          case hQ27x87 => exact fun _ _ _ h => h
          case hy27x87 => exact .inl ⟨by rfl, fun W hW => by
            go_simp⟩
          simp only [Act.put, List.setIfInBounds_toArray, List.set_cons_zero, List.set_cons_succ]
          refine RegD.wpAnyD_take 29 (oi := ?oi29x88) (v := .pointer (some ⟨gr, 0, none⟩)) ?hi29x88 ?hB29x88 ?hQ29x88 ?hy29x88 hHeld ?rest29x88
          case hi29x88 => rfl
          case hB29x88 => kernel_rfl
          case hQ29x88 => exact fun _ _ _ h => h
          case hy29x88 => exact .inl ⟨by rfl, fun W hW => by
            go_simp⟩
          simp only [Act.put, List.setIfInBounds_toArray, List.set_cons_zero, List.set_cons_succ]
          refine RegD.wpAnyD_take 30 (oi := ?oi30x89) (v := .pointer (some ⟨gr, 0, none⟩)) ?hi30x89 ?hB30x89 ?hQ30x89 ?hy30x89 hHeld ?rest30x89
          case hi30x89 => rfl
          case hB30x89 => kernel_rfl
          case hQ30x89 => exact fun _ _ _ h => h
          case hy30x89 => exact .inl ⟨by rfl, fun W hW => by
            go_simp⟩
          simp only [Act.put, List.setIfInBounds_toArray, List.set_cons_zero, List.set_cons_succ]
          refine RegD.wpAnyD_take 31 (oi := ?oi31x90) (v := .pointer (some ⟨gr, 4, none⟩)) ?hi31x90 ?hB31x90 ?hQ31x90 ?hy31x90 hHeld ?rest31x90
          case hi31x90 => rfl
          case hB31x90 => kernel_rfl
          case hQ31x90 => exact fun _ _ _ h => h
          case hy31x90 => exact .inl ⟨by rfl, fun W hW => by
            go_simp⟩
          simp only [Act.put, List.setIfInBounds_toArray, List.set_cons_zero, List.set_cons_succ]
          refine RegD.wpAnyD_take 32 (oi := ?oi32x91) (v := .int .i64 p2.n) ?hi32x91 ?hB32x91 ?hQ32x91 ?hy32x91 hHeld ?rest32x91
          case hi32x91 => rfl
          case hB32x91 => kernel_rfl
          case hQ32x91 => exact fun _ _ _ h => h
          case hy32x91 => exact .inl ⟨by rfl, fun W hW => by
            have a0 := hW.two.doc.c4
            go_simp⟩
          simp only [Act.put, List.setIfInBounds_toArray, List.set_cons_zero, List.set_cons_succ]
          obtain ⟨AA, F, l', hd1, hd3⟩ := hHeld.two.prog.disk
          refine RegD.wpAnyD_one 28 (o := ?o28x92) ?ho28x92 ?hr28x92 ?h28x92
          case ho28x92 => rfl
          case hr28x92 => kernel_rfl
          intro K hK
          go_simp
          go_at_call 36
          refine (writes_any _ F _ _ _ _ hd1).mono ?_
          rintro e10 w10 ⟨rfl, rfl⟩
          go_wp2_with fail
          refine hK.out _ _ (hHeld) ?_
          clear hK hHeld
          intro hHeld
          clear K
          clear hd1
          refine RegD.wpAnyD_take 33 (oi := ?oi33x94) (v := .bool false) ?hi33x94 ?hB33x94 ?hQ33x94 ?hy33x94 hHeld ?rest33x94
          case hi33x94 => rfl
          case hB33x94 => kernel_rfl
          case hQ33x94 => exact fun _ _ _ h => h
          case hy33x94 => exact .inl ⟨by rfl, fun W hW => by
            go_simp⟩
          simp only [Act.put, List.setIfInBounds_toArray, List.set_cons_zero, List.set_cons_succ]
          have HP10 : Hid (PL w (44 * j + 44) gs2 gr p2 v2 vr2 w10) := hHeld
          clear hHeld
          refine RegD.wpAnyD_late 34 (o := ?o34x95) ?ho34x95 ?hr34x95 ?hd34x95 ?h34x95
          case ho34x95 => rfl
          case hr34x95 => kernel_rfl
          case hd34x95 => kernel_rfl
          intro K hK
          go_simp
          refine hK.out _ _ ?_
          clear hK K
          refine RegD.wpAnyD_done (by kernel_rfl) ?_ _
          go_wp2_with fail
          go_roundg (gk - 1)
          case measure => have := HJ.out; omega
          case rel => exact ⟨j + 1, _, _, _, _, by have := HJ.out; omega, by go_num, rfl, HP10.out⟩
      · have hdum := True.intro
        rw [decide_eq_false hsm] at HSH
        obtain ⟨kk, ⟨f1, f2, f3, f4, f5, f6, f7, f8, f9⟩, ei, et⟩ := e
        have k0 := he 0 _ rfl; have k1 := he 1 _ rfl; have k2 := he 2 _ rfl; have k3 := he 3 _ rfl; have k4 := he 4 _ rfl; have k5 := he 5 _ rfl; have k6 := he 6 _ rfl; have k7 := he 7 _ rfl; have k8 := he 8 _ rfl; have k9 := he 9 _ rfl; have k10 := he 10 _ rfl; have k11 := he 11 _ rfl; have k12 := he 12 _ rfl; have k13 := he 13 _ rfl
        unfold evV evCs at HSH
        simp only [Nat.add_zero] at k0 k1 k2 k3 k4 k5 k6 k7 k8 k9 k10 k11 k12 k13 HSH
        have HP0 : Hid (PL w (44 * j) gs gr p v vr (wr.alloc (.cells #[.int .i64 a, .int .i64 k, .int .i64 kk, .int .i64 f1, .string f2, .string f3, .string f4, .int .i64 f5, .int .i64 f6, .int .i64 f7, .string f8, .bool f9, .int .i64 ei, .int .i64 et] 72))) := HP.out.on ((Below.refl _ _).alloc (Nat.le_refl _) _)
        clear he hse hsm HP
        go_wp2_with fail
        refine (HSH _).mono ?_
        rintro e1 w1 ⟨rfl, hb1⟩
        have HP1 : Hid _ := HP0.out.on hb1
        clear hb1 HP0
        go_wp2_with fail
        go_roundg (gk - 1)
        case measure => have := HJ.out; omega
        case rel => exact ⟨j + 1, _, _, _, _, by have := HJ.out; omega, by go_num, rfl, ⟨HP1.out.two.mono (by omega), HP1.out.below⟩⟩
    · obtain rfl : j = ds.length := by have := HJ.out; omega
      go_wp2_with fail
      go_ret
      exact ⟨rfl, HP.out.below⟩
end Go.Proofs.YtkggfahcdpgapaaGreatDoor
