/-
  The law EventReads: the event that any line is, or that it is none, is the document's.
-/
import Derived.Test.YtibelcnjmpedkaaGreatDoorEvRefRead2
import Derived.Test.YtibelcnjmpedkaaGreatDoorEvReadE
import Derived.Test.YtibelcnjmpedkaaGreatDoorErrQ
namespace Go.Proofs.YtibelcnjmpedkaaGreatDoor
open Go Go.RowKit Tok Sc Ev
/-- The two events' boxes. -/
structure BW (w0 : World) (a b : Nat) (e : E) (w : World) : Prop where
  ea : EvAt w a e
  eb : EvAt w b e
  err : ErrVar w
  below : Below w0.heap.size w0 w
theorem BW.on {w0 : World} {a b : Nat} {e : E} {w w' : World} (h : BW w0 a b e w) (hb : Below w.heap.size w w') : BW w0 a b e w' := ⟨h.ea.on hb, h.eb.on hb, h.err.on hb, h.below.trans (hb.mono h.below.size)⟩
theorem bw_all {w0 : World} {a b : Nat} {k f1 f5 f6 f7 i t : Int} {f2 f3 f4 f8 : ByteArray} {f9 : Bool} {w : World} (h : BW w0 a b ⟨k, ⟨f1, f2, f3, f4, f5, f6, f7, f8, f9⟩, i, t⟩ w) : (w.cell? ⟨a, 0, none⟩ = some (.int .i64 k) ∧ w.cell? ⟨a, 1, none⟩ = some (.int .i64 f1) ∧ w.cell? ⟨a, 2, none⟩ = some (.string f2) ∧ w.cell? ⟨a, 3, none⟩ = some (.string f3) ∧ w.cell? ⟨a, 4, none⟩ = some (.string f4) ∧ w.cell? ⟨a, 5, none⟩ = some (.int .i64 f5) ∧ w.cell? ⟨a, 6, none⟩ = some (.int .i64 f6) ∧ w.cell? ⟨a, 7, none⟩ = some (.int .i64 f7) ∧ w.cell? ⟨a, 8, none⟩ = some (.string f8) ∧ w.cell? ⟨a, 9, none⟩ = some (.bool f9) ∧ w.cell? ⟨a, 10, none⟩ = some (.int .i64 i) ∧ w.cell? ⟨a, 11, none⟩ = some (.int .i64 t) ∧ w.cell? ⟨b, 0, none⟩ = some (.int .i64 k) ∧ w.cell? ⟨b, 1, none⟩ = some (.int .i64 f1) ∧ w.cell? ⟨b, 2, none⟩ = some (.string f2) ∧ w.cell? ⟨b, 3, none⟩ = some (.string f3) ∧ w.cell? ⟨b, 4, none⟩ = some (.string f4) ∧ w.cell? ⟨b, 5, none⟩ = some (.int .i64 f5) ∧ w.cell? ⟨b, 6, none⟩ = some (.int .i64 f6) ∧ w.cell? ⟨b, 7, none⟩ = some (.int .i64 f7) ∧ w.cell? ⟨b, 8, none⟩ = some (.string f8) ∧ w.cell? ⟨b, 9, none⟩ = some (.bool f9) ∧ w.cell? ⟨b, 10, none⟩ = some (.int .i64 i) ∧ w.cell? ⟨b, 11, none⟩ = some (.int .i64 t) ∧ BW w0 a b ⟨k, ⟨f1, f2, f3, f4, f5, f6, f7, f8, f9⟩, i, t⟩ w) := by
  have x := h.ea
  have y := h.eb
  exact ⟨x.c0, x.fam.c0, x.fam.c1, x.fam.c2, x.fam.c3, x.fam.c4, x.fam.c5, x.fam.c6, x.fam.c7, x.fam.c8, x.c10, x.c11, y.c0, y.fam.c0, y.fam.c1, y.fam.c2, y.fam.c3, y.fam.c4, y.fam.c5, y.fam.c6, y.fam.c7, y.fam.c8, y.c10, y.c11, h⟩
theorem bw_of {w0 : World} {a b : Nat} {k f1 f5 f6 f7 i t : Int} {f2 f3 f4 f8 : ByteArray} {f9 : Bool} {w : World} (h : (w.cell? ⟨a, 0, none⟩ = some (.int .i64 k) ∧ w.cell? ⟨a, 1, none⟩ = some (.int .i64 f1) ∧ w.cell? ⟨a, 2, none⟩ = some (.string f2) ∧ w.cell? ⟨a, 3, none⟩ = some (.string f3) ∧ w.cell? ⟨a, 4, none⟩ = some (.string f4) ∧ w.cell? ⟨a, 5, none⟩ = some (.int .i64 f5) ∧ w.cell? ⟨a, 6, none⟩ = some (.int .i64 f6) ∧ w.cell? ⟨a, 7, none⟩ = some (.int .i64 f7) ∧ w.cell? ⟨a, 8, none⟩ = some (.string f8) ∧ w.cell? ⟨a, 9, none⟩ = some (.bool f9) ∧ w.cell? ⟨a, 10, none⟩ = some (.int .i64 i) ∧ w.cell? ⟨a, 11, none⟩ = some (.int .i64 t) ∧ w.cell? ⟨b, 0, none⟩ = some (.int .i64 k) ∧ w.cell? ⟨b, 1, none⟩ = some (.int .i64 f1) ∧ w.cell? ⟨b, 2, none⟩ = some (.string f2) ∧ w.cell? ⟨b, 3, none⟩ = some (.string f3) ∧ w.cell? ⟨b, 4, none⟩ = some (.string f4) ∧ w.cell? ⟨b, 5, none⟩ = some (.int .i64 f5) ∧ w.cell? ⟨b, 6, none⟩ = some (.int .i64 f6) ∧ w.cell? ⟨b, 7, none⟩ = some (.int .i64 f7) ∧ w.cell? ⟨b, 8, none⟩ = some (.string f8) ∧ w.cell? ⟨b, 9, none⟩ = some (.bool f9) ∧ w.cell? ⟨b, 10, none⟩ = some (.int .i64 i) ∧ w.cell? ⟨b, 11, none⟩ = some (.int .i64 t) ∧ BW w0 a b ⟨k, ⟨f1, f2, f3, f4, f5, f6, f7, f8, f9⟩, i, t⟩ w)) : BW w0 a b ⟨k, ⟨f1, f2, f3, f4, f5, f6, f7, f8, f9⟩, i, t⟩ w := h.2.2.2.2.2.2.2.2.2.2.2.2.2.2.2.2.2.2.2.2.2.2.2.2
theorem bw_drew {w0 : World} {a b : Nat} {k f1 f5 f6 f7 i t : Int} {f2 f3 f4 f8 : ByteArray} {f9 : Bool} {w : World} (h : BW w0 a b ⟨k, ⟨f1, f2, f3, f4, f5, f6, f7, f8, f9⟩, i, t⟩ w) : (w.drew.cell? ⟨a, 0, none⟩ = some (.int .i64 k) ∧ w.drew.cell? ⟨a, 1, none⟩ = some (.int .i64 f1) ∧ w.drew.cell? ⟨a, 2, none⟩ = some (.string f2) ∧ w.drew.cell? ⟨a, 3, none⟩ = some (.string f3) ∧ w.drew.cell? ⟨a, 4, none⟩ = some (.string f4) ∧ w.drew.cell? ⟨a, 5, none⟩ = some (.int .i64 f5) ∧ w.drew.cell? ⟨a, 6, none⟩ = some (.int .i64 f6) ∧ w.drew.cell? ⟨a, 7, none⟩ = some (.int .i64 f7) ∧ w.drew.cell? ⟨a, 8, none⟩ = some (.string f8) ∧ w.drew.cell? ⟨a, 9, none⟩ = some (.bool f9) ∧ w.drew.cell? ⟨a, 10, none⟩ = some (.int .i64 i) ∧ w.drew.cell? ⟨a, 11, none⟩ = some (.int .i64 t) ∧ w.drew.cell? ⟨b, 0, none⟩ = some (.int .i64 k) ∧ w.drew.cell? ⟨b, 1, none⟩ = some (.int .i64 f1) ∧ w.drew.cell? ⟨b, 2, none⟩ = some (.string f2) ∧ w.drew.cell? ⟨b, 3, none⟩ = some (.string f3) ∧ w.drew.cell? ⟨b, 4, none⟩ = some (.string f4) ∧ w.drew.cell? ⟨b, 5, none⟩ = some (.int .i64 f5) ∧ w.drew.cell? ⟨b, 6, none⟩ = some (.int .i64 f6) ∧ w.drew.cell? ⟨b, 7, none⟩ = some (.int .i64 f7) ∧ w.drew.cell? ⟨b, 8, none⟩ = some (.string f8) ∧ w.drew.cell? ⟨b, 9, none⟩ = some (.bool f9) ∧ w.drew.cell? ⟨b, 10, none⟩ = some (.int .i64 i) ∧ w.drew.cell? ⟨b, 11, none⟩ = some (.int .i64 t) ∧ BW w0 a b ⟨k, ⟨f1, f2, f3, f4, f5, f6, f7, f8, f9⟩, i, t⟩ w.drew) := bw_all (h.on (Below.refl _ _).drew)
theorem bw_keep {w0 : World} {a b : Nat} {k f1 f5 f6 f7 i t : Int} {f2 f3 f4 f8 : ByteArray} {f9 : Bool} {w w' : World} (h : (w.cell? ⟨a, 0, none⟩ = some (.int .i64 k) ∧ w.cell? ⟨a, 1, none⟩ = some (.int .i64 f1) ∧ w.cell? ⟨a, 2, none⟩ = some (.string f2) ∧ w.cell? ⟨a, 3, none⟩ = some (.string f3) ∧ w.cell? ⟨a, 4, none⟩ = some (.string f4) ∧ w.cell? ⟨a, 5, none⟩ = some (.int .i64 f5) ∧ w.cell? ⟨a, 6, none⟩ = some (.int .i64 f6) ∧ w.cell? ⟨a, 7, none⟩ = some (.int .i64 f7) ∧ w.cell? ⟨a, 8, none⟩ = some (.string f8) ∧ w.cell? ⟨a, 9, none⟩ = some (.bool f9) ∧ w.cell? ⟨a, 10, none⟩ = some (.int .i64 i) ∧ w.cell? ⟨a, 11, none⟩ = some (.int .i64 t) ∧ w.cell? ⟨b, 0, none⟩ = some (.int .i64 k) ∧ w.cell? ⟨b, 1, none⟩ = some (.int .i64 f1) ∧ w.cell? ⟨b, 2, none⟩ = some (.string f2) ∧ w.cell? ⟨b, 3, none⟩ = some (.string f3) ∧ w.cell? ⟨b, 4, none⟩ = some (.string f4) ∧ w.cell? ⟨b, 5, none⟩ = some (.int .i64 f5) ∧ w.cell? ⟨b, 6, none⟩ = some (.int .i64 f6) ∧ w.cell? ⟨b, 7, none⟩ = some (.int .i64 f7) ∧ w.cell? ⟨b, 8, none⟩ = some (.string f8) ∧ w.cell? ⟨b, 9, none⟩ = some (.bool f9) ∧ w.cell? ⟨b, 10, none⟩ = some (.int .i64 i) ∧ w.cell? ⟨b, 11, none⟩ = some (.int .i64 t) ∧ BW w0 a b ⟨k, ⟨f1, f2, f3, f4, f5, f6, f7, f8, f9⟩, i, t⟩ w)) (hb : Below w.heap.size w w') : (w'.cell? ⟨a, 0, none⟩ = some (.int .i64 k) ∧ w'.cell? ⟨a, 1, none⟩ = some (.int .i64 f1) ∧ w'.cell? ⟨a, 2, none⟩ = some (.string f2) ∧ w'.cell? ⟨a, 3, none⟩ = some (.string f3) ∧ w'.cell? ⟨a, 4, none⟩ = some (.string f4) ∧ w'.cell? ⟨a, 5, none⟩ = some (.int .i64 f5) ∧ w'.cell? ⟨a, 6, none⟩ = some (.int .i64 f6) ∧ w'.cell? ⟨a, 7, none⟩ = some (.int .i64 f7) ∧ w'.cell? ⟨a, 8, none⟩ = some (.string f8) ∧ w'.cell? ⟨a, 9, none⟩ = some (.bool f9) ∧ w'.cell? ⟨a, 10, none⟩ = some (.int .i64 i) ∧ w'.cell? ⟨a, 11, none⟩ = some (.int .i64 t) ∧ w'.cell? ⟨b, 0, none⟩ = some (.int .i64 k) ∧ w'.cell? ⟨b, 1, none⟩ = some (.int .i64 f1) ∧ w'.cell? ⟨b, 2, none⟩ = some (.string f2) ∧ w'.cell? ⟨b, 3, none⟩ = some (.string f3) ∧ w'.cell? ⟨b, 4, none⟩ = some (.string f4) ∧ w'.cell? ⟨b, 5, none⟩ = some (.int .i64 f5) ∧ w'.cell? ⟨b, 6, none⟩ = some (.int .i64 f6) ∧ w'.cell? ⟨b, 7, none⟩ = some (.int .i64 f7) ∧ w'.cell? ⟨b, 8, none⟩ = some (.string f8) ∧ w'.cell? ⟨b, 9, none⟩ = some (.bool f9) ∧ w'.cell? ⟨b, 10, none⟩ = some (.int .i64 i) ∧ w'.cell? ⟨b, 11, none⟩ = some (.int .i64 t) ∧ BW w0 a b ⟨k, ⟨f1, f2, f3, f4, f5, f6, f7, f8, f9⟩, i, t⟩ w') := bw_all ((bw_of h).on hb)
theorem readsBoth (s : ByteArray) (hs : s.size ≤ 1000) : ∃ (e : E) (nq : Nat), (∀ W, LibsA W → Calls Tryz.prog 19 #[.string s] W fun r w' => r = .returned (.tuple #[evV e, .int .i64 (nq : Int)]) ∧ Below W.heap.size W w') ∧ (∀ W, LibsA W → Calls Tryz.prog 20 #[.string s] W fun r w' => r = .returned (.tuple #[evV e, errQ nq]) ∧ Below W.heap.size W w') := by
  by_cases h : ∃ e, Ev.may e ∧ s = bs8 (line e)
  · obtain ⟨e, hm, he⟩ := h
    have hu : ∀ e', Ev.may e' → s = bs8 (line e') → e' = e := fun e' hm' he' => by
      have h1 : line e' = line e := by
        have := congrArg (fun b : ByteArray => b.data.toList) (he'.symm.trans he)
        simpa using this
      exact line_inj hm' hm h1
    refine ⟨e, 0, fun W hW => (refRead_is s W hs hW).mono ?_, fun W hW => (readE_is s W hs hW).mono ?_⟩
    · rintro r w' ⟨h1 | h1, hb⟩
      · obtain ⟨e', hm', hx, rfl⟩ := h1
        rw [hu e' hm' hx]
        exact ⟨rfl, hb⟩
      · exact absurd he (h1.1 e hm)
    · rintro r w' ⟨h1 | h1, hb⟩
      · obtain ⟨e', hm', hx, rfl⟩ := h1
        rw [hu e' hm' hx]
        exact ⟨rfl, hb⟩
      · exact absurd he (h1.1 e hm)
  · refine ⟨zeroE, 3, fun W hW => (refRead_is s W hs hW).mono ?_, fun W hW => (readE_is s W hs hW).mono ?_⟩
    · rintro r w' ⟨h1 | h1, hb⟩
      · obtain ⟨e', hm', hx, rfl⟩ := h1
        exact absurd ⟨e', hm', hx⟩ h
      · exact ⟨h1.2, hb⟩
    · rintro r w' ⟨h1 | h1, hb⟩
      · obtain ⟨e', hm', hx, rfl⟩ := h1
        exact absurd ⟨e', hm', hx⟩ h
      · exact ⟨h1.2, hb⟩
set_option maxRecDepth 100000 in
set_option maxHeartbeats 8000000 in
theorem eventReadsLaw (s : ByteArray) (w : World) (hL : LibsA w) (hE : ErrVar w) : Calls Tryz.prog 5 #[.string s] w fun r w' => r = .returned (.bool true) ∧ Below w.heap.size w w' := by
  have HL : Hid (LibsA w) := hL
  have HE : Hid (ErrVar w) := hE
  clear hL hE
  by_cases hs : s.size ≤ 400
  · have hs' : ¬ (400 : Int) < (s.size : Int) := by omega
    obtain ⟨e, nq, HR, HP⟩ := readsBoth s (by omega)
    have HHA := fun (W : World) => happens_is e W
    have hbq := fun (W : World) (hW : ErrVar W) => bareQ nq W hW
    have HMA : Hid (∀ W : World, EvAt (W.alloc (.cells #[.int .i64 e.kind, .int .i64 e.fam.id, .string e.fam.client, .string e.fam.subject, .string e.fam.scope, .int .i64 e.fam.gen, .int .i64 e.fam.made, .int .i64 e.fam.used, .string e.fam.request, .bool e.fam.dead, .int .i64 e.id, .int .i64 e.time] 44)) W.heap.size e) := fun W => evAt_made W e 44 _ rfl
    have HMB : Hid (∀ W : World, EvAt (W.alloc (.cells #[.int .i64 e.kind, .int .i64 e.fam.id, .string e.fam.client, .string e.fam.subject, .string e.fam.scope, .int .i64 e.fam.gen, .int .i64 e.fam.made, .int .i64 e.fam.used, .string e.fam.request, .bool e.fam.dead, .int .i64 e.id, .int .i64 e.time] 40)) W.heap.size e) := fun W => evAt_made W e 40 _ rfl
    clear hs
    obtain ⟨k, ⟨f1, f2, f3, f4, f5, f6, f7, f8, f9⟩, i, t⟩ := e
    unfold evV evCs at *
    simp only at HR HP HHA HMA HMB
    go_enter Tryz.func5, Tryz.ntmps5
    go_wp2_with fail
    refine (HR _ HL.out).mono ?_
    rintro e1 w1 ⟨rfl, hb1⟩
    have HB1 : Hid (Below w.heap.size w w1) := hb1
    have HX1 : Hid _ := HMA.out w1
    have HB2 : Hid (Below w.heap.size w (w1.alloc (.cells #[.int .i64 k, .int .i64 f1, .string f2, .string f3, .string f4, .int .i64 f5, .int .i64 f6, .int .i64 f7, .string f8, .bool f9, .int .i64 i, .int .i64 t] 44))) := hb1.alloc hb1.size _
    clear hb1
    go_wp2_with fail
    refine (HP _ (HL.out.below HB2.out)).mono ?_
    rintro e3 w3 ⟨rfl, hb3⟩
    have HX3 : Hid _ := HX1.out.on hb3
    have HB3 : Hid (Below w.heap.size w w3) := HB2.out.trans (hb3.mono HB2.out.size)
    clear hb3
    generalize errQ nq = ev at *
    have hbw : BW w w1.heap.size w3.heap.size ⟨k, ⟨f1, f2, f3, f4, f5, f6, f7, f8, f9⟩, i, t⟩ (w3.alloc (.cells #[.int .i64 k, .int .i64 f1, .string f2, .string f3, .string f4, .int .i64 f5, .int .i64 f6, .int .i64 f7, .string f8, .bool f9, .int .i64 i, .int .i64 t] 40)) :=
      ⟨HX3.out.on ((Below.refl _ _).alloc (Nat.le_refl _) _), HMB.out w3, HE.out.on (HB3.out.alloc HB3.out.size _), HB3.out.alloc HB3.out.size _⟩
    go_upto_region 5 with fail
    clear HMA HMB HX1 HX3 HB1 HB2 HB3 HR HP
    generalize hWW : w3.alloc _ = W at *
    clear hWW
    generalize w1.heap.size = a at *
    generalize w3.heap.size = b at *
    go_region_held3 (fun w' => (w'.cell? ⟨a, 0, none⟩ = some (.int .i64 k) ∧ w'.cell? ⟨a, 1, none⟩ = some (.int .i64 f1) ∧ w'.cell? ⟨a, 2, none⟩ = some (.string f2) ∧ w'.cell? ⟨a, 3, none⟩ = some (.string f3) ∧ w'.cell? ⟨a, 4, none⟩ = some (.string f4) ∧ w'.cell? ⟨a, 5, none⟩ = some (.int .i64 f5) ∧ w'.cell? ⟨a, 6, none⟩ = some (.int .i64 f6) ∧ w'.cell? ⟨a, 7, none⟩ = some (.int .i64 f7) ∧ w'.cell? ⟨a, 8, none⟩ = some (.string f8) ∧ w'.cell? ⟨a, 9, none⟩ = some (.bool f9) ∧ w'.cell? ⟨a, 10, none⟩ = some (.int .i64 i) ∧ w'.cell? ⟨a, 11, none⟩ = some (.int .i64 t) ∧ w'.cell? ⟨b, 0, none⟩ = some (.int .i64 k) ∧ w'.cell? ⟨b, 1, none⟩ = some (.int .i64 f1) ∧ w'.cell? ⟨b, 2, none⟩ = some (.string f2) ∧ w'.cell? ⟨b, 3, none⟩ = some (.string f3) ∧ w'.cell? ⟨b, 4, none⟩ = some (.string f4) ∧ w'.cell? ⟨b, 5, none⟩ = some (.int .i64 f5) ∧ w'.cell? ⟨b, 6, none⟩ = some (.int .i64 f6) ∧ w'.cell? ⟨b, 7, none⟩ = some (.int .i64 f7) ∧ w'.cell? ⟨b, 8, none⟩ = some (.string f8) ∧ w'.cell? ⟨b, 9, none⟩ = some (.bool f9) ∧ w'.cell? ⟨b, 10, none⟩ = some (.int .i64 i) ∧ w'.cell? ⟨b, 11, none⟩ = some (.int .i64 t) ∧ BW w a b ⟨k, ⟨f1, f2, f3, f4, f5, f6, f7, f8, f9⟩, i, t⟩ w')) (first | exact bw_drew hbw | exact bw_keep (by assumption) (by assumption) | assumption)
      (first
        | (go_at_call 11; refine (hbq _ (bw_of (w0 := w) (by assumption)).err).mono ?_; rintro e5 w5 ⟨rfl, hb5⟩)
        | (go_at_call 15; refine (HHA _).mono ?_; rintro e6 w6 ⟨rfl, hb6⟩))
    rename_i hHH
    have HFB : Hid (Below w.heap.size w w6) := (bw_of hHH).below
    clear hHH
    go_wp2_with fail
    go_ret
    exact ⟨by simp, HFB.out⟩
  · have hs' : (400 : Int) < (s.size : Int) := by omega
    clear hs
    go_enter Tryz.func5, Tryz.ntmps5
    go_wp2_with fail
    go_ret
    exact ⟨rfl, Below.refl _ _⟩
end Go.Proofs.YtibelcnjmpedkaaGreatDoor
