/-
  Own texts put together: EvBLaw.
-/
import Derived.Test.YtkggfahcdpgapaaGreatDoorB12
import Derived.Test.YtkggfahcdpgapaaGreatDoorB14
import Derived.Test.YtkggfahcdpgapaaGreatDoorB15
/-
  The law EventBack: an event's line is that event; two events of two families make the same in whichever order.
-/

namespace Go.Proofs.YtkggfahcdpgapaaGreatDoor
open Go Go.RowKit Tok Sc Ev
theorem readBack (e : E) (w : World) (h : Ev.may e) (hL : LibsA w) : Calls Tryz.prog 20 #[.string (bs8 (line e))] w fun r w' => r = .returned (.tuple #[evV e, .nilIface]) ∧ Below w.heap.size w w' := by
  refine (readE_is (bs8 (line e)) w (by have := line_len h; show (line e).toArray.size ≤ 1000; simp; omega) hL).mono ?_
  rintro r w' ⟨h1 | h1, hb⟩
  · obtain ⟨e', hm, hx, rfl⟩ := h1
    have h2 : line e = line e' := by have := congrArg (fun b : ByteArray => b.data.toList) hx; simpa using this
    rw [line_inj h hm h2]
    exact ⟨rfl, hb⟩
  · exact absurd rfl (h1.1 e h)
theorem may_ids {e : E} (h : Ev.may e) : okN (e.fam.id + e.id) := by
  rcases h with ⟨_, hf, hi, _⟩ | ⟨_, hf, hi, _⟩ | ⟨_, hf, hi, _⟩
  · rw [hi, Int.add_zero]; exact hf.1.1
  · rw [hf, show zeroF.id = 0 from rfl, Int.zero_add]; exact hi
  · rw [hf, hi]; exact ⟨by decide, by decide⟩
/-- The events' boxes. -/
structure B2 (w0 : World) (e f : E) (w : World) : Prop where
  a : EvAt w w0.heap.size e
  b : EvAt w (w0.heap.size + 1) f
  below : Below w0.heap.size w0 w
theorem B2.on {w0 : World} {e f : E} {w w' : World} (h : B2 w0 e f w) (hb : Below w.heap.size w w') : B2 w0 e f w' := ⟨h.a.on hb, h.b.on hb, h.below.trans (hb.mono h.below.size)⟩
theorem b2_made (w : World) (e f : E) (t1 t2 : TypeId) : B2 w e f ((w.alloc (.cells #[.int .i64 e.kind, .int .i64 e.fam.id, .string e.fam.client, .string e.fam.subject, .string e.fam.scope, .int .i64 e.fam.gen, .int .i64 e.fam.made, .int .i64 e.fam.used, .string e.fam.request, .bool e.fam.dead, .int .i64 e.id, .int .i64 e.time] t1)).alloc (.cells #[.int .i64 f.kind, .int .i64 f.fam.id, .string f.fam.client, .string f.fam.subject, .string f.fam.scope, .int .i64 f.fam.gen, .int .i64 f.fam.made, .int .i64 f.fam.used, .string f.fam.request, .bool f.fam.dead, .int .i64 f.id, .int .i64 f.time] t2)) :=
  ⟨(evAt_made w e t1 _ rfl).on ((Below.refl _ _).alloc (Nat.le_refl _) _), evAt_made _ f t2 _ (by simp), ((Below.refl _ _).alloc (Nat.le_refl _) _).alloc (by simp) _⟩
/-- The events' boxes and the state's. -/
structure B3 (w0 : World) (a b c : Nat) (e f : E) (w : World) : Prop where
  a : EvAt w a e
  b : EvAt w b f
  below : Below w0.heap.size w0 w
  clt : c < w.heap.size
  s0 : w.cell? ⟨c, 0, none⟩ = some (.int .i64 0)
  s1 : w.cell? ⟨c, 1, none⟩ = some (.int .i64 1)
  s2 : w.cell? ⟨c, 2, none⟩ = some (.slice none 0 0)
theorem B3.on {w0 : World} {a b c : Nat} {e f : E} {w w' : World} (h : B3 w0 a b c e f w) (hb : Below w.heap.size w w') : B3 w0 a b c e f w' :=
  ⟨h.a.on hb, h.b.on hb, h.below.trans (hb.mono h.below.size), Nat.lt_of_lt_of_le h.clt hb.size, (hb.cell (p := ⟨c, 0, none⟩) h.clt).trans h.s0, (hb.cell (p := ⟨c, 1, none⟩) h.clt).trans h.s1, (hb.cell (p := ⟨c, 2, none⟩) h.clt).trans h.s2⟩
theorem b3_all {w0 : World} {a b c : Nat} {k f1 f5 f6 f7 i t k' g1 g5 g6 g7 i' t' : Int} {f2 f3 f4 f8 g2 g3 g4 g8 : ByteArray} {f9 g9 : Bool} {w : World} (h : B3 w0 a b c ⟨k, ⟨f1, f2, f3, f4, f5, f6, f7, f8, f9⟩, i, t⟩ ⟨k', ⟨g1, g2, g3, g4, g5, g6, g7, g8, g9⟩, i', t'⟩ w) : (w.cell? ⟨a, 0, none⟩ = some (.int .i64 k) ∧ w.cell? ⟨a, 1, none⟩ = some (.int .i64 f1) ∧ w.cell? ⟨a, 2, none⟩ = some (.string f2) ∧ w.cell? ⟨a, 3, none⟩ = some (.string f3) ∧ w.cell? ⟨a, 4, none⟩ = some (.string f4) ∧ w.cell? ⟨a, 5, none⟩ = some (.int .i64 f5) ∧ w.cell? ⟨a, 6, none⟩ = some (.int .i64 f6) ∧ w.cell? ⟨a, 7, none⟩ = some (.int .i64 f7) ∧ w.cell? ⟨a, 8, none⟩ = some (.string f8) ∧ w.cell? ⟨a, 9, none⟩ = some (.bool f9) ∧ w.cell? ⟨a, 10, none⟩ = some (.int .i64 i) ∧ w.cell? ⟨a, 11, none⟩ = some (.int .i64 t) ∧ w.cell? ⟨b, 0, none⟩ = some (.int .i64 k') ∧ w.cell? ⟨b, 1, none⟩ = some (.int .i64 g1) ∧ w.cell? ⟨b, 2, none⟩ = some (.string g2) ∧ w.cell? ⟨b, 3, none⟩ = some (.string g3) ∧ w.cell? ⟨b, 4, none⟩ = some (.string g4) ∧ w.cell? ⟨b, 5, none⟩ = some (.int .i64 g5) ∧ w.cell? ⟨b, 6, none⟩ = some (.int .i64 g6) ∧ w.cell? ⟨b, 7, none⟩ = some (.int .i64 g7) ∧ w.cell? ⟨b, 8, none⟩ = some (.string g8) ∧ w.cell? ⟨b, 9, none⟩ = some (.bool g9) ∧ w.cell? ⟨b, 10, none⟩ = some (.int .i64 i') ∧ w.cell? ⟨b, 11, none⟩ = some (.int .i64 t') ∧ w.cell? ⟨c, 0, none⟩ = some (.int .i64 0) ∧ w.cell? ⟨c, 1, none⟩ = some (.int .i64 1) ∧ w.cell? ⟨c, 2, none⟩ = some (.slice none 0 0) ∧ B3 w0 a b c ⟨k, ⟨f1, f2, f3, f4, f5, f6, f7, f8, f9⟩, i, t⟩ ⟨k', ⟨g1, g2, g3, g4, g5, g6, g7, g8, g9⟩, i', t'⟩ w) := by
  have x := h.a
  have y := h.b
  exact ⟨x.c0, x.fam.c0, x.fam.c1, x.fam.c2, x.fam.c3, x.fam.c4, x.fam.c5, x.fam.c6, x.fam.c7, x.fam.c8, x.c10, x.c11, y.c0, y.fam.c0, y.fam.c1, y.fam.c2, y.fam.c3, y.fam.c4, y.fam.c5, y.fam.c6, y.fam.c7, y.fam.c8, y.c10, y.c11, h.s0, h.s1, h.s2, h⟩
theorem b3_of {w0 : World} {a b c : Nat} {k f1 f5 f6 f7 i t k' g1 g5 g6 g7 i' t' : Int} {f2 f3 f4 f8 g2 g3 g4 g8 : ByteArray} {f9 g9 : Bool} {w : World} (h : (w.cell? ⟨a, 0, none⟩ = some (.int .i64 k) ∧ w.cell? ⟨a, 1, none⟩ = some (.int .i64 f1) ∧ w.cell? ⟨a, 2, none⟩ = some (.string f2) ∧ w.cell? ⟨a, 3, none⟩ = some (.string f3) ∧ w.cell? ⟨a, 4, none⟩ = some (.string f4) ∧ w.cell? ⟨a, 5, none⟩ = some (.int .i64 f5) ∧ w.cell? ⟨a, 6, none⟩ = some (.int .i64 f6) ∧ w.cell? ⟨a, 7, none⟩ = some (.int .i64 f7) ∧ w.cell? ⟨a, 8, none⟩ = some (.string f8) ∧ w.cell? ⟨a, 9, none⟩ = some (.bool f9) ∧ w.cell? ⟨a, 10, none⟩ = some (.int .i64 i) ∧ w.cell? ⟨a, 11, none⟩ = some (.int .i64 t) ∧ w.cell? ⟨b, 0, none⟩ = some (.int .i64 k') ∧ w.cell? ⟨b, 1, none⟩ = some (.int .i64 g1) ∧ w.cell? ⟨b, 2, none⟩ = some (.string g2) ∧ w.cell? ⟨b, 3, none⟩ = some (.string g3) ∧ w.cell? ⟨b, 4, none⟩ = some (.string g4) ∧ w.cell? ⟨b, 5, none⟩ = some (.int .i64 g5) ∧ w.cell? ⟨b, 6, none⟩ = some (.int .i64 g6) ∧ w.cell? ⟨b, 7, none⟩ = some (.int .i64 g7) ∧ w.cell? ⟨b, 8, none⟩ = some (.string g8) ∧ w.cell? ⟨b, 9, none⟩ = some (.bool g9) ∧ w.cell? ⟨b, 10, none⟩ = some (.int .i64 i') ∧ w.cell? ⟨b, 11, none⟩ = some (.int .i64 t') ∧ w.cell? ⟨c, 0, none⟩ = some (.int .i64 0) ∧ w.cell? ⟨c, 1, none⟩ = some (.int .i64 1) ∧ w.cell? ⟨c, 2, none⟩ = some (.slice none 0 0) ∧ B3 w0 a b c ⟨k, ⟨f1, f2, f3, f4, f5, f6, f7, f8, f9⟩, i, t⟩ ⟨k', ⟨g1, g2, g3, g4, g5, g6, g7, g8, g9⟩, i', t'⟩ w)) : B3 w0 a b c ⟨k, ⟨f1, f2, f3, f4, f5, f6, f7, f8, f9⟩, i, t⟩ ⟨k', ⟨g1, g2, g3, g4, g5, g6, g7, g8, g9⟩, i', t'⟩ w := h.2.2.2.2.2.2.2.2.2.2.2.2.2.2.2.2.2.2.2.2.2.2.2.2.2.2.2
theorem b3_drew {w0 : World} {a b c : Nat} {k f1 f5 f6 f7 i t k' g1 g5 g6 g7 i' t' : Int} {f2 f3 f4 f8 g2 g3 g4 g8 : ByteArray} {f9 g9 : Bool} {w : World} (h : B3 w0 a b c ⟨k, ⟨f1, f2, f3, f4, f5, f6, f7, f8, f9⟩, i, t⟩ ⟨k', ⟨g1, g2, g3, g4, g5, g6, g7, g8, g9⟩, i', t'⟩ w) : (w.drew.cell? ⟨a, 0, none⟩ = some (.int .i64 k) ∧ w.drew.cell? ⟨a, 1, none⟩ = some (.int .i64 f1) ∧ w.drew.cell? ⟨a, 2, none⟩ = some (.string f2) ∧ w.drew.cell? ⟨a, 3, none⟩ = some (.string f3) ∧ w.drew.cell? ⟨a, 4, none⟩ = some (.string f4) ∧ w.drew.cell? ⟨a, 5, none⟩ = some (.int .i64 f5) ∧ w.drew.cell? ⟨a, 6, none⟩ = some (.int .i64 f6) ∧ w.drew.cell? ⟨a, 7, none⟩ = some (.int .i64 f7) ∧ w.drew.cell? ⟨a, 8, none⟩ = some (.string f8) ∧ w.drew.cell? ⟨a, 9, none⟩ = some (.bool f9) ∧ w.drew.cell? ⟨a, 10, none⟩ = some (.int .i64 i) ∧ w.drew.cell? ⟨a, 11, none⟩ = some (.int .i64 t) ∧ w.drew.cell? ⟨b, 0, none⟩ = some (.int .i64 k') ∧ w.drew.cell? ⟨b, 1, none⟩ = some (.int .i64 g1) ∧ w.drew.cell? ⟨b, 2, none⟩ = some (.string g2) ∧ w.drew.cell? ⟨b, 3, none⟩ = some (.string g3) ∧ w.drew.cell? ⟨b, 4, none⟩ = some (.string g4) ∧ w.drew.cell? ⟨b, 5, none⟩ = some (.int .i64 g5) ∧ w.drew.cell? ⟨b, 6, none⟩ = some (.int .i64 g6) ∧ w.drew.cell? ⟨b, 7, none⟩ = some (.int .i64 g7) ∧ w.drew.cell? ⟨b, 8, none⟩ = some (.string g8) ∧ w.drew.cell? ⟨b, 9, none⟩ = some (.bool g9) ∧ w.drew.cell? ⟨b, 10, none⟩ = some (.int .i64 i') ∧ w.drew.cell? ⟨b, 11, none⟩ = some (.int .i64 t') ∧ w.drew.cell? ⟨c, 0, none⟩ = some (.int .i64 0) ∧ w.drew.cell? ⟨c, 1, none⟩ = some (.int .i64 1) ∧ w.drew.cell? ⟨c, 2, none⟩ = some (.slice none 0 0) ∧ B3 w0 a b c ⟨k, ⟨f1, f2, f3, f4, f5, f6, f7, f8, f9⟩, i, t⟩ ⟨k', ⟨g1, g2, g3, g4, g5, g6, g7, g8, g9⟩, i', t'⟩ w.drew) := b3_all (h.on (Below.refl _ _).drew)
theorem b3_keep {w0 : World} {a b c : Nat} {k f1 f5 f6 f7 i t k' g1 g5 g6 g7 i' t' : Int} {f2 f3 f4 f8 g2 g3 g4 g8 : ByteArray} {f9 g9 : Bool} {w w' : World} (h : (w.cell? ⟨a, 0, none⟩ = some (.int .i64 k) ∧ w.cell? ⟨a, 1, none⟩ = some (.int .i64 f1) ∧ w.cell? ⟨a, 2, none⟩ = some (.string f2) ∧ w.cell? ⟨a, 3, none⟩ = some (.string f3) ∧ w.cell? ⟨a, 4, none⟩ = some (.string f4) ∧ w.cell? ⟨a, 5, none⟩ = some (.int .i64 f5) ∧ w.cell? ⟨a, 6, none⟩ = some (.int .i64 f6) ∧ w.cell? ⟨a, 7, none⟩ = some (.int .i64 f7) ∧ w.cell? ⟨a, 8, none⟩ = some (.string f8) ∧ w.cell? ⟨a, 9, none⟩ = some (.bool f9) ∧ w.cell? ⟨a, 10, none⟩ = some (.int .i64 i) ∧ w.cell? ⟨a, 11, none⟩ = some (.int .i64 t) ∧ w.cell? ⟨b, 0, none⟩ = some (.int .i64 k') ∧ w.cell? ⟨b, 1, none⟩ = some (.int .i64 g1) ∧ w.cell? ⟨b, 2, none⟩ = some (.string g2) ∧ w.cell? ⟨b, 3, none⟩ = some (.string g3) ∧ w.cell? ⟨b, 4, none⟩ = some (.string g4) ∧ w.cell? ⟨b, 5, none⟩ = some (.int .i64 g5) ∧ w.cell? ⟨b, 6, none⟩ = some (.int .i64 g6) ∧ w.cell? ⟨b, 7, none⟩ = some (.int .i64 g7) ∧ w.cell? ⟨b, 8, none⟩ = some (.string g8) ∧ w.cell? ⟨b, 9, none⟩ = some (.bool g9) ∧ w.cell? ⟨b, 10, none⟩ = some (.int .i64 i') ∧ w.cell? ⟨b, 11, none⟩ = some (.int .i64 t') ∧ w.cell? ⟨c, 0, none⟩ = some (.int .i64 0) ∧ w.cell? ⟨c, 1, none⟩ = some (.int .i64 1) ∧ w.cell? ⟨c, 2, none⟩ = some (.slice none 0 0) ∧ B3 w0 a b c ⟨k, ⟨f1, f2, f3, f4, f5, f6, f7, f8, f9⟩, i, t⟩ ⟨k', ⟨g1, g2, g3, g4, g5, g6, g7, g8, g9⟩, i', t'⟩ w)) (hb : Below w.heap.size w w') : (w'.cell? ⟨a, 0, none⟩ = some (.int .i64 k) ∧ w'.cell? ⟨a, 1, none⟩ = some (.int .i64 f1) ∧ w'.cell? ⟨a, 2, none⟩ = some (.string f2) ∧ w'.cell? ⟨a, 3, none⟩ = some (.string f3) ∧ w'.cell? ⟨a, 4, none⟩ = some (.string f4) ∧ w'.cell? ⟨a, 5, none⟩ = some (.int .i64 f5) ∧ w'.cell? ⟨a, 6, none⟩ = some (.int .i64 f6) ∧ w'.cell? ⟨a, 7, none⟩ = some (.int .i64 f7) ∧ w'.cell? ⟨a, 8, none⟩ = some (.string f8) ∧ w'.cell? ⟨a, 9, none⟩ = some (.bool f9) ∧ w'.cell? ⟨a, 10, none⟩ = some (.int .i64 i) ∧ w'.cell? ⟨a, 11, none⟩ = some (.int .i64 t) ∧ w'.cell? ⟨b, 0, none⟩ = some (.int .i64 k') ∧ w'.cell? ⟨b, 1, none⟩ = some (.int .i64 g1) ∧ w'.cell? ⟨b, 2, none⟩ = some (.string g2) ∧ w'.cell? ⟨b, 3, none⟩ = some (.string g3) ∧ w'.cell? ⟨b, 4, none⟩ = some (.string g4) ∧ w'.cell? ⟨b, 5, none⟩ = some (.int .i64 g5) ∧ w'.cell? ⟨b, 6, none⟩ = some (.int .i64 g6) ∧ w'.cell? ⟨b, 7, none⟩ = some (.int .i64 g7) ∧ w'.cell? ⟨b, 8, none⟩ = some (.string g8) ∧ w'.cell? ⟨b, 9, none⟩ = some (.bool g9) ∧ w'.cell? ⟨b, 10, none⟩ = some (.int .i64 i') ∧ w'.cell? ⟨b, 11, none⟩ = some (.int .i64 t') ∧ w'.cell? ⟨c, 0, none⟩ = some (.int .i64 0) ∧ w'.cell? ⟨c, 1, none⟩ = some (.int .i64 1) ∧ w'.cell? ⟨c, 2, none⟩ = some (.slice none 0 0) ∧ B3 w0 a b c ⟨k, ⟨f1, f2, f3, f4, f5, f6, f7, f8, f9⟩, i, t⟩ ⟨k', ⟨g1, g2, g3, g4, g5, g6, g7, g8, g9⟩, i', t'⟩ w') := b3_all ((b3_of h).on hb)
theorem b3_made {w0 : World} {e f : E} {w : World} (h : B2 w0 e f w) : B3 w0 w0.heap.size (w0.heap.size + 1) w.heap.size e f (w.alloc (.cells #[.int .i64 0, .int .i64 1, .slice none 0 0] 57)) :=
  ⟨h.a.on ((Below.refl _ _).alloc (Nat.le_refl _) _), h.b.on ((Below.refl _ _).alloc (Nat.le_refl _) _), h.below.alloc h.below.size _, by simp, (World.cell?_alloc_at _ _ _ _ rfl).trans rfl, (World.cell?_alloc_at _ _ _ _ rfl).trans rfl, (World.cell?_alloc_at _ _ _ _ rfl).trans rfl⟩
set_option maxRecDepth 100000 in
set_option maxHeartbeats 16000000 in
theorem eventBackLaw (e f : E) (w : World) (hse : lens e.fam ≤ 10000000000000000) (hsf : lens f.fam ≤ 10000000000000000) (hL : LibsA w) : Calls Tryz.prog 6 #[evV e, evV f] w fun r w' => r = .returned (.bool true) ∧ Below w.heap.size w w' := by
  have HL : Hid (LibsA w) := hL
  have HB : Hid (B2 w e f _) := b2_made w e f 40 40
  have HRB : Hid (∀ W, Ev.may e → LibsA W → Calls Tryz.prog 20 #[.string (bs8 (line e))] W fun r w' => r = .returned (.tuple #[evV e, .nilIface]) ∧ Below W.heap.size W w') := fun W h hW => readBack e W h hW
  have HX : Hid (Ev.may e → (bs8 (line e)).size ≤ 180) := fun h => by have := line_len h; show (line e).toArray.size ≤ 180; simpa using this
  by_cases hsm : lens e.fam + lens f.fam ≤ 600
  · have hSe : Small 1000 e.fam := by unfold lens at hsm; unfold Small; omega
    have hSf : Small 1000 f.fam := by unfold lens at hsm; unfold Small; omega
    have HWe : Hid (Ev.may e → ∀ W, LibsA W → Calls Tryz.prog 16 #[evV e] W fun r w' => r = .returned (.tuple #[.string (bs8 (line e)), .nilIface]) ∧ Below W.heap.size W w') := fun h W hW => writeE_yes e W h hSe hW.base
    have HWn : Hid (¬ Ev.may e → ∀ W, LibsA W → Calls Tryz.prog 16 #[evV e] W fun r w' => r = .returned (.tuple #[.string ⟨#[]⟩, .iface 26 (.int .i64 1)]) ∧ Below W.heap.size W w') := fun h W hW => writeE_no e W h hSe hW.base.len
    have HFe : Hid (Ev.may f → ∀ W, LibsA W → Calls Tryz.prog 16 #[evV f] W fun r w' => r = .returned (.tuple #[.string (bs8 (line f)), .nilIface]) ∧ Below W.heap.size W w') := fun h W hW => writeE_yes f W h hSf hW.base
    have HFn : Hid (¬ Ev.may f → ∀ W, LibsA W → Calls Tryz.prog 16 #[evV f] W fun r w' => r = .returned (.tuple #[.string ⟨#[]⟩, .iface 26 (.int .i64 1)]) ∧ Below W.heap.size W w') := fun h W hW => writeE_no f W h hSf hW.base.len
    have HAP : Hid (∀ (B : Nat) (W : World) (v : Value) (s : St) (x : E), Ev.may x → Fams B W v s.fams → Rising s.fams → s.fams.length ≤ 1000 → Calls Tryz.prog 23 #[stV s.clock s.next v, evV x] W fun r w' => ∃ v', r = .returned (stV (applyP s x).clock (applyP s x).next v') ∧ Fams W.heap.size w' v' (applyP s x).fams ∧ Below W.heap.size W w') := fun B W v s x h1 h2 h3 h4 => apply_is s x h1 h2 h3 h4
    have HCM : Hid (Ev.may e → Ev.may f → e.kind ≠ 3 → f.kind ≠ 3 → e.fam.id + e.id ≠ f.fam.id + f.id → applyP (applyP ⟨0, 1, []⟩ e) f = applyP (applyP ⟨0, 1, []⟩ f) e) := comm
    have HRI : Hid (Ev.may e → Ev.may f → okN (e.fam.id + e.id) ∧ okN (f.fam.id + f.id)) := fun he hf => ⟨may_ids he, may_ids hf⟩
    generalize bs8 (line e) = X at *
    generalize bs8 (line f) = Y at *
    unfold lens at hse hsf hsm
    clear hL hSe hSf
    obtain ⟨k, ⟨f1, f2, f3, f4, f5, f6, f7, f8, f9⟩, i, t⟩ := e
    obtain ⟨k', ⟨g1, g2, g3, g4, g5, g6, g7, g8, g9⟩, i', t'⟩ := f
    unfold evV evCs at *
    simp only at hse hsf hsm HB
    have n1 : ¬ 9223372036854775807 < f2.size + f3.size := by omega
    have n2 : ¬ 9223372036854775807 < f2.size + f3.size + f4.size := by omega
    have n3 : ¬ 9223372036854775807 < f2.size + f3.size + f4.size + f8.size := by omega
    have n4 : ¬ 9223372036854775807 < f2.size + f3.size + f4.size + f8.size + g2.size := by omega
    have n5 : ¬ 9223372036854775807 < f2.size + f3.size + f4.size + f8.size + g2.size + g3.size := by omega
    have n6 : ¬ 9223372036854775807 < f2.size + f3.size + f4.size + f8.size + g2.size + g3.size + g4.size := by omega
    have n7 : ¬ 9223372036854775807 < f2.size + f3.size + f4.size + f8.size + g2.size + g3.size + g4.size + g8.size := by omega
    have m1 : ¬ (600 : Int) < (f2.size : Int) + f3.size + f4.size + f8.size + g2.size + g3.size + g4.size + g8.size := by omega
    clear hse hsf hsm
    go_enter Tryz.func6, Tryz.ntmps6
    go_wp2_with fail
    refine (toldB_is _ (HL.out.below HB.out.below).base).mono ?_
    rintro r1 w1 ⟨rfl, hb1⟩
    have HB1 : Hid (B2 w ⟨k, ⟨f1, f2, f3, f4, f5, f6, f7, f8, f9⟩, i, t⟩ ⟨k', ⟨g1, g2, g3, g4, g5, g6, g7, g8, g9⟩, i', t'⟩ w1) := HB.out.on hb1
    clear hb1 n1 n2 n3 n4 n5 n6 n7 m1 HB
    have k0 := HB1.out.a.c0; have k1 := HB1.out.a.fam.c0; have k2 := HB1.out.a.fam.c1; have k3 := HB1.out.a.fam.c2; have k4 := HB1.out.a.fam.c3; have k5 := HB1.out.a.fam.c4; have k6 := HB1.out.a.fam.c5; have k7 := HB1.out.a.fam.c6; have k8 := HB1.out.a.fam.c7; have k9 := HB1.out.a.fam.c8; have k10 := HB1.out.a.c10; have k11 := HB1.out.a.c11
    simp only at k0 k1 k2 k3 k4 k5 k6 k7 k8 k9 k10 k11
    go_wp2_with fail
    by_cases hm : Ev.may ⟨k, ⟨f1, f2, f3, f4, f5, f6, f7, f8, f9⟩, i, t⟩
    · refine (HWe.out hm _ (HL.out.below HB1.out.below)).mono ?_
      rintro r2 w2 ⟨rfl, hb2⟩
      have HB2 : Hid (B2 w ⟨k, ⟨f1, f2, f3, f4, f5, f6, f7, f8, f9⟩, i, t⟩ ⟨k', ⟨g1, g2, g3, g4, g5, g6, g7, g8, g9⟩, i', t'⟩ w2) := HB1.out.on hb2
      clear hb2 HB1 k0 k1 k2 k3 k4 k5 k6 k7 k8 k9 k10 k11
      go_wp2_with fail
      refine (HRB.out _ hm (HL.out.below HB2.out.below)).mono ?_
      rintro r3 w3 ⟨rfl, hb3⟩
      have HB3 : Hid (B2 w ⟨k, ⟨f1, f2, f3, f4, f5, f6, f7, f8, f9⟩, i, t⟩ ⟨k', ⟨g1, g2, g3, g4, g5, g6, g7, g8, g9⟩, i', t'⟩ w3) := HB2.out.on hb3
      have HY : Hid (EvAt (w3.alloc (.cells #[.int .i64 k, .int .i64 f1, .string f2, .string f3, .string f4, .int .i64 f5, .int .i64 f6, .int .i64 f7, .string f8, .bool f9, .int .i64 i, .int .i64 t] 40)) w3.heap.size ⟨k, ⟨f1, f2, f3, f4, f5, f6, f7, f8, f9⟩, i, t⟩) := evAt_made w3 ⟨k, ⟨f1, f2, f3, f4, f5, f6, f7, f8, f9⟩, i, t⟩ 40 _ rfl
      have HB4 : Hid (B2 w ⟨k, ⟨f1, f2, f3, f4, f5, f6, f7, f8, f9⟩, i, t⟩ ⟨k', ⟨g1, g2, g3, g4, g5, g6, g7, g8, g9⟩, i', t'⟩ (w3.alloc (.cells #[.int .i64 k, .int .i64 f1, .string f2, .string f3, .string f4, .int .i64 f5, .int .i64 f6, .int .i64 f7, .string f8, .bool f9, .int .i64 i, .int .i64 t] 40))) := HB3.out.on ((Below.refl _ _).alloc (Nat.le_refl _) _)
      have hx : ¬ (180 : Int) < (X.size : Int) := by have := HX.out hm; omega
      clear hb3 HB2
      have k0 := HB4.out.a.c0; have k1 := HB4.out.a.fam.c0; have k2 := HB4.out.a.fam.c1; have k3 := HB4.out.a.fam.c2; have k4 := HB4.out.a.fam.c3; have k5 := HB4.out.a.fam.c4; have k6 := HB4.out.a.fam.c5; have k7 := HB4.out.a.fam.c6; have k8 := HB4.out.a.fam.c7; have k9 := HB4.out.a.fam.c8; have k10 := HB4.out.a.c10; have k11 := HB4.out.a.c11
      simp only at k0 k1 k2 k3 k4 k5 k6 k7 k8 k9 k10 k11
      have l0 := HB4.out.b.c0; have l1 := HB4.out.b.fam.c0; have l2 := HB4.out.b.fam.c1; have l3 := HB4.out.b.fam.c2; have l4 := HB4.out.b.fam.c3; have l5 := HB4.out.b.fam.c4; have l6 := HB4.out.b.fam.c5; have l7 := HB4.out.b.fam.c6; have l8 := HB4.out.b.fam.c7; have l9 := HB4.out.b.fam.c8; have l10 := HB4.out.b.c10; have l11 := HB4.out.b.c11
      simp only at l0 l1 l2 l3 l4 l5 l6 l7 l8 l9 l10 l11
      have y0 := HY.out.c0; have y1 := HY.out.fam.c0; have y2 := HY.out.fam.c1; have y3 := HY.out.fam.c2; have y4 := HY.out.fam.c3; have y5 := HY.out.fam.c4; have y6 := HY.out.fam.c5; have y7 := HY.out.fam.c6; have y8 := HY.out.fam.c7; have y9 := HY.out.fam.c8; have y10 := HY.out.c10; have y11 := HY.out.c11
      simp only at y0 y1 y2 y3 y4 y5 y6 y7 y8 y9 y10 y11
      go_wp2_with fail
      by_cases hmf : Ev.may ⟨k', ⟨g1, g2, g3, g4, g5, g6, g7, g8, g9⟩, i', t'⟩
      · refine (HFe.out hmf _ (HL.out.below HB4.out.below)).mono ?_
        rintro r5 w5 ⟨rfl, hb5⟩
        have HB5 : Hid (B2 w ⟨k, ⟨f1, f2, f3, f4, f5, f6, f7, f8, f9⟩, i, t⟩ ⟨k', ⟨g1, g2, g3, g4, g5, g6, g7, g8, g9⟩, i', t'⟩ w5) := HB4.out.on hb5
        clear hb5 HB4 HB3 HY hx k0 k1 k2 k3 k4 k5 k6 k7 k8 k9 k10 k11 l0 l1 l2 l3 l4 l5 l6 l7 l8 l9 l10 l11 y0 y1 y2 y3 y4 y5 y6 y7 y8 y9 y10 y11
        have k0 := HB5.out.a.c0; have k1 := HB5.out.a.fam.c0; have k2 := HB5.out.a.fam.c1; have k3 := HB5.out.a.fam.c2; have k4 := HB5.out.a.fam.c3; have k5 := HB5.out.a.fam.c4; have k6 := HB5.out.a.fam.c5; have k7 := HB5.out.a.fam.c6; have k8 := HB5.out.a.fam.c7; have k9 := HB5.out.a.fam.c8; have k10 := HB5.out.a.c10; have k11 := HB5.out.a.c11
        simp only at k0 k1 k2 k3 k4 k5 k6 k7 k8 k9 k10 k11
        have l0 := HB5.out.b.c0; have l1 := HB5.out.b.fam.c0; have l2 := HB5.out.b.fam.c1; have l3 := HB5.out.b.fam.c2; have l4 := HB5.out.b.fam.c3; have l5 := HB5.out.b.fam.c4; have l6 := HB5.out.b.fam.c5; have l7 := HB5.out.b.fam.c6; have l8 := HB5.out.b.fam.c7; have l9 := HB5.out.b.fam.c8; have l10 := HB5.out.b.c10; have l11 := HB5.out.b.c11
        simp only at l0 l1 l2 l3 l4 l5 l6 l7 l8 l9 l10 l11
        by_cases hk : k = 3
        · subst hk
          go_wp2_with fail
          go_ret
          exact ⟨rfl, HB5.out.below⟩
        by_cases hk' : k' = 3
        · subst hk'
          have hkb : (k == (3 : Int)) = false := by simp [hk]
          go_wp2_with fail
          go_ret
          exact ⟨rfl, HB5.out.below⟩
        have hi := HRI.out hm hmf
        have hi1 : 0 ≤ f1 + i ∧ f1 + i ≤ 1099511627776 := hi.1
        have hi2 : 0 ≤ g1 + i' ∧ g1 + i' ≤ 1099511627776 := hi.2
        have hw1 : IntKind.i64.wrap (f1 + i) = f1 + i := by rw [IntKind.wrap_i64]; have := hi1.1; have := hi1.2; omega
        have hw2 : IntKind.i64.wrap (g1 + i') = g1 + i' := by rw [IntKind.wrap_i64]; have := hi2.1; have := hi2.2; omega
        clear hi1 hi2 hi
        have hkb : (k == (3 : Int)) = false := by simp [hk]
        have hkb' : (k' == (3 : Int)) = false := by simp [hk']
        by_cases hid : f1 + i = g1 + i'
        · have hidb : (f1 + i == g1 + i') = true := by simp [hid]
          go_wp2_with fail
          go_ret
          exact ⟨rfl, HB5.out.below⟩
        have hidb : (f1 + i == g1 + i') = false := by simp [hid]
        obtain ⟨s1, s2, s3, H1, H2, H3, H4, hlen⟩ : ∃ s1 s2 s3 : St, Hid (∀ W, Calls Tryz.prog 23 #[.agg #[.int .i64 0, .int .i64 1, .slice none 0 0], .agg #[.int .i64 k, .int .i64 f1, .string f2, .string f3, .string f4, .int .i64 f5, .int .i64 f6, .int .i64 f7, .string f8, .bool f9, .int .i64 i, .int .i64 t]] W fun r w' => ∃ v', r = .returned (.agg #[.int .i64 s1.clock, .int .i64 s1.next, v']) ∧ Fams W.heap.size w' v' s1.fams ∧ Below W.heap.size W w') ∧
            Hid (∀ (B : Nat) W v, Fams B W v s1.fams → Calls Tryz.prog 23 #[.agg #[.int .i64 s1.clock, .int .i64 s1.next, v], .agg #[.int .i64 k', .int .i64 g1, .string g2, .string g3, .string g4, .int .i64 g5, .int .i64 g6, .int .i64 g7, .string g8, .bool g9, .int .i64 i', .int .i64 t']] W fun r w' => ∃ v', r = .returned (.agg #[.int .i64 s2.clock, .int .i64 s2.next, v']) ∧ Fams W.heap.size w' v' s2.fams ∧ Below W.heap.size W w') ∧
            Hid (∀ W, Calls Tryz.prog 23 #[.agg #[.int .i64 0, .int .i64 1, .slice none 0 0], .agg #[.int .i64 k', .int .i64 g1, .string g2, .string g3, .string g4, .int .i64 g5, .int .i64 g6, .int .i64 g7, .string g8, .bool g9, .int .i64 i', .int .i64 t']] W fun r w' => ∃ v', r = .returned (.agg #[.int .i64 s3.clock, .int .i64 s3.next, v']) ∧ Fams W.heap.size w' v' s3.fams ∧ Below W.heap.size W w') ∧
            Hid (∀ (B : Nat) W v, Fams B W v s3.fams → Calls Tryz.prog 23 #[.agg #[.int .i64 s3.clock, .int .i64 s3.next, v], .agg #[.int .i64 k, .int .i64 f1, .string f2, .string f3, .string f4, .int .i64 f5, .int .i64 f6, .int .i64 f7, .string f8, .bool f9, .int .i64 i, .int .i64 t]] W fun r w' => ∃ v', r = .returned (.agg #[.int .i64 s2.clock, .int .i64 s2.next, v']) ∧ Fams W.heap.size w' v' s2.fams ∧ Below W.heap.size W w') ∧ s2.fams.length ≤ 1000 := by
          have hc := HCM.out hm hmf hk hk' hid
          have l1 := apply_len ⟨0, 1, []⟩ ⟨k, ⟨f1, f2, f3, f4, f5, f6, f7, f8, f9⟩, i, t⟩
          have l2 := apply_len (applyP ⟨0, 1, []⟩ ⟨k, ⟨f1, f2, f3, f4, f5, f6, f7, f8, f9⟩, i, t⟩) ⟨k', ⟨g1, g2, g3, g4, g5, g6, g7, g8, g9⟩, i', t'⟩
          have l3 := apply_len ⟨0, 1, []⟩ ⟨k', ⟨g1, g2, g3, g4, g5, g6, g7, g8, g9⟩, i', t'⟩
          have r0 : Rising (⟨0, 1, []⟩ : St).fams := List.Pairwise.nil
          simp only [List.length_nil] at l1 l3
          refine ⟨applyP ⟨0, 1, []⟩ ⟨k, ⟨f1, f2, f3, f4, f5, f6, f7, f8, f9⟩, i, t⟩, applyP (applyP ⟨0, 1, []⟩ ⟨k, ⟨f1, f2, f3, f4, f5, f6, f7, f8, f9⟩, i, t⟩) ⟨k', ⟨g1, g2, g3, g4, g5, g6, g7, g8, g9⟩, i', t'⟩, applyP ⟨0, 1, []⟩ ⟨k', ⟨g1, g2, g3, g4, g5, g6, g7, g8, g9⟩, i', t'⟩, fun W => HAP.out W.heap.size W _ ⟨0, 1, []⟩ _ hm (Fams.nil _ _) r0 (by simp), fun B W v h => HAP.out B W v _ _ hmf h (rising_apply r0) (by omega), fun W => HAP.out W.heap.size W _ ⟨0, 1, []⟩ _ hmf (Fams.nil _ _) r0 (by simp), fun B W v h => ?_, by omega⟩
          rw [hc]
          exact HAP.out B W v _ _ hm h (rising_apply r0) (by omega)
        have HB6 := b3_made HB5.out
        go_upto_region 17 with fail
        clear k0 k1 k2 k3 k4 k5 k6 k7 k8 k9 k10 k11 l0 l1 l2 l3 l4 l5 l6 l7 l8 l9 l10 l11 HB5 HRB HX HWe HWn HFe HFn HAP HCM HRI hw1 hw2 hkb hkb' hidb hid hk hk' hm hmf
        have HLL : Hid (s2.fams.length ≤ 1000) := hlen
        clear hlen
        generalize w.heap.size + 1 = b at *
        generalize hWW : w5.alloc _ = W at *
        clear hWW
        generalize w5.heap.size = c at *
        generalize ha : w.heap.size = a at *
        have HA : Hid (w.heap.size = a) := ha
        clear ha
        have hS0 : B3 w a b c ⟨k, ⟨f1, f2, f3, f4, f5, f6, f7, f8, f9⟩, i, t⟩ ⟨k', ⟨g1, g2, g3, g4, g5, g6, g7, g8, g9⟩, i', t'⟩ W.drew := HB6.on (Below.refl _ _).drew
        refine RegD.wp_region_D (fun w' => B3 w a b c ⟨k, ⟨f1, f2, f3, f4, f5, f6, f7, f8, f9⟩, i, t⟩ ⟨k', ⟨g1, g2, g3, g4, g5, g6, g7, g8, g9⟩, i', t'⟩ w') 11 (by kernel_rfl) hS0 (fun hHeld => ?_)
        clear hS0
        refine RegD.wpAnyD_take 0 (oi := ?oi0) (v := (.agg #[.int .i64 0, .int .i64 1, .slice none 0 0])) ?hi0 ?hB0 ?hQ0 ?hy0 hHeld ?rest0
        case hi0 => rfl
        case hB0 => kernel_rfl
        case hQ0 => exact fun _ _ _ h => h
        case hy0 => exact .inl ⟨by rfl, fun W hW => by
          have a0 := hW.s0
          have a1 := hW.s1
          have a2 := hW.s2
          go_simp⟩
        simp only [Act.put, List.setIfInBounds_toArray, List.set_cons_zero, List.set_cons_succ]
        refine RegD.wpAnyD_take 1 (oi := ?oi1) (v := (.agg #[.int .i64 k, .int .i64 f1, .string f2, .string f3, .string f4, .int .i64 f5, .int .i64 f6, .int .i64 f7, .string f8, .bool f9, .int .i64 i, .int .i64 t])) ?hi1 ?hB1 ?hQ1 ?hy1 hHeld ?rest1
        case hi1 => rfl
        case hB1 => kernel_rfl
        case hQ1 => exact fun _ _ _ h => h
        case hy1 => exact .inl ⟨by rfl, fun W hW => by
          have k0 := hW.a.c0
          have k1 := hW.a.fam.c0
          have k2 := hW.a.fam.c1
          have k3 := hW.a.fam.c2
          have k4 := hW.a.fam.c3
          have k5 := hW.a.fam.c4
          have k6 := hW.a.fam.c5
          have k7 := hW.a.fam.c6
          have k8 := hW.a.fam.c7
          have k9 := hW.a.fam.c8
          have k10 := hW.a.c10
          have k11 := hW.a.c11
          simp only at k0 k1 k2 k3 k4 k5 k6 k7 k8 k9 k10 k11
          go_simp⟩
        simp only [Act.put, List.setIfInBounds_toArray, List.set_cons_zero, List.set_cons_succ]
        refine RegD.wpAnyD_take 3 (oi := ?oi3) (v := (.agg #[.int .i64 k', .int .i64 g1, .string g2, .string g3, .string g4, .int .i64 g5, .int .i64 g6, .int .i64 g7, .string g8, .bool g9, .int .i64 i', .int .i64 t'])) ?hi3 ?hB3 ?hQ3 ?hy3 hHeld ?rest3
        case hi3 => rfl
        case hB3 => kernel_rfl
        case hQ3 => exact fun _ _ _ h => h
        case hy3 => exact .inl ⟨by rfl, fun W hW => by
          have k0 := hW.b.c0
          have k1 := hW.b.fam.c0
          have k2 := hW.b.fam.c1
          have k3 := hW.b.fam.c2
          have k4 := hW.b.fam.c3
          have k5 := hW.b.fam.c4
          have k6 := hW.b.fam.c5
          have k7 := hW.b.fam.c6
          have k8 := hW.b.fam.c7
          have k9 := hW.b.fam.c8
          have k10 := hW.b.c10
          have k11 := hW.b.c11
          simp only at k0 k1 k2 k3 k4 k5 k6 k7 k8 k9 k10 k11
          go_simp⟩
        simp only [Act.put, List.setIfInBounds_toArray, List.set_cons_zero, List.set_cons_succ]
        refine RegD.wpAnyD_take 5 (oi := ?oi5) (v := (.agg #[.int .i64 0, .int .i64 1, .slice none 0 0])) ?hi5 ?hB5 ?hQ5 ?hy5 hHeld ?rest5
        case hi5 => rfl
        case hB5 => kernel_rfl
        case hQ5 => exact fun _ _ _ h => h
        case hy5 => exact .inl ⟨by rfl, fun W hW => by
          have a0 := hW.s0
          have a1 := hW.s1
          have a2 := hW.s2
          go_simp⟩
        simp only [Act.put, List.setIfInBounds_toArray, List.set_cons_zero, List.set_cons_succ]
        refine RegD.wpAnyD_take 6 (oi := ?oi6) (v := (.agg #[.int .i64 k', .int .i64 g1, .string g2, .string g3, .string g4, .int .i64 g5, .int .i64 g6, .int .i64 g7, .string g8, .bool g9, .int .i64 i', .int .i64 t'])) ?hi6 ?hB6 ?hQ6 ?hy6 hHeld ?rest6
        case hi6 => rfl
        case hB6 => kernel_rfl
        case hQ6 => exact fun _ _ _ h => h
        case hy6 => exact .inl ⟨by rfl, fun W hW => by
          have k0 := hW.b.c0
          have k1 := hW.b.fam.c0
          have k2 := hW.b.fam.c1
          have k3 := hW.b.fam.c2
          have k4 := hW.b.fam.c3
          have k5 := hW.b.fam.c4
          have k6 := hW.b.fam.c5
          have k7 := hW.b.fam.c6
          have k8 := hW.b.fam.c7
          have k9 := hW.b.fam.c8
          have k10 := hW.b.c10
          have k11 := hW.b.c11
          simp only at k0 k1 k2 k3 k4 k5 k6 k7 k8 k9 k10 k11
          go_simp⟩
        simp only [Act.put, List.setIfInBounds_toArray, List.set_cons_zero, List.set_cons_succ]
        refine RegD.wpAnyD_take 8 (oi := ?oi8) (v := (.agg #[.int .i64 k, .int .i64 f1, .string f2, .string f3, .string f4, .int .i64 f5, .int .i64 f6, .int .i64 f7, .string f8, .bool f9, .int .i64 i, .int .i64 t])) ?hi8 ?hB8 ?hQ8 ?hy8 hHeld ?rest8
        case hi8 => rfl
        case hB8 => kernel_rfl
        case hQ8 => exact fun _ _ _ h => h
        case hy8 => exact .inl ⟨by rfl, fun W hW => by
          have k0 := hW.a.c0
          have k1 := hW.a.fam.c0
          have k2 := hW.a.fam.c1
          have k3 := hW.a.fam.c2
          have k4 := hW.a.fam.c3
          have k5 := hW.a.fam.c4
          have k6 := hW.a.fam.c5
          have k7 := hW.a.fam.c6
          have k8 := hW.a.fam.c7
          have k9 := hW.a.fam.c8
          have k10 := hW.a.c10
          have k11 := hW.a.c11
          simp only at k0 k1 k2 k3 k4 k5 k6 k7 k8 k9 k10 k11
          go_simp⟩
        simp only [Act.put, List.setIfInBounds_toArray, List.set_cons_zero, List.set_cons_succ]
        refine RegD.wpAnyD_one 2 (o := ?o2) ?ho2 ?hr2 ?h2
        case ho2 => rfl
        case hr2 => kernel_rfl
        intro K hK
        go_simp
        go_at_call 23
        refine (H1.out _).mono ?_
        rintro e6 w6 ⟨v6, rfl, hf6, hb6⟩
        obtain ⟨ba6, ca6, rfl⟩ := RowsK.slice hf6
        go_wp2_with fail
        have hS2 : B3 w a b c ⟨k, ⟨f1, f2, f3, f4, f5, f6, f7, f8, f9⟩, i, t⟩ ⟨k', ⟨g1, g2, g3, g4, g5, g6, g7, g8, g9⟩, i', t'⟩ w6 := hHeld.on hb6
        refine hK.out _ _ hS2 ?_
        clear hK hHeld
        intro hHeld
        clear hS2 K
        refine RegD.wpAnyD_one 4 (o := ?o4) ?ho4 ?hr4 ?h4
        case ho4 => rfl
        case hr4 => kernel_rfl
        intro K hK
        go_simp
        go_at_call 23
        refine (H2.out _ _ _ hf6).mono ?_
        rintro e7 w7 ⟨v7, rfl, hf7, hb7⟩
        obtain ⟨ba7, ca7, rfl⟩ := RowsK.slice hf7
        go_wp2_with fail
        have hS4 : B3 w a b c ⟨k, ⟨f1, f2, f3, f4, f5, f6, f7, f8, f9⟩, i, t⟩ ⟨k', ⟨g1, g2, g3, g4, g5, g6, g7, g8, g9⟩, i', t'⟩ w7 := hHeld.on hb7
        refine hK.out _ _ hS4 ?_
        clear hK hHeld
        intro hHeld
        clear hS4 K
        refine RegD.wpAnyD_one 7 (o := ?o7) ?ho7 ?hr7 ?h7
        case ho7 => rfl
        case hr7 => kernel_rfl
        intro K hK
        go_simp
        go_at_call 23
        refine (H3.out _).mono ?_
        rintro e8 w8 ⟨v8, rfl, hf8, hb8⟩
        obtain ⟨ba8, ca8, rfl⟩ := RowsK.slice hf8
        go_wp2_with fail
        have hS7 : B3 w a b c ⟨k, ⟨f1, f2, f3, f4, f5, f6, f7, f8, f9⟩, i, t⟩ ⟨k', ⟨g1, g2, g3, g4, g5, g6, g7, g8, g9⟩, i', t'⟩ w8 := hHeld.on hb8
        refine hK.out _ _ hS7 ?_
        clear hK hHeld
        intro hHeld
        clear hS7 K
        refine RegD.wpAnyD_one 9 (o := ?o9) ?ho9 ?hr9 ?h9
        case ho9 => rfl
        case hr9 => kernel_rfl
        intro K hK
        go_simp
        go_at_call 23
        refine (H4.out _ _ _ hf8).mono ?_
        rintro e9 w9 ⟨v9, rfl, hf9, hb9⟩
        obtain ⟨ba9, ca9, rfl⟩ := RowsK.slice hf9
        go_wp2_with fail
        have hS9 : B3 w a b c ⟨k, ⟨f1, f2, f3, f4, f5, f6, f7, f8, f9⟩, i, t⟩ ⟨k', ⟨g1, g2, g3, g4, g5, g6, g7, g8, g9⟩, i', t'⟩ w9 := hHeld.on hb9
        refine hK.out _ _ hS9 ?_
        clear hK hHeld
        intro hHeld
        clear hS9 K
        refine RegD.wpAnyD_one 10 (o := ?o10) ?ho10 ?hr10 ?h10
        case ho10 => rfl
        case hr10 => kernel_rfl
        intro K hK
        go_simp
        go_at_call 22
        refine (same_is s2.clock s2.next (RowsK.below (RowsK.below hf7 hb8 (Nat.le_refl _)) hb9 (Nat.le_refl _)) hf9 HLL.out).mono ?_
        rintro e10 w10 ⟨rfl, hb10⟩
        go_wp2_with fail
        have hS10 : B3 w a b c ⟨k, ⟨f1, f2, f3, f4, f5, f6, f7, f8, f9⟩, i, t⟩ ⟨k', ⟨g1, g2, g3, g4, g5, g6, g7, g8, g9⟩, i', t'⟩ w10 := hHeld.on hb10
        refine hK.out _ _ hS10 ?_
        clear hK hHeld
        intro hHeld
        clear hS10 K
        have HFB : Hid (Below w.heap.size w w10) := by rw [HA.out]; exact HA.out ▸ hHeld.below
        clear hHeld
        refine RegD.wpAnyD_late 11 (o := ?o11) ?ho11 ?hr11 ?hd11 ?h11
        case ho11 => rfl
        case hr11 => kernel_rfl
        case hd11 => kernel_rfl
        intro K hK
        go_simp
        refine hK.out _ _ ?_
        clear hK K
        refine RegD.wpAnyD_done (by kernel_rfl) ?_ _
        go_wp2_with fail
        go_ret
        exact ⟨rfl, HFB.out⟩
      · refine (HFn.out hmf _ (HL.out.below HB4.out.below)).mono ?_
        rintro r5 w5 ⟨rfl, hb5⟩
        have HB5 : Hid (B2 w ⟨k, ⟨f1, f2, f3, f4, f5, f6, f7, f8, f9⟩, i, t⟩ ⟨k', ⟨g1, g2, g3, g4, g5, g6, g7, g8, g9⟩, i', t'⟩ w5) := HB4.out.on hb5
        clear hb5 HB4 HB3 HY hx k0 k1 k2 k3 k4 k5 k6 k7 k8 k9 k10 k11 l0 l1 l2 l3 l4 l5 l6 l7 l8 l9 l10 l11 y0 y1 y2 y3 y4 y5 y6 y7 y8 y9 y10 y11
        go_wp2_with fail
        go_ret
        exact ⟨rfl, HB5.out.below⟩
    · refine (HWn.out hm _ (HL.out.below HB1.out.below)).mono ?_
      rintro r2 w2 ⟨rfl, hb2⟩
      have HB2 : Hid (B2 w ⟨k, ⟨f1, f2, f3, f4, f5, f6, f7, f8, f9⟩, i, t⟩ ⟨k', ⟨g1, g2, g3, g4, g5, g6, g7, g8, g9⟩, i', t'⟩ w2) := HB1.out.on hb2
      clear hb2 HB1 k0 k1 k2 k3 k4 k5 k6 k7 k8 k9 k10 k11
      go_wp2_with fail
      go_ret
      exact ⟨rfl, HB2.out.below⟩
  · unfold lens at hse hsf hsm
    obtain ⟨k, ⟨f1, f2, f3, f4, f5, f6, f7, f8, f9⟩, i, t⟩ := e
    obtain ⟨k', ⟨g1, g2, g3, g4, g5, g6, g7, g8, g9⟩, i', t'⟩ := f
    unfold evV evCs at *
    simp only at hse hsf hsm HB
    have n1 : ¬ 9223372036854775807 < f2.size + f3.size := by omega
    have n2 : ¬ 9223372036854775807 < f2.size + f3.size + f4.size := by omega
    have n3 : ¬ 9223372036854775807 < f2.size + f3.size + f4.size + f8.size := by omega
    have n4 : ¬ 9223372036854775807 < f2.size + f3.size + f4.size + f8.size + g2.size := by omega
    have n5 : ¬ 9223372036854775807 < f2.size + f3.size + f4.size + f8.size + g2.size + g3.size := by omega
    have n6 : ¬ 9223372036854775807 < f2.size + f3.size + f4.size + f8.size + g2.size + g3.size + g4.size := by omega
    have n7 : ¬ 9223372036854775807 < f2.size + f3.size + f4.size + f8.size + g2.size + g3.size + g4.size + g8.size := by omega
    have m1 : (600 : Int) < (f2.size : Int) + f3.size + f4.size + f8.size + g2.size + g3.size + g4.size + g8.size := by omega
    clear hse hsf hsm hL HRB HX
    go_enter Tryz.func6, Tryz.ntmps6
    go_wp2_with fail
    go_ret
    exact ⟨rfl, HB.out.below⟩
end Go.Proofs.YtkggfahcdpgapaaGreatDoor
