/-
  The law EventWrites: an event's line, and what may be a name, are the document's.
-/
import Derived.Test.YtibelcnjmpedkaaGreatDoorEvRefWrite1
import Derived.Test.YtibelcnjmpedkaaGreatDoorEvWrite
import Derived.Test.YtibelcnjmpedkaaGreatDoorErrQ
namespace Go.Proofs.YtibelcnjmpedkaaGreatDoor
open Go Go.RowKit Tok Sc Ev
theorem refWriteE_yes (e : E) (w : World) (h : Ev.may e) (hs : Small 1000 e.fam) (hL : LibsE w) : Calls Tryz.prog 14 #[evV e] w fun r w' => r = .returned (.tuple #[.string (bs8 (line e)), .int .i64 0]) ∧ Below w.heap.size w w' := by
  obtain ⟨k, f, i, t⟩ := e
  rcases h with ⟨hk, hf, hi, ht⟩ | ⟨hk, hf, hi, ht⟩ | ⟨hk, hf, hi, ht⟩ <;> simp only at hk hf hi ht <;> subst hk
  · subst hi; subst ht
    exact refWrite_1 f w hf hs hL
  · subst hf; subst ht
    exact refWrite_2 i w hi hL
  · subst hf; subst hi
    exact refWrite_3 t w ht hL
set_option maxRecDepth 100000 in
set_option maxHeartbeats 8000000 in
theorem eventWritesLaw (e : E) (nm : ByteArray) (w : World) (hs : lens e.fam ≤ 10000000000000000) (hL : LibsE w) (hE : ErrVar w) : Calls Tryz.prog 4 #[evV e, .string nm] w fun r w' => r = .returned (.bool true) ∧ Below w.heap.size w w' := by
  have HL : Hid (LibsE w) := hL
  have HE : Hid (ErrVar w) := hE
  clear hL hE
  have HSH := fun (W : World) => short_is e W hs
  by_cases hsm : lens e.fam ≤ 300
  · rw [decide_eq_true hsm] at HSH
    have hS : Small 1000 e.fam := by unfold lens at hsm; unfold Small; omega
    have HHA := fun (W : World) => happens_is e W
    by_cases hn : nm.size ≤ 60
    · have hn' : (nm.size : Int) ≤ 60 := by omega
      obtain ⟨ln, nq, HRW, HPW⟩ : ∃ (ln : ByteArray) (nq : Nat), Hid (∀ W, LibsE W → Calls Tryz.prog 14 #[evV e] W fun r w' => r = .returned (.tuple #[.string ln, .int .i64 (nq : Int)]) ∧ Below W.heap.size W w') ∧ Hid (∀ W, LibsE W → Calls Tryz.prog 16 #[evV e] W fun r w' => r = .returned (.tuple #[.string ln, errQ nq]) ∧ Below W.heap.size W w') := by
        by_cases hm : Ev.may e
        · exact ⟨bs8 (line e), 0, fun W hW => refWriteE_yes e W hm hS hW, fun W hW => writeE_yes e W hm hS hW⟩
        · exact ⟨⟨#[]⟩, 1, fun W hW => refWrite_no e W hm hS, fun W hW => writeE_no e W hm hS hW.len⟩
      have hbq := bareQ nq
      have HN1 := fun (W : World) => name_is nm W (by omega)
      have HN2 := fun (W : World) => refName_is nm W (by omega)
      clear hs hsm hS
      have hbox := evAt_made w e 40 w.heap.size rfl
      obtain ⟨k, ⟨f1, f2, f3, f4, f5, f6, f7, f8, f9⟩, i, t⟩ := e
      unfold evV evCs at *
      simp only at HSH HHA hbox ⊢
      have HRW2 := HRW.out
      have HPW2 := HPW.out
      simp only at HRW2 HPW2
      clear HRW HPW
      have HB0 : Hid (Below w.heap.size w (w.alloc (.cells #[.int .i64 k, .int .i64 f1, .string f2, .string f3, .string f4, .int .i64 f5, .int .i64 f6, .int .i64 f7, .string f8, .bool f9, .int .i64 i, .int .i64 t] 40))) := (Below.refl _ _).alloc (Nat.le_refl _) _
      go_enter Tryz.func4, Tryz.ntmps4
      go_wp2_with fail
      refine (HSH _).mono ?_
      rintro e1 w1 ⟨rfl, hb1⟩
      have HX1 := hbox.on hb1
      have HB1 : Hid (Below w.heap.size w w1) := HB0.out.trans (hb1.mono HB0.out.size)
      have k0 := HX1.c0; have k1 := HX1.fam.c0; have k2 := HX1.fam.c1; have k3 := HX1.fam.c2; have k4 := HX1.fam.c3; have k5 := HX1.fam.c4; have k6 := HX1.fam.c5; have k7 := HX1.fam.c6; have k8 := HX1.fam.c7; have k9 := HX1.fam.c8; have k10 := HX1.c10; have k11 := HX1.c11
      simp only at k0 k1 k2 k3 k4 k5 k6 k7 k8 k9 k10 k11
      have HX1' : Hid _ := HX1
      clear HX1 hb1 hbox
      go_wp2_with fail
      refine (HHA _).mono ?_
      rintro e2 w2 ⟨rfl, hb2⟩
      have HX2 := HX1'.out.on hb2
      have HB2 : Hid (Below w.heap.size w w2) := HB1.out.trans (hb2.mono HB1.out.size)
      have HX2' : Hid _ := HX2
      clear hb2 k0 k1 k2 k3 k4 k5 k6 k7 k8 k9 k10 k11 HX2
      go_wp2_with fail
      refine (HRW2 _ (HL.out.below HB2.out)).mono ?_
      rintro e3 w3 ⟨rfl, hb3⟩
      have HX3 := HX2'.out.on hb3
      have HB3 : Hid (Below w.heap.size w w3) := HB2.out.trans (hb3.mono HB2.out.size)
      have k0 := HX3.c0; have k1 := HX3.fam.c0; have k2 := HX3.fam.c1; have k3 := HX3.fam.c2; have k4 := HX3.fam.c3; have k5 := HX3.fam.c4; have k6 := HX3.fam.c5; have k7 := HX3.fam.c6; have k8 := HX3.fam.c7; have k9 := HX3.fam.c8; have k10 := HX3.c10; have k11 := HX3.c11
      simp only at k0 k1 k2 k3 k4 k5 k6 k7 k8 k9 k10 k11
      clear hb3 HX3
      go_wp2_with fail
      refine (HPW2 _ (HL.out.below HB3.out)).mono ?_
      rintro e4 w4 ⟨rfl, hb4⟩
      have HB4 : Hid (Below w.heap.size w w4) := HB3.out.trans (hb4.mono HB3.out.size)
      clear hb4 k0 k1 k2 k3 k4 k5 k6 k7 k8 k9 k10 k11
      generalize errQ nq = ev at *
      go_wp2_with fail
      refine (hbq _ (HE.out.on (HB4.out))).mono ?_
      rintro e5 w5 ⟨rfl, hb5⟩
      have HB5 : Hid (Below w.heap.size w w5) := HB4.out.trans (hb5.mono HB4.out.size)
      clear hb5
      go_wp2_with fail
      refine (HN1 _).mono ?_
      rintro e6 w6 ⟨rfl, rfl⟩
      go_wp2_with fail
      refine (HN2 _).mono ?_
      rintro e7 w7 ⟨rfl, rfl⟩
      go_wp2_with fail
      go_ret
      exact ⟨by simp, HB5.out⟩
    · have hn' : ¬ (nm.size : Int) ≤ 60 := by omega
      have hn'' : (60 : Int) < (nm.size : Int) := by omega
      clear hs hsm hS HHA
      obtain ⟨k, ⟨f1, f2, f3, f4, f5, f6, f7, f8, f9⟩, i, t⟩ := e
      unfold evV evCs at *
      simp only at HSH ⊢
      have HB0 : Hid (Below w.heap.size w (w.alloc (.cells #[.int .i64 k, .int .i64 f1, .string f2, .string f3, .string f4, .int .i64 f5, .int .i64 f6, .int .i64 f7, .string f8, .bool f9, .int .i64 i, .int .i64 t] 40))) := (Below.refl _ _).alloc (Nat.le_refl _) _
      go_enter Tryz.func4, Tryz.ntmps4
      go_wp2_with fail
      refine (HSH _).mono ?_
      rintro e1 w1 ⟨rfl, hb1⟩
      have HB1 : Hid (Below w.heap.size w w1) := HB0.out.trans (hb1.mono HB0.out.size)
      clear hb1
      go_wp2_with fail
      go_ret
      exact ⟨rfl, HB1.out⟩
  · rw [decide_eq_false hsm] at HSH
    clear hs hsm
    obtain ⟨k, ⟨f1, f2, f3, f4, f5, f6, f7, f8, f9⟩, i, t⟩ := e
    unfold evV evCs at *
    simp only at HSH ⊢
    have HB0 : Hid (Below w.heap.size w (w.alloc (.cells #[.int .i64 k, .int .i64 f1, .string f2, .string f3, .string f4, .int .i64 f5, .int .i64 f6, .int .i64 f7, .string f8, .bool f9, .int .i64 i, .int .i64 t] 40))) := (Below.refl _ _).alloc (Nat.le_refl _) _
    go_enter Tryz.func4, Tryz.ntmps4
    go_wp2_with fail
    refine (HSH _).mono ?_
    rintro e1 w1 ⟨rfl, hb1⟩
    have HB1 : Hid (Below w.heap.size w w1) := HB0.out.trans (hb1.mono HB0.out.size)
    clear hb1
    go_wp2_with fail
    go_ret
    exact ⟨rfl, HB1.out⟩
end Go.Proofs.YtibelcnjmpedkaaGreatDoor
