/-
  Own texts put together: SvP8, SvNew, SvLive, MapGen.
-/
import Derived.Test.YtlailakofhenkabGreatDoorB29
import Derived.Test.YtlailakofhenkabGreatDoorB1
import Derived.WalkKit
import Derived.Maps.OwnOps
import Derived.Maps.OwnSet
import Derived.Maps.StringElems
import Derived.Maps.Views
import Derived.StringKeys
namespace Go.Proofs.YtlailakofhenkabGreatDoor
open Go Go.RowKit Tok Sc Ev
set_option maxRecDepth 100000 in
set_option maxHeartbeats 8000000 in
theorem rotate_is (N : Nat) (w : World) (gv gs gd : Nat) (r : Rul) (p : Pub) (v : Value) (text request sc : ByteArray) (t : T) (n : Nat) (l : List Word) (m : Nat) (b : Bool) (h : SvIs N w gv gs gd r p v) (ht : text.size ≤ 5000) (hrq : request.size ≤ 5000) (hsc : sc.size ≤ 5000) (hto : Tok.Out (tag r.key) text.data.toList t n) (ho : Sc.Out sc.data.toList l m) (hw : lookM r p.st 1 t n = 0 → m = 0 → WOut (joined l) (famM p.st t).scope.data.toList b 0) (hN : N < 98000) :
    Calls Tryz.prog 29 #[.pointer (some ⟨gv, 0, none⟩), .string text, .string request, .string sc] w fun x w' => x = .returned (.tuple #[.string (rotateM (txtB r) r p (nameB request.data.toList) request t n ⟨(joined l).toArray⟩ m b).2.1, errQ (rotateM (txtB r) r p (nameB request.data.toList) request t n ⟨(joined l).toArray⟩ m b).2.2]) ∧ ∃ v', SPto N gs gd v w w' (rotateM (txtB r) r p (nameB request.data.toList) request t n ⟨(joined l).toArray⟩ m b).1 v' := by
  have HS : Hid (SvIs N w gv gs gd r p v) := h
  have hn1 := fun (W : World) => name_is request W (by omega)
  have hlk := look_is N w gv gs gd r p v text 1 t n (lookM r p.st 1 t n) h ht hto rfl
  have HFM : Hid (lookM r p.st 1 t n = 0 → mayF (famM p.st t)) := fun he => fam_may h.sp.ok.good (look_fam (look_ok he).1).2.2.1
  have HTU : Hid (nameB request.data.toList = true → lookM r p.st 1 t n = 0 → ∀ (W : World), SvIs N W gv gs gd r p v → Calls Tryz.prog 76 #[.pointer (some ⟨gv, 0, none⟩), famV (famM p.st t), .string request, .string sc] W fun e w' => e = .returned (.tuple #[.string (turnM (txtB r) p (famM p.st t) request ⟨(joined l).toArray⟩ m b).2.1, errQ (turnM (txtB r) p (famM p.st t) request ⟨(joined l).toArray⟩ m b).2.2]) ∧ ∃ v', SPto N gs gd v W w' (turnM (txtB r) p (famM p.st t) request ⟨(joined l).toArray⟩ m b).1 v') := fun hr he W hW => turn_is N W gv gs gd r p v (famM p.st t) request sc l m b hW (HFM.out he) hr hsc ho (hw he) hN
  have HRF : Hid (lookM r p.st 1 t n = 0 → ∀ (W : World), SvIs N W gv gs gd r p v → Calls Tryz.prog 77 #[.pointer (some ⟨gv, 0, none⟩), famV (famM p.st t)] W fun e w' => e = .returned (.tuple #[.string (txtB r ⟨1, (famM p.st t).id, (famM p.st t).gen, 0⟩), .nilIface]) ∧ Below W.heap.size W w') := fun he W hW => refresh_is N W gv gs gd r p v (famM p.st t) hW (HFM.out he)
  have HSO : Hid (lookM r p.st 1 t n = 0 → ∀ (W : World), SvIs N W gv gs gd r p v → Calls Tryz.prog 78 #[.pointer (some ⟨gv, 0, none⟩), famV (famM p.st t)] W fun e w' => e = .returned (errQ (spoilM p (famM p.st t)).2.2) ∧ ∃ v', SPto N gs gd v W w' (spoilM p (famM p.st t)).1 v') := fun he W hW => spoil_is N W gv gs gd r p v (famM p.st t) hW (HFM.out he) hN
  have HGN : Hid (lookM r p.st 1 t n = 0 → 0 ≤ (famM p.st t).gen ∧ (famM p.st t).gen ≤ 1099511627776) := fun he => (HFM.out he).1.2.1
  have HSN : Hid ((spoilM p (famM p.st t)).2.1 = noT) := rfl
  generalize (⟨(joined l).toArray⟩ : ByteArray) = J at *
  clear h hto ho hw ht hsc hrq HFM
  unfold rotateM
  cases h1 : nameB request.data.toList with
  | false =>
    rw [h1] at hn1
    rw [if_pos rfl]
    clear h1
    go_enter Tryz.func29, Tryz.ntmps29
    go_wp2_with fail
    refine (hn1 _).mono ?_
    rintro e1 w1 ⟨rfl, hw⟩
    obtain rfl : w = w1 := hw.symm
    go_wp2_with fail
    go_ret2
    exact ⟨rfl, _, SPto.same HS.out.sp (Below.refl _ _)⟩
  | true =>
    rw [h1] at hn1 HTU
    rw [if_neg (by simp)]
    clear h1
    generalize lookM r p.st 1 t n = e at *
    generalize famM p.st t = f at *
    cases e with
    | succ e =>
      rw [if_neg (by omega), if_neg (by omega)] at hlk
      rw [if_pos (by omega)]
      unfold tokV famV famCs zero zeroF at hlk
      simp only at hlk
      go_enter Tryz.func29, Tryz.ntmps29
      go_wp2_with fail
      refine (hn1 _).mono ?_
      rintro e1 w1 ⟨rfl, hw⟩
      obtain rfl : w = w1 := hw.symm
      go_wp2_with fail
      refine hlk.mono ?_
      rintro e2 w2 ⟨rfl, hb2⟩
      have HB2 : Hid (Below w.heap.size w w2) := hb2
      rw [errQ_succ]
      clear hlk hb2
      go_wp2_with fail
      go_ret2
      refine ⟨rfl, _, SPto.same HS.out.sp ?_⟩
      repeat (first | exact HB2.out | refine Below.alloc ?_ (by have := HB2.out.size; simp; try omega) _)
    | zero =>
      rw [if_pos rfl, if_pos rfl] at hlk
      rw [if_neg (by omega)]
      obtain ⟨tk, tf, tg, te⟩ := t
      have HG : Hid _ := HGN.out (by trivial)
      have htu := HTU.out (by trivial) (by trivial)
      have hrf := HRF.out (by trivial)
      have hso := HSO.out (by trivial)
      have HTU2 : Hid _ := htu
      have HRF2 : Hid _ := hrf
      have HSO2 : Hid _ := hso
      clear htu hrf hso HTU HRF HSO HGN
      by_cases hg : tg = f.gen
      · rw [if_pos hg]
        generalize turnM (txtB r) p f request J m b = Q at *
        obtain ⟨f1, f2, f3, f4, f5, f6, f7, f8, f9⟩ := f
        simp only at hg
        subst hg
        have htu := HTU2.out
        have hrf := HRF2.out
        have hso := HSO2.out
        unfold famV famCs at htu hrf hso
        simp only at htu hrf hso
        have HTU3 : Hid _ := htu
        have HRF3 : Hid _ := hrf
        have HSO3 : Hid _ := hso
        clear htu hrf hso HTU2 HRF2 HSO2
        unfold tokV famV famCs at hlk
        simp only at hlk
        go_enter Tryz.func29, Tryz.ntmps29
        go_wp2_with fail
        refine (hn1 _).mono ?_
        rintro e1 w1 ⟨rfl, hw⟩
        obtain rfl : w = w1 := hw.symm
        go_wp2_with fail
        refine hlk.mono ?_
        rintro e2 w1 ⟨rfl, hb2⟩
        rw [show errQ 0 = .nilIface from rfl]
        have hb3 : Below w1.heap.size w1 ((w1.alloc (.cells #[.int .i64 tk, .int .i64 tf, .int .i64 tg, .int .i64 te] 142)).alloc (.cells #[.int .i64 f1, .string f2, .string f3, .string f4, .int .i64 tg, .int .i64 f6, .int .i64 f7, .string f8, .bool f9] 40)) := ((Below.refl _ _).alloc (Nat.le_refl _) _).alloc (by simp) _
        have HS3 : Hid (SvIs N ((w1.alloc (.cells #[.int .i64 tk, .int .i64 tf, .int .i64 tg, .int .i64 te] 142)).alloc (.cells #[.int .i64 f1, .string f2, .string f3, .string f4, .int .i64 tg, .int .i64 f6, .int .i64 f7, .string f8, .bool f9] 40)) gv gs gd r p v) := (HS.out.on hb2).on hb3
        have HB3 : Hid (Below w.heap.size w ((w1.alloc (.cells #[.int .i64 tk, .int .i64 tf, .int .i64 tg, .int .i64 te] 142)).alloc (.cells #[.int .i64 f1, .string f2, .string f3, .string f4, .int .i64 tg, .int .i64 f6, .int .i64 f7, .string f8, .bool f9] 40))) := hb2.trans (hb3.mono hb2.size)
        have HT3 : Hid (TB ((w1.alloc (.cells #[.int .i64 tk, .int .i64 tf, .int .i64 tg, .int .i64 te] 142)).alloc (.cells #[.int .i64 f1, .string f2, .string f3, .string f4, .int .i64 tg, .int .i64 f6, .int .i64 f7, .string f8, .bool f9] 40)) w1.heap.size ⟨tk, tf, tg, te⟩) := (TB.made w1 ⟨tk, tf, tg, te⟩ _).on ((Below.refl _ _).alloc (Nat.le_refl _) _)
        have hsz : (w1.alloc (.cells #[.int .i64 tk, .int .i64 tf, .int .i64 tg, .int .i64 te] 142)).heap.size = w1.heap.size + 1 := by simp
        have HF3 : Hid (FB ((w1.alloc (.cells #[.int .i64 tk, .int .i64 tf, .int .i64 tg, .int .i64 te] 142)).alloc (.cells #[.int .i64 f1, .string f2, .string f3, .string f4, .int .i64 tg, .int .i64 f6, .int .i64 f7, .string f8, .bool f9] 40)) (w1.heap.size + 1) ⟨f1, f2, f3, f4, tg, f6, f7, f8, f9⟩) := by rw [← hsz]; exact FB.made _ ⟨f1, f2, f3, f4, tg, f6, f7, f8, f9⟩ _
        have HZ : Hid _ := hsz
        clear hlk hb2 hb3 hsz
        go_upto_region 4 with fail
        have t2 := HT3.out.c2
        have z0 := HF3.out.c0; have z1 := HF3.out.c1; have z2 := HF3.out.c2; have z3 := HF3.out.c3; have z4 := HF3.out.c4; have z5 := HF3.out.c5; have z6 := HF3.out.c6; have z7 := HF3.out.c7; have z8 := HF3.out.c8
        simp only at t2 z0 z1 z2 z3 z4 z5 z6 z7 z8
        clear HT3 HF3
        generalize hWW : ((w1.alloc (.cells #[.int .i64 tk, .int .i64 tf, .int .i64 tg, .int .i64 te] 142)).alloc (.cells #[.int .i64 f1, .string f2, .string f3, .string f4, .int .i64 tg, .int .i64 f6, .int .i64 f7, .string f8, .bool f9] 40)) = W3 at *
        clear hWW HZ
        generalize w1.heap.size = gq at *
        go_wp2_with fail
        refine (HTU3.out _ HS3.out).mono ?_
        rintro e4 w4 ⟨rfl, v4, hto⟩
        have HTO : Hid _ := hto.pre HB3.out
        clear hto
        go_wp2_with fail
        go_ret2
        exact ⟨rfl, _, HTO.out⟩
      · rw [if_neg hg]
        by_cases hx : tg = f.gen - 1 ∧ request = f.request
        · rw [if_pos hx]
          obtain ⟨hx1, hx2⟩ := hx
          obtain ⟨f1, f2, f3, f4, f5, f6, f7, f8, f9⟩ := f
          simp only at hx1 hx2 hg
          have hg0 : 0 ≤ f5 ∧ f5 ≤ 1099511627776 := HG.out
          obtain ⟨hg1, hg2⟩ := hg0
          subst hx2
          have hgb : (tg == f5) = false := by simp [hg]
          have hge : (tg == f5 - 1) = true := by simp [hx1]
          have HX1 : Hid (tg = f5 - 1) := hx1
          clear hx1
          have htu := HTU2.out
          have hrf := HRF2.out
          have hso := HSO2.out
          unfold famV famCs at htu hrf hso
          simp only at htu hrf hso
          have HTU3 : Hid _ := htu
          have HRF3 : Hid _ := hrf
          have HSO3 : Hid _ := hso
          clear htu hrf hso HTU2 HRF2 HSO2
          unfold tokV famV famCs at hlk
          simp only at hlk
          go_enter Tryz.func29, Tryz.ntmps29
          go_wp2_with fail
          refine (hn1 _).mono ?_
          rintro e1 w1 ⟨rfl, hw⟩
          obtain rfl : w = w1 := hw.symm
          go_wp2_with fail
          refine hlk.mono ?_
          rintro e2 w1 ⟨rfl, hb2⟩
          rw [show errQ 0 = .nilIface from rfl]
          have hb3 : Below w1.heap.size w1 ((w1.alloc (.cells #[.int .i64 tk, .int .i64 tf, .int .i64 tg, .int .i64 te] 142)).alloc (.cells #[.int .i64 f1, .string f2, .string f3, .string f4, .int .i64 f5, .int .i64 f6, .int .i64 f7, .string request, .bool f9] 40)) := ((Below.refl _ _).alloc (Nat.le_refl _) _).alloc (by simp) _
          have HS3 : Hid (SvIs N ((w1.alloc (.cells #[.int .i64 tk, .int .i64 tf, .int .i64 tg, .int .i64 te] 142)).alloc (.cells #[.int .i64 f1, .string f2, .string f3, .string f4, .int .i64 f5, .int .i64 f6, .int .i64 f7, .string request, .bool f9] 40)) gv gs gd r p v) := (HS.out.on hb2).on hb3
          have HB3 : Hid (Below w.heap.size w ((w1.alloc (.cells #[.int .i64 tk, .int .i64 tf, .int .i64 tg, .int .i64 te] 142)).alloc (.cells #[.int .i64 f1, .string f2, .string f3, .string f4, .int .i64 f5, .int .i64 f6, .int .i64 f7, .string request, .bool f9] 40))) := hb2.trans (hb3.mono hb2.size)
          have HT3 : Hid (TB ((w1.alloc (.cells #[.int .i64 tk, .int .i64 tf, .int .i64 tg, .int .i64 te] 142)).alloc (.cells #[.int .i64 f1, .string f2, .string f3, .string f4, .int .i64 f5, .int .i64 f6, .int .i64 f7, .string request, .bool f9] 40)) w1.heap.size ⟨tk, tf, tg, te⟩) := (TB.made w1 ⟨tk, tf, tg, te⟩ _).on ((Below.refl _ _).alloc (Nat.le_refl _) _)
          have hsz : (w1.alloc (.cells #[.int .i64 tk, .int .i64 tf, .int .i64 tg, .int .i64 te] 142)).heap.size = w1.heap.size + 1 := by simp
          have HF3 : Hid (FB ((w1.alloc (.cells #[.int .i64 tk, .int .i64 tf, .int .i64 tg, .int .i64 te] 142)).alloc (.cells #[.int .i64 f1, .string f2, .string f3, .string f4, .int .i64 f5, .int .i64 f6, .int .i64 f7, .string request, .bool f9] 40)) (w1.heap.size + 1) ⟨f1, f2, f3, f4, f5, f6, f7, request, f9⟩) := by rw [← hsz]; exact FB.made _ ⟨f1, f2, f3, f4, f5, f6, f7, request, f9⟩ _
          have HZ : Hid _ := hsz
          clear hlk hb2 hb3 hsz
          go_upto_region 4 with fail
          have t2 := HT3.out.c2
          have z0 := HF3.out.c0; have z1 := HF3.out.c1; have z2 := HF3.out.c2; have z3 := HF3.out.c3; have z4 := HF3.out.c4; have z5 := HF3.out.c5; have z6 := HF3.out.c6; have z7 := HF3.out.c7; have z8 := HF3.out.c8
          simp only at t2 z0 z1 z2 z3 z4 z5 z6 z7 z8
          clear HT3 HF3
          generalize hWW : ((w1.alloc (.cells #[.int .i64 tk, .int .i64 tf, .int .i64 tg, .int .i64 te] 142)).alloc (.cells #[.int .i64 f1, .string f2, .string f3, .string f4, .int .i64 f5, .int .i64 f6, .int .i64 f7, .string request, .bool f9] 40)) = W3 at *
          clear hWW HZ
          generalize w1.heap.size = gq at *
          go_wp2_with fail
          refine (HRF3.out _ HS3.out).mono ?_
          rintro e4 w4 ⟨rfl, hb4⟩
          have HTO : Hid _ := (SPto.same (N := N) HS3.out.sp hb4).pre HB3.out
          clear hb4
          go_wp2_with fail
          go_ret2
          exact ⟨rfl, _, HTO.out⟩
        · rw [if_neg hx]
          rw [HSN.out]
          generalize spoilM p f = Q at *
          have HXN : Hid (¬ (tg = f.gen - 1 ∧ request = f.request)) := hx
          obtain ⟨f1, f2, f3, f4, f5, f6, f7, f8, f9⟩ := f
          simp only at hg
          have hg0 : 0 ≤ f5 ∧ f5 ≤ 1099511627776 := HG.out
          obtain ⟨hg1, hg2⟩ := hg0
          have hgb : (tg == f5) = false := by simp [hg]
          clear hx
          by_cases hx1 : tg = f5 - 1
          · have hx2 : ¬ request = f8 := fun hh => HXN.out ⟨hx1, hh⟩
            have hge : (tg == f5 - 1) = true := by simp [hx1]
            have k1 : Hid (request.toList = f8.toList → False) := fun a => hx2 (by
              rw [ByteArray.toList_eq, ByteArray.toList_eq] at a
              exact ByteArray.ext (Array.toList_inj.1 a))
            clear hx2
            have HX1 : Hid (tg = f5 - 1) := hx1
            clear hx1
            have htu := HTU2.out
            have hrf := HRF2.out
            have hso := HSO2.out
            unfold famV famCs at htu hrf hso
            simp only at htu hrf hso
            have HTU3 : Hid _ := htu
            have HRF3 : Hid _ := hrf
            have HSO3 : Hid _ := hso
            clear htu hrf hso HTU2 HRF2 HSO2
            unfold tokV famV famCs at hlk
            simp only at hlk
            go_enter Tryz.func29, Tryz.ntmps29
            go_wp2_with fail
            refine (hn1 _).mono ?_
            rintro e1 w1 ⟨rfl, hw⟩
            obtain rfl : w = w1 := hw.symm
            go_wp2_with fail
            refine hlk.mono ?_
            rintro e2 w1 ⟨rfl, hb2⟩
            rw [show errQ 0 = .nilIface from rfl]
            have hb3 : Below w1.heap.size w1 ((w1.alloc (.cells #[.int .i64 tk, .int .i64 tf, .int .i64 tg, .int .i64 te] 142)).alloc (.cells #[.int .i64 f1, .string f2, .string f3, .string f4, .int .i64 f5, .int .i64 f6, .int .i64 f7, .string f8, .bool f9] 40)) := ((Below.refl _ _).alloc (Nat.le_refl _) _).alloc (by simp) _
            have HS3 : Hid (SvIs N ((w1.alloc (.cells #[.int .i64 tk, .int .i64 tf, .int .i64 tg, .int .i64 te] 142)).alloc (.cells #[.int .i64 f1, .string f2, .string f3, .string f4, .int .i64 f5, .int .i64 f6, .int .i64 f7, .string f8, .bool f9] 40)) gv gs gd r p v) := (HS.out.on hb2).on hb3
            have HB3 : Hid (Below w.heap.size w ((w1.alloc (.cells #[.int .i64 tk, .int .i64 tf, .int .i64 tg, .int .i64 te] 142)).alloc (.cells #[.int .i64 f1, .string f2, .string f3, .string f4, .int .i64 f5, .int .i64 f6, .int .i64 f7, .string f8, .bool f9] 40))) := hb2.trans (hb3.mono hb2.size)
            have HT3 : Hid (TB ((w1.alloc (.cells #[.int .i64 tk, .int .i64 tf, .int .i64 tg, .int .i64 te] 142)).alloc (.cells #[.int .i64 f1, .string f2, .string f3, .string f4, .int .i64 f5, .int .i64 f6, .int .i64 f7, .string f8, .bool f9] 40)) w1.heap.size ⟨tk, tf, tg, te⟩) := (TB.made w1 ⟨tk, tf, tg, te⟩ _).on ((Below.refl _ _).alloc (Nat.le_refl _) _)
            have hsz : (w1.alloc (.cells #[.int .i64 tk, .int .i64 tf, .int .i64 tg, .int .i64 te] 142)).heap.size = w1.heap.size + 1 := by simp
            have HF3 : Hid (FB ((w1.alloc (.cells #[.int .i64 tk, .int .i64 tf, .int .i64 tg, .int .i64 te] 142)).alloc (.cells #[.int .i64 f1, .string f2, .string f3, .string f4, .int .i64 f5, .int .i64 f6, .int .i64 f7, .string f8, .bool f9] 40)) (w1.heap.size + 1) ⟨f1, f2, f3, f4, f5, f6, f7, f8, f9⟩) := by rw [← hsz]; exact FB.made _ ⟨f1, f2, f3, f4, f5, f6, f7, f8, f9⟩ _
            have HZ : Hid _ := hsz
            clear hlk hb2 hb3 hsz
            go_upto_region 4 with fail
            have t2 := HT3.out.c2
            have z0 := HF3.out.c0; have z1 := HF3.out.c1; have z2 := HF3.out.c2; have z3 := HF3.out.c3; have z4 := HF3.out.c4; have z5 := HF3.out.c5; have z6 := HF3.out.c6; have z7 := HF3.out.c7; have z8 := HF3.out.c8
            simp only at t2 z0 z1 z2 z3 z4 z5 z6 z7 z8
            clear HT3 HF3
            generalize hWW : ((w1.alloc (.cells #[.int .i64 tk, .int .i64 tf, .int .i64 tg, .int .i64 te] 142)).alloc (.cells #[.int .i64 f1, .string f2, .string f3, .string f4, .int .i64 f5, .int .i64 f6, .int .i64 f7, .string f8, .bool f9] 40)) = W3 at *
            clear hWW HZ
            generalize w1.heap.size = gq at *
            go_wp2_with fail
            all_goals first
              | exact (k1.out (by assumption)).elim
              | exact (k1.out (by simpa using ‹(request.toList == f8.toList) = true›)).elim
              | (refine (HSO3.out _ HS3.out).mono ?_
                 rintro e4 w4 ⟨rfl, v4, hto⟩
                 have HTO : Hid _ := hto.pre HB3.out
                 clear hto
                 go_wp2_with fail
                 go_ret2
                 exact ⟨rfl, _, HTO.out⟩)
          · have hge : (tg == f5 - 1) = false := by simp [hx1]
            have htu := HTU2.out
            have hrf := HRF2.out
            have hso := HSO2.out
            unfold famV famCs at htu hrf hso
            simp only at htu hrf hso
            have HTU3 : Hid _ := htu
            have HRF3 : Hid _ := hrf
            have HSO3 : Hid _ := hso
            clear htu hrf hso HTU2 HRF2 HSO2
            unfold tokV famV famCs at hlk
            simp only at hlk
            go_enter Tryz.func29, Tryz.ntmps29
            go_wp2_with fail
            refine (hn1 _).mono ?_
            rintro e1 w1 ⟨rfl, hw⟩
            obtain rfl : w = w1 := hw.symm
            go_wp2_with fail
            refine hlk.mono ?_
            rintro e2 w1 ⟨rfl, hb2⟩
            rw [show errQ 0 = .nilIface from rfl]
            have hb3 : Below w1.heap.size w1 ((w1.alloc (.cells #[.int .i64 tk, .int .i64 tf, .int .i64 tg, .int .i64 te] 142)).alloc (.cells #[.int .i64 f1, .string f2, .string f3, .string f4, .int .i64 f5, .int .i64 f6, .int .i64 f7, .string f8, .bool f9] 40)) := ((Below.refl _ _).alloc (Nat.le_refl _) _).alloc (by simp) _
            have HS3 : Hid (SvIs N ((w1.alloc (.cells #[.int .i64 tk, .int .i64 tf, .int .i64 tg, .int .i64 te] 142)).alloc (.cells #[.int .i64 f1, .string f2, .string f3, .string f4, .int .i64 f5, .int .i64 f6, .int .i64 f7, .string f8, .bool f9] 40)) gv gs gd r p v) := (HS.out.on hb2).on hb3
            have HB3 : Hid (Below w.heap.size w ((w1.alloc (.cells #[.int .i64 tk, .int .i64 tf, .int .i64 tg, .int .i64 te] 142)).alloc (.cells #[.int .i64 f1, .string f2, .string f3, .string f4, .int .i64 f5, .int .i64 f6, .int .i64 f7, .string f8, .bool f9] 40))) := hb2.trans (hb3.mono hb2.size)
            have HT3 : Hid (TB ((w1.alloc (.cells #[.int .i64 tk, .int .i64 tf, .int .i64 tg, .int .i64 te] 142)).alloc (.cells #[.int .i64 f1, .string f2, .string f3, .string f4, .int .i64 f5, .int .i64 f6, .int .i64 f7, .string f8, .bool f9] 40)) w1.heap.size ⟨tk, tf, tg, te⟩) := (TB.made w1 ⟨tk, tf, tg, te⟩ _).on ((Below.refl _ _).alloc (Nat.le_refl _) _)
            have hsz : (w1.alloc (.cells #[.int .i64 tk, .int .i64 tf, .int .i64 tg, .int .i64 te] 142)).heap.size = w1.heap.size + 1 := by simp
            have HF3 : Hid (FB ((w1.alloc (.cells #[.int .i64 tk, .int .i64 tf, .int .i64 tg, .int .i64 te] 142)).alloc (.cells #[.int .i64 f1, .string f2, .string f3, .string f4, .int .i64 f5, .int .i64 f6, .int .i64 f7, .string f8, .bool f9] 40)) (w1.heap.size + 1) ⟨f1, f2, f3, f4, f5, f6, f7, f8, f9⟩) := by rw [← hsz]; exact FB.made _ ⟨f1, f2, f3, f4, f5, f6, f7, f8, f9⟩ _
            have HZ : Hid _ := hsz
            clear hlk hb2 hb3 hsz
            go_upto_region 4 with fail
            have t2 := HT3.out.c2
            have z0 := HF3.out.c0; have z1 := HF3.out.c1; have z2 := HF3.out.c2; have z3 := HF3.out.c3; have z4 := HF3.out.c4; have z5 := HF3.out.c5; have z6 := HF3.out.c6; have z7 := HF3.out.c7; have z8 := HF3.out.c8
            simp only at t2 z0 z1 z2 z3 z4 z5 z6 z7 z8
            clear HT3 HF3
            generalize hWW : ((w1.alloc (.cells #[.int .i64 tk, .int .i64 tf, .int .i64 tg, .int .i64 te] 142)).alloc (.cells #[.int .i64 f1, .string f2, .string f3, .string f4, .int .i64 f5, .int .i64 f6, .int .i64 f7, .string f8, .bool f9] 40)) = W3 at *
            clear hWW HZ
            generalize w1.heap.size = gq at *
            go_wp2_with fail
            refine (HSO3.out _ HS3.out).mono ?_
            rintro e4 w4 ⟨rfl, v4, hto⟩
            have HTO : Hid _ := hto.pre HB3.out
            clear hto
            go_wp2_with fail
            go_ret2
            exact ⟨rfl, _, HTO.out⟩
end Go.Proofs.YtlailakofhenkabGreatDoor

namespace Go.Proofs.YtlailakofhenkabGreatDoor
open Go Go.RowKit Tok Sc Ev
set_option maxRecDepth 100000 in
set_option maxHeartbeats 4000000 in
theorem new_is (N : Nat) (w : World) (gs gd : Nat) (k i l a : Int) (p : Pub) (v : Value) (h : SP N w gs gd p v) (hL : LibsR w) (hr : RulOk ⟨k, i, l, a⟩) (ho : OldsR gd) :
    Calls Tryz.prog 22 #[.pointer (some ⟨gs, 0, none⟩), .agg #[.int .i64 k, .int .i64 i, .int .i64 l, .int .i64 a]] w fun e w' => ∃ gv, e = .returned (.tuple #[.pointer (some ⟨gv, 0, none⟩), .nilIface]) ∧ w.heap.size ≤ gv ∧ SvIs N w' gv gs gd ⟨k, i, l, a⟩ p v ∧ Below w.heap.size w w' := by
  have hsz : (w.alloc (.cells #[.int .i64 k, .int .i64 i, .int .i64 l, .int .i64 a] 54)).heap.size = w.heap.size + 1 := by simp
  have HB : Hid (Below w.heap.size w ((w.alloc (.cells #[.int .i64 k, .int .i64 i, .int .i64 l, .int .i64 a] 54)).alloc (.cells #[.pointer (some ⟨gs, 0, none⟩), .int .i64 k, .int .i64 i, .int .i64 l, .int .i64 a] 129))) := ((Below.refl _ _).alloc (Nat.le_refl _) _).alloc (by simp) _
  have hbx : SvAt ((w.alloc (.cells #[.int .i64 k, .int .i64 i, .int .i64 l, .int .i64 a] 54)).alloc (.cells #[.pointer (some ⟨gs, 0, none⟩), .int .i64 k, .int .i64 i, .int .i64 l, .int .i64 a] 129)) (w.heap.size + 1) gs ⟨k, i, l, a⟩ := by
    rw [← hsz]
    refine ⟨?_, ?_, ?_, ?_, ?_, by simp⟩ <;> exact (World.cell?_alloc_at _ _ _ _ rfl).trans rfl
  have HS : Hid (SvIs N ((w.alloc (.cells #[.int .i64 k, .int .i64 i, .int .i64 l, .int .i64 a] 54)).alloc (.cells #[.pointer (some ⟨gs, 0, none⟩), .int .i64 k, .int .i64 i, .int .i64 l, .int .i64 a] 129)) (w.heap.size + 1) gs gd ⟨k, i, l, a⟩ p v) := ⟨h.on HB.out, hbx, hL.on HB.out, hr, by have := h.lt; omega, NotIn.past h.fam (Nat.le_succ _), ho⟩
  have i1 := fun (W : World) => inB_is k W
  have i2 := fun (W : World) => inB_is i W
  have i3 := fun (W : World) => inB_is l W
  have i4 := fun (W : World) => inB_is a W
  rw [okB_t hr.key] at i1
  rw [okB_t hr.idle] at i2
  rw [okB_t hr.life] at i3
  rw [okB_t hr.access] at i4
  have HB1 : Hid (Below w.heap.size w (w.alloc (.cells #[.int .i64 k, .int .i64 i, .int .i64 l, .int .i64 a] 54))) := (Below.refl _ _).alloc (Nat.le_refl _) _
  clear h hL hr ho hbx hsz
  go_enter Tryz.func22, Tryz.ntmps22
  go_wp2_with fail
  refine (i1 _).mono ?_
  rintro e1 w1 ⟨rfl, rfl⟩
  go_wp2_with fail
  refine (i2 _).mono ?_
  rintro e1 w1 ⟨rfl, rfl⟩
  go_wp2_with fail
  refine (i3 _).mono ?_
  rintro e1 w1 ⟨rfl, rfl⟩
  go_wp2_with fail
  refine (i4 _).mono ?_
  rintro e1 w1 ⟨rfl, rfl⟩
  go_wp2_with fail
  go_ret2
  exact ⟨_, rfl, Nat.le_succ _, HS.out, HB.out⟩
def emptyP : Pub := ⟨⟨0, 1, []⟩, 0, 0, false, 0, false⟩
theorem LibsR.toA {w : World} (h : LibsR w) : LibsA w := ⟨⟨h.base.big.1, h.base.pow, h.len⟩, h.syn, h.rng⟩
theorem OldsR.mono {a b : Nat} (h : OldsR a) (hab : a ≤ b) : OldsR b := ⟨h.1.le hab, h.2.le hab⟩
theorem OldsR.toA {n : Nat} (h : OldsR n) : Olds n := ⟨h.2.2.1, h.2.2.2, h.1.1, h.2.1⟩
set_option maxRecDepth 100000 in
set_option maxHeartbeats 4000000 in
theorem begun_is (w : World) (k i l a : Int) (hL : LibsR w) (hr : RulOk ⟨k, i, l, a⟩) (ho : OldsR w.heap.size) :
    Calls Tryz.prog 45 #[.agg #[.int .i64 k, .int .i64 i, .int .i64 l, .int .i64 a]] w fun e w' => ∃ gv gs gd v, e = .returned (.pointer (some ⟨gv, 0, none⟩)) ∧ w.heap.size ≤ gd ∧ SvIs 0 w' gv gs gd ⟨k, i, l, a⟩ emptyP v ∧ Below w.heap.size w w' := by
  have HB0 : Hid (Below w.heap.size w (w.alloc (.cells #[.int .i64 k, .int .i64 i, .int .i64 l, .int .i64 a] 54))) := (Below.refl _ _).alloc (Nat.le_refl _) _
  have hsz : (w.alloc (.cells #[.int .i64 k, .int .i64 i, .int .i64 l, .int .i64 a] 54)).heap.size = w.heap.size + 1 := by simp
  have hdb := db_zero (w.alloc (.cells #[.int .i64 k, .int .i64 i, .int .i64 l, .int .i64 a] 54)) (hL.on HB0.out).toA (hL.on HB0.out).base.err (ho.mono (by simp)).toA
  rw [hsz] at hdb
  have HDB : Hid _ := hdb
  have HBD : Hid (Below w.heap.size w ((w.alloc (.cells #[.int .i64 k, .int .i64 i, .int .i64 l, .int .i64 a] 54)).alloc (.cells Tryz.zeroCells28 28))) := HB0.out.alloc (by simp) _
  have hc : ∀ j : Nat, (w.alloc (.cells #[.int .i64 k, .int .i64 i, .int .i64 l, .int .i64 a] 54)).cell? ⟨w.heap.size, j, none⟩ = (#[.int .i64 k, .int .i64 i, .int .i64 l, .int .i64 a] : Array Value)[j]? := fun j => World.cell?_alloc_at _ _ _ _ rfl
  have hlt : w.heap.size < ((w.alloc (.cells #[.int .i64 k, .int .i64 i, .int .i64 l, .int .i64 a] 54)).alloc (.cells Tryz.zeroCells28 28)).heap.size := by simp; omega
  have hcd : ∀ j : Nat, ((w.alloc (.cells #[.int .i64 k, .int .i64 i, .int .i64 l, .int .i64 a] 54)).alloc (.cells Tryz.zeroCells28 28)).cell? ⟨w.heap.size, j, none⟩ = (#[.int .i64 k, .int .i64 i, .int .i64 l, .int .i64 a] : Array Value)[j]? := fun j => (World.cell?_alloc_lt _ _ _ (by simp)).trans (hc j)
  have HCD : Hid (∀ j : Nat, _) := hcd
  have HLT : Hid _ := hlt
  have HL : Hid (LibsR w) := hL
  have HR : Hid (RulOk ⟨k, i, l, a⟩) := hr
  have HO : Hid (OldsR w.heap.size) := ho
  clear hL hr ho hdb hsz hc hcd hlt
  go_enter Tryz.func45, Tryz.ntmps45
  go_wp2_with fail
  refine (openS_is 0 _ (w.heap.size + 1) _ HDB.out (by omega)).mono ?_
  rintro e1 w1 ⟨gs, v, rfl, hle, hsp, hb1⟩
  have HSP : Hid (SP 0 w1 gs (w.heap.size + 1) emptyP v) := hsp
  have HB1 : Hid (Below w.heap.size w w1) := HBD.out.trans (hb1.mono HBD.out.size)
  have c0 := (hb1.cell (p := ⟨w.heap.size, 0, none⟩) HLT.out).trans ((HCD.out 0).trans rfl)
  have c1 := (hb1.cell (p := ⟨w.heap.size, 1, none⟩) HLT.out).trans ((HCD.out 1).trans rfl)
  have c2 := (hb1.cell (p := ⟨w.heap.size, 2, none⟩) HLT.out).trans ((HCD.out 2).trans rfl)
  have c3 := (hb1.cell (p := ⟨w.heap.size, 3, none⟩) HLT.out).trans ((HCD.out 3).trans rfl)
  clear hle hsp hb1
  go_wp2_with fail
  refine (new_is 0 _ gs (w.heap.size + 1) k i l a _ v HSP.out (HL.out.on HB1.out) HR.out (HO.out.mono (Nat.le_succ _))).mono ?_
  rintro e2 w2 ⟨gv, rfl, hle2, hsv, hb2⟩
  have HSV : Hid _ := hsv
  have HB2 : Hid (Below w.heap.size w w2) := HB1.out.trans (hb2.mono HB1.out.size)
  clear hle2 hsv hb2 c0 c1 c2 c3
  go_wp2_with fail
  go_ret
  exact ⟨_, _, _, _, rfl, Nat.le_succ _, HSV.out, HB2.out⟩
end Go.Proofs.YtlailakofhenkabGreatDoor

namespace Go.Proofs.YtlailakofhenkabGreatDoor
open Go Go.RowKit Tok Sc Ev
structure Live (p : Pub) : Prop where
  on : p.c = false
  up : p.dn = false
theorem live_writes : ∀ (k : Nat) (p : Pub), Live p → (writesP k p).2 = true ∧ Live (writesP k p).1
  | 0, _, h => ⟨rfl, h⟩
  | k + 1, p, h => by
    have ho : offP p = false := by unfold offP; rw [h.on]; rfl
    rw [writesP, if_neg (by simp [ho])]
    exact live_writes k (wroteP p) ⟨h.on, h.up⟩
theorem live_save {p : Pub} (h : Live p) : (saveP p).2 = 0 ∧ Live (saveP p).1 := by
  obtain ⟨h1, h2⟩ := live_writes (p.st.fams.length + 1) p h
  unfold saveP
  rw [if_neg (by simp [h.up]), if_pos h1]
  exact ⟨rfl, h2.on, h2.up⟩
theorem live_put {p : Pub} (h : Live p) (e : E) : (putP1 p e).2 = 0 ∧ Live (putP1 p e).1 ∧ (putP1 p e).1.st = applyP p.st e := by
  have ho : offP p = false := by unfold offP; rw [h.on]; rfl
  rw [put_on _ _ ho]
  exact ⟨rfl, ⟨h.on, h.up⟩, rfl⟩
theorem live_add {p : Pub} (h : Live p) (e : E) (hl : (applyP p.st e).fams.length ≤ 20) : (addP p e true).2 = 0 ∧ Live (addP p e true).1 ∧ (addP p e true).1.st = applyP p.st e := by
  by_cases hg : p.lg = 16
  · rw [add_save0 p e h.up (by omega) hg (live_save h).1]
    obtain ⟨h1, h2, h3⟩ := live_put (live_save h).2 e
    exact ⟨h1, h2, by rw [h3, save_st]⟩
  · rw [add_plain p e h.up (by omega) hg]
    exact live_put h e
theorem live_empty : Live emptyP := ⟨rfl, rfl⟩
theorem live_give {tx : T → ByteArray} {p : Pub} (h : Live p) (f : Fam) (hl : (applyP p.st (putE f)).fams.length ≤ 20) : (giveM tx p f).2 = (tx ⟨1, f.id, f.gen, 0⟩, 0) ∧ Live (giveM tx p f).1 ∧ (giveM tx p f).1.st = applyP p.st (putE f) := by
  obtain ⟨h1, h2, h3⟩ := live_add h (putE f) hl
  unfold giveM
  rw [if_pos h1]
  exact ⟨rfl, h2, h3⟩
theorem txt_out (r : Rul) (t : T) (h : Tok.may t) : Tok.Out (tag r.key) (txtB r t).data.toList t 0 := Tok.Out.good t (tag r.key (body t)) ⟨h, hexsN_16 _, rfl⟩ rfl
theorem txt_inj {r : Rul} {t t' : T} (h : Tok.may t) (h' : Tok.may t') (he : txtB r t = txtB r t') : t = t' := by
  have h1 := txt_out r t h
  rw [he] at h1
  exact (Tok.out_inj h1 (txt_out r t' h')).1
theorem txt_len (r : Rul) (t : T) (h : Tok.may t) : (txtB r t).size ≤ 5000 := by
  have h1 := body_len h
  have h2 := tag_len r.key (body t)
  unfold txtB textOf
  rw [bsize, List.length_append, List.length_cons]
  omega
theorem may_ref {i g : Int} (hi : okN i) (hg : okN g) : Tok.may ⟨1, i, g, 0⟩ := ⟨.inl ⟨rfl, rfl⟩, hi, hg⟩
theorem one_find (f : Fam) : findF [f] f.id = some f := by
  unfold findF isF
  simp
theorem one_put (c nx : Int) (f f' : Fam) (hid : f'.id = f.id) (hn : f.id < nx) : applyP ⟨c, nx, [f]⟩ (putE f') = ⟨c, nx, [f']⟩ := by
  rw [apply_put _ rfl]
  show (⟨c, if nx ≤ f'.id then f'.id + 1 else nx, putP [f] f'⟩ : St) = _
  rw [if_neg (by omega)]
  have : putP [f] f' = [f'] := by
    unfold putP lows highs
    simp [hid]
  rw [this]
theorem one_fam (c nx : Int) (f : Fam) (k g : Int) : famM ⟨c, nx, [f]⟩ ⟨k, f.id, g, 0⟩ = f := by
  unfold famM
  show (findF [f] f.id).getD zeroF = f
  rw [one_find]
  rfl
theorem one_look (r : Rul) (c nx : Int) (f : Fam) (g : Int) (hd : f.dead = false) (ho : oldF r c f = false) (hg : g ≤ f.gen) : lookM r ⟨c, nx, [f]⟩ 1 ⟨1, f.id, g, 0⟩ 0 = 0 := by
  rw [look_some r ⟨c, nx, [f]⟩ 1 ⟨1, f.id, g, 0⟩ rfl (one_find f), hd, ho]
  rw [if_neg (by simp), if_neg (by simp), if_neg (by show ¬ f.gen < g; omega)]
theorem one_turn (tx : T → ByteArray) (r : Rul) (p : Pub) (c nx : Int) (f : Fam) (request J : ByteArray) (h : Live p) (hs : p.st = ⟨c, nx, [f]⟩) (hd : f.dead = false) (ho : oldF r c f = false) (hg : f.gen < 1099511627776) (hn : f.id < nx) :
    (rotateM tx r p true request ⟨1, f.id, f.gen, 0⟩ 0 J 0 true).2 = (tx ⟨1, f.id, f.gen + 1, 0⟩, 0) ∧ Live (rotateM tx r p true request ⟨1, f.id, f.gen, 0⟩ 0 J 0 true).1 ∧ (rotateM tx r p true request ⟨1, f.id, f.gen, 0⟩ 0 J 0 true).1.st = ⟨c, nx, [nextF f request J c]⟩ := by
  have hl := one_look r c nx f f.gen hd ho (Int.le_refl _)
  have hfm := one_fam c nx f 1 f.gen
  have hap := one_put c nx f (nextF f request J c) rfl hn
  have hgv := live_give (tx := tx) h (nextF f request J c) (by rw [hs, hap]; simp)
  unfold rotateM
  rw [if_neg (by simp), hs, if_neg (by simp [hl]), hfm, if_pos rfl]
  unfold turnM
  rw [if_neg (by simp), if_neg (by simp), if_neg (by omega), hs]
  obtain ⟨h1, h2, h3⟩ := hgv
  rw [hs, hap] at h3
  exact ⟨h1, h2, h3⟩
theorem one_again (tx : T → ByteArray) (r : Rul) (p : Pub) (c nx : Int) (f : Fam) (J : ByteArray) (m : Nat) (b : Bool) (hs : p.st = ⟨c, nx, [f]⟩) (hd : f.dead = false) (ho : oldF r c f = false) :
    rotateM tx r p true f.request ⟨1, f.id, f.gen - 1, 0⟩ 0 J m b = (p, tx ⟨1, f.id, f.gen, 0⟩, 0) := by
  have hl := one_look r c nx f (f.gen - 1) hd ho (by omega)
  have hfm := one_fam c nx f 1 (f.gen - 1)
  unfold rotateM
  rw [if_neg (by simp), hs, if_neg (by simp [hl]), hfm, if_neg (by show ¬ f.gen - 1 = f.gen; omega), if_pos ⟨rfl, rfl⟩]
end Go.Proofs.YtlailakofhenkabGreatDoor

namespace Go.Proofs.YtlailakofhenkabGreatDoor
open Go Go.RowKit Go.Maps Go.WideMaps
theorem plainElem_inj {H : Type} {P : Program} {e : TypeId} {v v' : Value} {d : DataW H} {p p' : List MemPlace} (h : plainElem P e v = some (d, p)) (h' : plainElem P e v' = some (d, p')) : v = v' := by
  unfold plainElem at h h'
  split at h
  · rename_i he
    rw [he] at h'
    simp only [Option.some.injEq, Prod.mk.injEq] at h
    obtain ⟨rfl, -⟩ := h
    cases v' <;> simp at h'
    rw [h'.1]
  · rename_i he
    rw [he] at h'
    split at h
    · rename_i hc
      simp only [Option.some.injEq, Prod.mk.injEq] at h
      obtain ⟨rfl, -⟩ := h
      cases v' <;> simp at h'
      rw [hc.1, h'.1.1, h'.2.1]
    · cases h
  · rename_i he
    rw [he] at h'
    split at h
    · simp only [Option.some.injEq, Prod.mk.injEq] at h
      obtain ⟨rfl, -⟩ := h
      cases v' <;> simp at h'
      rename_i s _ s'
      congr 1
      exact (ByteArray.ext h'.2.1).symm
    · cases h
  · cases h
def HasMap {κ : Type} (L : κ → Lit) (P : Program) (k e : TypeId) (w : World) (b n : Nat) (G : κ → Option Value) : Prop :=
  ∃ D : DataW Unit, w.ownsMap P k (plainElem P e) b n D ∧ Maps.IsMap D ∧ ∀ x : κ, (∃ v d, G x = some v ∧ Maps.has D (L x) = true ∧ plainElem P e v = some (d, []) ∧ ∀ z, D.atKey (L x) z = d) ∨ (G x = none ∧ Maps.has D (L x) = false ∧ ∀ z, D.atKey (L x) z = z)
section
variable {κ : Type} {L : κ → Lit} {P : Program} {k e : TypeId} {w : World} {b n : Nat} {G : κ → Option Value}
theorem HasMap.made (L : κ → Lit) (P : Program) (k e : TypeId) (w : World) : HasMap L P k e (w.alloc (.map #[] 0)) w.heap.size 0 (fun _ => none) :=
  ⟨.map [], World.ownsMap_made _ _ _ _, Maps.isMap_empty, fun _ => .inr ⟨rfl, rfl, fun _ => rfl⟩⟩
theorem HasMap.block {w' : World} (h : HasMap L P k e w b n G) (hb : w'.heap[b]? = w.heap[b]?) : HasMap L P k e w' b n G := by
  obtain ⟨D, ⟨es, clock, e1, F1, e2, e3⟩, h2, h3⟩ := h
  exact ⟨D, ⟨es, clock, hb.trans e1, F1, e2, e3⟩, h2, h3⟩
theorem HasMap.mono {m : Nat} (h : HasMap L P k e w b n G) (hm : n ≤ m) : HasMap L P k e w b m G := by
  obtain ⟨D, h1, h2⟩ := h
  exact ⟨D, h1.mono hm, h2⟩
theorem HasMap.lt (h : HasMap L P k e w b n G) : b < w.heap.size := by
  obtain ⟨D, h1, _⟩ := h
  exact h1.lt
theorem HasMap.on {w' : World} (h : HasMap L P k e w b n G) (hb : Below w.heap.size w w') : HasMap L P k e w' b n G := h.block (hb.block b h.lt)
theorem HasMap.look_ok (h : HasMap L P k e w b n G) (K : Keyed P k) {t : TypeId} (ht : P.underlying t = some (.map k e)) {z : Value} (hz : (zeroValue e).run P w = .ok z w) {zd : DataW Unit} (hzd : plainElem P e z = some (zd, [])) {key : Value} {x : κ} (hkey : keyOf P k key = some (L x)) :
    (Instr.lookup t (.map (some b)) key true).run P w = .ok (.tuple #[(G x).getD z, .bool (G x).isSome]) w := by
  obtain ⟨D, h1, h2, h3⟩ := h
  obtain ⟨v, ps, hrun, hv⟩ := h1.look_ok K ht hz hzd hkey
  rcases h3 x with ⟨v', d, g1, g2, g3, g4⟩ | ⟨g1, g2, g3⟩
  · rw [g4] at hv
    rw [plainElem_inj hv g3] at hrun
    rw [hrun, g1, g2]
    rfl
  · rw [g3] at hv
    rw [plainElem_inj hv hzd] at hrun
    rw [hrun, g1, g2]
    rfl
theorem HasMap.look (h : HasMap L P k e w b n G) (K : Keyed P k) {t : TypeId} (ht : P.underlying t = some (.map k e)) {z : Value} (hz : (zeroValue e).run P w = .ok z w) {zd : DataW Unit} (hzd : plainElem P e z = some (zd, [])) {key : Value} {x : κ} (hkey : keyOf P k key = some (L x)) :
    (Instr.lookup t (.map (some b)) key false).run P w = .ok ((G x).getD z) w := by
  obtain ⟨D, h1, h2, h3⟩ := h
  obtain ⟨v, ps, hrun, hv⟩ := h1.lookup K ht hz hzd hkey
  rcases h3 x with ⟨v', d, g1, g2, g3, g4⟩ | ⟨g1, g2, g3⟩
  · rw [g4] at hv
    rw [plainElem_inj hv g3] at hrun
    rw [hrun, g1]
    rfl
  · rw [g3] at hv
    rw [plainElem_inj hv hzd] at hrun
    rw [hrun, g1]
    rfl
def putG [DecidableEq κ] (G : κ → Option Value) (x : κ) (v : Value) : κ → Option Value := fun y => if y = x then some v else G y
theorem HasMap.store [DecidableEq κ] (h : HasMap L P k e w b n G) (K : Keyed P k) (hL : ∀ x y, L x = L y → x = y) {t : TypeId} (ht : P.underlying t = some (.map k e)) (hn : n < maxLen) {key val : Value} {x : κ} {d : DataW Unit} (hkey : keyOf P k key = some (L x)) (hx : WideAt.IsKeyLit (L x)) (hv : plainElem P e val = some (d, [])) :
    ∃ w', (Instr.mapUpdate t (.map (some b)) key val).run P w = .ok () w' ∧ HasMap L P k e w' b (n + 1) (putG G x val) ∧ w.grownBy w' (some b) := by
  obtain ⟨D, h1, h2, h3⟩ := h
  obtain ⟨w', hrun, g1, g2⟩ := h1.update K ht hn hkey hv
  refine ⟨w', hrun, ⟨_, g1, h2.put _ _, fun y => ?_⟩, g2⟩
  by_cases hy : y = x
  · subst hy
    exact .inl ⟨val, d, by simp [putG], Maps.has_put_same h2 hx d, hv, fun z => Maps.atKey_put_same h2 hx d z⟩
  · have e1 : putG G x val y = G y := by simp [putG, hy]
    have hy' : L y ≠ L x := fun e => hy (hL _ _ e)
    rw [e1, Maps.has_put_other hy']
    rcases h3 y with ⟨v', d', q1, q2, q3, q4⟩ | ⟨q1, q2, q3⟩
    · exact .inl ⟨v', d', q1, q2, q3, fun z => by rw [Maps.atKey_put_other hy']; exact q4 z⟩
    · exact .inr ⟨q1, q2, fun z => by rw [Maps.atKey_put_other hy']; exact q3 z⟩
end
def litI (i : Int) : Lit := .int .i64 i
def litS (s : List UInt8) : Lit := .string s
theorem litI_inj (x y : Int) (h : litI x = litI y) : x = y := by
  unfold litI at h
  simpa using h
theorem litS_inj (x y : List UInt8) (h : litS x = litS y) : x = y := by
  unfold litS at h
  simpa using h
end Go.Proofs.YtlailakofhenkabGreatDoor
