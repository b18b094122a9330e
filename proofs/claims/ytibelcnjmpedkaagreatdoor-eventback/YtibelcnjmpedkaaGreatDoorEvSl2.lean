/-
  Where a family stands: the search walked; a copy.
-/
import Derived.Test.YtibelcnjmpedkaaGreatDoorEvSl1
namespace Go.Proofs.YtibelcnjmpedkaaGreatDoor
open Go Go.RowKit Ev
def thereB (l : List Fam) (n : Int) : Bool := match l[rank l n]? with
  | some f => decide (f.id = n)
  | none => false
theorem there_at {l : List Fam} {n : Int} (h : rank l n < l.length) : thereB l n = decide (l[rank l n].id = n) := by
  unfold thereB
  rw [List.getElem?_eq_getElem h]
theorem there_past {l : List Fam} {n : Int} (h : ¬ rank l n < l.length) : thereB l n = false := by
  unfold thereB
  rw [List.getElem?_eq_none (by omega)]
theorem there_yes {l : List Fam} {n : Int} (h : thereB l n = true) : ∃ hr : rank l n < l.length, l[rank l n].id = n := by
  by_cases hr : rank l n < l.length
  · rw [there_at hr] at h
    exact ⟨hr, of_decide_eq_true h⟩
  · rw [there_past hr] at h; cases h
theorem there_no {l : List Fam} {n : Int} (h : thereB l n = false) : ∀ hr : rank l n < l.length, l[rank l n].id ≠ n := by
  intro hr
  rw [there_at hr] at h
  exact of_decide_eq_false h
set_option maxRecDepth 100000 in
set_option maxHeartbeats 4000000 in
theorem bsearch_is {B : Nat} {w : World} {v : Value} {l : List Fam} (h : Fams B w v l) (hr : Rising l) (hn : l.length ≤ 1000) (n : Int) :
    Calls Tryz.prog 145 #[v, .int .i64 n, .func (.func 146) #[] #[]] w fun e w' => e = .returned (.tuple #[.int .i64 (rank l n : Nat), .bool (thereB l n)]) ∧ Below w.heap.size w w' := by
  obtain ⟨base, c, rfl⟩ := h.slice
  have HF : Hid (Fams B w (.slice base l.length c) l) := h
  have HLT : Hid (∀ t (ht : t < l.length), t < rank l n ↔ l[t].id < n) := fun t ht => rank_lt hr t ht
  have hrl := rank_le l n
  have HAT : Hid (∀ h : rank l n < l.length, thereB l n = decide (l[rank l n].id = n)) := fun h => there_at h
  have HPA : Hid (¬ rank l n < l.length → thereB l n = false) := fun h => there_past h
  clear h hr
  generalize thereB l n = tb at *
  generalize rank l n = R at *
  have eg : ∀ args w, (callFunc 146 args).run Tryz.prog w = .ok (.enter 146 args) w := enters_of Tryz.func146 (by kernel_rfl) rfl
  go_enter Tryz.func145, Tryz.ntmps145
  go_wp2_with fail
  go_loopg [9, 10] l.length (fun gk s9 s10 wr => ∃ lo hi : Nat, s9 = .int .i64 lo ∧ s10 = .int .i64 hi ∧ lo ≤ R ∧ R ≤ hi ∧ hi ≤ l.length ∧ hi - lo ≤ gk ∧ Hid (Below w.heap.size w wr))
  case atStart => exact ⟨0, l.length, rfl, rfl, Nat.zero_le _, hrl, Nat.le_refl _, by omega, Below.refl _ _⟩
  case round =>
    obtain ⟨lo, hi, rfl, rfl, h1, h2, h3, hg, HB⟩ := hrel
    by_cases hlt : lo < hi
    · have hltI : (lo : Int) < (hi : Int) := by omega
      obtain ⟨M, hM⟩ : ∃ M, M = (lo + hi) / 2 := ⟨_, rfl⟩
      have hMl : M < l.length := by omega
      obtain ⟨g, rfl, hgw, hc⟩ := HF.out.fam M hMl
      have hc2 := hc.on HB.out hgw
      have hcm : M < R ↔ l[M].id < n := HLT.out M hMl
      generalize l[M] = y at *
      subst hM
      have HCM : Hid ((lo + hi) / 2 < R ↔ y.id < n) := hcm
      have q0 := hc2.c0; have q1 := hc2.c1; have q2 := hc2.c2; have q3 := hc2.c3; have q4 := hc2.c4; have q5 := hc2.c5; have q6 := hc2.c6; have q7 := hc2.c7; have q8 := hc2.c8
      clear hc hc2 hcm
      obtain ⟨f1, f2, f3, f4, f5, f6, f7, f8, f9⟩ := y
      simp only at q0 q1 q2 q3 q4 q5 q6 q7 q8
      have hcall := fun (W : World) => byId_is ⟨f1, f2, f3, f4, f5, f6, f7, f8, f9⟩ n W
      unfold famV famCs at hcall
      simp only at hcall
      by_cases hlow : f1 < n
      · have HC : Hid (cmpI f1 n = -1) := if_pos hlow
        have HR1 : Hid ((lo + hi) / 2 < R) := HCM.out.2 hlow
        clear hlow
        go_wp2_with fail
        refine (hcall _).mono ?_
        rintro e w1 ⟨rfl, hb1⟩
        have HB1 : Hid (Below w.heap.size w w1) := HB.out.trans (hb1.mono HB.out.size)
        rw [HC.out]
        clear hb1 q0 q1 q2 q3 q4 q5 q6 q7 q8
        go_wp2_with fail
        go_roundg (hi - ((lo + hi) / 2 + 1))
        case measure => omega
        case rel => exact ⟨(lo + hi) / 2 + 1, hi, by rw [show ((lo : Int) + (hi : Int)) / 2 + 1 = (((lo + hi) / 2 + 1 : Nat) : Int) by omega], rfl, HR1.out, h2, h3, by omega, HB1⟩
      · have HC : Hid (¬ cmpI f1 n < 0) := by
          show ¬ _
          unfold cmpI
          rw [if_neg hlow]
          split <;> omega
        have hcn := HC.out
        have HR1 : Hid (¬ (lo + hi) / 2 < R) := fun h => hlow (HCM.out.1 h)
        clear hlow
        generalize cmpI f1 n = cv at *
        go_wp2_with fail
        refine (hcall _).mono ?_
        rintro e w1 ⟨rfl, hb1⟩
        have HB1 : Hid (Below w.heap.size w w1) := HB.out.trans (hb1.mono HB.out.size)
        clear hb1 q0 q1 q2 q3 q4 q5 q6 q7 q8
        go_wp2_with fail
        go_roundg ((lo + hi) / 2 - lo)
        case measure => omega
        case rel => exact ⟨lo, (lo + hi) / 2, rfl, by rw [show ((lo : Int) + (hi : Int)) / 2 = (((lo + hi) / 2 : Nat) : Int) by omega], h1, by have := HR1.out; omega, by omega, by omega, HB1⟩
    · obtain rfl : hi = lo := by omega
      obtain rfl : R = hi := by omega
      by_cases hR : R < l.length
      · obtain ⟨g, rfl, hgw, hc⟩ := HF.out.fam R hR
        have hc2 := hc.on HB.out hgw
        have htb := HAT.out hR
        have hRI : (R : Int) < (l.length : Int) := by omega
        generalize l[R] = y at *
        have HTB : Hid (tb = decide (y.id = n)) := htb
        have q0 := hc2.c0; have q1 := hc2.c1; have q2 := hc2.c2; have q3 := hc2.c3; have q4 := hc2.c4; have q5 := hc2.c5; have q6 := hc2.c6; have q7 := hc2.c7; have q8 := hc2.c8
        clear hc hc2 htb
        obtain ⟨f1, f2, f3, f4, f5, f6, f7, f8, f9⟩ := y
        simp only at q0 q1 q2 q3 q4 q5 q6 q7 q8
        have hcall := fun (W : World) => byId_is ⟨f1, f2, f3, f4, f5, f6, f7, f8, f9⟩ n W
        unfold famV famCs at hcall
        simp only at hcall
        have HZ : Hid (decide (f1 = n) = (cmpI f1 n == 0)) := by
          show _ = _
          rw [Bool.eq_iff_iff, decide_eq_true_iff, beq_iff_eq]
          unfold cmpI
          split
          · omega
          · split <;> omega
        generalize cmpI f1 n = cv at *
        go_wp2_with fail
        refine (hcall _).mono ?_
        rintro e w1 ⟨rfl, hb1⟩
        have HB1 : Hid (Below w.heap.size w w1) := HB.out.trans (hb1.mono HB.out.size)
        clear hb1 q0 q1 q2 q3 q4 q5 q6 q7 q8
        go_wp2_with fail
        go_ret2
        refine ⟨?_, HB1.out⟩
        rw [HTB.out]
        show Ending.returned (.tuple #[.int .i64 (R : Int), .bool (cv == 0)]) = _
        rw [← HZ.out]
      · have HTB : Hid (tb = false) := HPA.out hR
        have hRI : ¬ (R : Int) < (l.length : Int) := by omega
        go_wp2_with fail
        go_ret2
        exact ⟨by rw [HTB.out]; rfl, HB.out⟩
end Go.Proofs.YtibelcnjmpedkaaGreatDoor
