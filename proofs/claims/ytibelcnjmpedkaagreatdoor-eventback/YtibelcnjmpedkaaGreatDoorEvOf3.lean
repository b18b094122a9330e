/-
  An event of words, as the program takes it: one dropped, the time, none.
-/
import Derived.Test.YtibelcnjmpedkaaGreatDoorEvOf2
namespace Go.Proofs.YtibelcnjmpedkaaGreatDoor
open Go Go.RowKit Tok Sc Ev
set_option maxRecDepth 100000 in
set_option maxHeartbeats 16000000 in
theorem ofWords_drop (x0 x1 : ByteArray) (g c : Nat) (w : World) (h0 : x0.data.toList = [100]) (hs : x1.size ≤ 1000) (hw : WordsAt w g [x0, x1]) (hL : LibsA w) :
    Calls Tryz.prog 63 #[.slice (some ⟨g, 0, none⟩) 2 c] w fun r w' => ∃ e, r = .returned (evV e) ∧ ToldW [x0, x1] e ∧ Small 1000 e.fam ∧ Below w.heap.size w w' := by
  obtain rfl : x0 = ⟨#[100]⟩ := bytes_eq h0
  have hos := os_made w g _ #[.int .i64 0, .int .i64 0, .string ⟨#[]⟩, .string ⟨#[]⟩, .string ⟨#[]⟩, .int .i64 0, .int .i64 0, .int .i64 0, .string ⟨#[]⟩, .bool false, .int .i64 0, .int .i64 0] 40 rfl hL hw
  have cc := os_allB hos
  have d0 := cc.1
  have d1 := cc.2.1
  have i1 := fun (W : World) (hW : LibsA W) => numberOf_is x1 W (by omega) hW
  clear hs hw hL h0 cc
  go_enter Tryz.func63, Tryz.ntmps63
  go_wp2_with fail
  have HOS : Hid _ := hos
  clear hos d0 d1
  refine (i1 _ HOS.out.libs).mono ?_
  rintro e w1 ⟨n1, rfl, hb1, hv1⟩
  have hos8 := HOS.out.on hb1
  have HO8 : Hid _ := hos8
  obtain ⟨_, _, c0, c1, c2, c3, c4, c5, c6, c7, c8, c9, c10, c11, fz, _⟩ := os_allB hos8
  clear HOS
  have hth : ∀ j, j < ([.int .i64 2, .int .i64 0, .string ⟨#[]⟩, .string ⟨#[]⟩, .string ⟨#[]⟩, .int .i64 0, .int .i64 0, .int .i64 0, .string ⟨#[]⟩, .bool false, .int .i64 n1, .int .i64 0] : List Value).length → (w1.cell? ⟨w.heap.size, 0 + j, none⟩).isSome = true := fun j hj => by rw [Nat.zero_add]; exact hos8.there j hj
  have HBF : Hid (Below w.heap.size w (w1.setCells w.heap.size 0 [.int .i64 2, .int .i64 0, .string ⟨#[]⟩, .string ⟨#[]⟩, .string ⟨#[]⟩, .int .i64 0, .int .i64 0, .int .i64 0, .string ⟨#[]⟩, .bool false, .int .i64 n1, .int .i64 0])) := hos8.below.trans (below_setCellsW hos8.new _ 0 w1)
  have q0 := World.cell?_setCells_in w.heap.size [.int .i64 2, .int .i64 0, .string ⟨#[]⟩, .string ⟨#[]⟩, .string ⟨#[]⟩, .int .i64 0, .int .i64 0, .int .i64 0, .string ⟨#[]⟩, .bool false, .int .i64 n1, .int .i64 0] 0 w1 hth 0 (by simp)
  have q1 := World.cell?_setCells_in w.heap.size [.int .i64 2, .int .i64 0, .string ⟨#[]⟩, .string ⟨#[]⟩, .string ⟨#[]⟩, .int .i64 0, .int .i64 0, .int .i64 0, .string ⟨#[]⟩, .bool false, .int .i64 n1, .int .i64 0] 0 w1 hth 1 (by simp)
  have q2 := World.cell?_setCells_in w.heap.size [.int .i64 2, .int .i64 0, .string ⟨#[]⟩, .string ⟨#[]⟩, .string ⟨#[]⟩, .int .i64 0, .int .i64 0, .int .i64 0, .string ⟨#[]⟩, .bool false, .int .i64 n1, .int .i64 0] 0 w1 hth 2 (by simp)
  have q3 := World.cell?_setCells_in w.heap.size [.int .i64 2, .int .i64 0, .string ⟨#[]⟩, .string ⟨#[]⟩, .string ⟨#[]⟩, .int .i64 0, .int .i64 0, .int .i64 0, .string ⟨#[]⟩, .bool false, .int .i64 n1, .int .i64 0] 0 w1 hth 3 (by simp)
  have q4 := World.cell?_setCells_in w.heap.size [.int .i64 2, .int .i64 0, .string ⟨#[]⟩, .string ⟨#[]⟩, .string ⟨#[]⟩, .int .i64 0, .int .i64 0, .int .i64 0, .string ⟨#[]⟩, .bool false, .int .i64 n1, .int .i64 0] 0 w1 hth 4 (by simp)
  have q5 := World.cell?_setCells_in w.heap.size [.int .i64 2, .int .i64 0, .string ⟨#[]⟩, .string ⟨#[]⟩, .string ⟨#[]⟩, .int .i64 0, .int .i64 0, .int .i64 0, .string ⟨#[]⟩, .bool false, .int .i64 n1, .int .i64 0] 0 w1 hth 5 (by simp)
  have q6 := World.cell?_setCells_in w.heap.size [.int .i64 2, .int .i64 0, .string ⟨#[]⟩, .string ⟨#[]⟩, .string ⟨#[]⟩, .int .i64 0, .int .i64 0, .int .i64 0, .string ⟨#[]⟩, .bool false, .int .i64 n1, .int .i64 0] 0 w1 hth 6 (by simp)
  have q7 := World.cell?_setCells_in w.heap.size [.int .i64 2, .int .i64 0, .string ⟨#[]⟩, .string ⟨#[]⟩, .string ⟨#[]⟩, .int .i64 0, .int .i64 0, .int .i64 0, .string ⟨#[]⟩, .bool false, .int .i64 n1, .int .i64 0] 0 w1 hth 7 (by simp)
  have q8 := World.cell?_setCells_in w.heap.size [.int .i64 2, .int .i64 0, .string ⟨#[]⟩, .string ⟨#[]⟩, .string ⟨#[]⟩, .int .i64 0, .int .i64 0, .int .i64 0, .string ⟨#[]⟩, .bool false, .int .i64 n1, .int .i64 0] 0 w1 hth 8 (by simp)
  have q9 := World.cell?_setCells_in w.heap.size [.int .i64 2, .int .i64 0, .string ⟨#[]⟩, .string ⟨#[]⟩, .string ⟨#[]⟩, .int .i64 0, .int .i64 0, .int .i64 0, .string ⟨#[]⟩, .bool false, .int .i64 n1, .int .i64 0] 0 w1 hth 9 (by simp)
  have q10 := World.cell?_setCells_in w.heap.size [.int .i64 2, .int .i64 0, .string ⟨#[]⟩, .string ⟨#[]⟩, .string ⟨#[]⟩, .int .i64 0, .int .i64 0, .int .i64 0, .string ⟨#[]⟩, .bool false, .int .i64 n1, .int .i64 0] 0 w1 hth 10 (by simp)
  have q11 := World.cell?_setCells_in w.heap.size [.int .i64 2, .int .i64 0, .string ⟨#[]⟩, .string ⟨#[]⟩, .string ⟨#[]⟩, .int .i64 0, .int .i64 0, .int .i64 0, .string ⟨#[]⟩, .bool false, .int .i64 n1, .int .i64 0] 0 w1 hth 11 (by simp)
  go_wp2_with fail
  generalize hWW : World.setCell _ ⟨w.heap.size, 11, none⟩ _ = WW
  have hW2 : w1.setCells w.heap.size 0 [.int .i64 2, .int .i64 0, .string ⟨#[]⟩, .string ⟨#[]⟩, .string ⟨#[]⟩, .int .i64 0, .int .i64 0, .int .i64 0, .string ⟨#[]⟩, .bool false, .int .i64 n1, .int .i64 0] = WW := hWW
  have HB2 : Hid (Below w.heap.size w WW) := by rw [← hW2]; exact HBF.out
  rw [hW2] at q0 q1 q2 q3 q4 q5 q6 q7 q8 q9 q10 q11
  simp only [Nat.zero_add, List.getElem_cons_zero, List.getElem_cons_succ] at q0 q1 q2 q3 q4 q5 q6 q7 q8 q9 q10 q11
  clear hW2 hWW hth HBF hos8 c0 c1 c2 c3 c4 c5 c6 c7 c8 c9 c10 c11 fz
  exact bodyPost_ret (v := .agg #[.int .i64 2, .int .i64 0, .string ⟨#[]⟩, .string ⟨#[]⟩, .string ⟨#[]⟩, .int .i64 0, .int .i64 0, .int .i64 0, .string ⟨#[]⟩, .bool false, .int .i64 n1, .int .i64 0]) (by simp [results, Tryz.results63, go_sem, q0, q1, q2, q3, q4, q5, q6, q7, q8, q9, q10, q11]) rfl ⟨⟨2, zeroF, n1, 0⟩, rfl, toldW_drop rfl hv1, ⟨Nat.zero_le _, Nat.zero_le _, Nat.zero_le _, Nat.zero_le _⟩, HB2.out⟩
set_option maxRecDepth 100000 in
set_option maxHeartbeats 16000000 in
theorem ofWords_clock (x0 x1 : ByteArray) (g c : Nat) (w : World) (h0 : x0.data.toList = [99]) (hs : x1.size ≤ 1000) (hw : WordsAt w g [x0, x1]) (hL : LibsA w) :
    Calls Tryz.prog 63 #[.slice (some ⟨g, 0, none⟩) 2 c] w fun r w' => ∃ e, r = .returned (evV e) ∧ ToldW [x0, x1] e ∧ Small 1000 e.fam ∧ Below w.heap.size w w' := by
  obtain rfl : x0 = ⟨#[99]⟩ := bytes_eq h0
  have hos := os_made w g _ #[.int .i64 0, .int .i64 0, .string ⟨#[]⟩, .string ⟨#[]⟩, .string ⟨#[]⟩, .int .i64 0, .int .i64 0, .int .i64 0, .string ⟨#[]⟩, .bool false, .int .i64 0, .int .i64 0] 40 rfl hL hw
  have cc := os_allB hos
  have d0 := cc.1
  have d1 := cc.2.1
  have i1 := fun (W : World) (hW : LibsA W) => numberOf_is x1 W (by omega) hW
  clear hs hw hL h0 cc
  go_enter Tryz.func63, Tryz.ntmps63
  go_wp2_with fail
  have HOS : Hid _ := hos
  clear hos d0 d1
  refine (i1 _ HOS.out.libs).mono ?_
  rintro e w1 ⟨n1, rfl, hb1, hv1⟩
  have hos8 := HOS.out.on hb1
  have HO8 : Hid _ := hos8
  obtain ⟨_, _, c0, c1, c2, c3, c4, c5, c6, c7, c8, c9, c10, c11, fz, _⟩ := os_allB hos8
  clear HOS
  have hth : ∀ j, j < ([.int .i64 3, .int .i64 0, .string ⟨#[]⟩, .string ⟨#[]⟩, .string ⟨#[]⟩, .int .i64 0, .int .i64 0, .int .i64 0, .string ⟨#[]⟩, .bool false, .int .i64 0, .int .i64 n1] : List Value).length → (w1.cell? ⟨w.heap.size, 0 + j, none⟩).isSome = true := fun j hj => by rw [Nat.zero_add]; exact hos8.there j hj
  have HBF : Hid (Below w.heap.size w (w1.setCells w.heap.size 0 [.int .i64 3, .int .i64 0, .string ⟨#[]⟩, .string ⟨#[]⟩, .string ⟨#[]⟩, .int .i64 0, .int .i64 0, .int .i64 0, .string ⟨#[]⟩, .bool false, .int .i64 0, .int .i64 n1])) := hos8.below.trans (below_setCellsW hos8.new _ 0 w1)
  have q0 := World.cell?_setCells_in w.heap.size [.int .i64 3, .int .i64 0, .string ⟨#[]⟩, .string ⟨#[]⟩, .string ⟨#[]⟩, .int .i64 0, .int .i64 0, .int .i64 0, .string ⟨#[]⟩, .bool false, .int .i64 0, .int .i64 n1] 0 w1 hth 0 (by simp)
  have q1 := World.cell?_setCells_in w.heap.size [.int .i64 3, .int .i64 0, .string ⟨#[]⟩, .string ⟨#[]⟩, .string ⟨#[]⟩, .int .i64 0, .int .i64 0, .int .i64 0, .string ⟨#[]⟩, .bool false, .int .i64 0, .int .i64 n1] 0 w1 hth 1 (by simp)
  have q2 := World.cell?_setCells_in w.heap.size [.int .i64 3, .int .i64 0, .string ⟨#[]⟩, .string ⟨#[]⟩, .string ⟨#[]⟩, .int .i64 0, .int .i64 0, .int .i64 0, .string ⟨#[]⟩, .bool false, .int .i64 0, .int .i64 n1] 0 w1 hth 2 (by simp)
  have q3 := World.cell?_setCells_in w.heap.size [.int .i64 3, .int .i64 0, .string ⟨#[]⟩, .string ⟨#[]⟩, .string ⟨#[]⟩, .int .i64 0, .int .i64 0, .int .i64 0, .string ⟨#[]⟩, .bool false, .int .i64 0, .int .i64 n1] 0 w1 hth 3 (by simp)
  have q4 := World.cell?_setCells_in w.heap.size [.int .i64 3, .int .i64 0, .string ⟨#[]⟩, .string ⟨#[]⟩, .string ⟨#[]⟩, .int .i64 0, .int .i64 0, .int .i64 0, .string ⟨#[]⟩, .bool false, .int .i64 0, .int .i64 n1] 0 w1 hth 4 (by simp)
  have q5 := World.cell?_setCells_in w.heap.size [.int .i64 3, .int .i64 0, .string ⟨#[]⟩, .string ⟨#[]⟩, .string ⟨#[]⟩, .int .i64 0, .int .i64 0, .int .i64 0, .string ⟨#[]⟩, .bool false, .int .i64 0, .int .i64 n1] 0 w1 hth 5 (by simp)
  have q6 := World.cell?_setCells_in w.heap.size [.int .i64 3, .int .i64 0, .string ⟨#[]⟩, .string ⟨#[]⟩, .string ⟨#[]⟩, .int .i64 0, .int .i64 0, .int .i64 0, .string ⟨#[]⟩, .bool false, .int .i64 0, .int .i64 n1] 0 w1 hth 6 (by simp)
  have q7 := World.cell?_setCells_in w.heap.size [.int .i64 3, .int .i64 0, .string ⟨#[]⟩, .string ⟨#[]⟩, .string ⟨#[]⟩, .int .i64 0, .int .i64 0, .int .i64 0, .string ⟨#[]⟩, .bool false, .int .i64 0, .int .i64 n1] 0 w1 hth 7 (by simp)
  have q8 := World.cell?_setCells_in w.heap.size [.int .i64 3, .int .i64 0, .string ⟨#[]⟩, .string ⟨#[]⟩, .string ⟨#[]⟩, .int .i64 0, .int .i64 0, .int .i64 0, .string ⟨#[]⟩, .bool false, .int .i64 0, .int .i64 n1] 0 w1 hth 8 (by simp)
  have q9 := World.cell?_setCells_in w.heap.size [.int .i64 3, .int .i64 0, .string ⟨#[]⟩, .string ⟨#[]⟩, .string ⟨#[]⟩, .int .i64 0, .int .i64 0, .int .i64 0, .string ⟨#[]⟩, .bool false, .int .i64 0, .int .i64 n1] 0 w1 hth 9 (by simp)
  have q10 := World.cell?_setCells_in w.heap.size [.int .i64 3, .int .i64 0, .string ⟨#[]⟩, .string ⟨#[]⟩, .string ⟨#[]⟩, .int .i64 0, .int .i64 0, .int .i64 0, .string ⟨#[]⟩, .bool false, .int .i64 0, .int .i64 n1] 0 w1 hth 10 (by simp)
  have q11 := World.cell?_setCells_in w.heap.size [.int .i64 3, .int .i64 0, .string ⟨#[]⟩, .string ⟨#[]⟩, .string ⟨#[]⟩, .int .i64 0, .int .i64 0, .int .i64 0, .string ⟨#[]⟩, .bool false, .int .i64 0, .int .i64 n1] 0 w1 hth 11 (by simp)
  go_wp2_with fail
  generalize hWW : World.setCell _ ⟨w.heap.size, 11, none⟩ _ = WW
  have hW2 : w1.setCells w.heap.size 0 [.int .i64 3, .int .i64 0, .string ⟨#[]⟩, .string ⟨#[]⟩, .string ⟨#[]⟩, .int .i64 0, .int .i64 0, .int .i64 0, .string ⟨#[]⟩, .bool false, .int .i64 0, .int .i64 n1] = WW := hWW
  have HB2 : Hid (Below w.heap.size w WW) := by rw [← hW2]; exact HBF.out
  rw [hW2] at q0 q1 q2 q3 q4 q5 q6 q7 q8 q9 q10 q11
  simp only [Nat.zero_add, List.getElem_cons_zero, List.getElem_cons_succ] at q0 q1 q2 q3 q4 q5 q6 q7 q8 q9 q10 q11
  clear hW2 hWW hth HBF hos8 c0 c1 c2 c3 c4 c5 c6 c7 c8 c9 c10 c11 fz
  exact bodyPost_ret (v := .agg #[.int .i64 3, .int .i64 0, .string ⟨#[]⟩, .string ⟨#[]⟩, .string ⟨#[]⟩, .int .i64 0, .int .i64 0, .int .i64 0, .string ⟨#[]⟩, .bool false, .int .i64 0, .int .i64 n1]) (by simp [results, Tryz.results63, go_sem, q0, q1, q2, q3, q4, q5, q6, q7, q8, q9, q10, q11]) rfl ⟨⟨3, zeroF, 0, n1⟩, rfl, toldW_clock rfl hv1, ⟨Nat.zero_le _, Nat.zero_le _, Nat.zero_le _, Nat.zero_le _⟩, HB2.out⟩
set_option maxRecDepth 100000 in
set_option maxHeartbeats 4000000 in
theorem ofWords_no (x0 : ByteArray) (n g c : Nat) (w : World) (hc : w.cell? ⟨g, 0, none⟩ = some (.string x0)) (hn : 0 < n) (hn2 : n ≤ 1000)
    (h1 : ¬ (x0.data.toList = [112] ∧ n = 10)) (h2 : ¬ (x0.data.toList = [100] ∧ n = 2)) (h3 : ¬ (x0.data.toList = [99] ∧ n = 2)) :
    Calls Tryz.prog 63 #[.slice (some ⟨g, 0, none⟩) n c] w fun r w' => r = .returned (evV ⟨0, zeroF, 0, 0⟩) ∧ Below w.heap.size w w' := by
  have d0 := Lib.cell?_alloc_some (.cells #[.int .i64 0, .int .i64 0, .string ⟨#[]⟩, .string ⟨#[]⟩, .string ⟨#[]⟩, .int .i64 0, .int .i64 0, .int .i64 0, .string ⟨#[]⟩, .bool false, .int .i64 0, .int .i64 0] 40) hc
  have hB : Hid (Below w.heap.size w (w.alloc (.cells #[.int .i64 0, .int .i64 0, .string ⟨#[]⟩, .string ⟨#[]⟩, .string ⟨#[]⟩, .int .i64 0, .int .i64 0, .int .i64 0, .string ⟨#[]⟩, .bool false, .int .i64 0, .int .i64 0] 40))) := (Below.refl _ _).alloc (Nat.le_refl _) _
  have k1 : Hid (x0.toList = [112] → ((n : Int) == 10) = true → False) := fun a b => h1 ⟨by rwa [ByteArray.toList_eq] at a, by rw [beq_iff_eq] at b; omega⟩
  have k2 : Hid (x0.toList = [100] → ((n : Int) == 2) = true → False) := fun a b => h2 ⟨by rwa [ByteArray.toList_eq] at a, by rw [beq_iff_eq] at b; omega⟩
  have k3 : Hid (x0.toList = [99] → ((n : Int) == 2) = true → False) := fun a b => h3 ⟨by rwa [ByteArray.toList_eq] at a, by rw [beq_iff_eq] at b; omega⟩
  clear h1 h2 h3
  have hnI : (0 : Int) < (n : Int) := by omega
  have q0 : ((w.alloc (.cells #[.int .i64 0, .int .i64 0, .string ⟨#[]⟩, .string ⟨#[]⟩, .string ⟨#[]⟩, .int .i64 0, .int .i64 0, .int .i64 0, .string ⟨#[]⟩, .bool false, .int .i64 0, .int .i64 0] 40)) : World).cell? ⟨w.heap.size, 0, none⟩ = some (.int .i64 0) := (World.cell?_alloc_at _ _ _ _ rfl).trans rfl
  have q1 : ((w.alloc (.cells #[.int .i64 0, .int .i64 0, .string ⟨#[]⟩, .string ⟨#[]⟩, .string ⟨#[]⟩, .int .i64 0, .int .i64 0, .int .i64 0, .string ⟨#[]⟩, .bool false, .int .i64 0, .int .i64 0] 40)) : World).cell? ⟨w.heap.size, 1, none⟩ = some (.int .i64 0) := (World.cell?_alloc_at _ _ _ _ rfl).trans rfl
  have q2 : ((w.alloc (.cells #[.int .i64 0, .int .i64 0, .string ⟨#[]⟩, .string ⟨#[]⟩, .string ⟨#[]⟩, .int .i64 0, .int .i64 0, .int .i64 0, .string ⟨#[]⟩, .bool false, .int .i64 0, .int .i64 0] 40)) : World).cell? ⟨w.heap.size, 2, none⟩ = some (.string ⟨#[]⟩) := (World.cell?_alloc_at _ _ _ _ rfl).trans rfl
  have q3 : ((w.alloc (.cells #[.int .i64 0, .int .i64 0, .string ⟨#[]⟩, .string ⟨#[]⟩, .string ⟨#[]⟩, .int .i64 0, .int .i64 0, .int .i64 0, .string ⟨#[]⟩, .bool false, .int .i64 0, .int .i64 0] 40)) : World).cell? ⟨w.heap.size, 3, none⟩ = some (.string ⟨#[]⟩) := (World.cell?_alloc_at _ _ _ _ rfl).trans rfl
  have q4 : ((w.alloc (.cells #[.int .i64 0, .int .i64 0, .string ⟨#[]⟩, .string ⟨#[]⟩, .string ⟨#[]⟩, .int .i64 0, .int .i64 0, .int .i64 0, .string ⟨#[]⟩, .bool false, .int .i64 0, .int .i64 0] 40)) : World).cell? ⟨w.heap.size, 4, none⟩ = some (.string ⟨#[]⟩) := (World.cell?_alloc_at _ _ _ _ rfl).trans rfl
  have q5 : ((w.alloc (.cells #[.int .i64 0, .int .i64 0, .string ⟨#[]⟩, .string ⟨#[]⟩, .string ⟨#[]⟩, .int .i64 0, .int .i64 0, .int .i64 0, .string ⟨#[]⟩, .bool false, .int .i64 0, .int .i64 0] 40)) : World).cell? ⟨w.heap.size, 5, none⟩ = some (.int .i64 0) := (World.cell?_alloc_at _ _ _ _ rfl).trans rfl
  have q6 : ((w.alloc (.cells #[.int .i64 0, .int .i64 0, .string ⟨#[]⟩, .string ⟨#[]⟩, .string ⟨#[]⟩, .int .i64 0, .int .i64 0, .int .i64 0, .string ⟨#[]⟩, .bool false, .int .i64 0, .int .i64 0] 40)) : World).cell? ⟨w.heap.size, 6, none⟩ = some (.int .i64 0) := (World.cell?_alloc_at _ _ _ _ rfl).trans rfl
  have q7 : ((w.alloc (.cells #[.int .i64 0, .int .i64 0, .string ⟨#[]⟩, .string ⟨#[]⟩, .string ⟨#[]⟩, .int .i64 0, .int .i64 0, .int .i64 0, .string ⟨#[]⟩, .bool false, .int .i64 0, .int .i64 0] 40)) : World).cell? ⟨w.heap.size, 7, none⟩ = some (.int .i64 0) := (World.cell?_alloc_at _ _ _ _ rfl).trans rfl
  have q8 : ((w.alloc (.cells #[.int .i64 0, .int .i64 0, .string ⟨#[]⟩, .string ⟨#[]⟩, .string ⟨#[]⟩, .int .i64 0, .int .i64 0, .int .i64 0, .string ⟨#[]⟩, .bool false, .int .i64 0, .int .i64 0] 40)) : World).cell? ⟨w.heap.size, 8, none⟩ = some (.string ⟨#[]⟩) := (World.cell?_alloc_at _ _ _ _ rfl).trans rfl
  have q9 : ((w.alloc (.cells #[.int .i64 0, .int .i64 0, .string ⟨#[]⟩, .string ⟨#[]⟩, .string ⟨#[]⟩, .int .i64 0, .int .i64 0, .int .i64 0, .string ⟨#[]⟩, .bool false, .int .i64 0, .int .i64 0] 40)) : World).cell? ⟨w.heap.size, 9, none⟩ = some (.bool false) := (World.cell?_alloc_at _ _ _ _ rfl).trans rfl
  have q10 : ((w.alloc (.cells #[.int .i64 0, .int .i64 0, .string ⟨#[]⟩, .string ⟨#[]⟩, .string ⟨#[]⟩, .int .i64 0, .int .i64 0, .int .i64 0, .string ⟨#[]⟩, .bool false, .int .i64 0, .int .i64 0] 40)) : World).cell? ⟨w.heap.size, 10, none⟩ = some (.int .i64 0) := (World.cell?_alloc_at _ _ _ _ rfl).trans rfl
  have q11 : ((w.alloc (.cells #[.int .i64 0, .int .i64 0, .string ⟨#[]⟩, .string ⟨#[]⟩, .string ⟨#[]⟩, .int .i64 0, .int .i64 0, .int .i64 0, .string ⟨#[]⟩, .bool false, .int .i64 0, .int .i64 0] 40)) : World).cell? ⟨w.heap.size, 11, none⟩ = some (.int .i64 0) := (World.cell?_alloc_at _ _ _ _ rfl).trans rfl
  go_enter Tryz.func63, Tryz.ntmps63
  go_wp2_with fail
  all_goals first
    | exact (k1.out (by assumption) (by assumption)).elim
    | exact (k2.out (by assumption) (by assumption)).elim
    | exact (k3.out (by assumption) (by assumption)).elim
    | exact bodyPost_ret (v := .agg #[.int .i64 0, .int .i64 0, .string ⟨#[]⟩, .string ⟨#[]⟩, .string ⟨#[]⟩, .int .i64 0, .int .i64 0, .int .i64 0, .string ⟨#[]⟩, .bool false, .int .i64 0, .int .i64 0]) (by simp [results, Tryz.results63, go_sem, q0, q1, q2, q3, q4, q5, q6, q7, q8, q9, q10, q11]) rfl ⟨rfl, hB.out⟩
end Go.Proofs.YtibelcnjmpedkaaGreatDoor
