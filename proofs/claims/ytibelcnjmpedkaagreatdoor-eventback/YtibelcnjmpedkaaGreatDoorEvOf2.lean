/-
  An event of words, as the program takes it: the walk.
-/
import Derived.Test.YtibelcnjmpedkaaGreatDoorEvOf1
namespace Go.Proofs.YtibelcnjmpedkaaGreatDoor
open Go Go.RowKit Tok Sc Ev
/-- Below which the library's variables lie. -/
def Olds (n : Nat) : Prop := 2 < n ∧ 3 < n ∧ 1 < n ∧ 0 < n
theorem olds_of {w : World} (h : LibsA w) : Olds w.heap.size := by
  obtain ⟨_, h1, _⟩ := h.syn
  obtain ⟨_, h2, _⟩ := h.rng
  obtain ⟨_, h3⟩ := h.base.len
  exact ⟨World.block_lt_of_cell? _ _ h1, World.block_lt_of_cell? _ _ h2, h.base.big, World.block_lt_of_cell? _ _ h3⟩
theorem os_made (w : World) (g : Nat) (ws : List ByteArray) (cs : Array Value) (t : TypeId) (hc : cs.size = 12) (hL : LibsA w) (hw : WordsAt w g ws) : OS w w.heap.size g ws (w.alloc (.cells cs t)) where
  libs := hL.below ((Below.refl _ _).alloc (Nat.le_refl _) _)
  words := ⟨by simp; have := hw.1; omega, fun j x hj => Lib.cell?_alloc_some _ (hw.2 j x hj)⟩
  lt := by simp
  new := Nat.le_refl _
  ne := by have := hw.1; omega
  there := fun i hi => by
    rw [World.cell?_alloc_at _ _ _ _ rfl, Array.getElem?_eq_getElem (by omega)]
    rfl
  free := fun i => World.frozen?_alloc_at _ _ _ _ rfl
  below := (Below.refl _ _).alloc (Nat.le_refl _) _
  old := olds_of hL
set_option maxRecDepth 100000 in
set_option maxHeartbeats 16000000 in
theorem ofWords_put (x0 x1 x2 x3 x4 x5 x6 x7 x8 x9 : ByteArray) (g c : Nat) (w : World) (h0 : x0.data.toList = [112]) (hs : ∀ x ∈ [x0, x1, x2, x3, x4, x5, x6, x7, x8, x9], x.size ≤ 1000) (hw : WordsAt w g [x0, x1, x2, x3, x4, x5, x6, x7, x8, x9]) (hL : LibsA w) :
    Calls Tryz.prog 63 #[.slice (some ⟨g, 0, none⟩) 10 c] w fun r w' => ∃ e, r = .returned (evV e) ∧ ToldW [x0, x1, x2, x3, x4, x5, x6, x7, x8, x9] e ∧ Small 1000 e.fam ∧ Below w.heap.size w w' := by
  obtain rfl : x0 = ⟨#[112]⟩ := bytes_eq h0
  have s1 := hs x1 (by simp)
  have s2 := hs x2 (by simp)
  have s3 := hs x3 (by simp)
  have s4 := hs x4 (by simp)
  have s5 := hs x5 (by simp)
  have s6 := hs x6 (by simp)
  have s7 := hs x7 (by simp)
  have s8 := hs x8 (by simp)
  have hos := os_made w g _ #[.int .i64 0, .int .i64 0, .string ⟨#[]⟩, .string ⟨#[]⟩, .string ⟨#[]⟩, .int .i64 0, .int .i64 0, .int .i64 0, .string ⟨#[]⟩, .bool false, .int .i64 0, .int .i64 0] 40 rfl hL hw
  have cc := (os_allA hos)
  have d0 := cc.1
  have i1 := fun (W : World) (hW : LibsA W) => numberOf_is x1 W (by omega) hW
  have i5 := fun (W : World) (hW : LibsA W) => numberOf_is x5 W (by omega) hW
  have i6 := fun (W : World) (hW : LibsA W) => numberOf_is x6 W (by omega) hW
  have i7 := fun (W : World) (hW : LibsA W) => numberOf_is x7 W (by omega) hW
  have i2 := fun (W : World) => textOf_is x2 W (by omega)
  have i3 := fun (W : World) => textOf_is x3 W (by omega)
  have i4 := fun (W : World) => textOf_is x4 W (by omega)
  have i8 := fun (W : World) => textOf_is x8 W (by omega)
  have HS2 : Hid (x2.size ≤ 1000 ∧ x3.size ≤ 1000 ∧ x4.size ≤ 1000 ∧ x8.size ≤ 1000) := ⟨s2, s3, s4, s8⟩
  clear s1 s2 s3 s4 s5 s6 s7 s8 hs hw hL h0 cc
  go_enter Tryz.func63, Tryz.ntmps63
  go_wp2_with fail
  clear d0
  generalize hb : w.heap.size = b at *
  generalize (w.alloc (.cells #[.int .i64 0, .int .i64 0, .string ⟨#[]⟩, .string ⟨#[]⟩, .string ⟨#[]⟩, .int .i64 0, .int .i64 0, .int .i64 0, .string ⟨#[]⟩, .bool false, .int .i64 0, .int .i64 0] 40)) = W at *
  have HBQ : Hid (w.heap.size = b) := hb
  clear hb
  go_region_held3 (fun w' => (w'.cell? ⟨g, 0, none⟩ = some (.string ⟨#[112]⟩) ∧ w'.cell? ⟨g, 1, none⟩ = some (.string x1) ∧ w'.cell? ⟨g, 2, none⟩ = some (.string x2) ∧ w'.cell? ⟨g, 3, none⟩ = some (.string x3) ∧ w'.cell? ⟨g, 4, none⟩ = some (.string x4) ∧ w'.cell? ⟨g, 5, none⟩ = some (.string x5) ∧ w'.cell? ⟨g, 6, none⟩ = some (.string x6) ∧ w'.cell? ⟨g, 7, none⟩ = some (.string x7) ∧ w'.cell? ⟨g, 8, none⟩ = some (.string x8) ∧ w'.cell? ⟨g, 9, none⟩ = some (.string x9) ∧ w'.cell? ⟨b, 0, none⟩ = some (peek w' b 0) ∧ w'.cell? ⟨b, 1, none⟩ = some (peek w' b 1) ∧ w'.cell? ⟨b, 2, none⟩ = some (peek w' b 2) ∧ w'.cell? ⟨b, 3, none⟩ = some (peek w' b 3) ∧ w'.cell? ⟨b, 4, none⟩ = some (peek w' b 4) ∧ w'.cell? ⟨b, 5, none⟩ = some (peek w' b 5) ∧ w'.cell? ⟨b, 6, none⟩ = some (peek w' b 6) ∧ w'.cell? ⟨b, 7, none⟩ = some (peek w' b 7) ∧ w'.cell? ⟨b, 8, none⟩ = some (peek w' b 8) ∧ w'.cell? ⟨b, 9, none⟩ = some (peek w' b 9) ∧ w'.cell? ⟨b, 10, none⟩ = some (peek w' b 10) ∧ w'.cell? ⟨b, 11, none⟩ = some (peek w' b 11) ∧ (∀ i, w'.frozen? ⟨b, i, none⟩ = false) ∧ OS w b g [⟨#[112]⟩, x1, x2, x3, x4, x5, x6, x7, x8, x9] w'))
    (first | (refine os_setA ?_; (repeat refine OS.set ?_ _ _); exact os_ofA (by assumption)) | exact os_drewA hos | exact os_keepA (by assumption) (by assumption))
    (first
      | (go_at_call_of 102 (Value.string x1); refine (i1 _ (os_libsA (by assumption))).mono ?_; rintro e w1 ⟨n1, rfl, hb1, hv1⟩)
      | (go_at_call_of 103 (Value.string x2); refine (i2 _).mono ?_; rintro e w2 ⟨t2, rfl, hb2, hv2⟩)
      | (go_at_call_of 103 (Value.string x3); refine (i3 _).mono ?_; rintro e w3 ⟨t3, rfl, hb3, hv3⟩)
      | (go_at_call_of 103 (Value.string x4); refine (i4 _).mono ?_; rintro e w4 ⟨t4, rfl, hb4, hv4⟩)
      | (go_at_call_of 102 (Value.string x5); refine (i5 _ (os_libsA (by assumption))).mono ?_; rintro e w5 ⟨n5, rfl, hb5, hv5⟩)
      | (go_at_call_of 102 (Value.string x6); refine (i6 _ (os_libsA (by assumption))).mono ?_; rintro e w6 ⟨n6, rfl, hb6, hv6⟩)
      | (go_at_call_of 102 (Value.string x7); refine (i7 _ (os_libsA (by assumption))).mono ?_; rintro e w7 ⟨n7, rfl, hb7, hv7⟩)
      | (go_at_call_of 103 (Value.string x8); refine (i8 _).mono ?_; rintro e w8 ⟨t8, rfl, hb8, hv8⟩; have hos8 := os_ofA (os_keepA (w0 := w) (b := b) (g := g) (by assumption) hb8)))
  have hth : ∀ j, j < ([.int .i64 1, .int .i64 n1, .string t2, .string t3, .string t4, .int .i64 n5, .int .i64 n6, .int .i64 n7, .string t8, .bool (x9.toList == [49]), .int .i64 0, .int .i64 0] : List Value).length → (w8.cell? ⟨b, 0 + j, none⟩).isSome = true := fun j hj => by rw [Nat.zero_add]; exact hos8.there j hj
  have HBF : Hid (Below w.heap.size w (w8.setCells b 0 [.int .i64 1, .int .i64 n1, .string t2, .string t3, .string t4, .int .i64 n5, .int .i64 n6, .int .i64 n7, .string t8, .bool (x9.toList == [49]), .int .i64 0, .int .i64 0])) := hos8.below.trans (below_setCellsW hos8.new _ 0 w8)
  have q0 := World.cell?_setCells_in b [.int .i64 1, .int .i64 n1, .string t2, .string t3, .string t4, .int .i64 n5, .int .i64 n6, .int .i64 n7, .string t8, .bool (x9.toList == [49]), .int .i64 0, .int .i64 0] 0 w8 hth 0 (by simp)
  have q1 := World.cell?_setCells_in b [.int .i64 1, .int .i64 n1, .string t2, .string t3, .string t4, .int .i64 n5, .int .i64 n6, .int .i64 n7, .string t8, .bool (x9.toList == [49]), .int .i64 0, .int .i64 0] 0 w8 hth 1 (by simp)
  have q2 := World.cell?_setCells_in b [.int .i64 1, .int .i64 n1, .string t2, .string t3, .string t4, .int .i64 n5, .int .i64 n6, .int .i64 n7, .string t8, .bool (x9.toList == [49]), .int .i64 0, .int .i64 0] 0 w8 hth 2 (by simp)
  have q3 := World.cell?_setCells_in b [.int .i64 1, .int .i64 n1, .string t2, .string t3, .string t4, .int .i64 n5, .int .i64 n6, .int .i64 n7, .string t8, .bool (x9.toList == [49]), .int .i64 0, .int .i64 0] 0 w8 hth 3 (by simp)
  have q4 := World.cell?_setCells_in b [.int .i64 1, .int .i64 n1, .string t2, .string t3, .string t4, .int .i64 n5, .int .i64 n6, .int .i64 n7, .string t8, .bool (x9.toList == [49]), .int .i64 0, .int .i64 0] 0 w8 hth 4 (by simp)
  have q5 := World.cell?_setCells_in b [.int .i64 1, .int .i64 n1, .string t2, .string t3, .string t4, .int .i64 n5, .int .i64 n6, .int .i64 n7, .string t8, .bool (x9.toList == [49]), .int .i64 0, .int .i64 0] 0 w8 hth 5 (by simp)
  have q6 := World.cell?_setCells_in b [.int .i64 1, .int .i64 n1, .string t2, .string t3, .string t4, .int .i64 n5, .int .i64 n6, .int .i64 n7, .string t8, .bool (x9.toList == [49]), .int .i64 0, .int .i64 0] 0 w8 hth 6 (by simp)
  have q7 := World.cell?_setCells_in b [.int .i64 1, .int .i64 n1, .string t2, .string t3, .string t4, .int .i64 n5, .int .i64 n6, .int .i64 n7, .string t8, .bool (x9.toList == [49]), .int .i64 0, .int .i64 0] 0 w8 hth 7 (by simp)
  have q8 := World.cell?_setCells_in b [.int .i64 1, .int .i64 n1, .string t2, .string t3, .string t4, .int .i64 n5, .int .i64 n6, .int .i64 n7, .string t8, .bool (x9.toList == [49]), .int .i64 0, .int .i64 0] 0 w8 hth 8 (by simp)
  have q9 := World.cell?_setCells_in b [.int .i64 1, .int .i64 n1, .string t2, .string t3, .string t4, .int .i64 n5, .int .i64 n6, .int .i64 n7, .string t8, .bool (x9.toList == [49]), .int .i64 0, .int .i64 0] 0 w8 hth 9 (by simp)
  have q10 := World.cell?_setCells_in b [.int .i64 1, .int .i64 n1, .string t2, .string t3, .string t4, .int .i64 n5, .int .i64 n6, .int .i64 n7, .string t8, .bool (x9.toList == [49]), .int .i64 0, .int .i64 0] 0 w8 hth 10 (by simp)
  have q11 := World.cell?_setCells_in b [.int .i64 1, .int .i64 n1, .string t2, .string t3, .string t4, .int .i64 n5, .int .i64 n6, .int .i64 n7, .string t8, .bool (x9.toList == [49]), .int .i64 0, .int .i64 0] 0 w8 hth 11 (by simp)
  generalize hWW : World.setCell _ ⟨b, 11, none⟩ _ = WW
  have hW2 : w8.setCells b 0 [.int .i64 1, .int .i64 n1, .string t2, .string t3, .string t4, .int .i64 n5, .int .i64 n6, .int .i64 n7, .string t8, .bool (x9.toList == [49]), .int .i64 0, .int .i64 0] = WW := hWW
  have HB2 : Hid (Below w.heap.size w WW) := by rw [← hW2]; exact HBF.out
  rw [hW2] at q0 q1 q2 q3 q4 q5 q6 q7 q8 q9 q10 q11
  simp only [Nat.zero_add, List.getElem_cons_zero, List.getElem_cons_succ] at q0 q1 q2 q3 q4 q5 q6 q7 q8 q9 q10 q11
  clear hW2 hWW hth HBF hos8
  go_wp2_with fail
  exact bodyPost_ret (v := .agg #[.int .i64 1, .int .i64 n1, .string t2, .string t3, .string t4, .int .i64 n5, .int .i64 n6, .int .i64 n7, .string t8, .bool (x9.toList == [49]), .int .i64 0, .int .i64 0]) (by simp [results, Tryz.results63, go_sem, q0, q1, q2, q3, q4, q5, q6, q7, q8, q9, q10, q11]) rfl ⟨⟨1, ⟨n1, t2, t3, t4, n5, n6, n7, t8, x9.toList == [49]⟩, 0, 0⟩, rfl, toldW_put hv1 hv5 hv6 hv7 hv2 hv3 hv4 hv8, ⟨Nat.le_trans hv2.1 HS2.out.1, Nat.le_trans hv3.1 HS2.out.2.1, Nat.le_trans hv4.1 HS2.out.2.2.1, Nat.le_trans hv8.1 HS2.out.2.2.2⟩, HB2.out⟩
end Go.Proofs.YtibelcnjmpedkaaGreatDoor
