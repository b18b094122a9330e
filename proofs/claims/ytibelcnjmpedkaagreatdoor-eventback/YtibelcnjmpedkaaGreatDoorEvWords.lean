/-
  An event's words, as the program makes them.
-/
import Derived.Test.YtibelcnjmpedkaaGreatDoorEvWS
import Derived.Test.YtibelcnjmpedkaaGreatDoorEvMayBe
namespace Go.Proofs.YtibelcnjmpedkaaGreatDoor
open Go Go.RowKit Tok Sc Ev
abbrev bs8 (l : List UInt8) : ByteArray := ⟨l.toArray⟩
set_option maxHeartbeats 1000000 in
theorem wordOf_is (s : ByteArray) (w : World) : Calls Tryz.prog 100 #[.string s] w fun e w' => e = .returned (.string (bs8 (wordL s.data.toList))) ∧ w' = w := by
  by_cases h : s.data.toList = []
  · have he : s.toList.isEmpty = true := by rw [ByteArray.toList_eq, h]; rfl
    have HW : Hid (wordL s.data.toList = [95]) := by show _ = _; rw [h]; rfl
    clear h
    go_enter Tryz.func100, Tryz.ntmps100
    go_wp2_with fail
    go_ret
    exact ⟨by rw [HW.out]; rfl, rfl⟩
  · have he : s.toList.isEmpty = false := by rw [ByteArray.toList_eq, List.isEmpty_eq_false_iff]; exact h
    have HW : Hid (wordL s.data.toList = s.data.toList) := if_neg h
    clear h
    go_enter Tryz.func100, Tryz.ntmps100
    go_wp2_with fail
    go_ret
    exact ⟨by rw [HW.out]; rfl, rfl⟩
set_option maxHeartbeats 1000000 in
theorem lifeWord_is (d : Bool) (w : World) : Calls Tryz.prog 101 #[.bool d] w fun e w' => e = .returned (.string (bs8 (lifeL d))) ∧ w' = w := by
  cases d
  · go_enter Tryz.func101, Tryz.ntmps101
    go_wp2_with fail
    go_ret
    exact ⟨rfl, rfl⟩
  · go_enter Tryz.func101, Tryz.ntmps101
    go_wp2_with fail
    go_ret
    exact ⟨rfl, rfl⟩
/-- The words in a row. -/
def WordsAt (w : World) (g : Nat) (xs : List ByteArray) : Prop := g < w.heap.size ∧ ∀ (j : Nat) x, xs[j]? = some x → w.cell? ⟨g, 0 + j, none⟩ = some (.string x)
theorem wordsAt_new (w : World) (xs : List ByteArray) (t : TypeId) : WordsAt (w.alloc (.cells (xs.map Value.string).toArray t)) w.heap.size xs := by
  refine ⟨by simp, fun j x hj => ?_⟩
  rw [World.cell?_alloc_at _ _ _ _ rfl]
  simp [hj]
set_option maxRecDepth 100000 in
set_option maxHeartbeats 8000000 in
theorem words_1 (f : Fam) (w : World) (h : mayF f) (hL : LibsE w) : Calls Tryz.prog 58 #[evV ⟨1, f, 0, 0⟩] w fun e w' => ∃ g, e = .returned (.slice (some ⟨g, 0, none⟩) 10 10) ∧ WordsAt w' g ((putWs f).map bs8) ∧ Below w.heap.size w w' := by
  obtain ⟨⟨h1, h5, h6, h7⟩, _⟩ := h
  have i1 := fun (W : World) (hW : LibsE W) => itoaE_is f.id W h1.1 (by have := h1.2; omega) hW
  have i5 := fun (W : World) (hW : LibsE W) => itoaE_is f.gen W h5.1 (by have := h5.2; omega) hW
  have i6 := fun (W : World) (hW : LibsE W) => itoaE_is f.made W h6.1 (by have := h6.2; omega) hW
  have i7 := fun (W : World) (hW : LibsE W) => itoaE_is f.used W h7.1 (by have := h7.2; omega) hW
  clear h1 h5 h6 h7
  obtain ⟨f1, f2, f3, f4, f5, f6, f7, f8, f9⟩ := f
  simp only at i1 i5 i6 i7
  have HBD : Hid (Below w.heap.size w ((w.alloc (.cells #[.int .i64 1, .int .i64 f1, .string f2, .string f3, .string f4, .int .i64 f5, .int .i64 f6, .int .i64 f7, .string f8, .bool f9, .int .i64 0, .int .i64 0] 40)).alloc (.cells #[.int .i64 f1, .string f2, .string f3, .string f4, .int .i64 f5, .int .i64 f6, .int .i64 f7, .string f8, .bool f9] 38))) := by
    show Below _ _ _
    repeat (first | exact Below.refl _ _ | refine Below.alloc ?_ (by simp; try omega) _)
  unfold evV evCs
  simp only
  go_enter Tryz.func58, Tryz.ntmps58
  have hws : WS w (w.heap.size + 1) ⟨f1, f2, f3, f4, f5, f6, f7, f8, f9⟩ ((w.alloc (.cells #[.int .i64 1, .int .i64 f1, .string f2, .string f3, .string f4, .int .i64 f5, .int .i64 f6, .int .i64 f7, .string f8, .bool f9, .int .i64 0, .int .i64 0] 40)).alloc (.cells #[.int .i64 f1, .string f2, .string f3, .string f4, .int .i64 f5, .int .i64 f6, .int .i64 f7, .string f8, .bool f9] 38)) :=
    ⟨hL.below HBD.out, famAt_made _ ⟨f1, f2, f3, f4, f5, f6, f7, f8, f9⟩ _ _ (by simp), by simp, HBD.out⟩
  go_wp2_with fail
  generalize hg : w.heap.size + 1 = g at *
  generalize ((w.alloc (.cells #[.int .i64 1, .int .i64 f1, .string f2, .string f3, .string f4, .int .i64 f5, .int .i64 f6, .int .i64 f7, .string f8, .bool f9, .int .i64 0, .int .i64 0] 40)).alloc (.cells #[.int .i64 f1, .string f2, .string f3, .string f4, .int .i64 f5, .int .i64 f6, .int .i64 f7, .string f8, .bool f9] 38)) = W at *
  go_region_held3 (fun w' => (w'.cell? ⟨g, 0, none⟩ = some (.int .i64 f1) ∧ w'.cell? ⟨g, 1, none⟩ = some (.string f2) ∧ w'.cell? ⟨g, 2, none⟩ = some (.string f3) ∧ w'.cell? ⟨g, 3, none⟩ = some (.string f4) ∧ w'.cell? ⟨g, 4, none⟩ = some (.int .i64 f5) ∧ w'.cell? ⟨g, 5, none⟩ = some (.int .i64 f6) ∧ w'.cell? ⟨g, 6, none⟩ = some (.int .i64 f7) ∧ w'.cell? ⟨g, 7, none⟩ = some (.string f8) ∧ w'.cell? ⟨g, 8, none⟩ = some (.bool f9) ∧ WS w g ⟨f1, f2, f3, f4, f5, f6, f7, f8, f9⟩ w')) (first | exact ws_drew hws | exact ws_keep (by assumption) (by assumption) | exact ws_keep (by assumption) ((Below.refl _ _).alloc (Nat.le_refl _) _))
    (first
      | (go_at_call_of 71 (Value.int IntKind.i64 f1); refine (i1 _ (ws_libs (by assumption))).mono ?_; rintro e w' ⟨rfl, hb⟩)
      | (go_at_call_of 71 (Value.int IntKind.i64 f5); refine (i5 _ (ws_libs (by assumption))).mono ?_; rintro e w' ⟨rfl, hb⟩)
      | (go_at_call_of 71 (Value.int IntKind.i64 f6); refine (i6 _ (ws_libs (by assumption))).mono ?_; rintro e w' ⟨rfl, hb⟩)
      | (go_at_call_of 71 (Value.int IntKind.i64 f7); refine (i7 _ (ws_libs (by assumption))).mono ?_; rintro e w' ⟨rfl, hb⟩)
      | (go_at_call_of 100 (Value.string f4); refine (wordOf_is f4 _).mono ?_; rintro e w' ⟨rfl, rfl⟩; have hb := Below.refl w'.heap.size w')
      | (go_at_call_of 100 (Value.string f8); refine (wordOf_is f8 _).mono ?_; rintro e w' ⟨rfl, rfl⟩; have hb := Below.refl w'.heap.size w')
      | (go_at_call_of 101 (Value.bool f9); refine (lifeWord_is f9 _).mono ?_; rintro e w' ⟨rfl, rfl⟩; have hb := Below.refl w'.heap.size w'))
  rename_i hS
  have HF : Hid (Below w.heap.size w _) := hS.2.2.2.2.2.2.2.2.2.below
  clear hS
  go_wp2_with fail
  go_ret
  exact ⟨_, rfl, wordsAt_new _ ((putWs ⟨f1, f2, f3, f4, f5, f6, f7, f8, f9⟩).map bs8) _, HF.out⟩
set_option maxRecDepth 100000 in
set_option maxHeartbeats 4000000 in
theorem words_2 (i : Int) (w : World) (h : okN i) (hL : LibsE w) : Calls Tryz.prog 58 #[evV ⟨2, zeroF, i, 0⟩] w fun e w' => ∃ g, e = .returned (.slice (some ⟨g, 0, none⟩) 2 2) ∧ WordsAt w' g (([[100], Lib.itoa i] : List Word).map bs8) ∧ Below w.heap.size w w' := by
  have i1 := fun (W : World) (hW : LibsE W) => itoaE_is i W h.1 (by have := h.2; omega) hW
  have HL : Hid (LibsE w) := hL
  clear hL
  unfold evV evCs zeroF
  simp only
  go_enter Tryz.func58, Tryz.ntmps58
  go_wp2_with fail
  have hbd : Below w.heap.size w ((w.alloc (.cells #[.int .i64 2, .int .i64 0, .string ⟨#[]⟩, .string ⟨#[]⟩, .string ⟨#[]⟩, .int .i64 0, .int .i64 0, .int .i64 0, .string ⟨#[]⟩, .bool false, .int .i64 i, .int .i64 0] 40)).alloc (.cells #[.int .i64 0, .string ⟨#[]⟩, .string ⟨#[]⟩, .string ⟨#[]⟩, .int .i64 0, .int .i64 0, .int .i64 0, .string ⟨#[]⟩, .bool false] 38)) := by
    repeat (first | exact Below.refl _ _ | refine Below.alloc ?_ (by simp; try omega) _)
  refine (i1 _ (HL.out.below hbd)).mono ?_
  rintro e w' ⟨rfl, hb⟩
  have HF : Hid (Below w.heap.size w (w'.alloc (.cells #[.string ⟨#[100]⟩, .string ⟨(Lib.itoa i).toArray⟩] 9))) := (hbd.trans (hb.mono hbd.size)).alloc (hbd.trans (hb.mono hbd.size)).size _
  clear hbd hb
  go_wp2_with fail
  go_ret
  exact ⟨_, rfl, wordsAt_new w' (([[100], Lib.itoa i] : List Word).map bs8) _, HF.out⟩
set_option maxRecDepth 100000 in
set_option maxHeartbeats 4000000 in
theorem words_3 (i : Int) (w : World) (h : okN i) (hL : LibsE w) : Calls Tryz.prog 58 #[evV ⟨3, zeroF, 0, i⟩] w fun e w' => ∃ g, e = .returned (.slice (some ⟨g, 0, none⟩) 2 2) ∧ WordsAt w' g (([[99], Lib.itoa i] : List Word).map bs8) ∧ Below w.heap.size w w' := by
  have i1 := fun (W : World) (hW : LibsE W) => itoaE_is i W h.1 (by have := h.2; omega) hW
  have HL : Hid (LibsE w) := hL
  clear hL
  unfold evV evCs zeroF
  simp only
  go_enter Tryz.func58, Tryz.ntmps58
  go_wp2_with fail
  have hbd : Below w.heap.size w ((w.alloc (.cells #[.int .i64 3, .int .i64 0, .string ⟨#[]⟩, .string ⟨#[]⟩, .string ⟨#[]⟩, .int .i64 0, .int .i64 0, .int .i64 0, .string ⟨#[]⟩, .bool false, .int .i64 0, .int .i64 i] 40)).alloc (.cells #[.int .i64 0, .string ⟨#[]⟩, .string ⟨#[]⟩, .string ⟨#[]⟩, .int .i64 0, .int .i64 0, .int .i64 0, .string ⟨#[]⟩, .bool false] 38)) := by
    repeat (first | exact Below.refl _ _ | refine Below.alloc ?_ (by simp; try omega) _)
  refine (i1 _ (HL.out.below hbd)).mono ?_
  rintro e w' ⟨rfl, hb⟩
  have HF : Hid (Below w.heap.size w (w'.alloc (.cells #[.string ⟨#[99]⟩, .string ⟨(Lib.itoa i).toArray⟩] 9))) := (hbd.trans (hb.mono hbd.size)).alloc (hbd.trans (hb.mono hbd.size)).size _
  clear hbd hb
  go_wp2_with fail
  go_ret
  exact ⟨_, rfl, wordsAt_new w' (([[99], Lib.itoa i] : List Word).map bs8) _, HF.out⟩
/-- An event's words: in a row. -/
theorem wordsE_is (e : E) (w : World) (h : Ev.may e) (hL : LibsE w) : Calls Tryz.prog 58 #[evV e] w fun r w' => ∃ g, r = .returned (.slice (some ⟨g, 0, none⟩) (wordsOf e).length (wordsOf e).length) ∧ WordsAt w' g ((wordsOf e).map bs8) ∧ Below w.heap.size w w' := by
  obtain ⟨k, f, i, t⟩ := e
  rcases h with ⟨hk, hf, hi, ht⟩ | ⟨hk, hf, hi, ht⟩ | ⟨hk, hf, hi, ht⟩ <;> simp only at hk hf hi ht <;> subst hk
  · subst hi; subst ht
    exact words_1 f w hf hL
  · subst hf; subst ht
    exact words_2 i w hi hL
  · subst hf; subst hi
    exact words_3 t w ht hL
end Go.Proofs.YtibelcnjmpedkaaGreatDoor
