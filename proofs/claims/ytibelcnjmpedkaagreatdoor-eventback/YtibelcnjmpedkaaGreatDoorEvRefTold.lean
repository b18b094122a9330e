/-
  Numbers with blanks between, as the document's answer tells them.
-/
import Derived.Test.YtibelcnjmpedkaaGreatDoorEvLibs
import Derived.Test.YtibelcnjmpedkaaGreatDoorEvRefMayA
import Derived.Test.YtibelcnjmpedkaaGreatDoorScApp
import Derived.Test.YtibelcnjmpedkaaGreatDoorScLeast
namespace Go.Proofs.YtibelcnjmpedkaaGreatDoor
open Go Go.RowKit Tok Sc Ev
def told (ns : List Int) : List UInt8 := Lib.join (ns.map Lib.itoa) [32]
def toldB (ns : List Int) : List ByteArray := ns.map fun n => (⟨(Lib.itoa n).toArray⟩ : ByteArray)
theorem toldB_take (ns : List Int) (j : Nat) (h : j < ns.length) : toldB (ns.take (j + 1)) = toldB (ns.take j) ++ [⟨(Lib.itoa ns[j]).toArray⟩] := by
  unfold toldB
  rw [List.take_succ_eq_append_getElem h, List.map_append]
  rfl
theorem toldB_lists (ns : List Int) : (toldB ns).map (·.data.toList) = ns.map Lib.itoa := by
  unfold toldB
  rw [List.map_map]
  rfl
theorem told_len : ∀ (ns : List Int), (∀ n ∈ ns, okN n) → (told ns).length ≤ 14 * ns.length
  | [], _ => by simp [told, Lib.join_nil]
  | [a], h => by
    have := digits13 (h a (by simp))
    simp [told, Lib.join_one]
    omega
  | a :: b :: l, h => by
    have h1 := digits13 (h a (by simp))
    have h2 := told_len (b :: l) (fun n hn => h n (by simp [hn]))
    unfold told at *
    rw [List.map_cons, List.map_cons, glue_two]
    simp at h2 ⊢
    omega
/-- A row of numbers. -/
def TRow (w : World) (g : Nat) (ns : List Int) : Prop := g < w.heap.size ∧ ∀ j (h : j < ns.length), w.cell? ⟨g, j, none⟩ = some (.int .i64 ns[j])
theorem TRow.on {w w' : World} {g : Nat} {ns : List Int} (h : TRow w g ns) (hb : Below w.heap.size w w') : TRow w' g ns :=
  ⟨Nat.lt_of_lt_of_le h.1 hb.size, fun j hj => (hb.cell (p := ⟨g, j, none⟩) h.1).trans (h.2 j hj)⟩
theorem TRow.alloc {w : World} {g : Nat} {ns : List Int} (h : TRow w g ns) (o : Obj) : TRow (w.alloc o) g ns := h.on ((Below.refl _ _).alloc (Nat.le_refl _) _)
theorem trow1 (w : World) (a : Int) (t : TypeId) (g : Nat) (hg : g = w.heap.size) : TRow (w.alloc (.cells #[.int .i64 a] t)) g [a] :=
  ⟨by simp [hg], fun j hj => by
    match j, hj with
    | 0, _ => exact (World.cell?_alloc_at _ _ _ _ hg).trans rfl⟩
theorem trow3 (w : World) (a b c : Int) (t : TypeId) (g : Nat) (hg : g = w.heap.size) : TRow (w.alloc (.cells #[.int .i64 a, .int .i64 b, .int .i64 c] t)) g [a, b, c] :=
  ⟨by simp [hg], fun j hj => by
    match j, hj with
    | 0, _ => exact (World.cell?_alloc_at _ _ _ _ hg).trans rfl
    | 1, _ => exact (World.cell?_alloc_at _ _ _ _ hg).trans rfl
    | 2, _ => exact (World.cell?_alloc_at _ _ _ _ hg).trans rfl⟩
theorem joinB_is {B : Nat} {w : World} {v : Value} {xs : List ByteArray} (h : Words B w v xs) (hn : (Lib.join (xs.map (·.data.toList)) [32]).length ≤ 100000) (hx : xs.length ≤ 1000) :
    Calls Tryz.prog 57 #[v, .string ⟨#[32]⟩] w fun e w' => e = .returned (.string ⟨(Lib.join (xs.map (·.data.toList)) [32]).toArray⟩) ∧ Below w.heap.size w w' := by
  rcases h with ⟨rfl, rfl⟩ | ⟨g, c, rfl, hr⟩
  · refine (Tryz.strings_Join_none none 0 ⟨#[32]⟩ w).mono ?_
    rintro e w' ⟨rfl, rfl⟩
    exact ⟨rfl, Below.refl _ _⟩
  · refine Tryz.strings_Join g 0 c xs ⟨#[32]⟩ w (fun j x hj => ?_) hr.lt (by omega) hr.le (Nat.le_trans hn (by omega))
    rw [Nat.zero_add]
    refine hr.holds j _ ?_
    rw [List.getElem?_map, hj]
    rfl
set_option maxHeartbeats 1000000 in
theorem refWord_is (s : ByteArray) (w : World) : Calls Tryz.prog 55 #[.string s] w fun e w' => e = .returned (.string ⟨(wordL s.data.toList).toArray⟩) ∧ w' = w := by
  by_cases h : s.data.toList = []
  · have he : s.toList.isEmpty = true := by rw [ByteArray.toList_eq, h]; rfl
    have HW : Hid (wordL s.data.toList = [95]) := by show _ = _; rw [h]; rfl
    clear h
    go_enter Tryz.func55, Tryz.ntmps55
    go_wp2_with fail
    go_ret
    exact ⟨by rw [HW.out]; rfl, rfl⟩
  · have he : s.toList.isEmpty = false := by rw [ByteArray.toList_eq, List.isEmpty_eq_false_iff]; exact h
    have HW : Hid (wordL s.data.toList = s.data.toList) := if_neg h
    clear h
    go_enter Tryz.func55, Tryz.ntmps55
    go_wp2_with fail
    go_ret
    exact ⟨by rw [HW.out]; rfl, rfl⟩
theorem info_strE : (Tryz.prog.info? 9).map (fun i => (i.zero, i.size, i.bytes)) = some (some (.string ⟨#[]⟩), 1, 16) := by kernel_rfl
theorem info_strsE : ∃ i, Tryz.prog.info? 9 = some i ∧ i.zero = some (.string ⟨#[]⟩) ∧ i.size = 1 ∧ i.bytes = 16 := by
  have h := info_strE
  cases hi : Tryz.prog.info? 9 with
  | none => rw [hi] at h; cases h
  | some i =>
    rw [hi] at h
    simp only [Option.map_some, Option.some.injEq, Prod.mk.injEq] at h
    exact ⟨i, rfl, h.1, h.2.1, h.2.2⟩
set_option maxRecDepth 100000 in
set_option maxHeartbeats 4000000 in
theorem told_is (ns : List Int) (g c : Nat) (w : World) (hn : ns.length ≤ 4) (hok : ∀ n ∈ ns, okN n) (hr : TRow w g ns) (hL : LibsE w) : Calls Tryz.prog 54 #[.slice (some ⟨g, 0, none⟩) ns.length c] w fun e w' => e = .returned (.string ⟨(told ns).toArray⟩) ∧ Below w.heap.size w w' := by
  obtain ⟨i0, hi, hz0, hz1, hz2⟩ := info_strsE
  have HL : Hid (LibsE w) := hL
  have HR : Hid (TRow w g ns) := hr
  have HOK : Hid (∀ n ∈ ns, okN n) := hok
  have HLEN : Hid ((told ns).length ≤ 100000) := by have := told_len ns hok; show _ ≤ _; omega
  clear hL hr hok
  go_enter Tryz.func54, Tryz.ntmps54
  go_wp2_with fail
  go_loopg [3, 8] ns.length (fun gk ov iv wr => ∃ j : Nat, j + gk = ns.length ∧ iv = .int .i64 j ∧ Hid (Words w.heap.size wr ov (toldB (ns.take j))) ∧ Hid (Below w.heap.size w wr))
  case atStart => exact ⟨0, by omega, rfl, .inl ⟨rfl, rfl⟩, Below.refl _ _⟩
  case round =>
    obtain ⟨j, hj, rfl, HW, HB⟩ := hrel
    have HJ : Hid (j + gk = ns.length) := hj
    have hjl : j ≤ ns.length := by omega
    clear hj
    by_cases hlt : j < ns.length
    · have hltI : (j : Int) < (ns.length : Int) := by omega
      have hcell : wr.cell? ⟨g, j, none⟩ = some (.int .i64 ns[j]) := ((HR.out.on HB.out).2 j hlt)
      have HNJ : Hid (okN ns[j]) := HOK.out _ (List.getElem_mem hlt)
      have HT : Hid (toldB (ns.take (j + 1)) = toldB (ns.take j) ++ [⟨(Lib.itoa ns[j]).toArray⟩]) := toldB_take ns j hlt
      have hlx : (toldB (ns.take j)).length ≤ 1000000 := by unfold toldB; simp; omega
      generalize ns[j] = n at *
      go_wp2_with fail
      refine (itoaE_is n _ HNJ.out.1 (by have := HNJ.out.2; omega) (HL.out.below HB.out)).mono ?_
      rintro e w1 ⟨rfl, hb1⟩
      have HB1 : Hid (Below w.heap.size w w1) := HB.out.trans (hb1.mono HB.out.size)
      have HW1 : Hid (Words w.heap.size w1 _ (toldB (ns.take j))) := HW.out.below hb1 (Nat.le_refl _)
      clear hb1 hcell
      have HB2 : Hid (Below w.heap.size w (w1.alloc (.cells #[.string ⟨(Lib.itoa n).toArray⟩] 9))) := HB1.out.alloc HB1.out.size _
      have HW2 : Hid (Words w.heap.size (w1.alloc (.cells #[.string ⟨(Lib.itoa n).toArray⟩] 9)) _ (toldB (ns.take j))) := HW1.out.below ((Below.refl _ _).alloc (Nat.le_refl _) _) (Nat.le_refl _)
      go_wp2_with (at_builtin; refine wpList_append_words _ rfl _ _ 23 rfl 9 i0 Tryz.underlying23 hi hz0 hz1 hz2 w.heap.size _ _ rfl HW2.out HB2.out.size ⟨w1.heap.size, 0, none⟩ 1 ⟨(Lib.itoa n).toArray⟩ rfl ((World.cell?_alloc_at _ _ _ _ rfl).trans rfl) hlx ?_)
      intro v' w2 hw2 hb2
      have HB3 : Hid (Below w.heap.size w w2) := HB2.out.trans hb2
      have HW3 : Hid (Words w.heap.size w2 v' (toldB (ns.take (j + 1)))) := by show Words _ _ _ _; rw [HT.out]; exact hw2
      clear hw2 hb2
      go_wp2_with fail
      go_roundg (gk - 1)
      case measure => have := HJ.out; omega
      case rel => exact ⟨j + 1, by have := HJ.out; omega, by go_num, HW3, HB3⟩
    · obtain rfl : j = ns.length := by omega
      have hwf := HW.out
      rw [List.take_of_length_le (Nat.le_refl _)] at hwf
      have HWF : Hid _ := hwf
      clear hwf
      have hjn := fun (W : World) v (hW : Words w.heap.size W v (toldB ns)) => joinB_is hW (by rw [toldB_lists]; exact HLEN.out) (by unfold toldB; simp; omega)
      simp only [toldB_lists] at hjn
      go_wp2_with fail
      refine (hjn _ _ HWF.out).mono ?_
      rintro e w1 ⟨rfl, hb1⟩
      have HB1 : Hid (Below w.heap.size w w1) := HB.out.trans (hb1.mono HB.out.size)
      clear hb1
      go_wp2_with fail
      go_ret
      exact ⟨rfl, HB1.out⟩
end Go.Proofs.YtibelcnjmpedkaaGreatDoor
