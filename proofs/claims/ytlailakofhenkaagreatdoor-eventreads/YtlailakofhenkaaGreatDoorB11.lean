/-
  Own texts put together: EvRefMay3, EvRefMayA, EvRefTold, EvRefWrite, EvRefWrite1.
-/
import Derived.Test.YtlailakofhenkaaGreatDoorB7
import Derived.Test.YtlailakofhenkaaGreatDoorB10
import Derived.Test.YtlailakofhenkaaGreatDoorB3
import Derived.Test.YtlailakofhenkaaGreatDoorB5
import Derived.Test.YtlailakofhenkaaGreatDoorB6
import Derived.Test.YtlailakofhenkaaGreatDoorB4
/-
  What may be an event, as the document's answer has it: the time, and other kinds.
-/

namespace Go.Proofs.YtlailakofhenkaaGreatDoor
open Go Go.RowKit Tok Sc Ev
set_option maxRecDepth 100000 in
set_option maxHeartbeats 4000000 in
theorem refMay_3 (f : Fam) (i t : Int) (b : Bool) (hb : b = true ↔ may ⟨3, f, i, t⟩) (w : World) : Calls Tryz.prog 53 #[evV ⟨3, f, i, t⟩] w fun e w' => e = .returned (.bool b) ∧ Below w.heap.size w w' := by
  rw [may_3] at hb
  by_cases hz : f = zeroF
  · subst hz
    by_cases ht : i = 0
    · subst ht
      have HB : Hid (b = okB t) := by
        show b = okB t
        rw [Bool.eq_iff_iff, okB_iff, hb]
        simp
      clear hb
      unfold evV evCs zeroF
      simp only
      go_enter Tryz.func53, Tryz.ntmps53
      go_wp2_with fail
      refine (in_ok t _).mono ?_
      rintro e w' ⟨rfl, rfl⟩
      go_wp2_with fail
      go_ret
      refine ⟨by rw [HB.out]; rfl, ?_⟩
      repeat (first | exact Below.refl _ _ | refine Below.alloc ?_ (by simp) _)
    · have HB : Hid (b = false) := bool_f hb (fun h => ht h.2.1)
      have ht' : (i == 0) = false := by rw [beq_eq_false_iff_ne]; exact ht
      clear hb
      unfold evV evCs zeroF
      simp only
      go_enter Tryz.func53, Tryz.ntmps53
      go_wp2_with fail
      go_ret
      refine ⟨by rw [HB.out]; rfl, ?_⟩
      repeat (first | exact Below.refl _ _ | refine Below.alloc ?_ (by simp) _)
  · have HB : Hid (b = false) := bool_f hb (fun h => hz h.1)
    have HZ : Hid (¬ f = zeroF) := hz
    clear hb hz
    obtain ⟨f1, f2, f3, f4, f5, f6, f7, f8, f9⟩ := f
    unfold evV evCs
    simp only
    go_enter Tryz.func53, Tryz.ntmps53
    go_wp2_with fail
    all_goals first
      | (exfalso; refine HZ.out ?_; unfold zeroF; simp_all [toList_nil]; done)
      | (go_ret; refine ⟨by rw [HB.out]; rfl, ?_⟩; repeat (first | exact Below.refl _ _ | refine Below.alloc ?_ (by simp) _))
set_option maxRecDepth 100000 in
set_option maxHeartbeats 4000000 in
theorem refMay_no (k : Int) (f : Fam) (i t : Int) (b : Bool) (hb : b = true ↔ may ⟨k, f, i, t⟩) (h1 : k ≠ 1) (h2 : k ≠ 2) (h3 : k ≠ 3) (w : World) : Calls Tryz.prog 53 #[evV ⟨k, f, i, t⟩] w fun e w' => e = .returned (.bool b) ∧ Below w.heap.size w w' := by
  have HB : Hid (b = false) := bool_f hb (may_no h1 h2 h3)
  clear hb
  obtain ⟨f1, f2, f3, f4, f5, f6, f7, f8, f9⟩ := f
  unfold evV evCs
  simp only
  go_enter Tryz.func53, Tryz.ntmps53
  go_wp2_with fail
  go_ret
  refine ⟨by rw [HB.out]; rfl, ?_⟩
  repeat (first | exact Below.refl _ _ | refine Below.alloc ?_ (by simp) _)
end Go.Proofs.YtlailakofhenkaaGreatDoor

/-
  What may be an event, as the document's answer has it: all kinds; what the law makes of an event.
-/

namespace Go.Proofs.YtlailakofhenkaaGreatDoor
open Go Go.RowKit Tok Sc Ev
theorem refMay_is (e : E) (b : Bool) (hb : b = true ↔ Ev.may e) (hs : Small 5000 e.fam) (w : World) : Calls Tryz.prog 53 #[evV e] w fun e w' => e = .returned (.bool b) ∧ Below w.heap.size w w' := by
  obtain ⟨k, f, i, t⟩ := e
  by_cases h1 : k = 1
  · subst h1; exact refMay_1 f i t b hb hs w
  by_cases h2 : k = 2
  · subst h2; exact refMay_2 f i t b hb w
  by_cases h3 : k = 3
  · subst h3; exact refMay_3 f i t b hb w
  exact refMay_no k f i t b hb h1 h2 h3 w
def lens (f : Fam) : Nat := f.client.size + f.subject.size + f.scope.size + f.request.size
set_option maxHeartbeats 2000000 in
theorem short_is (e : E) (w : World) (hs : lens e.fam ≤ 10000000000000000) : Calls Tryz.prog 13 #[evV e] w fun e' w' => e' = .returned (.bool (decide (lens e.fam ≤ 300))) ∧ Below w.heap.size w w' := by
  obtain ⟨k, ⟨f1, f2, f3, f4, f5, f6, f7, f8, f9⟩, i, t⟩ := e
  unfold lens at *
  simp only at hs
  have n1 : ¬ 9223372036854775807 < f2.size + f3.size := by omega
  have n2 : ¬ 9223372036854775807 < f2.size + f3.size + f4.size := by omega
  have n3 : ¬ 9223372036854775807 < f2.size + f3.size + f4.size + f8.size := by omega
  unfold evV evCs
  simp only
  have HB : Hid (Below w.heap.size w ((w.alloc (.cells #[.int .i64 k, .int .i64 f1, .string f2, .string f3, .string f4, .int .i64 f5, .int .i64 f6, .int .i64 f7, .string f8, .bool f9, .int .i64 i, .int .i64 t] 40)).alloc (.cells #[.int .i64 f1, .string f2, .string f3, .string f4, .int .i64 f5, .int .i64 f6, .int .i64 f7, .string f8, .bool f9] 38))) := by
    show Below _ _ _
    repeat (first | exact Below.refl _ _ | refine Below.alloc ?_ (by simp) _)
  go_enter Tryz.func13, Tryz.ntmps13
  go_wp2_with fail
  go_ret
  refine ⟨?_, HB.out⟩
  show Ending.returned (.bool (decide ((f2.size : Int) + f3.size + f4.size + f8.size ≤ 300))) = _
  refine congrArg Ending.returned (congrArg Value.bool ?_)
  rw [decide_eq_decide]
  omega
set_option maxHeartbeats 2000000 in
theorem happens_is (e : E) (w : World) : Calls Tryz.prog 15 #[evV e] w fun e' w' => e' = .returned (evV e) ∧ Below w.heap.size w w' := by
  obtain ⟨k, ⟨f1, f2, f3, f4, f5, f6, f7, f8, f9⟩, i, t⟩ := e
  unfold evV evCs
  simp only
  go_enter Tryz.func15, Tryz.ntmps15
  go_wp2_with fail
  refine bodyPost_ret (v := .agg #[.int .i64 k, .int .i64 f1, .string f2, .string f3, .string f4, .int .i64 f5, .int .i64 f6, .int .i64 f7, .string f8, .bool f9, .int .i64 i, .int .i64 t]) ?_ rfl ⟨rfl, ?_⟩
  · simp [results, Tryz.results15, go_sem]
  repeat (first | exact Below.refl _ _ | refine Below.alloc ?_ (by simp) _ | refine Below.setCell ?_ (by simp) _)
end Go.Proofs.YtlailakofhenkaaGreatDoor

/-
  Numbers with blanks between, as the document's answer tells them.
-/

namespace Go.Proofs.YtlailakofhenkaaGreatDoor
open Go Go.RowKit Tok Sc Ev
def told (ns : List Int) : List UInt8 := Lib.join (ns.map Lib.itoa) [32]
def toldB (ns : List Int) : List ByteArray := ns.map fun n => (⟨(Lib.itoa n).toArray⟩ : ByteArray)
theorem toldB_take (ns : List Int) (j : Nat) (h : j < ns.length) : toldB (ns.take (j + 1)) = toldB (ns.take j) ++ [⟨(Lib.itoa ns[j]).toArray⟩] := by
  unfold toldB
  rw [List.take_succ_eq_append_getElem h, List.map_append]
  rfl
theorem toldB_lists (ns : List Int) : (toldB ns).map (·.data.toList) = ns.map Lib.itoa := by
  unfold toldB
  rw [List.map_map]
  rfl
theorem told_len : ∀ (ns : List Int), (∀ n ∈ ns, okN n) → (told ns).length ≤ 14 * ns.length
  | [], _ => by simp [told, Lib.join_nil]
  | [a], h => by
    have := digits13 (h a (by simp))
    simp [told, Lib.join_one]
    omega
  | a :: b :: l, h => by
    have h1 := digits13 (h a (by simp))
    have h2 := told_len (b :: l) (fun n hn => h n (by simp [hn]))
    unfold told at *
    rw [List.map_cons, List.map_cons, glue_two]
    simp at h2 ⊢
    omega
/-- A row of numbers. -/
def TRow (w : World) (g : Nat) (ns : List Int) : Prop := g < w.heap.size ∧ ∀ j (h : j < ns.length), w.cell? ⟨g, j, none⟩ = some (.int .i64 ns[j])
theorem TRow.on {w w' : World} {g : Nat} {ns : List Int} (h : TRow w g ns) (hb : Below w.heap.size w w') : TRow w' g ns :=
  ⟨Nat.lt_of_lt_of_le h.1 hb.size, fun j hj => (hb.cell (p := ⟨g, j, none⟩) h.1).trans (h.2 j hj)⟩
theorem TRow.alloc {w : World} {g : Nat} {ns : List Int} (h : TRow w g ns) (o : Obj) : TRow (w.alloc o) g ns := h.on ((Below.refl _ _).alloc (Nat.le_refl _) _)
theorem trow1 (w : World) (a : Int) (t : TypeId) (g : Nat) (hg : g = w.heap.size) : TRow (w.alloc (.cells #[.int .i64 a] t)) g [a] :=
  ⟨by simp [hg], fun j hj => by
    match j, hj with
    | 0, _ => exact (World.cell?_alloc_at _ _ _ _ hg).trans rfl⟩
theorem trow3 (w : World) (a b c : Int) (t : TypeId) (g : Nat) (hg : g = w.heap.size) : TRow (w.alloc (.cells #[.int .i64 a, .int .i64 b, .int .i64 c] t)) g [a, b, c] :=
  ⟨by simp [hg], fun j hj => by
    match j, hj with
    | 0, _ => exact (World.cell?_alloc_at _ _ _ _ hg).trans rfl
    | 1, _ => exact (World.cell?_alloc_at _ _ _ _ hg).trans rfl
    | 2, _ => exact (World.cell?_alloc_at _ _ _ _ hg).trans rfl⟩
theorem joinB_is {B : Nat} {w : World} {v : Value} {xs : List ByteArray} (h : Words B w v xs) (hn : (Lib.join (xs.map (·.data.toList)) [32]).length ≤ 100000) (hx : xs.length ≤ 5000) :
    Calls Tryz.prog 57 #[v, .string ⟨#[32]⟩] w fun e w' => e = .returned (.string ⟨(Lib.join (xs.map (·.data.toList)) [32]).toArray⟩) ∧ Below w.heap.size w w' := by
  rcases h with ⟨rfl, rfl⟩ | ⟨g, c, rfl, hr⟩
  · refine (Tryz.strings_Join_none none 0 ⟨#[32]⟩ w).mono ?_
    rintro e w' ⟨rfl, rfl⟩
    exact ⟨rfl, Below.refl _ _⟩
  · refine Tryz.strings_Join g 0 c xs ⟨#[32]⟩ w (fun j x hj => ?_) hr.lt (by omega) hr.le (Nat.le_trans hn (by omega))
    rw [Nat.zero_add]
    refine hr.holds j _ ?_
    rw [List.getElem?_map, hj]
    rfl
set_option maxHeartbeats 1000000 in
theorem refWord_is (s : ByteArray) (w : World) : Calls Tryz.prog 55 #[.string s] w fun e w' => e = .returned (.string ⟨(wordL s.data.toList).toArray⟩) ∧ w' = w := by
  by_cases h : s.data.toList = []
  · have he : s.toList.isEmpty = true := by rw [ByteArray.toList_eq, h]; rfl
    have HW : Hid (wordL s.data.toList = [95]) := by show _ = _; rw [h]; rfl
    clear h
    go_enter Tryz.func55, Tryz.ntmps55
    go_wp2_with fail
    go_ret
    exact ⟨by rw [HW.out]; rfl, rfl⟩
  · have he : s.toList.isEmpty = false := by rw [ByteArray.toList_eq, List.isEmpty_eq_false_iff]; exact h
    have HW : Hid (wordL s.data.toList = s.data.toList) := if_neg h
    clear h
    go_enter Tryz.func55, Tryz.ntmps55
    go_wp2_with fail
    go_ret
    exact ⟨by rw [HW.out]; rfl, rfl⟩
theorem info_strE : (Tryz.prog.info? 9).map (fun i => (i.zero, i.size, i.bytes)) = some (some (.string ⟨#[]⟩), 1, 16) := by kernel_rfl
theorem info_strsE : ∃ i, Tryz.prog.info? 9 = some i ∧ i.zero = some (.string ⟨#[]⟩) ∧ i.size = 1 ∧ i.bytes = 16 := by
  have h := info_strE
  cases hi : Tryz.prog.info? 9 with
  | none => rw [hi] at h; cases h
  | some i =>
    rw [hi] at h
    simp only [Option.map_some, Option.some.injEq, Prod.mk.injEq] at h
    exact ⟨i, rfl, h.1, h.2.1, h.2.2⟩
set_option maxRecDepth 100000 in
set_option maxHeartbeats 4000000 in
theorem told_is (ns : List Int) (g c : Nat) (w : World) (hn : ns.length ≤ 4) (hok : ∀ n ∈ ns, okN n) (hr : TRow w g ns) (hL : LibsE w) : Calls Tryz.prog 54 #[.slice (some ⟨g, 0, none⟩) ns.length c] w fun e w' => e = .returned (.string ⟨(told ns).toArray⟩) ∧ Below w.heap.size w w' := by
  obtain ⟨i0, hi, hz0, hz1, hz2⟩ := info_strsE
  have HL : Hid (LibsE w) := hL
  have HR : Hid (TRow w g ns) := hr
  have HOK : Hid (∀ n ∈ ns, okN n) := hok
  have HLEN : Hid ((told ns).length ≤ 100000) := by have := told_len ns hok; show _ ≤ _; omega
  clear hL hr hok
  go_enter Tryz.func54, Tryz.ntmps54
  go_wp2_with fail
  go_loopg [3, 8] ns.length (fun gk ov iv wr => ∃ j : Nat, j + gk = ns.length ∧ iv = .int .i64 j ∧ Hid (Words w.heap.size wr ov (toldB (ns.take j))) ∧ Hid (Below w.heap.size w wr))
  case atStart => exact ⟨0, by omega, rfl, .inl ⟨rfl, rfl⟩, Below.refl _ _⟩
  case round =>
    obtain ⟨j, hj, rfl, HW, HB⟩ := hrel
    have HJ : Hid (j + gk = ns.length) := hj
    have hjl : j ≤ ns.length := by omega
    clear hj
    by_cases hlt : j < ns.length
    · have hltI : (j : Int) < (ns.length : Int) := by omega
      have hcell : wr.cell? ⟨g, j, none⟩ = some (.int .i64 ns[j]) := ((HR.out.on HB.out).2 j hlt)
      have HNJ : Hid (okN ns[j]) := HOK.out _ (List.getElem_mem hlt)
      have HT : Hid (toldB (ns.take (j + 1)) = toldB (ns.take j) ++ [⟨(Lib.itoa ns[j]).toArray⟩]) := toldB_take ns j hlt
      have hlx : (toldB (ns.take j)).length ≤ 1000000 := by unfold toldB; simp; omega
      generalize ns[j] = n at *
      go_wp2_with fail
      refine (itoaE_is n _ HNJ.out.1 (by have := HNJ.out.2; omega) (HL.out.below HB.out)).mono ?_
      rintro e w1 ⟨rfl, hb1⟩
      have HB1 : Hid (Below w.heap.size w w1) := HB.out.trans (hb1.mono HB.out.size)
      have HW1 : Hid (Words w.heap.size w1 _ (toldB (ns.take j))) := HW.out.below hb1 (Nat.le_refl _)
      clear hb1 hcell
      have HB2 : Hid (Below w.heap.size w (w1.alloc (.cells #[.string ⟨(Lib.itoa n).toArray⟩] 9))) := HB1.out.alloc HB1.out.size _
      have HW2 : Hid (Words w.heap.size (w1.alloc (.cells #[.string ⟨(Lib.itoa n).toArray⟩] 9)) _ (toldB (ns.take j))) := HW1.out.below ((Below.refl _ _).alloc (Nat.le_refl _) _) (Nat.le_refl _)
      go_wp2_with (at_builtin; refine wpList_append_words _ rfl _ _ 23 rfl 9 i0 Tryz.underlying23 hi hz0 hz1 hz2 w.heap.size _ _ rfl HW2.out HB2.out.size ⟨w1.heap.size, 0, none⟩ 1 ⟨(Lib.itoa n).toArray⟩ rfl ((World.cell?_alloc_at _ _ _ _ rfl).trans rfl) hlx ?_)
      intro v' w2 hw2 hb2
      have HB3 : Hid (Below w.heap.size w w2) := HB2.out.trans hb2
      have HW3 : Hid (Words w.heap.size w2 v' (toldB (ns.take (j + 1)))) := by show Words _ _ _ _; rw [HT.out]; exact hw2
      clear hw2 hb2
      go_wp2_with fail
      go_roundg (gk - 1)
      case measure => have := HJ.out; omega
      case rel => exact ⟨j + 1, by have := HJ.out; omega, by go_num, HW3, HB3⟩
    · obtain rfl : j = ns.length := by omega
      have hwf := HW.out
      rw [List.take_of_length_le (Nat.le_refl _)] at hwf
      have HWF : Hid _ := hwf
      clear hwf
      have hjn := fun (W : World) v (hW : Words w.heap.size W v (toldB ns)) => joinB_is hW (by rw [toldB_lists]; exact HLEN.out) (by unfold toldB; simp; omega)
      simp only [toldB_lists] at hjn
      go_wp2_with fail
      refine (hjn _ _ HWF.out).mono ?_
      rintro e w1 ⟨rfl, hb1⟩
      have HB1 : Hid (Below w.heap.size w w1) := HB.out.trans (hb1.mono HB.out.size)
      clear hb1
      go_wp2_with fail
      go_ret
      exact ⟨rfl, HB1.out⟩
end Go.Proofs.YtlailakofhenkaaGreatDoor

/-
  An event's line, as the document's answer writes it.
-/

namespace Go.Proofs.YtlailakofhenkaaGreatDoor
open Go Go.RowKit Tok Sc Ev
theorem bapp (a b : List UInt8) : (⟨a.toArray⟩ : ByteArray) ++ ⟨b.toArray⟩ = ⟨(a ++ b).toArray⟩ := by
  apply ByteArray.ext
  simp [ByteArray.data_append]
theorem bself (x : ByteArray) : x = ⟨x.data.toList.toArray⟩ := rfl
def bodyL (f : Fam) : List UInt8 := [112, 32] ++ told [f.id] ++ [32] ++ f.client.data.toList ++ [32] ++ f.subject.data.toList ++ [32] ++ wordL f.scope.data.toList ++ [32] ++ told [f.gen, f.made, f.used] ++ [32] ++ wordL f.request.data.toList
theorem line_1 (f : Fam) : line ⟨1, f, 0, 0⟩ = bodyL f ++ 32 :: lifeL f.dead := by
  unfold line wordsOf putWs bodyL told
  rw [if_pos rfl]
  simp [glue_two, Lib.join_one]
theorem body_str (f : Fam) : (⟨#[112, 32]⟩ : ByteArray) ++ ⟨(told [f.id]).toArray⟩ ++ ⟨#[32]⟩ ++ f.client ++ ⟨#[32]⟩ ++ f.subject ++ ⟨#[32]⟩ ++ ⟨(wordL f.scope.data.toList).toArray⟩ ++ ⟨#[32]⟩ ++ ⟨(told [f.gen, f.made, f.used]).toArray⟩ ++ ⟨#[32]⟩ ++ ⟨(wordL f.request.data.toList).toArray⟩ = ⟨(bodyL f).toArray⟩ := by
  apply ByteArray.ext
  simp [ByteArray.data_append, bodyL]
theorem lineB_len (f : Fam) (h : mayF f) : (bodyL f).length ≤ 180 := by
  have := line_len (e := ⟨1, f, 0, 0⟩) (.inl ⟨rfl, h, rfl, rfl⟩)
  rw [line_1] at this
  simp at this
  omega
theorem line_2 (i : Int) : line ⟨2, zeroF, i, 0⟩ = [100, 32] ++ told [i] := by
  unfold line wordsOf told
  simp [glue_two, Lib.join_one]
theorem line_3 (i : Int) : line ⟨3, zeroF, 0, i⟩ = [99, 32] ++ told [i] := by
  unfold line wordsOf told
  simp [glue_two, Lib.join_one]
set_option maxRecDepth 100000 in
set_option maxHeartbeats 4000000 in
theorem refWrite_no (e : E) (w : World) (h : ¬ Ev.may e) (hs : Small 5000 e.fam) : Calls Tryz.prog 14 #[evV e] w fun r w' => r = .returned (.tuple #[.string ⟨#[]⟩, .int .i64 1]) ∧ Below w.heap.size w w' := by
  have HM := fun (W : World) => refMay_is e false (by simp [h]) hs W
  clear h hs
  obtain ⟨k, ⟨f1, f2, f3, f4, f5, f6, f7, f8, f9⟩, i, t⟩ := e
  unfold evV evCs at *
  simp only at HM ⊢
  have HB0 : Hid (Below w.heap.size w (w.alloc (.cells #[.int .i64 k, .int .i64 f1, .string f2, .string f3, .string f4, .int .i64 f5, .int .i64 f6, .int .i64 f7, .string f8, .bool f9, .int .i64 i, .int .i64 t] 44))) := (Below.refl _ _).alloc (Nat.le_refl _) _
  go_enter Tryz.func14, Tryz.ntmps14
  go_wp2_with fail
  refine (HM _).mono ?_
  rintro e1 w1 ⟨rfl, hb1⟩
  have HB1 : Hid (Below w.heap.size w w1) := HB0.out.trans (hb1.mono HB0.out.size)
  clear hb1
  go_wp2_with fail
  go_ret2
  exact ⟨rfl, HB1.out⟩
set_option maxRecDepth 100000 in
set_option maxHeartbeats 4000000 in
theorem refWrite_2 (i : Int) (w : World) (h : okN i) (hL : LibsE w) : Calls Tryz.prog 14 #[evV ⟨2, zeroF, i, 0⟩] w fun r w' => r = .returned (.tuple #[.string ⟨(line ⟨2, zeroF, i, 0⟩).toArray⟩, .int .i64 0]) ∧ Below w.heap.size w w' := by
  have HM := fun (W : World) => refMay_is ⟨2, zeroF, i, 0⟩ true (by simp [may_2, h]) (by simp [Small, zeroF, ByteArray.size]) W
  have HT := fun (g : Nat) (W : World) (hr : TRow W g [i]) (hL : LibsE W) => told_is [i] g 1 W (by simp) (by simpa using h) hr hL
  have htl := told_len [i] (by simpa using h)
  rw [line_2]
  have HL : Hid (LibsE w) := hL
  clear hL h
  generalize told [i] = T at *
  have n1 : ¬ 9223372036854775807 < 2 + T.length := by simp at htl; omega
  unfold evV evCs zeroF at *
  simp only at HM ⊢
  have HB0 : Hid (Below w.heap.size w (w.alloc (.cells #[.int .i64 2, .int .i64 0, .string ⟨#[]⟩, .string ⟨#[]⟩, .string ⟨#[]⟩, .int .i64 0, .int .i64 0, .int .i64 0, .string ⟨#[]⟩, .bool false, .int .i64 i, .int .i64 0] 44))) := (Below.refl _ _).alloc (Nat.le_refl _) _
  have hsz : (w.alloc (.cells #[.int .i64 2, .int .i64 0, .string ⟨#[]⟩, .string ⟨#[]⟩, .string ⟨#[]⟩, .int .i64 0, .int .i64 0, .int .i64 0, .string ⟨#[]⟩, .bool false, .int .i64 i, .int .i64 0] 44)).heap.size = w.heap.size + 1 := by simp
  have hx : ∀ (w' : World), Below (w.heap.size + 1) (w.alloc (.cells #[.int .i64 2, .int .i64 0, .string ⟨#[]⟩, .string ⟨#[]⟩, .string ⟨#[]⟩, .int .i64 0, .int .i64 0, .int .i64 0, .string ⟨#[]⟩, .bool false, .int .i64 i, .int .i64 0] 44)) w' → ∀ j, w'.cell? ⟨w.heap.size, j, none⟩ = (w.alloc (.cells #[.int .i64 2, .int .i64 0, .string ⟨#[]⟩, .string ⟨#[]⟩, .string ⟨#[]⟩, .int .i64 0, .int .i64 0, .int .i64 0, .string ⟨#[]⟩, .bool false, .int .i64 i, .int .i64 0] 44)).cell? ⟨w.heap.size, j, none⟩ := fun w' hb j => hb.cell (p := ⟨w.heap.size, j, none⟩) (Nat.lt_succ_self _)
  go_enter Tryz.func14, Tryz.ntmps14
  go_wp2_with fail
  refine (HM _).mono ?_
  rintro e1 w1 ⟨rfl, hb1⟩
  have HB1 : Hid (Below w.heap.size w w1) := HB0.out.trans (hb1.mono HB0.out.size)
  rw [hsz] at hb1
  have hlt1 : w.heap.size < w1.heap.size := by have := hb1.size; rw [hsz] at this; omega
  have hne1 : ¬ w.heap.size = w1.heap.size := by omega
  have q := hx w1 hb1
  clear hx hb1 hsz
  have k0 : w1.cell? ⟨w.heap.size, 0, none⟩ = some (.int .i64 2) := (q 0).trans ((World.cell?_alloc_at _ _ _ _ rfl).trans rfl)
  have k1 : w1.cell? ⟨w.heap.size, 1, none⟩ = some (.int .i64 0) := (q 1).trans ((World.cell?_alloc_at _ _ _ _ rfl).trans rfl)
  have k2 : w1.cell? ⟨w.heap.size, 2, none⟩ = some (.string ⟨#[]⟩) := (q 2).trans ((World.cell?_alloc_at _ _ _ _ rfl).trans rfl)
  have k3 : w1.cell? ⟨w.heap.size, 3, none⟩ = some (.string ⟨#[]⟩) := (q 3).trans ((World.cell?_alloc_at _ _ _ _ rfl).trans rfl)
  have k4 : w1.cell? ⟨w.heap.size, 4, none⟩ = some (.string ⟨#[]⟩) := (q 4).trans ((World.cell?_alloc_at _ _ _ _ rfl).trans rfl)
  have k5 : w1.cell? ⟨w.heap.size, 5, none⟩ = some (.int .i64 0) := (q 5).trans ((World.cell?_alloc_at _ _ _ _ rfl).trans rfl)
  have k6 : w1.cell? ⟨w.heap.size, 6, none⟩ = some (.int .i64 0) := (q 6).trans ((World.cell?_alloc_at _ _ _ _ rfl).trans rfl)
  have k7 : w1.cell? ⟨w.heap.size, 7, none⟩ = some (.int .i64 0) := (q 7).trans ((World.cell?_alloc_at _ _ _ _ rfl).trans rfl)
  have k8 : w1.cell? ⟨w.heap.size, 8, none⟩ = some (.string ⟨#[]⟩) := (q 8).trans ((World.cell?_alloc_at _ _ _ _ rfl).trans rfl)
  have k9 : w1.cell? ⟨w.heap.size, 9, none⟩ = some (.bool false) := (q 9).trans ((World.cell?_alloc_at _ _ _ _ rfl).trans rfl)
  have k10 : w1.cell? ⟨w.heap.size, 10, none⟩ = some (.int .i64 i) := (q 10).trans ((World.cell?_alloc_at _ _ _ _ rfl).trans rfl)
  have k11 : w1.cell? ⟨w.heap.size, 11, none⟩ = some (.int .i64 0) := (q 11).trans ((World.cell?_alloc_at _ _ _ _ rfl).trans rfl)
  clear q
  have HB2 : Hid (Below w.heap.size w ((w1.alloc (.cells #[.int .i64 0, .string ⟨#[]⟩, .string ⟨#[]⟩, .string ⟨#[]⟩, .int .i64 0, .int .i64 0, .int .i64 0, .string ⟨#[]⟩, .bool false] 38)).alloc (.cells #[.int .i64 i] 3))) := (HB1.out.alloc HB1.out.size _).alloc (by simp; have := HB1.out.size; omega) _
  go_wp2_with fail
  refine (HT (w1.heap.size + 1) _ (trow1 (w1.alloc (.cells #[.int .i64 0, .string ⟨#[]⟩, .string ⟨#[]⟩, .string ⟨#[]⟩, .int .i64 0, .int .i64 0, .int .i64 0, .string ⟨#[]⟩, .bool false] 38)) i _ _ (by simp)) (HL.out.below HB2.out)).mono ?_
  rintro e2 w2 ⟨rfl, hb2⟩
  have HB3 : Hid (Below w.heap.size w w2) := HB2.out.trans (hb2.mono HB2.out.size)
  clear hb2
  go_wp2_with fail
  go_ret2
  refine ⟨?_, HB3.out⟩
  show Ending.returned (.tuple #[.string ((⟨#[100, 32]⟩ : ByteArray) ++ ⟨T.toArray⟩), .int .i64 0]) = _
  rw [show (⟨#[100, 32]⟩ : ByteArray) ++ ⟨T.toArray⟩ = ⟨([100, 32] ++ T).toArray⟩ from bapp [100, 32] T]
  rfl
set_option maxRecDepth 100000 in
set_option maxHeartbeats 4000000 in
theorem refWrite_3 (i : Int) (w : World) (h : okN i) (hL : LibsE w) : Calls Tryz.prog 14 #[evV ⟨3, zeroF, 0, i⟩] w fun r w' => r = .returned (.tuple #[.string ⟨(line ⟨3, zeroF, 0, i⟩).toArray⟩, .int .i64 0]) ∧ Below w.heap.size w w' := by
  have HM := fun (W : World) => refMay_is ⟨3, zeroF, 0, i⟩ true (by simp [may_3, h]) (by simp [Small, zeroF, ByteArray.size]) W
  have HT := fun (g : Nat) (W : World) (hr : TRow W g [i]) (hL : LibsE W) => told_is [i] g 1 W (by simp) (by simpa using h) hr hL
  have htl := told_len [i] (by simpa using h)
  rw [line_3]
  have HL : Hid (LibsE w) := hL
  clear hL h
  generalize told [i] = T at *
  have n1 : ¬ 9223372036854775807 < 2 + T.length := by simp at htl; omega
  unfold evV evCs zeroF at *
  simp only at HM ⊢
  have HB0 : Hid (Below w.heap.size w (w.alloc (.cells #[.int .i64 3, .int .i64 0, .string ⟨#[]⟩, .string ⟨#[]⟩, .string ⟨#[]⟩, .int .i64 0, .int .i64 0, .int .i64 0, .string ⟨#[]⟩, .bool false, .int .i64 0, .int .i64 i] 44))) := (Below.refl _ _).alloc (Nat.le_refl _) _
  have hsz : (w.alloc (.cells #[.int .i64 3, .int .i64 0, .string ⟨#[]⟩, .string ⟨#[]⟩, .string ⟨#[]⟩, .int .i64 0, .int .i64 0, .int .i64 0, .string ⟨#[]⟩, .bool false, .int .i64 0, .int .i64 i] 44)).heap.size = w.heap.size + 1 := by simp
  have hx : ∀ (w' : World), Below (w.heap.size + 1) (w.alloc (.cells #[.int .i64 3, .int .i64 0, .string ⟨#[]⟩, .string ⟨#[]⟩, .string ⟨#[]⟩, .int .i64 0, .int .i64 0, .int .i64 0, .string ⟨#[]⟩, .bool false, .int .i64 0, .int .i64 i] 44)) w' → ∀ j, w'.cell? ⟨w.heap.size, j, none⟩ = (w.alloc (.cells #[.int .i64 3, .int .i64 0, .string ⟨#[]⟩, .string ⟨#[]⟩, .string ⟨#[]⟩, .int .i64 0, .int .i64 0, .int .i64 0, .string ⟨#[]⟩, .bool false, .int .i64 0, .int .i64 i] 44)).cell? ⟨w.heap.size, j, none⟩ := fun w' hb j => hb.cell (p := ⟨w.heap.size, j, none⟩) (Nat.lt_succ_self _)
  go_enter Tryz.func14, Tryz.ntmps14
  go_wp2_with fail
  refine (HM _).mono ?_
  rintro e1 w1 ⟨rfl, hb1⟩
  have HB1 : Hid (Below w.heap.size w w1) := HB0.out.trans (hb1.mono HB0.out.size)
  rw [hsz] at hb1
  have hlt1 : w.heap.size < w1.heap.size := by have := hb1.size; rw [hsz] at this; omega
  have hne1 : ¬ w.heap.size = w1.heap.size := by omega
  have q := hx w1 hb1
  clear hx hb1 hsz
  have k0 : w1.cell? ⟨w.heap.size, 0, none⟩ = some (.int .i64 3) := (q 0).trans ((World.cell?_alloc_at _ _ _ _ rfl).trans rfl)
  have k1 : w1.cell? ⟨w.heap.size, 1, none⟩ = some (.int .i64 0) := (q 1).trans ((World.cell?_alloc_at _ _ _ _ rfl).trans rfl)
  have k2 : w1.cell? ⟨w.heap.size, 2, none⟩ = some (.string ⟨#[]⟩) := (q 2).trans ((World.cell?_alloc_at _ _ _ _ rfl).trans rfl)
  have k3 : w1.cell? ⟨w.heap.size, 3, none⟩ = some (.string ⟨#[]⟩) := (q 3).trans ((World.cell?_alloc_at _ _ _ _ rfl).trans rfl)
  have k4 : w1.cell? ⟨w.heap.size, 4, none⟩ = some (.string ⟨#[]⟩) := (q 4).trans ((World.cell?_alloc_at _ _ _ _ rfl).trans rfl)
  have k5 : w1.cell? ⟨w.heap.size, 5, none⟩ = some (.int .i64 0) := (q 5).trans ((World.cell?_alloc_at _ _ _ _ rfl).trans rfl)
  have k6 : w1.cell? ⟨w.heap.size, 6, none⟩ = some (.int .i64 0) := (q 6).trans ((World.cell?_alloc_at _ _ _ _ rfl).trans rfl)
  have k7 : w1.cell? ⟨w.heap.size, 7, none⟩ = some (.int .i64 0) := (q 7).trans ((World.cell?_alloc_at _ _ _ _ rfl).trans rfl)
  have k8 : w1.cell? ⟨w.heap.size, 8, none⟩ = some (.string ⟨#[]⟩) := (q 8).trans ((World.cell?_alloc_at _ _ _ _ rfl).trans rfl)
  have k9 : w1.cell? ⟨w.heap.size, 9, none⟩ = some (.bool false) := (q 9).trans ((World.cell?_alloc_at _ _ _ _ rfl).trans rfl)
  have k10 : w1.cell? ⟨w.heap.size, 10, none⟩ = some (.int .i64 0) := (q 10).trans ((World.cell?_alloc_at _ _ _ _ rfl).trans rfl)
  have k11 : w1.cell? ⟨w.heap.size, 11, none⟩ = some (.int .i64 i) := (q 11).trans ((World.cell?_alloc_at _ _ _ _ rfl).trans rfl)
  clear q
  have HB2 : Hid (Below w.heap.size w ((w1.alloc (.cells #[.int .i64 0, .string ⟨#[]⟩, .string ⟨#[]⟩, .string ⟨#[]⟩, .int .i64 0, .int .i64 0, .int .i64 0, .string ⟨#[]⟩, .bool false] 38)).alloc (.cells #[.int .i64 i] 3))) := (HB1.out.alloc HB1.out.size _).alloc (by simp; have := HB1.out.size; omega) _
  go_wp2_with fail
  refine (HT (w1.heap.size + 1) _ (trow1 (w1.alloc (.cells #[.int .i64 0, .string ⟨#[]⟩, .string ⟨#[]⟩, .string ⟨#[]⟩, .int .i64 0, .int .i64 0, .int .i64 0, .string ⟨#[]⟩, .bool false] 38)) i _ _ (by simp)) (HL.out.below HB2.out)).mono ?_
  rintro e2 w2 ⟨rfl, hb2⟩
  have HB3 : Hid (Below w.heap.size w w2) := HB2.out.trans (hb2.mono HB2.out.size)
  clear hb2
  go_wp2_with fail
  go_ret2
  refine ⟨?_, HB3.out⟩
  show Ending.returned (.tuple #[.string ((⟨#[99, 32]⟩ : ByteArray) ++ ⟨T.toArray⟩), .int .i64 0]) = _
  rw [show (⟨#[99, 32]⟩ : ByteArray) ++ ⟨T.toArray⟩ = ⟨([99, 32] ++ T).toArray⟩ from bapp [99, 32] T]
  rfl
end Go.Proofs.YtlailakofhenkaaGreatDoor

/-
  The line of a family that is put, as the document's answer writes it.
-/

namespace Go.Proofs.YtlailakofhenkaaGreatDoor
open Go Go.RowKit Tok Sc Ev
set_option maxRecDepth 100000 in
set_option maxHeartbeats 16000000 in
theorem refWrite_1 (f : Fam) (w : World) (h : mayF f) (hs : Small 5000 f) (hL : LibsE w) : Calls Tryz.prog 14 #[evV ⟨1, f, 0, 0⟩] w fun r w' => r = .returned (.tuple #[.string ⟨(line ⟨1, f, 0, 0⟩).toArray⟩, .int .i64 0]) ∧ Below w.heap.size w w' := by
  have HM := fun (W : World) => refMay_is ⟨1, f, 0, 0⟩ true (by simp [may_1, h]) hs W
  have hq1 : ∀ n ∈ [f.id], okN n := by simpa using h.1.1
  have hq3 : ∀ n ∈ [f.gen, f.made, f.used], okN n := by simpa using h.1.2
  have HT1 := fun (g : Nat) (W : World) (hr : TRow W g [f.id]) (hL : LibsE W) => told_is [f.id] g 1 W (by simp) hq1 hr hL
  have HT3 := fun (g : Nat) (W : World) (hr : TRow W g [f.gen, f.made, f.used]) (hL : LibsE W) => told_is [f.gen, f.made, f.used] g 3 W (by simp) hq3 hr hL
  have l1 := told_len [f.id] hq1
  have l3 := told_len [f.gen, f.made, f.used] hq3
  have HX : Hid ((⟨#[112, 32]⟩ : ByteArray) ++ ⟨(told [f.id]).toArray⟩ ++ ⟨#[32]⟩ ++ f.client ++ ⟨#[32]⟩ ++ f.subject ++ ⟨#[32]⟩ ++ ⟨(wordL f.scope.data.toList).toArray⟩ ++ ⟨#[32]⟩ ++ ⟨(told [f.gen, f.made, f.used]).toArray⟩ ++ ⟨#[32]⟩ ++ ⟨(wordL f.request.data.toList).toArray⟩ = ⟨(bodyL f).toArray⟩) := body_str f
  have hbl := lineB_len f h

  rw [line_1]
  generalize bodyL f = BODY at *
  have nB : ¬ 9223372036854775807 < BODY.length + 2 := by omega
  clear hbl
  clear hq1 hq3 h
  have HL : Hid (LibsE w) := hL
  clear hL
  have HW4 := fun (W : World) => refWord_is f.scope W
  have HW8 := fun (W : World) => refWord_is f.request W
  have l4 := wordL_len f.scope.data.toList
  have l8 := wordL_len f.request.data.toList
  obtain ⟨f1, f2, f3, f4, f5, f6, f7, f8, f9⟩ := f
  obtain ⟨s2, s3, s4, s8⟩ := hs
  simp only at HT1 HT3 l1 l3 HW4 HW8 l4 l8 s2 s3 s4 s8 ⊢
  have e4 : f4.data.toList.length = f4.size := Array.length_toList
  have e8 : f8.data.toList.length = f8.size := Array.length_toList
  rw [e4] at l4
  rw [e8] at l8
  clear e4 e8
  generalize told [f1] = T1 at *
  generalize told [f5, f6, f7] = T3 at *
  generalize wordL f4.data.toList = W4 at *
  generalize wordL f8.data.toList = W8 at *
  simp only [List.length_cons, List.length_nil] at l1 l3
  have n0 : ¬ 9223372036854775807 < 2 + T1.length := by omega
  have n1 : ¬ 9223372036854775807 < 2 + T1.length + 1 := by omega
  have n2 : ¬ 9223372036854775807 < 2 + T1.length + 1 + f2.size := by omega
  have n3 : ¬ 9223372036854775807 < 2 + T1.length + 1 + f2.size + 1 := by omega
  have n4 : ¬ 9223372036854775807 < 2 + T1.length + 1 + f2.size + 1 + f3.size := by omega
  have n5 : ¬ 9223372036854775807 < 2 + T1.length + 1 + f2.size + 1 + f3.size + 1 := by omega
  have n6 : ¬ 9223372036854775807 < 2 + T1.length + 1 + f2.size + 1 + f3.size + 1 + W4.length := by omega
  have n7 : ¬ 9223372036854775807 < 2 + T1.length + 1 + f2.size + 1 + f3.size + 1 + W4.length + 1 := by omega
  have n8 : ¬ 9223372036854775807 < 2 + T1.length + 1 + f2.size + 1 + f3.size + 1 + W4.length + 1 + T3.length := by omega
  have n9 : ¬ 9223372036854775807 < 2 + T1.length + 1 + f2.size + 1 + f3.size + 1 + W4.length + 1 + T3.length + 1 := by omega
  have n10 : ¬ 9223372036854775807 < 2 + T1.length + 1 + f2.size + 1 + f3.size + 1 + W4.length + 1 + T3.length + 1 + W8.length := by omega
  have n11 : ¬ 9223372036854775807 < 2 + T1.length + 1 + f2.size + 1 + f3.size + 1 + W4.length + 1 + T3.length + 1 + W8.length + 2 := by omega
  clear l1 l3 l4 l8 s2 s3 s4 s8
  unfold evV evCs at *
  simp only at HM ⊢
  have HB0 : Hid (Below w.heap.size w (w.alloc (.cells #[.int .i64 1, .int .i64 f1, .string f2, .string f3, .string f4, .int .i64 f5, .int .i64 f6, .int .i64 f7, .string f8, .bool f9, .int .i64 0, .int .i64 0] 44))) := (Below.refl _ _).alloc (Nat.le_refl _) _
  have hsz : (w.alloc (.cells #[.int .i64 1, .int .i64 f1, .string f2, .string f3, .string f4, .int .i64 f5, .int .i64 f6, .int .i64 f7, .string f8, .bool f9, .int .i64 0, .int .i64 0] 44)).heap.size = w.heap.size + 1 := by simp
  have hx : ∀ (w' : World), Below (w.heap.size + 1) (w.alloc (.cells #[.int .i64 1, .int .i64 f1, .string f2, .string f3, .string f4, .int .i64 f5, .int .i64 f6, .int .i64 f7, .string f8, .bool f9, .int .i64 0, .int .i64 0] 44)) w' → ∀ j, w'.cell? ⟨w.heap.size, j, none⟩ = (w.alloc (.cells #[.int .i64 1, .int .i64 f1, .string f2, .string f3, .string f4, .int .i64 f5, .int .i64 f6, .int .i64 f7, .string f8, .bool f9, .int .i64 0, .int .i64 0] 44)).cell? ⟨w.heap.size, j, none⟩ := fun w' hb j => hb.cell (p := ⟨w.heap.size, j, none⟩) (Nat.lt_succ_self _)
  go_enter Tryz.func14, Tryz.ntmps14
  go_wp2_with fail
  refine (HM _).mono ?_
  rintro e1 w1 ⟨rfl, hb1⟩
  have HB1 : Hid (Below w.heap.size w w1) := HB0.out.trans (hb1.mono HB0.out.size)
  rw [hsz] at hb1
  have hlt1 : w.heap.size < w1.heap.size := by have := hb1.size; rw [hsz] at this; omega
  have hne1 : ¬ w.heap.size = w1.heap.size := by omega
  have q := hx w1 hb1
  clear hx hb1 hsz
  have k0 : w1.cell? ⟨w.heap.size, 0, none⟩ = some (.int .i64 1) := (q 0).trans ((World.cell?_alloc_at _ _ _ _ rfl).trans rfl)
  have k1 : w1.cell? ⟨w.heap.size, 1, none⟩ = some (.int .i64 f1) := (q 1).trans ((World.cell?_alloc_at _ _ _ _ rfl).trans rfl)
  have k2 : w1.cell? ⟨w.heap.size, 2, none⟩ = some (.string f2) := (q 2).trans ((World.cell?_alloc_at _ _ _ _ rfl).trans rfl)
  have k3 : w1.cell? ⟨w.heap.size, 3, none⟩ = some (.string f3) := (q 3).trans ((World.cell?_alloc_at _ _ _ _ rfl).trans rfl)
  have k4 : w1.cell? ⟨w.heap.size, 4, none⟩ = some (.string f4) := (q 4).trans ((World.cell?_alloc_at _ _ _ _ rfl).trans rfl)
  have k5 : w1.cell? ⟨w.heap.size, 5, none⟩ = some (.int .i64 f5) := (q 5).trans ((World.cell?_alloc_at _ _ _ _ rfl).trans rfl)
  have k6 : w1.cell? ⟨w.heap.size, 6, none⟩ = some (.int .i64 f6) := (q 6).trans ((World.cell?_alloc_at _ _ _ _ rfl).trans rfl)
  have k7 : w1.cell? ⟨w.heap.size, 7, none⟩ = some (.int .i64 f7) := (q 7).trans ((World.cell?_alloc_at _ _ _ _ rfl).trans rfl)
  have k8 : w1.cell? ⟨w.heap.size, 8, none⟩ = some (.string f8) := (q 8).trans ((World.cell?_alloc_at _ _ _ _ rfl).trans rfl)
  have k9 : w1.cell? ⟨w.heap.size, 9, none⟩ = some (.bool f9) := (q 9).trans ((World.cell?_alloc_at _ _ _ _ rfl).trans rfl)
  have k10 : w1.cell? ⟨w.heap.size, 10, none⟩ = some (.int .i64 0) := (q 10).trans ((World.cell?_alloc_at _ _ _ _ rfl).trans rfl)
  have k11 : w1.cell? ⟨w.heap.size, 11, none⟩ = some (.int .i64 0) := (q 11).trans ((World.cell?_alloc_at _ _ _ _ rfl).trans rfl)
  clear q
  have hws : WS w w1.heap.size ⟨f1, f2, f3, f4, f5, f6, f7, f8, f9⟩ (w1.alloc (.cells #[.int .i64 f1, .string f2, .string f3, .string f4, .int .i64 f5, .int .i64 f6, .int .i64 f7, .string f8, .bool f9] 38)) :=
    ⟨HL.out.below (HB1.out.alloc HB1.out.size _), famAt_made _ ⟨f1, f2, f3, f4, f5, f6, f7, f8, f9⟩ _ _ rfl, by simp, HB1.out.alloc HB1.out.size _⟩
  go_wp2_with fail
  clear k0 k1 k2 k3 k4 k5 k6 k7 k8 k9 k10 k11 hlt1 hne1
  have HBW : Hid (Below w.heap.size w w1) := HB1
  clear HM HL HB0 HB1
  generalize hg : w1.heap.size = g at *
  generalize w1.alloc (.cells #[.int .i64 f1, .string f2, .string f3, .string f4, .int .i64 f5, .int .i64 f6, .int .i64 f7, .string f8, .bool f9] 38) = W at *
  go_region_held3 (fun w' => (w'.cell? ⟨g, 0, none⟩ = some (.int .i64 f1) ∧ w'.cell? ⟨g, 1, none⟩ = some (.string f2) ∧ w'.cell? ⟨g, 2, none⟩ = some (.string f3) ∧ w'.cell? ⟨g, 3, none⟩ = some (.string f4) ∧ w'.cell? ⟨g, 4, none⟩ = some (.int .i64 f5) ∧ w'.cell? ⟨g, 5, none⟩ = some (.int .i64 f6) ∧ w'.cell? ⟨g, 6, none⟩ = some (.int .i64 f7) ∧ w'.cell? ⟨g, 7, none⟩ = some (.string f8) ∧ w'.cell? ⟨g, 8, none⟩ = some (.bool f9) ∧ WS w g ⟨f1, f2, f3, f4, f5, f6, f7, f8, f9⟩ w')) (first | assumption | exact ws_drew hws | exact ws_keep (by assumption) (by assumption) | exact ws_keep (by assumption) ((Below.refl _ _).alloc (Nat.le_refl _) _))
    (first
      | (go_at_call_of 54 (3 : Nat); refine (HT3 _ _ ?_ (ws_libs (by assumption))).mono ?_; (repeat (first | exact trow3 _ f5 f6 f7 _ _ (by first | rfl | simp) | refine TRow.alloc ?_ _ | refine TRow.on ?_ (by assumption))); rintro e w' ⟨rfl, hb⟩)
      | (go_at_call 54; refine (HT1 _ _ ?_ (ws_libs (by assumption))).mono ?_; (repeat (first | exact trow1 _ f1 _ _ (by first | rfl | simp) | refine TRow.alloc ?_ _ | refine TRow.on ?_ (by assumption))); rintro e w' ⟨rfl, hb⟩)
      | (go_at_call_of 55 (Value.string f4); refine (HW4 _).mono ?_; rintro e w' ⟨rfl, rfl⟩)
      | (go_at_call_of 55 (Value.string f8); refine (HW8 _).mono ?_; rintro e w' ⟨rfl, rfl⟩))
  all_goals (
    rename_i hS
    have HF : Hid (Below w.heap.size w _) := hS.2.2.2.2.2.2.2.2.2.below
    have hd := hS.2.2.2.2.2.2.2.2.1
    clear hS hws
    rw [HX.out]
    cases f9
    · go_wp2_with fail
      go_ret2
      refine ⟨?_, HF.out⟩
      show Ending.returned (.tuple #[.string ((⟨BODY.toArray⟩ : ByteArray) ++ ⟨#[32, 48]⟩), .int .i64 0]) = _
      rw [show (⟨BODY.toArray⟩ : ByteArray) ++ ⟨#[32, 48]⟩ = ⟨(BODY ++ [32, 48]).toArray⟩ from bapp BODY [32, 48]]
      rfl
    · go_wp2_with fail
      go_ret2
      refine ⟨?_, HF.out⟩
      show Ending.returned (.tuple #[.string ((⟨BODY.toArray⟩ : ByteArray) ++ ⟨#[32, 49]⟩), .int .i64 0]) = _
      rw [show (⟨BODY.toArray⟩ : ByteArray) ++ ⟨#[32, 49]⟩ = ⟨(BODY ++ [32, 49]).toArray⟩ from bapp BODY [32, 49]]
      rfl)
end Go.Proofs.YtlailakofhenkaaGreatDoor
