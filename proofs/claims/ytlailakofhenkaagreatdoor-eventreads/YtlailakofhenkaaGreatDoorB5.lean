/-
  Own texts put together: EvName, EvBox, ScScan, ScSort, ScApp.
-/
import Derived.Test.YtlailakofhenkaaGreatDoorB3
import Derived.Test.YtlailakofhenkaaGreatDoorB1
import Derived.WalkKit
import Derived.WalkSpells
import Derived.WalkLawsBesides
import Derived.Deep.LoopGhost
import Derived.BigQuiet
import Derived.Test.YtlailakofhenkaaGreatDoorB4
import Derived.Test.YtlailakofhenkaaGreatDoorShelf
import Derived.Lib.SortBridge
import Derived.Deep.AppendSrc
import Derived.Lib.AppendZeros
/-
  Names, as the program and the document's answer know them; numbers within their bounds.
-/

namespace Go.Proofs.YtlailakofhenkaaGreatDoor
open Go Go.RowKit Tok Sc Ev
def inB3 (n a b : Int) : Bool := decide (a ≤ n) && decide (n ≤ b)
set_option maxHeartbeats 1000000 in
theorem in3_is (n a b : Int) (w : World) : Calls Tryz.prog 60 #[.int .i64 n, .int .i64 a, .int .i64 b] w fun e w' => e = .returned (.bool (inB3 n a b)) ∧ w' = w := by
  by_cases h0 : a ≤ n
  · by_cases h1 : n ≤ b
    · have hd : Hid (inB3 n a b = true) := by simp [Hid, inB3, h0, h1]
      go_enter Tryz.func60, Tryz.ntmps60
      go_wp2_with fail
      go_ret
      exact ⟨by rw [hd.out]; rfl, rfl⟩
    · have hd : Hid (inB3 n a b = false) := by simp [Hid, inB3, h1]
      go_enter Tryz.func60, Tryz.ntmps60
      go_wp2_with fail
      go_ret
      exact ⟨by rw [hd.out]; rfl, rfl⟩
  · have hd : Hid (inB3 n a b = false) := by simp [Hid, inB3, h0]
    go_enter Tryz.func60, Tryz.ntmps60
    go_wp2_with fail
    go_ret
    exact ⟨by rw [hd.out]; rfl, rfl⟩
theorem nm_take (s : ByteArray) (k : Nat) (h : k < s.size) : (s.data.toList.take (k + 1)).all nmB = ((s.data.toList.take k).all nmB && nmB s[k]) := by
  rw [List.take_succ_eq_append_getElem (by simpa using h), List.all_append]
  simp
  rfl
theorem nm_bad {s : ByteArray} {k : Nat} (h : k < s.size) (hb : nmB s[k] = false) : nameB s.data.toList = false := by
  cases hw : nameB s.data.toList with
  | false => rfl
  | true =>
    have := (nameB_iff.1 hw).1 s[k] (by
      show s.data[k] ∈ s.data.toList
      exact Array.mem_toList_iff.2 (Array.getElem_mem h))
    rw [hb] at this
    cases this
theorem nm_full {s : ByteArray} (h : (s.data.toList.take s.size).all nmB = true) : nameB s.data.toList = inB3 s.size 1 20 := by
  rw [List.take_of_length_le (by simp)] at h
  unfold nameB inB3
  rw [h, Bool.true_and]
  have hl : s.data.toList.length = s.size := Array.length_toList
  rw [hl, Bool.eq_iff_iff]
  simp only [Bool.and_eq_true, decide_eq_true_eq]
  omega
theorem nm_lo {c : UInt8} (h1 : 97 ≤ c.toNat) (h2 : c.toNat ≤ 122) : nmB c = true := nmB_iff.2 (.inl ⟨h1, h2⟩)
theorem nm_di {c : UInt8} (h1 : 48 ≤ c.toNat) (h2 : c.toNat ≤ 57) : nmB c = true := nmB_iff.2 (.inr (.inl ⟨h1, h2⟩))
theorem nm_da {c : UInt8} (h1 : c.toNat = 45) : nmB c = true := nmB_iff.2 (.inr (.inr h1))
theorem nm_no {c : UInt8} (h : ¬ ((97 ≤ c.toNat ∧ c.toNat ≤ 122) ∨ (48 ≤ c.toNat ∧ c.toNat ≤ 57) ∨ c.toNat = 45)) : nmB c = false := Bool.eq_false_iff.2 (fun k => h (nmB_iff.1 k))
set_option maxRecDepth 100000 in
set_option maxHeartbeats 4000000 in
theorem refName_is (s : ByteArray) (w : World) (hs : s.size ≤ 1000000) : Calls Tryz.prog 18 #[.string s] w fun e w' => e = .returned (.bool (nameB s.data.toList)) ∧ w' = w := by
  have HBAD : Hid (∀ k (h : k < s.size), nmB s[k] = false → nameB s.data.toList = false) := fun k h => nm_bad h
  have HT : Hid (∀ k (h : k < s.size), (s.data.toList.take (k + 1)).all nmB = ((s.data.toList.take k).all nmB && nmB s[k])) := nm_take s
  have HF : Hid ((s.data.toList.take s.size).all nmB = true → nameB s.data.toList = inB3 s.size 1 20) := nm_full
  go_enter Tryz.func18, Tryz.ntmps18
  go_wp2_with fail
  go_loopg [7] s.size (fun gk i wr => ∃ k : Nat, k + gk = s.size ∧ i = .int .i64 k ∧ Hid ((s.data.toList.take k).all nmB = true) ∧ wr = w)
  case atStart => exact ⟨0, by omega, rfl, by simp [Hid], rfl⟩
  case round =>
    obtain ⟨k, hk, rfl, HA, rfl⟩ := hrel
    have HK : Hid (k + gk = s.size) := hk
    have hks : k ≤ s.size := by omega
    clear hk
    by_cases hlt : k < s.size
    · have hltI : (k : Int) < (s.size : Int) := by omega
      have HGO : Hid (nmB s[k] = true → (s.data.toList.take (k + 1)).all nmB = true) := fun h => by rw [HT.out k hlt, HA.out, h]; rfl
      have HST : Hid (nmB s[k] = false → nameB s.data.toList = false) := HBAD.out k hlt
      by_cases h1 : 97 ≤ s[k].toNat
      · by_cases h2 : s[k].toNat ≤ 122
        · have HL : Hid (nmB s[k] = true) := nm_lo h1 h2
          have g1 : (97 : Int) ≤ s[k].toNat := by omega
          have g2 : (s[k].toNat : Int) ≤ 122 := by omega
          go_wp2_with fail
          go_roundg (gk - 1)
          case measure => have := HK.out; omega
          case rel => exact ⟨k + 1, by have := HK.out; omega, by go_num, HGO.out HL.out, rfl⟩
        · have HW : Hid (nameB s.data.toList = false) := HST.out (nm_no (by omega))
          have h3 : (48 : Int) ≤ s[k].toNat := by omega
          have g2 : ¬ (s[k].toNat : Int) ≤ 122 := by omega
          have g1 : (97 : Int) ≤ s[k].toNat := by omega
          have h4 : ¬ (s[k].toNat : Int) ≤ 57 := by omega
          have h5 : ((s[k].toNat : Int) == 45) = false := by rw [beq_eq_false_iff_ne]; omega
          go_wp2_with fail
          go_ret
          exact ⟨by rw [HW.out]; rfl, rfl⟩
      · by_cases h3 : 48 ≤ s[k].toNat
        · by_cases h4 : s[k].toNat ≤ 57
          · have HL : Hid (nmB s[k] = true) := nm_di h3 h4
            have g1 : ¬ (97 : Int) ≤ s[k].toNat := by omega
            have g2 : (48 : Int) ≤ s[k].toNat := by omega
            have g3 : (s[k].toNat : Int) ≤ 57 := by omega
            go_wp2_with fail
            go_roundg (gk - 1)
            case measure => have := HK.out; omega
            case rel => exact ⟨k + 1, by have := HK.out; omega, by go_num, HGO.out HL.out, rfl⟩
          · have HW : Hid (nameB s.data.toList = false) := HST.out (nm_no (by omega))
            have g1 : ¬ (97 : Int) ≤ s[k].toNat := by omega
            have g2 : (48 : Int) ≤ s[k].toNat := by omega
            have g3 : ¬ (s[k].toNat : Int) ≤ 57 := by omega
            have h5 : ((s[k].toNat : Int) == 45) = false := by rw [beq_eq_false_iff_ne]; omega
            go_wp2_with fail
            go_ret
            exact ⟨by rw [HW.out]; rfl, rfl⟩
        · by_cases h5 : s[k].toNat = 45
          · have HL : Hid (nmB s[k] = true) := nm_da h5
            have g1 : ¬ (97 : Int) ≤ s[k].toNat := by omega
            have g2 : ¬ (48 : Int) ≤ s[k].toNat := by omega
            have g3 : ((s[k].toNat : Int) == 45) = true := by rw [beq_iff_eq]; omega
            go_wp2_with fail
            go_roundg (gk - 1)
            case measure => have := HK.out; omega
            case rel => exact ⟨k + 1, by have := HK.out; omega, by go_num, HGO.out HL.out, rfl⟩
          · have HW : Hid (nameB s.data.toList = false) := HST.out (nm_no (by omega))
            have g1 : ¬ (97 : Int) ≤ s[k].toNat := by omega
            have g2 : ¬ (48 : Int) ≤ s[k].toNat := by omega
            have g3 : ((s[k].toNat : Int) == 45) = false := by rw [beq_eq_false_iff_ne]; omega
            go_wp2_with fail
            go_ret
            exact ⟨by rw [HW.out]; rfl, rfl⟩
    · obtain rfl : k = s.size := by omega
      have HW : Hid (nameB s.data.toList = inB3 s.size 1 20) := HF.out HA.out
      go_wp2_with fail
      refine (in3_is _ _ _ _).mono ?_
      rintro e w' ⟨rfl, rfl⟩
      go_wp2_with fail
      go_ret
      exact ⟨by rw [HW.out]; rfl, rfl⟩
theorem nmB_def (c : UInt8) : nmB c = ((decide ((97 : Int) ≤ c.toNat) && decide ((c.toNat : Int) ≤ 122)) || (decide ((48 : Int) ≤ c.toNat) && decide ((c.toNat : Int) ≤ 57)) || ((c.toNat : Int) == 45)) := by
  rw [Bool.eq_iff_iff, nmB_iff]
  simp only [Bool.or_eq_true, Bool.and_eq_true, decide_eq_true_eq, beq_iff_eq]
  omega
set_option maxHeartbeats 2000000 in
theorem letter_is (c : UInt8) (w : World) : Calls Tryz.prog 59 #[.int .u8 c.toNat] w fun e w' => e = .returned (.bool (nmB c)) ∧ w' = w := by
  have HD := nmB_def c
  by_cases h1 : (97 : Int) ≤ c.toNat
  · by_cases h2 : (c.toNat : Int) ≤ 122
    · have HL : Hid (nmB c = true) := nm_lo (by omega) (by omega)
      clear HD
      go_enter Tryz.func59, Tryz.ntmps59
      go_wp2_with fail
      go_ret
      exact ⟨by rw [HL.out]; rfl, rfl⟩
    · have HL : Hid (nmB c = false) := nm_no (by omega)
      have h3 : (48 : Int) ≤ c.toNat := by omega
      have h4 : ¬ (c.toNat : Int) ≤ 57 := by omega
      have h5 : ((c.toNat : Int) == 45) = false := by rw [beq_eq_false_iff_ne]; omega
      clear HD
      go_enter Tryz.func59, Tryz.ntmps59
      go_wp2_with fail
      go_ret
      exact ⟨by rw [HL.out]; rfl, rfl⟩
  · by_cases h3 : (48 : Int) ≤ c.toNat
    · by_cases h4 : (c.toNat : Int) ≤ 57
      · have HL : Hid (nmB c = true) := nm_di (by omega) (by omega)
        clear HD
        go_enter Tryz.func59, Tryz.ntmps59
        go_wp2_with fail
        go_ret
        exact ⟨by rw [HL.out]; rfl, rfl⟩
      · have HL : Hid (nmB c = false) := nm_no (by omega)
        have h5 : ((c.toNat : Int) == 45) = false := by rw [beq_eq_false_iff_ne]; omega
        clear HD
        go_enter Tryz.func59, Tryz.ntmps59
        go_wp2_with fail
        go_ret
        exact ⟨by rw [HL.out]; rfl, rfl⟩
    · by_cases h5 : c.toNat = 45
      · have HL : Hid (nmB c = true) := nm_da h5
        have h6 : ((c.toNat : Int) == 45) = true := by rw [beq_iff_eq]; omega
        clear HD
        go_enter Tryz.func59, Tryz.ntmps59
        go_wp2_with fail
        go_ret
        exact ⟨by rw [HL.out]; rfl, rfl⟩
      · have HL : Hid (nmB c = false) := nm_no (by omega)
        have h6 : ((c.toNat : Int) == 45) = false := by rw [beq_eq_false_iff_ne]; omega
        clear HD
        go_enter Tryz.func59, Tryz.ntmps59
        go_wp2_with fail
        go_ret
        exact ⟨by rw [HL.out]; rfl, rfl⟩
set_option maxRecDepth 100000 in
set_option maxHeartbeats 4000000 in
theorem name_is (s : ByteArray) (w : World) (hs : s.size ≤ 1000000) : Calls Tryz.prog 17 #[.string s] w fun e w' => e = .returned (.bool (nameB s.data.toList)) ∧ w' = w := by
  have HBAD : Hid (∀ k (h : k < s.size), nmB s[k] = false → nameB s.data.toList = false) := fun k h => nm_bad h
  have HT : Hid (∀ k (h : k < s.size), (s.data.toList.take (k + 1)).all nmB = ((s.data.toList.take k).all nmB && nmB s[k])) := nm_take s
  have HF : Hid ((s.data.toList.take s.size).all nmB = true → nameB s.data.toList = inB3 s.size 1 20) := nm_full
  have hl : s.data.toList.length = s.size := Array.length_toList
  by_cases h0 : s.data.toList = []
  · have HW : Hid (nameB s.data.toList = false) := by show _ = _; rw [h0]; rfl
    have he : s.toList.isEmpty = true := by rw [ByteArray.toList_eq, h0]; rfl
    clear h0 hl
    go_enter Tryz.func17, Tryz.ntmps17
    go_wp2_with fail
    go_ret
    exact ⟨by rw [HW.out]; rfl, rfl⟩
  · have he : s.toList.isEmpty = false := by rw [ByteArray.toList_eq, List.isEmpty_eq_false_iff]; exact h0
    have hpos : 0 < s.data.toList.length := List.length_pos_iff.2 h0
    rw [hl] at hpos
    by_cases h20 : s.size ≤ 20
    · have h20' : (s.size : Int) ≤ 20 := by omega
      have HW1 : Hid (inB3 s.size 1 20 = true) := by
        show _ = _
        unfold inB3
        simp only [Bool.and_eq_true, decide_eq_true_eq]
        omega
      clear h0 hl hpos
      go_enter Tryz.func17, Tryz.ntmps17
      go_wp2_with fail
      go_loopg [13] s.size (fun gk i wr => ∃ k : Nat, k + gk = s.size ∧ i = .int .i64 k ∧ Hid ((s.data.toList.take k).all nmB = true) ∧ wr = w)
      case atStart => exact ⟨0, by omega, rfl, by simp [Hid], rfl⟩
      case round =>
        obtain ⟨k, hk, rfl, HA, rfl⟩ := hrel
        have HK : Hid (k + gk = s.size) := hk
        have hks : k ≤ s.size := by omega
        clear hk
        by_cases hlt : k < s.size
        · have hltI : (k : Int) < (s.size : Int) := by omega
          have HGO : Hid (nmB s[k] = true → (s.data.toList.take (k + 1)).all nmB = true) := fun h => by rw [HT.out k hlt, HA.out, h]; rfl
          have HST : Hid (nmB s[k] = false → nameB s.data.toList = false) := HBAD.out k hlt
          go_wp2_with fail
          refine (letter_is s[k] _).mono ?_
          rintro e w' ⟨rfl, rfl⟩
          cases hq : nmB s[k] with
          | true =>
            have HL : Hid ((s.data.toList.take (k + 1)).all nmB = true) := HGO.out hq
            clear hq
            go_wp2_with fail
            go_roundg (gk - 1)
            case measure => have := HK.out; omega
            case rel => exact ⟨k + 1, by have := HK.out; omega, by go_num, HL, rfl⟩
          | false =>
            have HW : Hid (nameB s.data.toList = false) := HST.out hq
            clear hq
            go_wp2_with fail
            go_ret
            exact ⟨by rw [HW.out]; rfl, rfl⟩
        · obtain rfl : k = s.size := by omega
          have HW : Hid (nameB s.data.toList = true) := (HF.out HA.out).trans HW1.out
          go_wp2_with fail
          go_ret
          exact ⟨by rw [HW.out]; rfl, rfl⟩
    · have h20' : ¬ (s.size : Int) ≤ 20 := by omega
      have h20'' : (20 : Int) < (s.size : Int) := by omega
      have HW : Hid (nameB s.data.toList = false) := Bool.eq_false_iff.2 (fun h => by have := (nameB_iff.1 h).2.2; omega)
      clear h0 hl hpos
      go_enter Tryz.func17, Tryz.ntmps17
      go_wp2_with fail
      go_ret
      exact ⟨by rw [HW.out]; rfl, rfl⟩
end Go.Proofs.YtlailakofhenkaaGreatDoor

/-
  An event's box, and its cells. Of no program.
-/

namespace Go.Proofs.YtlailakofhenkaaGreatDoor
open Go Go.RowKit Ev
def evCs (e : E) : List Value := [.int .i64 e.kind, .int .i64 e.fam.id, .string e.fam.client, .string e.fam.subject, .string e.fam.scope, .int .i64 e.fam.gen, .int .i64 e.fam.made, .int .i64 e.fam.used, .string e.fam.request, .bool e.fam.dead, .int .i64 e.id, .int .i64 e.time]
def evV (e : E) : Value := .agg (evCs e).toArray
/-- An event's box. -/
structure EvAt (w : World) (g : Nat) (e : E) : Prop where
  lt : g < w.heap.size
  c0 : w.cell? ⟨g, 0, none⟩ = some (.int .i64 e.kind)
  fam : FamAt w g 1 e.fam
  c10 : w.cell? ⟨g, 10, none⟩ = some (.int .i64 e.id)
  c11 : w.cell? ⟨g, 11, none⟩ = some (.int .i64 e.time)
theorem EvAt.on {w w' : World} {g : Nat} {e : E} (h : EvAt w g e) (hb : Below w.heap.size w w') : EvAt w' g e :=
  ⟨Nat.lt_of_lt_of_le h.lt hb.size, (hb.cell (p := ⟨g, 0, none⟩) h.lt).trans h.c0, h.fam.on hb h.lt, (hb.cell (p := ⟨g, 10, none⟩) h.lt).trans h.c10, (hb.cell (p := ⟨g, 11, none⟩) h.lt).trans h.c11⟩
theorem evAt_made (w : World) (e : E) (t : TypeId) (g : Nat) (hg : g = w.heap.size) : EvAt (w.alloc (.cells #[.int .i64 e.kind, .int .i64 e.fam.id, .string e.fam.client, .string e.fam.subject, .string e.fam.scope, .int .i64 e.fam.gen, .int .i64 e.fam.made, .int .i64 e.fam.used, .string e.fam.request, .bool e.fam.dead, .int .i64 e.id, .int .i64 e.time] t)) g e :=
  ⟨by simp [hg], (World.cell?_alloc_at _ _ _ _ hg).trans rfl, by constructor <;> exact (World.cell?_alloc_at _ _ _ _ hg).trans rfl, (World.cell?_alloc_at _ _ _ _ hg).trans rfl, (World.cell?_alloc_at _ _ _ _ hg).trans rfl⟩
end Go.Proofs.YtlailakofhenkaaGreatDoor

/-
  Plain mathematics: a scope looked at byte by byte.
-/

namespace Go.Proofs.YtlailakofhenkaaGreatDoor.Sc
open Go.Lib Tok
structure Scan (s : List UInt8) (i : Nat) (pre : List Word) (cur : Word) : Prop where
  rest : (i ≤ s.length ∧ parts 43 s = pre ++ parts 43 (cur ++ s.drop i)) ∨ (i = s.length + 1 ∧ parts 43 s = pre ∧ cur = [])
  low : ∀ c ∈ cur, lowB c = true
  good : ∀ p ∈ pre, wordB p = true
  len : cur.length ≤ i
theorem scan_start (s : List UInt8) : Scan s 0 [] [] := ⟨.inl ⟨Nat.zero_le _, rfl⟩, by simp, by simp, Nat.le_refl _⟩
theorem scan_cur {s : List UInt8} {i : Nat} {pre : List Word} {cur : Word} (h : Scan s i pre cur) (hi : i ≤ s.length) : parts 43 s = pre ++ parts 43 (cur ++ s.drop i) := by
  rcases h.rest with h | h
  · exact h.2
  · omega
theorem cur_plus {s : List UInt8} {i : Nat} {pre : List Word} {cur : Word} (h : Scan s i pre cur) : (43 : UInt8) ∉ cur := fun hm => low_plus (h.low _ hm) rfl
theorem scan_letter {s : List UInt8} {i : Nat} {pre : List Word} {cur : Word} (h : Scan s i pre cur) (hi : i < s.length) (hl : lowB s[i] = true) : Scan s (i + 1) pre (cur ++ [s[i]]) := by
  refine ⟨.inl ⟨hi, ?_⟩, fun c hc => ?_, h.good, by have := h.len; simp; omega⟩
  · rw [scan_cur h (by omega), List.append_assoc, List.singleton_append, ← List.drop_eq_getElem_cons hi]
  · simp only [List.mem_append, List.mem_singleton] at hc
    rcases hc with hc | rfl
    · exact h.low c hc
    · exact hl
/-- What stands at an end of a word: the text's end, or a plus. -/
def WEnds (s : List UInt8) (i : Nat) : Prop := i = s.length ∨ ∃ h : i < s.length, s[i] = 43
theorem ends_parts {s : List UInt8} {i : Nat} {cur : Word} (he : WEnds s i) (hc : (43 : UInt8) ∉ cur) :
    (i = s.length ∧ parts 43 (cur ++ s.drop i) = [cur]) ∨ (i < s.length ∧ parts 43 (cur ++ s.drop i) = cur :: parts 43 (s.drop (i + 1))) := by
  rcases he with rfl | ⟨hi, h43⟩
  · exact .inl ⟨rfl, by rw [List.drop_length, List.append_nil, parts_no hc]⟩
  · exact .inr ⟨hi, by rw [List.drop_eq_getElem_cons hi, h43, parts_at _ hc]⟩
theorem scan_cut {s : List UInt8} {i : Nat} {pre : List Word} {cur : Word} (h : Scan s i pre cur) (hi : i ≤ s.length) (he : WEnds s i) (hc : cur ≠ []) : Scan s (i + 1) (pre ++ [cur]) [] := by
  refine ⟨?_, by simp, fun p hp => ?_, Nat.zero_le _⟩
  · rcases ends_parts he (cur_plus h) with ⟨e, hp⟩ | ⟨e, hp⟩
    · exact .inr ⟨by omega, by rw [scan_cur h hi, hp], rfl⟩
    · exact .inl ⟨e, by rw [scan_cur h hi, hp]; simp⟩
  · simp only [List.mem_append, List.mem_singleton] at hp
    rcases hp with hp | rfl
    · exact h.good p hp
    · exact wordB_iff.2 ⟨hc, h.low⟩
theorem formed_bad {s : List UInt8} (hs : s ≠ []) {w : Word} (hw : w ∈ parts 43 s) (hb : wordB w = false) : formedB s = false := by
  cases hf : formedB s with
  | false => rfl
  | true =>
    unfold formedB at hf
    rw [words_ne hs, List.all_eq_true] at hf
    have := hf w hw
    rw [hb] at this
    cases this
theorem scan_empty {s : List UInt8} {i : Nat} {pre : List Word} (h : Scan s i pre []) (hs : s ≠ []) (hi : i ≤ s.length) (he : WEnds s i) : formedB s = false := by
  refine formed_bad hs (w := []) ?_ rfl
  rw [scan_cur h hi]
  rcases ends_parts he (cur_plus h) with ⟨e, hp⟩ | ⟨e, hp⟩ <;> rw [hp] <;> simp
theorem scan_bad {s : List UInt8} {i : Nat} {pre : List Word} {cur : Word} (h : Scan s i pre cur) (hi : i < s.length) (hl : lowB s[i] = false) (h43 : s[i] ≠ 43) : formedB s = false := by
  have hm : s[i] ∈ cur ++ s.drop i := List.mem_append_right _ (by rw [List.drop_eq_getElem_cons hi]; exact List.mem_cons_self)
  obtain ⟨w, hw, hx⟩ := parts_mem h43 _ _ (Nat.le_refl _) hm
  refine formed_bad (by intro e; simp [e] at hi) (w := w) (by rw [scan_cur h (by omega)]; simp [hw]) ?_
  cases hb : wordB w with
  | false => rfl
  | true =>
    have := (wordB_iff.1 hb).2 _ hx
    rw [hl] at this
    cases this
theorem scan_end {s : List UInt8} {pre : List Word} {cur : Word} (h : Scan s (s.length + 1) pre cur) (hs : s ≠ []) : formedB s = true ∧ words s = pre := by
  rcases h.rest with h' | h'
  · omega
  · have : words s = pre := by rw [words_ne hs]; exact h'.2.1
    exact ⟨by unfold formedB; rw [this]; exact List.all_eq_true.2 h.good, this⟩
/-- The words, each once, in their order of coming. -/
def Once (out pre : List Word) : Prop := out.Nodup ∧ ∀ x, x ∈ out ↔ x ∈ pre
theorem once_there {out pre : List Word} {x : Word} (h : Once out pre) (hx : x ∈ pre) : Once out (pre ++ [x]) := by
  refine ⟨h.1, fun y => ?_⟩
  rw [h.2 y, List.mem_append, List.mem_singleton]
  constructor
  · exact .inl
  · rintro (h' | rfl)
    · exact h'
    · exact hx
theorem once_new {out pre : List Word} {x : Word} (h : Once out pre) (hx : x ∉ pre) : Once (out ++ [x]) (pre ++ [x]) := by
  refine ⟨?_, fun y => ?_⟩
  · rw [List.nodup_append]
    refine ⟨h.1, by simp, fun a ha b hb => ?_⟩
    simp at hb
    subst hb
    rintro rfl
    exact hx ((h.2 a).1 ha)
  · rw [List.mem_append, List.mem_append, h.2 y]
def longB (l : List Word) : Bool := l.any fun x => decide (8 < x.length)
theorem longB_add (l : List Word) (x : Word) : longB (l ++ [x]) = (longB l || decide (8 < x.length)) := by simp [longB]
theorem once_out {s : List UInt8} {out : List Word} (hf : formedB s = true) (h : Once out (words s)) :
    ((longB (words s) = true ∨ 5 < out.length) → Out s [] 4) ∧ (longB (words s) = false → out.length ≤ 5 → Out s (out.mergeSort fun x y => decide (x ≤ y)) 0) := by
  obtain ⟨h1, h2⟩ := setOf_sort h.1 h.2
  refine ⟨fun hb => .inr (.inr ⟨rfl, rfl, hf, _, h1, ?_⟩), fun hl h5 => .inl ⟨rfl, hf, h1, by omega, fun w hw => ?_⟩⟩
  · rcases hb with hb | hb
    · right
      simp [longB] at hb
      exact hb
    · left; omega
  · simp [longB] at hl
    exact hl w hw
end Go.Proofs.YtlailakofhenkaaGreatDoor.Sc

/-
  sort.Strings of a list that the call has made.
-/

namespace Go.Proofs.YtlailakofhenkaaGreatDoor
open Go Go.RowKit
theorem below_growW {B : Nat} {w : World} (hB : B ≤ w.heap.size) (os : Array Obj) : Below B w (Go.Sort.grow w os) :=
  ⟨rfl, rfl, rfl, by simp, fun k hk => Go.Sort.heap_grow_old w os (Nat.lt_of_lt_of_le hk hB)⟩
def bytesOf (l : List (List UInt8)) : List ByteArray := l.map fun x => ⟨x.toArray⟩
theorem bytesOf_back (l : List (List UInt8)) : (bytesOf l).map (·.data.toList) = l := by
  unfold bytesOf
  rw [List.map_map]
  exact List.map_id' l
theorem sort_is {B : Nat} {w : World} {v : Value} {xs : List ByteArray} (h : Words B w v xs) (hn : xs.length ≤ 1000000) (hB : B ≤ w.heap.size) :
    Calls Tryz.prog 177 #[v] w fun e w' => e = .returned (.tuple #[]) ∧ Words B w' v (bytesOf ((xs.map (·.data.toList)).mergeSort fun x y => decide (x ≤ y))) ∧ Below B w w' := by
  rcases h with ⟨rfl, rfl⟩ | ⟨g, c, rfl, hr⟩
  · refine (Tryz.sort_Strings_none none 0 w).mono ?_
    rintro e w' ⟨rfl, rfl⟩
    exact ⟨rfl, .inl ⟨rfl, by simp [bytesOf]⟩, Below.refl _ _⟩
  · have hH : Go.Sort.Holds encStr w g 0 (xs.map (·.data.toList)).toArray := by
      intro j hj
      have hj' : j < xs.length := by simpa using hj
      rw [Nat.zero_add]
      refine ⟨?_, (hr.there j (Nat.lt_of_lt_of_le hj' hr.le)).2⟩
      refine hr.holds j _ ?_
      rw [List.getElem?_map, List.getElem?_eq_getElem hj', getElem!_pos _ j hj]
      simp [encStr]
    have hs := Tryz.sort_Strings g 0 c (xs.map (·.data.toList)) w hH hr.lt (by simp; omega)
    rw [List.length_map] at hs
    refine hs.mono ?_
    rintro e w' ⟨rfl, q, os, rfl⟩
    have hl : ((xs.map (·.data.toList)).mergeSort fun x y => decide (x ≤ y)).length = xs.length := by rw [List.length_mergeSort, List.length_map]
    rw [Lib.sorted_world encStr w g 0 q _ _ os hH (by rw [hl]; simp)]
    generalize ((xs.map (·.data.toList)).mergeSort fun x y => decide (x ≤ y)) = ys at *
    have hb1 : Below B w ((w.drewN q).setCells g 0 (ys.map encStr)) := (below_drewN' (Below.refl _ _) q).trans (below_setCellsW hr.new _ _ _)
    have hb2 : Below B ((w.drewN q).setCells g 0 (ys.map encStr)) (Go.Sort.grow ((w.drewN q).setCells g 0 (ys.map encStr)) os) := below_growW (Nat.le_trans hB hb1.size) os
    have e1 : (bytesOf ys).length = xs.length := by simp [bytesOf, hl]
    have e2 : (bytesOf ys).map Value.string = ys.map encStr := by
      unfold bytesOf
      rw [List.map_map]
      rfl
    refine ⟨rfl, .inr ⟨g, c, by rw [e1], ?_⟩, hb1.trans hb2⟩
    rw [e1, e2]
    have hrow := (hr.drewN q).setCells (cs' := ys.map encStr) 0 (ys.map encStr) (by rw [List.length_map, hl]; have := hr.le; omega) (by rw [List.length_map, hl]; exact hr.le) (fun j u hj => ⟨fun _ => hj, fun hh => by
      have := (List.getElem?_eq_some_iff.1 hj).1
      omega⟩)
    rw [List.length_map, hl] at hrow
    exact hrow.below (below_growW (Nat.le_refl _) os) hrow.lt
end Go.Proofs.YtlailakofhenkaaGreatDoor

/-
  One text appended to a list that the call has made, nil at first. Of no program.
-/

namespace Go.Proofs.YtlailakofhenkaaGreatDoor
open Go Go.RowKit
theorem wpList_append_words {P : Program} (w : World) {ops : Array Oper} {rest : List Oper} {o : Oper} {a : Act} {Q : Exit → Act → World → Prop}
    (hg : o.guard = none) (s x : Operand) (t : TypeId) (hop : o.op = Op.call { callee := Callee.builtin Builtin.append, args := #[s, x], argTypes := #[t, t] })
    (e : TypeId) (i : TypeInfo) (h1 : P.underlying t = some (.slice e)) (h2 : P.info? e = some i) (h3 : i.zero = some (.string ⟨#[]⟩)) (h4 : i.size = 1) (h5 : i.bytes = 16)
    (B : Nat) (v : Value) (xs : List ByteArray) (hs : a.eval s = v) (h : Words B w v xs) (hB : B ≤ w.heap.size)
    (ad : Addr) (c' : Nat) (u : ByteArray) (hx : a.eval x = .slice (some ad) 1 c') (hc : w.cell? ad = some (.string u)) (hn : xs.length ≤ 1000000)
    (hK : ∀ v' w', Words B w' v' (xs ++ [u]) → Below B w w' → wpList P ops Q rest (a.put o.dst v') w') :
    wpList P ops Q (o :: rest) a w := by
  rcases h with ⟨rfl, rfl⟩ | ⟨g, c, rfl, hr⟩
  · have hsrc : Src P i.size t (.slice (some ad) 1 c') 1 [.string u] w := by
      rw [h4]
      refine Src.ofSlice w h1 ad 1 c' [.string u] rfl (fun j y hj => ?_) (by intro y hy; simp at hy; subst hy; rfl)
      match j, hj with
      | 0, hj => simp at hj; subst hj; simpa [Addr.add] using hc
      | j + 1, hj => simp at hj
    have hrun := run_append_grow_src w t t o.type e i _ h1 h2 h3 none 0 0 [] (run_firstCells_none w.drew i.size 0 0 0) _ 1 [.string u] hsrc (by omega) (by omega) (by rw [h5]; exact growslice_fits (by omega) (by omega))
    refine Lib.wpList_append_run w hg s x t t hop _ _ hs hx _ _ hrun ?_
    have hm := grownCap_le_maxLen w (0 + 1) 0 e (by unfold maxLen; omega)
    have hm1 := grownCap_ge w (0 + 1) 0 e
    refine hK _ _ (.inr ⟨_, _, rfl, ?_⟩) (((Below.refl B w).drew).alloc (by exact hB) _)
    exact rowAt_new (B := B) (w := w.drew) hB [.string u] 1 rfl (.string ⟨#[]⟩) _ e hm hm1
  · refine wpList_append_row w hg s x t hop e i _ 16 h1 h2 h3 h4 h5 rfl B g xs.length c _ hs hr ad c' (.string u) hx hc rfl (by unfold maxLen; omega) (by omega) (fun g' cc w' hr' hb' => ?_)
    have e1 : xs.length + 1 = (xs ++ [u]).length := by simp
    rw [e1]
    refine hK _ _ (.inr ⟨g', cc, rfl, ?_⟩) hb'
    rw [← e1, List.map_append]
    exact hr'
end Go.Proofs.YtlailakofhenkaaGreatDoor
