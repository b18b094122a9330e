/-
  A scope as the program reads it: its form, its words in order, each once.
-/
import Derived.Test.YtibelcnjmpedkaaGreatDoorScMath
import Derived.Test.YtibelcnjmpedkaaGreatDoorScIns
import Derived.Deep.LoopGhost
namespace Go.Proofs.YtibelcnjmpedkaaGreatDoor
open Go Go.RowKit Sc
def LenOk (w : World) : Prop := ∃ m, w.cell? ⟨0, 0, none⟩ = some (.int .i64 m)
theorem LenOk.below {w w' : World} (h : LenOk w) (hb : Below w.heap.size w w') : LenOk w' := by
  obtain ⟨m, hm⟩ := h
  exact ⟨m, (hb.cell (p := ⟨0, 0, none⟩) (World.block_lt_of_cell? _ _ hm)).trans hm⟩
theorem LenOk.belowB {B : Nat} {w w' : World} (h : LenOk w) (hb : Below B w w') (hB : w.heap.size = B) : LenOk w' := h.below (hB ▸ hb)
theorem all_take (s : ByteArray) (k : Nat) (h : k < s.size) : (s.data.toList.take (k + 1)).all lowB = ((s.data.toList.take k).all lowB && lowB s[k]) := by
  rw [List.take_succ_eq_append_getElem (by simpa using h), List.all_append]
  simp
  rfl
theorem all_bad {s : ByteArray} {k : Nat} (h : k < s.size) (hb : lowB s[k] = false) : wordB s.data.toList = false := by
  cases hw : wordB s.data.toList with
  | false => rfl
  | true =>
    have := (wordB_iff.1 hw).2 s[k] (by
      show s.data[k] ∈ s.data.toList
      exact Array.mem_toList_iff.2 (Array.getElem_mem h))
    rw [hb] at this
    cases this
theorem word_full {s : ByteArray} (h : (s.data.toList.take s.size).all lowB = true) : wordB s.data.toList = !s.data.toList.isEmpty := by
  rw [List.take_of_length_le (by simp)] at h
  unfold wordB
  rw [h]
  cases s.data.toList <;> rfl
set_option maxRecDepth 100000 in
set_option maxHeartbeats 2000000 in
theorem isWord_is (s : ByteArray) (w : World) (hs : s.size ≤ 10000) : Calls Tryz.prog 235 #[.string s] w fun e w' => e = .returned (.bool (wordB s.data.toList)) ∧ w' = w := by
  have HBAD : Hid (∀ k (h : k < s.size), lowB s[k] = false → wordB s.data.toList = false) := fun k h => all_bad h
  have HT : Hid (∀ k (h : k < s.size), (s.data.toList.take (k + 1)).all lowB = ((s.data.toList.take k).all lowB && lowB s[k])) := all_take s
  have HF : Hid ((s.data.toList.take s.size).all lowB = true → wordB s.data.toList = !s.data.toList.isEmpty) := word_full
  go_enter Tryz.func235, Tryz.ntmps235
  go_wp2_with fail
  go_loopg [6] s.size (fun gk i wr => ∃ k : Nat, k + gk = s.size ∧ i = .int .i64 k ∧ Hid ((s.data.toList.take k).all lowB = true) ∧ wr = w)
  case atStart => exact ⟨0, by omega, rfl, by simp [Hid], rfl⟩
  case round =>
    obtain ⟨k, hk, rfl, HA, rfl⟩ := hrel
    have HK : Hid (k + gk = s.size) := hk
    have hks : k ≤ s.size := by omega
    clear hk
    by_cases hlt : k < s.size
    · have hltI : (k : Int) < (s.size : Int) := by omega
      by_cases h1 : 97 ≤ s[k].toNat
      · by_cases h2 : s[k].toNat ≤ 122
        · have HL : Hid (lowB s[k] = true) := lowB_t h1 h2
          go_wp2_with fail
          go_roundg (gk - 1)
          case measure => have := HK.out; omega
          case rel => exact ⟨k + 1, by have := HK.out; omega, by go_num, by show _ = true; rw [HT.out k hlt, HA.out, HL.out]; rfl, rfl⟩
        · have HW : Hid (wordB s.data.toList = false) := HBAD.out k hlt (lowB_f (by omega))
          go_wp2_with fail
          go_ret
          exact ⟨by rw [HW.out]; rfl, rfl⟩
      · have HW : Hid (wordB s.data.toList = false) := HBAD.out k hlt (lowB_f (by omega))
        go_wp2_with fail
        go_ret
        exact ⟨by rw [HW.out]; rfl, rfl⟩
    · obtain rfl : k = s.size := by omega
      have HW : Hid (wordB s.data.toList = !s.data.toList.isEmpty) := HF.out HA.out
      go_wp2_with fail
      go_ret
      exact ⟨by rw [HW.out, ← ByteArray.toList_eq]; rfl, rfl⟩
theorem formed_nil : formedB [] = true := rfl
theorem formed_left {s : List UInt8} (h : s ≠ []) : formedB s = (left true s).all wordB := by
  unfold formedB
  rw [words_ne h]
  rfl
theorem blist (l : List UInt8) : (⟨l.toArray⟩ : ByteArray).data.toList = l := rfl
theorem bsize (l : List UInt8) : (⟨l.toArray⟩ : ByteArray).size = l.length := by simp [ByteArray.size]
theorem bne_list {s : ByteArray} (h : s ≠ ⟨#[]⟩) : s.data.toList ≠ [] := fun e => h (by
  apply ByteArray.ext
  exact Array.toList_inj.1 e)
set_option maxRecDepth 100000 in
set_option maxHeartbeats 2000000 in
theorem isScope_is (s : ByteArray) (w : World) (hs : s.size ≤ 1000) (hL : LenOk w) : Calls Tryz.prog 221 #[.string s] w fun e w' => e = .returned (.bool (formedB s.data.toList)) ∧ ∃ n, w' = w.drewN n := by
  have HL : Hid (LenOk w) := hL
  clear hL
  by_cases h0 : s = ⟨#[]⟩
  · subst h0
    go_enter Tryz.func221, Tryz.ntmps221
    go_wp2_with fail
    go_ret
    exact ⟨rfl, 0, rfl⟩
  · have HS : Hid (formedB s.data.toList = (left true s.data.toList).all wordB) := formed_left (bne_list h0)
    have hne : s.toList.isEmpty = false := by
      rw [ByteArray.toList_eq, List.isEmpty_eq_false_iff]
      exact bne_list h0
    clear h0
    go_enter Tryz.func221, Tryz.ntmps221
    go_wp2_with fail
    go_loopg [0, 3] (s.size + 1) (fun gk sv mv wr => ∃ (l : List UInt8) (more : Bool) (n : Nat), sv = .string ⟨l.toArray⟩ ∧ mv = .bool more ∧ Hid (if more then l.length < gk else True) ∧ l.length ≤ 1000 ∧ Hid (formedB s.data.toList = (left more l).all wordB) ∧ wr = w.drewN n)
    case atStart => exact ⟨s.data.toList, true, 0, rfl, rfl, by show s.data.toList.length < s.size + 1; simp, by simpa using hs, HS.out, rfl⟩
    case round =>
      obtain ⟨l, more, n, rfl, rfl, HG, hl, HFm, rfl⟩ := hrel
      cases more with
      | false =>
        have HF2 : Hid (formedB s.data.toList = true) := HFm.out
        go_wp2_with fail
        go_ret
        exact ⟨by rw [HF2.out]; rfl, n, rfl⟩
      | true =>
        have HFm2 : Hid (formedB s.data.toList = (left true l).all wordB) := HFm.out
        have hlt : l.length < gk := HG.out
        have HLT : Hid (l.length < gk) := hlt
        obtain ⟨m, hm⟩ := HL.out
        have hcut := Tryz.strings_Cut ⟨l.toArray⟩ ⟨#[43]⟩ m (w.drewN n) (by rw [bsize]; omega) hm
        rw [blist, show (⟨#[43]⟩ : ByteArray).data.toList = [43] from rfl] at hcut
        have hst := left_step l
        have hln := left_len l
        generalize (Lib.cut l [43]).1 = a at *
        generalize (Lib.cut l [43]).2.1 = b at *
        generalize (Lib.cut l [43]).2.2 = f at *
        have HST : Hid (left true l = a :: left f b) := hst
        have HLN : Hid (f = true → b.length + 1 ≤ l.length) := hln.2.2
        have hal : a.length ≤ 1000 := by have := hln.1; omega
        have hbl : b.length ≤ 1000 := by have := hln.2.1; omega
        clear hst hln HG HFm hlt hm
        go_wp2_with fail
        refine hcut.mono ?_
        rintro e w1 ⟨rfl, d1, rfl⟩
        clear hcut
        go_wp2_with fail
        refine (isWord_is ⟨a.toArray⟩ _ (by rw [bsize]; omega)).mono ?_
        rintro e w2 ⟨rfl, rfl⟩
        rw [blist]
        cases hw : wordB a with
        | false =>
          have HF2 : Hid (formedB s.data.toList = false) := by show _ = _; rw [HFm2.out, HST.out, List.all_cons, hw]; rfl
          clear hw
          go_wp2_with fail
          go_ret
          exact ⟨by rw [HF2.out]; rfl, n + d1, rfl⟩
        | true =>
          have HF2 : Hid (formedB s.data.toList = (left f b).all wordB) := by show _ = _; rw [HFm2.out, HST.out, List.all_cons, hw]; rfl
          clear hw
          go_wp2_with fail
          go_roundg (gk - 1)
          case measure => have := HLT.out; omega
          case rel =>
            refine ⟨b, f, n + d1, rfl, rfl, ?_, hbl, HF2, rfl⟩
            show if f then _ else _
            cases f with
            | false => exact trivial
            | true => have := HLT.out; have := HLN.out rfl; show b.length < gk - 1; omega
set_option maxHeartbeats 1000000 in
theorem tooLong_is (x : ByteArray) (w : World) : Calls Tryz.prog 223 #[.string x] w fun e w' => e = .returned (.bool (decide (8 < x.size))) ∧ ∃ q, w' = w.drewN q := by
  go_enter Tryz.func223, Tryz.ntmps223
  go_wp2_with fail
  go_ret
  exact ⟨by congr 2; simp; omega, 0, rfl⟩
end Go.Proofs.YtibelcnjmpedkaaGreatDoor
