import Derived.Test.YteblegcojhcccaaDoorDiskWalk
import Derived.Test.YteblegcojhcccaaDoorMapStr
import Derived.Deep.LoopGhost
import Derived.Deep.CutRange
import Derived.BigQuiet
namespace Go.Proofs.YteblegcojhcccaaDoor
open Go Go.RowKit
def zeroDisk : List Value := List.replicate 90 (Value.string ByteArray.empty) ++ [Value.int .i64 0, Value.bool false, Value.int .i64 0]
theorem zeroDisk_is : Tryd.zeroCells26 = zeroDisk.toArray := by kernel_rfl
theorem IsDisk.zero (w : World) : IsDisk ((w.alloc (.cells Tryd.zeroCells26 26)).alloc (.map #[] 0)) w.heap.size (fun _ => ByteArray.empty) ((0 : Nat) : Int) false 0 := by
  have hc : ∀ j : Nat, ((w.alloc (.cells Tryd.zeroCells26 26)).alloc (.map #[] 0)).cell? ⟨w.heap.size, j, none⟩ = zeroDisk[j]? := by
    intro j
    rw [World.cell?_of_block (w := w.alloc (.cells Tryd.zeroCells26 26)) (Below.heap_alloc _ _ _ (by simp)), World.cell?_alloc_new, zeroDisk_is, List.getElem?_toArray]
  refine ⟨fun j hj => ?_, ?_, ?_, ?_, fun j hj => ?_⟩
  · rw [hc, zeroDisk, List.getElem?_append_left (by rw [List.length_replicate]; exact hj), List.getElem?_replicate, if_pos hj]
  · rw [hc]; rfl
  · rw [hc]; rfl
  · rw [hc]; rfl
  · rw [World.frozen?_of_block (w := w.alloc (.cells Tryd.zeroCells26 26)) (Below.heap_alloc _ _ _ (by simp))]
    exact World.frozen?_alloc_at _ _ _ _ rfl
theorem upd_out {F : Int → ByteArray} (h : ∀ j : Int, ¬ (0 ≤ j ∧ j < 90) → F j = ByteArray.empty) {k : Nat} (hk : k < 90) {s : ByteArray} : ∀ j : Int, ¬ (0 ≤ j ∧ j < 90) → upd F k s j = ByteArray.empty := by
  intro j hj
  have e : ¬ j = (k : Int) := by omega
  simp only [upd, if_neg e]
  exact h j hj
theorem IsDisk.drewN {w : World} {g : Nat} {F : Int → ByteArray} {n : Int} {c : Bool} {l : Int} (h : IsDisk w g F n c l) (m : Nat) : IsDisk (w.drewN m) g F n c l := ⟨h.blk, h.wr, h.ct, h.lf, h.fz⟩
theorem ErrVar.below {B : Nat} {w w' : World} (h : ErrVar w) (hb : Below B w w') (hB : 0 < B) : ErrVar w' := (hb.cell (p := ⟨0, 0, none⟩) hB).trans h
set_option maxRecDepth 100000 in
set_option maxHeartbeats 16000000 in
theorem diskPlaysLaw (ps : List (Int × Int × ByteArray)) (ao : Option Addr) (b off cap : Nat) (w : World) (hao : 0 < ps.length → ao = some ⟨b, off, none⟩) (hb : b < w.heap.size)
    (hcells : ∀ i a k s, ps[i]? = some (a, k, s) → w.cell? ⟨b, off + i * 3, none⟩ = some (.int .i64 a) ∧ w.cell? ⟨b, off + i * 3 + 1, none⟩ = some (.int .i64 k) ∧ w.cell? ⟨b, off + i * 3 + 2, none⟩ = some (.string s))
    (hwf : ∀ a k s, (a, k, s) ∈ ps → (Lit.int .i64 k).wf = true ∧ s.size ≤ maxLen) (hE : ErrVar w) (h150 : ps.length ≤ 150) :
    Calls Tryd.prog 3 #[.slice ao ps.length cap] w fun e w' => e = .returned (.bool true) ∧ Below w.heap.size w w' := by
  have hmm := @run_makeMap Tryd.prog
  have HE : Hid (ErrVar w) := hE
  have HC : Hid (∀ i a k s, ps[i]? = some (a, k, s) → w.cell? ⟨b, off + i * 3, none⟩ = some (.int .i64 a) ∧ w.cell? ⟨b, off + i * 3 + 1, none⟩ = some (.int .i64 k) ∧ w.cell? ⟨b, off + i * 3 + 2, none⟩ = some (.string s)) := hcells
  have HW : Hid (∀ a k s, (a, k, s) ∈ ps → (Lit.int .i64 k).wf = true ∧ s.size ≤ maxLen) := hwf
  have HA : Hid (0 < ps.length → ao = some ⟨b, off, none⟩) := hao
  clear hE hcells hwf hao
  go_enter Tryd.func3, Tryd.ntmps3
  go_wp2_with fail
  go_loopg [5, 6, 7, 8] ps.length (fun gk o l n i wr => ∃ (k nw : Nat) (F : Int → ByteArray) (c : Bool) (L dl : Int), k + gk = ps.length ∧ i = .int .i64 k ∧ o = .bool c ∧ l = .int .i64 L ∧ n = .int .i64 nw ∧ nw ≤ k ∧ (c = true → L = dl ∧ 0 ≤ L ∧ L ≤ 9223372036854775807) ∧
      (∀ j : Int, ¬ (0 ≤ j ∧ j < 90) → F j = ByteArray.empty) ∧ IsDisk wr w.heap.size F nw c dl ∧ IsTab wr (w.heap.size + 1) k F ∧ Below w.heap.size w wr ∧ w.heap.size + 2 ≤ wr.heap.size)
  case atStart =>
    refine ⟨0, 0, fun _ => ByteArray.empty, false, 0, 0, by omega, rfl, rfl, rfl, rfl, Nat.le_refl _, (fun h => absurd h (by decide)), fun _ _ => rfl, ?_, ?_, ((Below.refl _ _).alloc (Nat.le_refl _) _).alloc (by simp) _, by simp⟩
    · exact IsDisk.zero w
    · exact (show IsTab _ _ _ _ from by simpa using IsTab.made (w.alloc (.cells Tryd.zeroCells26 26)))
  case round =>
    obtain ⟨k, nw, F, c, L, dl, hgk, rfl, rfl, rfl, rfl, hnw, hcl, hF, hdk, htb, hbl, hsz⟩ := hrel
    have HG : Hid (k + gk = ps.length) := hgk
    have HL : Hid (c = true → L = dl ∧ 0 ≤ L ∧ L ≤ 9223372036854775807) := hcl
    have HF : Hid (∀ j : Int, ¬ (0 ≤ j ∧ j < 90) → F j = ByteArray.empty) := hF
    clear hgk hcl hF
    by_cases hlt : k < ps.length
    · obtain ⟨a, K, s, hx⟩ : ∃ a K s, ps[k]? = some (a, K, s) := ⟨ps[k].1, ps[k].2.1, ps[k].2.2, by rw [List.getElem?_eq_getElem hlt]⟩
      obtain ⟨c0, c1, c2⟩ := HC.out k a K s hx
      rw [← hbl.cell (p := ⟨b, off + k * 3, none⟩) hb] at c0
      rw [← hbl.cell (p := ⟨b, off + k * 3 + 1, none⟩) hb] at c1
      rw [← hbl.cell (p := ⟨b, off + k * 3 + 2, none⟩) hb] at c2
      have hao := HA.out (by omega)
      subst hao
      obtain ⟨hKw, hss⟩ := HW.out a K s (List.mem_of_getElem? hx)
      have HKw : Hid ((Lit.int .i64 K).wf = true) := hKw
      have HSs : Hid (s.size ≤ maxLen) := hss
      have hK1 : K ≤ 9223372036854775807 := by simp [Lit.wf, IntKind.max, IntKind.min, IntKind.signed, IntKind.bits] at hKw; omega
      clear hx hKw hss
      have hg1 : w.heap.size < wr.heap.size := by omega
      have hglt : 0 < w.heap.size := World.block_lt_of_cell? _ _ HE.out
      have HV : Hid (∀ W, Below w.heap.size w W → ErrVar W) := fun W hW => HE.out.below hW hglt
      have H1 : Hid (∀ o, Below w.heap.size w (wr.alloc o)) := fun o => hbl.alloc hbl.size o
      have HD : Hid (∀ o, IsDisk (wr.alloc o) w.heap.size F nw c dl) := fun o => hdk.below ((Below.refl wr.heap.size wr).alloc (Nat.le_refl _) o) hg1
      have HT : Hid (∀ o, IsTab (wr.alloc o) (w.heap.size + 1) k F) := fun o => htb.below ((Below.refl wr.heap.size wr).alloc (Nat.le_refl _) o) (by omega)
      clear hbl hdk htb
      by_cases ha0 : a = 0
      · subst ha0
        by_cases hneg : K < 0
        · have hK : ¬ (0 ≤ K ∧ K < 90) := by omega
          go_wp2_with fail
          refine (write_range _ K s _ hK).mono ?_
          rintro e w1 ⟨rfl, rfl⟩
          go_wp2_with fail
          refine (lawBare_err 2 2 _ (HV.out _ (H1.out _))).mono ?_
          rintro e w2 ⟨rfl, hb2⟩
          have hB2 := (H1.out _).trans (hb2.mono (H1.out _).size)
          have hD2 := (HD.out _).below hb2 (by simp; omega)
          have hT2 := ((HT.out _).below hb2 (by simp; omega)).mono (Nat.le_succ _)
          go_wp2_with fail
          refine (writes_any _ F nw _ dl _ hD2).mono ?_
          rintro e w3 ⟨rfl, rfl⟩
          go_wp2_with fail
          go_roundg (gk - 1)
          case measure => have := HG.out; omega
          case rel => exact ⟨k + 1, nw, F, c, L, dl, by have := HG.out; omega, by go_num, rfl, rfl, rfl, by have := HG.out; omega, HL.out, HF.out, hD2, hT2, hB2, by have := hb2.size; simp at this; omega⟩
        · by_cases hbig : 90 ≤ K
          · have hK : ¬ (0 ≤ K ∧ K < 90) := by omega
            go_wp2_with fail
            refine (write_range _ K s _ hK).mono ?_
            rintro e w1 ⟨rfl, rfl⟩
            go_wp2_with fail
            refine (lawBare_err 2 2 _ (HV.out _ (H1.out _))).mono ?_
            rintro e w2 ⟨rfl, hb2⟩
            have hB2 := (H1.out _).trans (hb2.mono (H1.out _).size)
            have hD2 := (HD.out _).below hb2 (by simp; omega)
            have hT2 := ((HT.out _).below hb2 (by simp; omega)).mono (Nat.le_succ _)
            go_wp2_with fail
            refine (writes_any _ F nw _ dl _ hD2).mono ?_
            rintro e w3 ⟨rfl, rfl⟩
            go_wp2_with fail
            go_roundg (gk - 1)
            case measure => have := HG.out; omega
            case rel => exact ⟨k + 1, nw, F, c, L, dl, by have := HG.out; omega, by go_num, rfl, rfl, rfl, by have := HG.out; omega, HL.out, HF.out, hD2, hT2, hB2, by have := hb2.size; simp at this; omega⟩
          · obtain ⟨j, rfl⟩ := Int.eq_ofNat_of_zero_le (Int.not_lt.1 hneg)
            have hj90 : j < 90 := by omega
            clear hneg hbig
            by_cases hlim : 240 < s.size
            · have hlim' : (240 : Int) < (s.size : Int) := by omega
              go_wp2_with fail
              refine (write_limit _ j s _ (by omega) hlim).mono ?_
              rintro e w1 ⟨rfl, rfl⟩
              go_wp2_with fail
              refine (lawBare_err 4 4 _ (HV.out _ (H1.out _))).mono ?_
              rintro e w2 ⟨rfl, hb2⟩
              have hB2 := (H1.out _).trans (hb2.mono (H1.out _).size)
              have hD2 := (HD.out _).below hb2 (by simp; omega)
              have hT2 := ((HT.out _).below hb2 (by simp; omega)).mono (Nat.le_succ _)
              go_wp2_with fail
              refine (writes_any _ F nw _ dl _ hD2).mono ?_
              rintro e w3 ⟨rfl, rfl⟩
              go_wp2_with fail
              go_roundg (gk - 1)
              case measure => have := HG.out; omega
              case rel => exact ⟨k + 1, nw, F, c, L, dl, by have := HG.out; omega, by go_num, rfl, rfl, rfl, by have := HG.out; omega, HL.out, HF.out, hD2, hT2, hB2, by have := hb2.size; simp at this; omega⟩
            · have hlim' : ¬ (240 : Int) < (s.size : Int) := by omega
              cases c with
              | false =>
                go_wp2_with (at_mapUpdate; refine wpList_tabPut _ rfl _ _ _ rfl (w.heap.size + 1) k F rfl (HT.out _) (by unfold maxLen; omega) (j : Int) s rfl rfl HKw.out HSs.out ?_)
                intro w1 ht1 hgr1
                have hm1 : Below (w.heap.size + 1) (wr.alloc (.cells #[.int .i64 0, .int .i64 (j : Int), .string s] 29)) w1 := ⟨hgr1.os, hgr1.tape, hgr1.output, hgr1.size, fun q hq => hgr1.block q (by simp; omega) (by simp; omega)⟩
                have x1 : w1.cell? ⟨wr.heap.size, 1, none⟩ = some (.int .i64 (j : Int)) := hgr1.cell (by simp) (by simp; omega)
                have x2 : w1.cell? ⟨wr.heap.size, 2, none⟩ = some (.string s) := hgr1.cell (by simp) (by simp; omega)
                have hd1 := (HD.out _).below hm1 (Nat.lt_succ_self _)
                have HT1 : Hid (IsTab w1 (w.heap.size + 1) (k + 1) (upd F j s)) := ht1
                have hlt1 := ht1.lt
                clear ht1
                go_wp2_with fail
                refine (write_plain _ F nw dl j s _ hd1 (by have := hm1.size; simp at this; omega) hj90 hlim (by omega) (by omega)).mono ?_
                rintro e w2 ⟨rfl, hd2, hgr2⟩
                go_wp2_with fail
                refine (lawBare_nil 0 _).mono ?_
                rintro e w3 ⟨rfl, rfl⟩
                go_wp2_with fail
                refine (writes_any _ _ _ _ _ _ hd2).mono ?_
                rintro e w3 ⟨rfl, rfl⟩
                have hB3 : Below w.heap.size w w3 := ((H1.out _).trans (hm1.mono (Nat.le_succ _))).grown hgr2 (by have := hm1.size; simp at this; omega) (fun q hq => by cases hq; exact Nat.le_refl _)
                have HT3 := HT1.out.kept hgr2 (by simp)
                have hsz3 : w.heap.size + 2 ≤ w3.heap.size := by have h1 := hm1.size; have h2 := hgr2.size; simp at h1; omega
                go_wp2_with fail
                go_roundg (gk - 1)
                case measure => have := HG.out; omega
                case rel => exact ⟨k + 1, nw + 1, upd F j s, false, _, dl, by have := HG.out; omega, by go_num, rfl, rfl, by go_num, by have := HG.out; omega, (fun h => absurd h (by decide)), upd_out HF.out hj90, hd2, HT3, hB3, hsz3⟩
              | true =>
                obtain ⟨rfl, hL0, hL1⟩ := HL.out rfl
                by_cases hz : L = 0
                · subst hz
                  go_wp2_with fail
                  refine (write_off _ F nw j s _ (HD.out _) (by omega) hlim).mono ?_
                  rintro e w1 ⟨rfl, rfl⟩
                  go_wp2_with fail
                  refine (lawBare_err 14 14 _ (HV.out _ (H1.out _))).mono ?_
                  rintro e w2 ⟨rfl, hb2⟩
                  have hB2 := (H1.out _).trans (hb2.mono (H1.out _).size)
                  have hD2 := (HD.out _).below hb2 (by simp; omega)
                  have hT2 := ((HT.out _).below hb2 (by simp; omega)).mono (Nat.le_succ _)
                  go_wp2_with fail
                  refine (writes_any _ F nw _ _ _ hD2).mono ?_
                  rintro e w3 ⟨rfl, rfl⟩
                  go_wp2_with fail
                  go_roundg (gk - 1)
                  case measure => have := HG.out; omega
                  case rel => exact ⟨k + 1, nw, F, _, _, _, by have := HG.out; omega, by go_num, rfl, rfl, rfl, by have := HG.out; omega, (fun _ => ⟨rfl, by omega, by omega⟩), HF.out, hD2, hT2, hB2, by have := hb2.size; simp at this; omega⟩
                · have hL2 : 0 < L := by omega
                  go_wp2_with (at_mapUpdate; refine wpList_tabPut _ rfl _ _ _ rfl (w.heap.size + 1) k F rfl (HT.out _) (by unfold maxLen; omega) (j : Int) s rfl rfl HKw.out HSs.out ?_)
                  intro w1 ht1 hgr1
                  have hm1 : Below (w.heap.size + 1) (wr.alloc (.cells #[.int .i64 0, .int .i64 (j : Int), .string s] 29)) w1 := ⟨hgr1.os, hgr1.tape, hgr1.output, hgr1.size, fun q hq => hgr1.block q (by simp; omega) (by simp; omega)⟩
                  have x1 : w1.cell? ⟨wr.heap.size, 1, none⟩ = some (.int .i64 (j : Int)) := hgr1.cell (by simp) (by simp; omega)
                  have x2 : w1.cell? ⟨wr.heap.size, 2, none⟩ = some (.string s) := hgr1.cell (by simp) (by simp; omega)
                  have hd1 := (HD.out _).below hm1 (Nat.lt_succ_self _)
                  have HT1 : Hid (IsTab w1 (w.heap.size + 1) (k + 1) (upd F j s)) := ht1
                  have hlt1 := ht1.lt
                  clear ht1
                  go_wp2_with fail
                  refine (write_cut _ F nw L j s _ hd1 hL2 hL1 (by have := hm1.size; simp at this; omega) hj90 hlim (by omega) (by omega)).mono ?_
                  rintro e w2 ⟨rfl, hd2, hgr2⟩
                  go_wp2_with fail
                  refine (lawBare_nil 0 _).mono ?_
                  rintro e w3 ⟨rfl, rfl⟩
                  go_wp2_with fail
                  refine (writes_any _ _ _ _ _ _ hd2).mono ?_
                  rintro e w3 ⟨rfl, rfl⟩
                  have hB3 : Below w.heap.size w w3 := ((H1.out _).trans (hm1.mono (Nat.le_succ _))).grown hgr2 (by have := hm1.size; simp at this; omega) (fun q hq => by cases hq; exact Nat.le_refl _)
                  have HT3 := HT1.out.kept hgr2 (by simp)
                  have hsz3 : w.heap.size + 2 ≤ w3.heap.size := by have h1 := hm1.size; have h2 := hgr2.size; simp at h1; omega
                  go_wp2_with fail
                  go_roundg (gk - 1)
                  case measure => have := HG.out; omega
                  case rel => exact ⟨k + 1, nw + 1, upd F j s, true, _, L - 1, by have := HG.out; omega, by go_num, rfl, rfl, by go_num, by have := HG.out; omega, (fun _ => ⟨rfl, by omega, by omega⟩), upd_out HF.out hj90, hd2, HT3, hB3, hsz3⟩
      · by_cases ha1 : a = 1
        · subst ha1
          by_cases hneg : K < 0
          · have hK : ¬ (0 ≤ K ∧ K < 90) := by omega
            have hFK := HF.out K hK
            go_wp2_with fail
            refine (read_no _ K _ hK).mono ?_
            rintro e w1 ⟨rfl, rfl⟩
            go_wp2_with fail
            refine (lawBare_err 2 2 _ (HV.out _ (H1.out _))).mono ?_
            rintro e w2 ⟨rfl, hb2⟩
            have hB2 := (H1.out _).trans (hb2.mono (H1.out _).size)
            have hD2 := (HD.out _).below hb2 (by simp; omega)
            have hT2 := (HT.out _).below hb2 (by simp; omega)
            have x1 : w2.cell? ⟨wr.heap.size, 1, none⟩ = some (.int .i64 K) := (hb2.cell (p := ⟨wr.heap.size, 1, none⟩) (by simp)).trans (by simp)
            have HT2 : Hid (IsTab w2 (w.heap.size + 1) k F) := hT2
            clear hT2
            have hlk := HT2.out.look HKw.out
            rw [hFK] at hlk
            go_wp2_with fail
            refine (writes_any _ F nw c dl _ hD2).mono ?_
            rintro e w3 ⟨rfl, rfl⟩
            go_wp2_with fail
            go_roundg (gk - 1)
            case measure => have := HG.out; omega
            case rel => exact ⟨k + 1, nw, F, c, L, dl, by have := HG.out; omega, by go_num, rfl, rfl, rfl, by have := HG.out; omega, HL.out, HF.out, hD2, HT2.out.mono (Nat.le_succ _), hB2, by have := hb2.size; simp at this; omega⟩
          · by_cases hbig : 90 ≤ K
            · have hK : ¬ (0 ≤ K ∧ K < 90) := by omega
              have hFK := HF.out K hK
              go_wp2_with fail
              refine (read_no _ K _ hK).mono ?_
              rintro e w1 ⟨rfl, rfl⟩
              go_wp2_with fail
              refine (lawBare_err 2 2 _ (HV.out _ (H1.out _))).mono ?_
              rintro e w2 ⟨rfl, hb2⟩
              have hB2 := (H1.out _).trans (hb2.mono (H1.out _).size)
              have hD2 := (HD.out _).below hb2 (by simp; omega)
              have hT2 := (HT.out _).below hb2 (by simp; omega)
              have x1 : w2.cell? ⟨wr.heap.size, 1, none⟩ = some (.int .i64 K) := (hb2.cell (p := ⟨wr.heap.size, 1, none⟩) (by simp)).trans (by simp)
              have HT2 : Hid (IsTab w2 (w.heap.size + 1) k F) := hT2
              clear hT2
              have hlk := HT2.out.look HKw.out
              rw [hFK] at hlk
              go_wp2_with fail
              refine (writes_any _ F nw c dl _ hD2).mono ?_
              rintro e w3 ⟨rfl, rfl⟩
              go_wp2_with fail
              go_roundg (gk - 1)
              case measure => have := HG.out; omega
              case rel => exact ⟨k + 1, nw, F, c, L, dl, by have := HG.out; omega, by go_num, rfl, rfl, rfl, by have := HG.out; omega, HL.out, HF.out, hD2, HT2.out.mono (Nat.le_succ _), hB2, by have := hb2.size; simp at this; omega⟩
            · obtain ⟨j, rfl⟩ := Int.eq_ofNat_of_zero_le (Int.not_lt.1 hneg)
              have hj90 : j < 90 := by omega
              clear hneg hbig
              go_wp2_with fail
              refine (read_yes _ F nw c dl j _ (HD.out _) hj90).mono ?_
              rintro e w1 ⟨rfl, rfl⟩
              go_wp2_with fail
              refine (lawBare_nil 0 _).mono ?_
              rintro e w2 ⟨rfl, rfl⟩
              have hlk := (HT.out (.cells #[.int .i64 1, .int .i64 (j : Int), .string s] 29)).look HKw.out
              go_wp2_with fail
              refine (writes_any _ F nw c dl _ (HD.out _)).mono ?_
              rintro e w3 ⟨rfl, rfl⟩
              go_wp2_with fail
              go_roundg (gk - 1)
              case measure => have := HG.out; omega
              case rel => exact ⟨k + 1, nw, F, c, L, dl, by have := HG.out; omega, by go_num, rfl, rfl, rfl, by have := HG.out; omega, HL.out, HF.out, HD.out _, (HT.out _).mono (Nat.le_succ _), H1.out _, by simp; omega⟩
        · by_cases ha2 : a = 2
          · subst ha2
            by_cases hneg : K < 0
            · go_wp2_with fail
              go_quiet (fail)
              go_wp2_with fail
              refine (cut_off _ F nw c dl K hneg _ (IsDisk.drewN (HD.out _) _)).mono ?_
              rintro e w1 ⟨rfl, hd1, hgr1⟩
              have hB1 : Below w.heap.size w w1 := (below_drewN (H1.out _) _).grown hgr1 (by simp; omega) (fun q hq => by cases hq; exact Nat.le_refl _)
              have HT1 := ((HT.out _).below (below_drewN (Below.refl (w.heap.size + 2) _) _) (by omega)).kept hgr1 (by simp)
              have hsz1 := hgr1.size
              go_wp2_with fail
              refine (writes_any _ F nw _ _ _ hd1).mono ?_
              rintro e w3 ⟨rfl, rfl⟩
              go_wp2_with fail
              go_roundg (gk - 1)
              case measure => have := HG.out; omega
              case rel => exact ⟨k + 1, nw, F, false, _, 0, by have := HG.out; omega, by go_num, by rw [decide_eq_false (by omega)], rfl, rfl, by have := HG.out; omega, (fun h => absurd h (by decide)), HF.out, hd1, HT1.mono (Nat.le_succ _), hB1, by simp at hsz1; omega⟩
            · have hpos : 0 ≤ K := by omega
              by_cases hbig : 90 ≤ K
              · go_wp2_with fail
                go_quiet (fail)
                go_wp2_with fail
                refine (cut_on _ F nw c dl K hpos _ (IsDisk.drewN (HD.out _) _)).mono ?_
                rintro e w1 ⟨rfl, hd1, hgr1⟩
                have hB1 : Below w.heap.size w w1 := (below_drewN (H1.out _) _).grown hgr1 (by simp; omega) (fun q hq => by cases hq; exact Nat.le_refl _)
                have HT1 := ((HT.out _).below (below_drewN (Below.refl (w.heap.size + 2) _) _) (by omega)).kept hgr1 (by simp)
                have hsz1 := hgr1.size
                go_wp2_with fail
                refine (writes_any _ F nw _ _ _ hd1).mono ?_
                rintro e w3 ⟨rfl, rfl⟩
                go_wp2_with fail
                go_roundg (gk - 1)
                case measure => have := HG.out; omega
                case rel => exact ⟨k + 1, nw, F, true, _, K, by have := HG.out; omega, by go_num, rfl, rfl, rfl, by have := HG.out; omega, (fun _ => ⟨rfl, hpos, hK1⟩), HF.out, hd1, HT1.mono (Nat.le_succ _), hB1, by simp at hsz1; omega⟩
              · go_wp2_with fail
                go_quiet (fail)
                go_wp2_with fail
                refine (cut_on _ F nw c dl K hpos _ (IsDisk.drewN (HD.out _) _)).mono ?_
                rintro e w1 ⟨rfl, hd1, hgr1⟩
                have hB1 : Below w.heap.size w w1 := (below_drewN (H1.out _) _).grown hgr1 (by simp; omega) (fun q hq => by cases hq; exact Nat.le_refl _)
                have HT1 := ((HT.out _).below (below_drewN (Below.refl (w.heap.size + 2) _) _) (by omega)).kept hgr1 (by simp)
                have hsz1 := hgr1.size
                go_wp2_with fail
                refine (writes_any _ F nw _ _ _ hd1).mono ?_
                rintro e w3 ⟨rfl, rfl⟩
                go_wp2_with fail
                go_roundg (gk - 1)
                case measure => have := HG.out; omega
                case rel => exact ⟨k + 1, nw, F, true, _, K, by have := HG.out; omega, by go_num, rfl, rfl, rfl, by have := HG.out; omega, (fun _ => ⟨rfl, hpos, hK1⟩), HF.out, hd1, HT1.mono (Nat.le_succ _), hB1, by simp at hsz1; omega⟩
          · have na0 : (a == 0) = false := by simp [ha0]
            have na1 : (a == 1) = false := by simp [ha1]
            have na2 : (a == 2) = false := by simp [ha2]
            by_cases hneg : K < 0
            · have hK : ¬ (0 ≤ K ∧ K < 90) := by omega
              go_wp2_with fail
              refine (writes_any _ F nw c dl _ (HD.out _)).mono ?_
              rintro e w3 ⟨rfl, rfl⟩
              go_wp2_with fail
              go_roundg (gk - 1)
              case measure => have := HG.out; omega
              case rel => exact ⟨k + 1, nw, F, c, L, dl, by have := HG.out; omega, by go_num, rfl, rfl, rfl, by have := HG.out; omega, HL.out, HF.out, HD.out _, (HT.out _).mono (Nat.le_succ _), H1.out _, by simp; omega⟩
            · by_cases hbig : 90 ≤ K
              · have hK : ¬ (0 ≤ K ∧ K < 90) := by omega
                go_wp2_with fail
                refine (writes_any _ F nw c dl _ (HD.out _)).mono ?_
                rintro e w3 ⟨rfl, rfl⟩
                go_wp2_with fail
                go_roundg (gk - 1)
                case measure => have := HG.out; omega
                case rel => exact ⟨k + 1, nw, F, c, L, dl, by have := HG.out; omega, by go_num, rfl, rfl, rfl, by have := HG.out; omega, HL.out, HF.out, HD.out _, (HT.out _).mono (Nat.le_succ _), H1.out _, by simp; omega⟩
              · obtain ⟨j, rfl⟩ := Int.eq_ofNat_of_zero_le (Int.not_lt.1 hneg)
                have hj90 : j < 90 := by omega
                clear hneg hbig
                go_wp2_with fail
                refine (writes_any _ F nw c dl _ (HD.out _)).mono ?_
                rintro e w3 ⟨rfl, rfl⟩
                go_wp2_with fail
                go_roundg (gk - 1)
                case measure => have := HG.out; omega
                case rel => exact ⟨k + 1, nw, F, c, L, dl, by have := HG.out; omega, by go_num, rfl, rfl, rfl, by have := HG.out; omega, HL.out, HF.out, HD.out _, (HT.out _).mono (Nat.le_succ _), H1.out _, by simp; omega⟩
    · have HT : Hid (IsTab wr (w.heap.size + 1) k F) := htb
      have HD : Hid (IsDisk wr w.heap.size F nw c dl) := hdk
      have HB : Hid (Below w.heap.size w wr) := hbl
      clear htb hdk hbl
      go_wp2_with fail
      go_loopg [13] 90 (fun gk i wx => ∃ j : Nat, j + gk = 90 ∧ i = .int .i64 j ∧ wx = wr)
      case atStart => exact ⟨0, by omega, rfl, rfl⟩
      case round =>
        obtain ⟨j, hj, rfl, rfl⟩ := hrel
        have HJ : Hid (j + gk = 90) := hj
        clear hj
        by_cases hj90 : j < 90
        · go_wp2_with fail
          refine (read_yes _ F nw c dl j _ HD.out hj90).mono ?_
          rintro e w1 ⟨rfl, rfl⟩
          have hlk := HT.out.look (k := (j : Int)) (by simp [Lit.wf, IntKind.max, IntKind.min, IntKind.signed, IntKind.bits]; omega)
          go_wp2_with fail
          go_roundg (gk - 1)
          case measure => have := HJ.out; omega
          case rel => exact ⟨j + 1, by have := HJ.out; omega, by go_num, rfl⟩
        · go_wp2_with fail
          go_ret
          exact ⟨rfl, HB.out⟩
end Go.Proofs.YteblegcojhcccaaDoor
