import Derived.Test.YteblegcojhcccaaGreatDoorTokR2
namespace Go.Proofs.YteblegcojhcccaaGreatDoor
open Go.RowKit Tok
theorem ext_list (s : ByteArray) (i j : Nat) : (s.extract i j).data.toList = (s.data.toList.drop i).take (j - i) := by
  simp
def errN : Nat → Int
  | 0 => 0
  | 1 => 3
  | _ => 5
def errP : Nat → Value
  | 0 => .nilIface
  | 1 => .iface 26 (.int .i64 3)
  | _ => .iface 26 (.int .i64 5)
set_option maxRecDepth 100000 in
set_option maxHeartbeats 4000000 in
theorem readP_is (key : Int) (s : ByteArray) (w : World) (hs : s.size ≤ 1000) (hL : LibsR w) : Calls Tryz.prog 6 #[.int .i64 key, .string s] w fun e w' => Below w.heap.size w w' ∧
    ∃ t n, Out (tag key) s.data.toList t n ∧ e = .returned (.tuple #[tokV t, errP n]) := by
  have HL : Hid (LibsR w) := hL
  have hB0 : Below w.heap.size w (w.alloc (.cells #[.int .i64 0, .int .i64 0, .int .i64 0, .int .i64 0] 29)) := (Below.refl _ _).alloc (Nat.le_refl _) _
  have HB0 : Hid (Below w.heap.size w (w.alloc (.cells #[.int .i64 0, .int .i64 0, .int .i64 0, .int .i64 0] 29))) := hB0
  have HLW : Hid (LibsR (w.alloc (.cells #[.int .i64 0, .int .i64 0, .int .i64 0, .int .i64 0] 29))) := hL.below hB0 rfl
  clear hL hB0
  have hlen : s.data.toList.length = s.size := Array.length_toList
  rcases lastOr 46 s.data.toList with hno | ⟨a, b, hab, hb⟩
  · have hlast := last_no hno
    have HF : Hid (∀ t tag, ¬ Tok.Form s.data.toList t tag) := by
      intro t tag h
      apply hno
      rw [h.2.2]; simp
    clear hno hlen
    go_enter Tryz.func6, Tryz.ntmps6
    go_wp2_with fail
    refine (Tryz.strings_LastIndex_one s ⟨#[46]⟩ rfl (by omega) _).mono ?_
    rintro e w1 ⟨rfl, rfl⟩
    have hl2 : Lib.lastIndexByte s (((⟨#[46]⟩ : ByteArray)[0]'(by decide)).toNat : Int) = -1 := hlast
    rw [hl2]
    clear hl2 hlast
    go_wp2_with fail
    exact bodyPost_ret (v := .tuple #[tokV zero, .iface 26 (.int .i64 3)]) (by simp [results, Tryz.results6, go_sem, tokV, zero]) rfl ⟨HB0.out, zero, 1, Out.form HF.out, rfl⟩
  · have hlast := last_at hab hb
    have hsz : a.length + (b.length + 1) = s.size := by rw [← hlen, hab]; simp
    have HAB : Hid (s.data.toList = a ++ 46 :: b) := hab
    have hx1 : s.extract 0 a.length = ⟨a.toArray⟩ := bstr (by rw [ext_list, hab]; simp)
    have hx2 : s.extract (a.length + 1) s.size = ⟨b.toArray⟩ := bstr (by rw [ext_list, hab, ← hsz, show a.length + (b.length + 1) - (a.length + 1) = b.length by omega]; simp)
    have HX1 : Hid (s.extract 0 a.length = ⟨a.toArray⟩) := hx1
    have HX2 : Hid (s.extract (a.length + 1) s.size = ⟨b.toArray⟩) := hx2
    clear hx1 hx2
    have HNB : Hid ((46 : UInt8) ∉ b) := hb
    clear hab hb
    go_enter Tryz.func6, Tryz.ntmps6
    go_wp2_with fail
    refine (Tryz.strings_LastIndex_one s ⟨#[46]⟩ rfl (by omega) _).mono ?_
    rintro e w1 ⟨rfl, rfl⟩
    have hl2 : Lib.lastIndexByte s (((⟨#[46]⟩ : ByteArray)[0]'(by decide)).toNat : Int) = a.length := hlast
    rw [hl2]
    clear hl2 hlast
    go_wp2_with fail
    go_region
    rw [HX1.out, HX2.out]
    have HB1 : Hid (Below w.heap.size w ((w.alloc (.cells #[.int .i64 0, .int .i64 0, .int .i64 0, .int .i64 0] 29)).drew)) := HB0.out.drew
    have hL1 := HL.out.below HB1.out rfl
    go_wp2_with fail
    refine (readBody_is ⟨a.toArray⟩ _ (by simp [ByteArray.size]; omega) hL1).mono ?_
    rintro e w2 ⟨hb2, ⟨t, rfl, htm, htb⟩ | ⟨rfl, hbad⟩⟩
    · obtain ⟨hc, hf⟩ := bcell hb2
      have HB2 : Hid (Below w.heap.size w w2) := HB1.out.trans (hb2.mono HB1.out.size)
      have hz : w.heap.size < w2.heap.size := by have := hb2.size; simp at this; omega
      have hz' : w.heap.size ≠ w2.heap.size := by omega
      have hz1 : w.heap.size < w2.heap.size + 1 := by omega
      clear hb2 hL1
      unfold tokV
      simp only
      go_wp2_with fail
      have HF : Hid (∀ t' tag', Tok.Form s.data.toList t' tag' → t' = t ∧ tag' = b) := by
        intro t' tag' h
        have e := HAB.out.symm.trans h.2.2
        obtain ⟨e1, e2⟩ := part_last e HNB.out (hex16_nodot h.2.1)
        exact ⟨body_inj h.1 htm (by rw [← e1, htb]), e2.symm⟩
      have HM : Hid (may t) := htm
      have HTB : Hid (body t = a) := htb
      clear htm htb
      refine (isTag_is ⟨b.toArray⟩ _ (by simp [ByteArray.size]; omega)).mono ?_
      rintro e w3 ⟨rfl, rfl⟩
      by_cases hx : hex16 b
      · have hd : hex16B (⟨b.toArray⟩ : ByteArray).data.toList = true := hex16B_t hx
        rw [hd]
        have HX : Hid (hex16 b) := hx
        clear hd hx
        go_wp2_with fail
        refine (macTag_list key a _ (by omega)).mono ?_
        rintro e w4 ⟨rfl, hb4⟩
        obtain ⟨hc4, hf4⟩ := bcell hb4
        have HB4 : Hid (Below w.heap.size w w4) := (HB2.out.alloc HB2.out.size _).trans (hb4.mono (Nat.le_trans HB2.out.size (by simp)))
        have hz4 : w2.heap.size < w4.heap.size := by have := hb4.size; simp at this; omega
        clear hb4
        go_wp2_with fail
        refine (same_any ⟨b.toArray⟩ ⟨(tag key a).toArray⟩ _ (by simp [ByteArray.size]; omega) (by simp [ByteArray.size, tag_len])).mono ?_
        rintro e w5 ⟨rfl, d5, rfl⟩
        by_cases hg : b = tag key a
        · have hd : decide ((⟨b.toArray⟩ : ByteArray).data.toList = (⟨(tag key a).toArray⟩ : ByteArray).data.toList) = true := decide_eq_true hg
          rw [hd]
          have HG : Hid (Out (tag key) s.data.toList t 0) := Out.good t b ⟨HM.out, HX.out, by rw [HAB.out, HTB.out]⟩ (by rw [HTB.out]; exact hg)
          clear hd hg
          go_wp2_with fail
          exact bodyPost_ret (v := .tuple #[tokV t, .nilIface]) (by simp [results, Tryz.results6, go_sem, tokV, hc4, hc, hz, hz1]) rfl ⟨(((((below_drewN HB4.out _).setCell (Nat.le_refl _) _).setCell (Nat.le_refl _) _).setCell (Nat.le_refl _) _).setCell (Nat.le_refl _) _), t, 0, HG.out, rfl⟩
        · have hd : decide ((⟨b.toArray⟩ : ByteArray).data.toList = (⟨(tag key a).toArray⟩ : ByteArray).data.toList) = false := decide_eq_false hg
          rw [hd]
          have HG : Hid (Out (tag key) s.data.toList zero 2) := Out.name t b ⟨HM.out, HX.out, by rw [HAB.out, HTB.out]⟩ (by rw [HTB.out]; exact hg)
          clear hd hg
          go_wp2_with fail
          exact bodyPost_ret (v := .tuple #[tokV zero, .iface 26 (.int .i64 5)]) (by simp [results, Tryz.results6, go_sem, tokV, zero, hc4, hc, hz, hz1]) rfl ⟨(((((below_drewN HB4.out _).setCell (Nat.le_refl _) _).setCell (Nat.le_refl _) _).setCell (Nat.le_refl _) _).setCell (Nat.le_refl _) _), zero, 2, HG.out, rfl⟩
      · have hd : hex16B (⟨b.toArray⟩ : ByteArray).data.toList = false := hex16B_f hx
        rw [hd]
        have HG : Hid (Out (tag key) s.data.toList zero 1) := Out.form (fun t' tag' h => hx ((HF.out t' tag' h).2 ▸ h.2.1))
        clear hd hx
        go_wp2_with fail
        exact bodyPost_ret (v := .tuple #[tokV zero, .iface 26 (.int .i64 3)]) (by simp [results, Tryz.results6, go_sem, tokV, zero, hc, hz]) rfl ⟨((((HB2.out.setCell (Nat.le_refl _) _).setCell (Nat.le_refl _) _).setCell (Nat.le_refl _) _).setCell (Nat.le_refl _) _).alloc (by simpa using HB2.out.size) _, zero, 1, HG.out, rfl⟩
    · obtain ⟨hc, hf⟩ := bcell hb2
      have HB2 : Hid (Below w.heap.size w w2) := HB1.out.trans (hb2.mono HB1.out.size)
      have hz : w.heap.size < w2.heap.size := by have := hb2.size; simp at this; omega
      have hz' : w.heap.size ≠ w2.heap.size := by omega
      have hz1 : w.heap.size < w2.heap.size + 1 := by omega
      clear hb2 hL1
      unfold tokV zero
      simp only
      go_wp2_with fail
      have HG : Hid (Out (tag key) s.data.toList zero 1) := Out.form (fun t' tag' h => by
        have e := HAB.out.symm.trans h.2.2
        obtain ⟨e1, e2⟩ := part_last e HNB.out (hex16_nodot h.2.1)
        exact hbad t' h.1 e1.symm)
      clear hbad
      exact bodyPost_ret (v := .tuple #[tokV zero, .iface 26 (.int .i64 3)]) (by simp [results, Tryz.results6, go_sem, tokV, zero, hc, hz]) rfl ⟨((((HB2.out.setCell (Nat.le_refl _) _).setCell (Nat.le_refl _) _).setCell (Nat.le_refl _) _).setCell (Nat.le_refl _) _).alloc (by simpa using HB2.out.size) _, zero, 1, HG.out, rfl⟩
end Go.Proofs.YteblegcojhcccaaGreatDoor
