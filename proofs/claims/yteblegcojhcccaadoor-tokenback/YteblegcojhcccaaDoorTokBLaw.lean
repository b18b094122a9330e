import Derived.Test.YteblegcojhcccaaDoorTokB1
import Derived.Test.YteblegcojhcccaaDoorTokBox
import Derived.Test.YteblegcojhcccaaDoorErrLaw
namespace Go.Proofs.YteblegcojhcccaaDoor
open Go.RowKit Tok
theorem form_text (key : Int) {t : T} (h : may t) : Tok.Form (textOf key t) t (tag key (body t)) := ⟨h, hexsN_16 _, rfl⟩
set_option maxRecDepth 100000 in
set_option maxHeartbeats 4000000 in
theorem tokenBackLaw (key : Int) (t : T) (s : ByteArray) (at_ digit : Int) (w : World) (hL : LibsR w) : Calls Tryd.prog 6 #[.int .i64 key, tokV t, .string s, .int .i64 at_, .int .i64 digit] w fun e w' => e = .returned (.bool true) ∧ Below w.heap.size w w' := by
  have HL : Hid (LibsR w) := hL
  obtain ⟨tk, tf, tg, te⟩ := t
  have HB0 : Hid (Below w.heap.size w (w.alloc (.cells #[.int .i64 tk, .int .i64 tf, .int .i64 tg, .int .i64 te] 46))) := (Below.refl _ _).alloc (Nat.le_refl _) _
  have hx0 := BoxAt.made w ⟨tk, tf, tg, te⟩ 46
  unfold tokV
  simp only at hx0
  clear hL
  by_cases hs : s.size ≤ 150
  · go_enter Tryd.func6, Tryd.ntmps6
    go_wp2_with fail
    refine (summed_is _).mono ?_
    rintro e w1 ⟨rfl, hb1⟩
    have hx1 := hx0.on hb1 hx0.lt
    have HB1 : Hid (Below w.heap.size w w1) := HB0.out.trans (hb1.mono HB0.out.size)
    have k0 := hx1.c0
    have k1 := hx1.c1
    have k2 := hx1.c2
    have k3 := hx1.c3
    simp only at k0 k1 k2 k3
    have HX1 : Hid (BoxAt w.heap.size ⟨tk, tf, tg, te⟩ w1) := hx1
    clear hb1 hx0 hx1
    by_cases hm : may ⟨tk, tf, tg, te⟩
    · go_wp2_with fail
      refine (writeP_yes key ⟨tk, tf, tg, te⟩ _ hm (HL.out.below HB1.out rfl).base).mono ?_
      rintro e w2 ⟨rfl, hb2⟩
      have HM : Hid (may ⟨tk, tf, tg, te⟩) := hm
      have hxl : (textOf key ⟨tk, tf, tg, te⟩).length ≤ 100 ∧ 17 ≤ (textOf key ⟨tk, tf, tg, te⟩).length := by
        have h1 := body_len hm
        have h2 := tag_len key (body ⟨tk, tf, tg, te⟩)
        unfold textOf
        simp
        omega
      obtain ⟨hxl, hxg⟩ := hxl
      have HFT : Hid (Tok.Form (textOf key ⟨tk, tf, tg, te⟩) ⟨tk, tf, tg, te⟩ (tag key (body ⟨tk, tf, tg, te⟩))) := form_text key hm
      generalize textOf key ⟨tk, tf, tg, te⟩ = X at *
      have hx2 := HX1.out.on hb2 HX1.out.lt
      have HB2 : Hid (Below w.heap.size w w2) := HB1.out.trans (hb2.mono HB1.out.size)
      have HX2 : Hid (BoxAt w.heap.size ⟨tk, tf, tg, te⟩ w2) := hx2
      clear hb2 hx2 hm k0 k1 k2 k3
      go_wp2_with fail
      refine (readP_is key ⟨X.toArray⟩ _ (by simp [ByteArray.size]; omega) (HL.out.below HB2.out rfl)).mono ?_
      rintro e w3 ⟨hb3, t3, n3, ho3, rfl⟩
      obtain ⟨rfl, rfl⟩ := out_inj ho3 (Out.good _ _ HFT.out rfl)
      have hx3 := HX2.out.on hb3 HX2.out.lt
      have HB3 : Hid (Below w.heap.size w w3) := HB2.out.trans (hb3.mono HB2.out.size)
      have hl3 : w.heap.size < w3.heap.size := hx3.lt
      have hx4 := BoxAt.made w3 ⟨tk, tf, tg, te⟩ 46
      have hb4 : Below w3.heap.size w3 (w3.alloc (.cells #[.int .i64 tk, .int .i64 tf, .int .i64 tg, .int .i64 te] 46)) := (Below.refl _ _).alloc (Nat.le_refl _) _
      have hx5 := hx3.on hb4 hx3.lt
      have k0 := hx5.c0
      have k1 := hx5.c1
      have k2 := hx5.c2
      have k3 := hx5.c3
      simp only at k0 k1 k2 k3
      have HB4 : Hid (Below w.heap.size w (w3.alloc (.cells #[.int .i64 tk, .int .i64 tf, .int .i64 tg, .int .i64 te] 46))) := HB3.out.trans (hb4.mono HB3.out.size)
      clear hb3 ho3 hx3 hx4 hx5 hb4
      have hcv := fun w => Lib.run_convert_string_bytes (P := Tryd.prog) w 9 56 5 ⟨X.toArray⟩ Tryd.underlying9 Tryd.underlying56 Tryd.underlying5
      unfold tokV errP
      go_wp2_with fail
      have hXs : (⟨X.toArray⟩ : ByteArray).size = X.length := by simp [ByteArray.size]
      have hrow := bytesRow (w3.alloc (.cells #[.int .i64 tk, .int .i64 tf, .int .i64 tg, .int .i64 te] 46)) 5 ⟨X.toArray⟩ (by rw [hXs]; unfold maxLen; omega)
      have hbel := bytesBelow (w3.alloc (.cells #[.int .i64 tk, .int .i64 tf, .int .i64 tg, .int .i64 te] 46)) 5 ⟨X.toArray⟩
      rw [hXs] at hrow
      have hsz4 : (w3.alloc (.cells #[.int .i64 tk, .int .i64 tf, .int .i64 tg, .int .i64 te] 46)).heap.size = w3.heap.size + 1 := by simp
      rw [hsz4] at hrow
      rw [hsz4] at hbel
      have HB5 : Hid (Below w.heap.size w (Lib.bytesWorld (w3.alloc (.cells #[.int .i64 tk, .int .i64 tf, .int .i64 tg, .int .i64 te] 46)) 5 ⟨X.toArray⟩)) := HB4.out.trans (hbel.mono (by omega))
      generalize Lib.bytesWorld (w3.alloc (.cells #[.int .i64 tk, .int .i64 tf, .int .i64 tg, .int .i64 te] 46)) 5 ⟨X.toArray⟩ = W5 at *
      generalize grownCap (w3.alloc (.cells #[.int .i64 tk, .int .i64 tf, .int .i64 tg, .int .i64 te] 46)) X.length 0 5 = C at *
      clear hcv hXs hsz4 hbel k0 k1 k2 k3
      refine (pick_is _ _).mono ?_
      rintro e w' ⟨p, hp, rfl, rfl⟩
      go_wp2_with fail
      refine (pick_is _ _).mono ?_
      rintro e w' ⟨d, hd, rfl, rfl⟩
      obtain ⟨K, hK⟩ : ∃ K, K = X.length - 1 - p := ⟨_, rfl⟩
      rw [show (X.length : Int) - 1 - (p : Int) = ((K : Nat) : Int) by omega]
      have hKl : K < X.length := by omega
      have hKc : K < C := Nat.lt_of_lt_of_le hKl hrow.le
      have hcell : w'.cell? ⟨w3.heap.size + 1, K, none⟩ = some (.int .u8 ((X.getD K 0).toNat : Int)) := by
        refine hrow.holds K _ ?_
        simp [bs, hKl]
      have hfz := (hrow.there K hKc).2
      have HK : Hid (K = X.length - 1 - p) := hK
      have HROW : Hid (RowAt (w3.heap.size + 1) w' (w3.heap.size + 1) C X.length (bs X)) := hrow
      have hcb : ∀ c : UInt8, (convert 56 9 (.slice (some ⟨w3.heap.size + 1, 0, none⟩) X.length C)).run Tryd.prog (w'.setCell ⟨w3.heap.size + 1, K, none⟩ (.int .u8 (c.toNat : Int))) = .ok (.string ⟨(X.set K c).toArray⟩) (w'.setCell ⟨w3.heap.size + 1, K, none⟩ (.int .u8 (c.toNat : Int))) := by
        intro c
        have h := run_convert_bytes_back (P := Tryd.prog) (w'.setCell ⟨w3.heap.size + 1, K, none⟩ (.int .u8 (c.toNat : Int))) 56 9 5 ⟨w3.heap.size + 1, 0, none⟩ C (X.set K c) Tryd.underlying56 Tryd.underlying5 Tryd.underlying9 (fun j hj => by
          have hjX : j < X.length := by simpa using hj
          rw [show (⟨w3.heap.size + 1, 0, none⟩ : Addr).add j = ⟨w3.heap.size + 1, j, none⟩ by unfold Addr.add; by_cases h0 : j = 0 <;> simp [h0]]
          by_cases hjK : j = K
          · subst hjK
            rw [World.cell?_setCell_same _ _ _ hcell]; simp
          · rw [World.cell?_setCell_other _ _ _ _ (show (⟨w3.heap.size + 1, K, none⟩ : Addr) ≠ ⟨w3.heap.size + 1, j, none⟩ from fun e => hjK (by injection e with _ e2 _; exact e2.symm))]
            rw [hrow.holds j (.int .u8 (X[j].toNat : Int)) (by simp [bs, hjX])]
            rw [List.getElem_set_ne (Ne.symm hjK)])
        rwa [List.length_set] at h
      have hHX := hexs_all ⟨d, hd⟩
      clear hrow hK
      go_wp2_with fail
      · have hne : (((X[K]'hKl).toNat : Int) != ((((⟨#[48, 49, 50, 51, 52, 53, 54, 55, 56, 57, 97, 98, 99, 100, 101, 102]⟩ : ByteArray)[d]'(by simpa [ByteArray.size] using hd)).toNat : Nat) : Int)) = true := by assumption
        have hne2 : X.getD (X.length - 1 - p) 0 ≠ (⟨#[48, 49, 50, 51, 52, 53, 54, 55, 56, 57, 97, 98, 99, 100, 101, 102]⟩ : ByteArray)[d]'(by simpa [ByteArray.size] using hd) := by
          intro he
          rw [← HK.out] at he
          rw [bne_iff_ne] at hne
          apply hne
          rw [← he]
          simp [hKl]
        clear hne
        generalize (⟨#[48, 49, 50, 51, 52, 53, 54, 55, 56, 57, 97, 98, 99, 100, 101, 102]⟩ : ByteArray)[d]'(by simpa [ByteArray.size] using hd) = c at *
        obtain ⟨tg', h1, h2, h3⟩ := tag_turn HFT.out.2.1 HFT.out.2.2 hp hHX hne2
        rw [← HK.out] at h2
        have HO : Hid (Out (tag key) (X.set K c) zero 2) := Out.name _ tg' ⟨HM.out, h1, h2⟩ h3
        have HB6 : Hid (Below w.heap.size w (w'.setCell ⟨w3.heap.size + 1, K, none⟩ (.int .u8 (c.toNat : Int)))) := HB5.out.setCell (by simp; omega) _
        clear h1 h2 h3 hne2 hHX hcb hcell hfz
        refine (readP_is key ⟨(X.set K c).toArray⟩ _ (by simp [ByteArray.size]; omega) (HL.out.below HB6.out rfl)).mono ?_
        rintro e w7 ⟨hb7, t7, n7, ho7, rfl⟩
        obtain ⟨rfl, rfl⟩ := out_inj HO.out ho7
        have HB7 : Hid (Below w.heap.size w w7) := HB6.out.trans (hb7.mono HB6.out.size)
        clear hb7 ho7
        unfold tokV errP
        go_wp2_with fail
        refine (tell_err 5 _ (HL.out.below (HB7.out.alloc HB7.out.size _) rfl).base.err).mono ?_
        rintro e w8 ⟨rfl, hb8⟩
        have HBX : Hid (Below w.heap.size w w8) := (HB7.out.alloc HB7.out.size _).trans (hb8.mono (Nat.le_trans HB7.out.size (by simp)))
        clear hb8
        go_wp2_with fail
        refine (readP_is key s _ (by omega) (HL.out.below HBX.out rfl)).mono ?_
        rintro e w9 ⟨hb9, t9, n9, ho9, rfl⟩
        have HB9 : Hid (Below w.heap.size w w9) := HBX.out.trans (hb9.mono HBX.out.size)
        clear hb9
        rcases ho9 with ⟨rfl, tag9, hf9, he9⟩ | ⟨rfl, rfl, _⟩ | ⟨rfl, rfl, _⟩
        · have hx9 : (⟨(textOf key t9).toArray⟩ : ByteArray) = s := (bstr (by rw [hf9.2.2, he9]; rfl)).symm
          have HM9 : Hid (may t9) := hf9.1
          have HX9 : Hid ((⟨(textOf key t9).toArray⟩ : ByteArray) = s) := hx9
          clear hx9 hf9 he9
          unfold tokV errP
          go_wp2_with fail
          refine (writeP_yes key t9 _ HM9.out (HL.out.below (HB9.out.alloc HB9.out.size _) rfl).base).mono ?_
          rintro e w10 ⟨rfl, hb10⟩
          have HB10 : Hid (Below w.heap.size w w10) := (HB9.out.alloc HB9.out.size (.cells #[.int .i64 t9.k, .int .i64 t9.f, .int .i64 t9.g, .int .i64 t9.e] 46)).trans (hb10.mono (Nat.le_trans HB9.out.size (by simp)))
          clear hb10
          rw [HX9.out]
          go_wp2_with fail
          go_ret
          exact ⟨by simp, HB10.out⟩
        · unfold tokV errP
          go_wp2_with fail
          go_ret
          exact ⟨rfl, HB9.out.alloc HB9.out.size _⟩
        · unfold tokV errP
          go_wp2_with fail
          go_ret
          exact ⟨rfl, HB9.out.alloc HB9.out.size _⟩
      · have HBX : Hid (Below w.heap.size w w') := HB5.out
        clear hHX hcb hcell hfz
        go_wp2_with fail
        refine (readP_is key s _ (by omega) (HL.out.below HBX.out rfl)).mono ?_
        rintro e w9 ⟨hb9, t9, n9, ho9, rfl⟩
        have HB9 : Hid (Below w.heap.size w w9) := HBX.out.trans (hb9.mono HBX.out.size)
        clear hb9
        rcases ho9 with ⟨rfl, tag9, hf9, he9⟩ | ⟨rfl, rfl, _⟩ | ⟨rfl, rfl, _⟩
        · have hx9 : (⟨(textOf key t9).toArray⟩ : ByteArray) = s := (bstr (by rw [hf9.2.2, he9]; rfl)).symm
          have HM9 : Hid (may t9) := hf9.1
          have HX9 : Hid ((⟨(textOf key t9).toArray⟩ : ByteArray) = s) := hx9
          clear hx9 hf9 he9
          unfold tokV errP
          go_wp2_with fail
          refine (writeP_yes key t9 _ HM9.out (HL.out.below (HB9.out.alloc HB9.out.size _) rfl).base).mono ?_
          rintro e w10 ⟨rfl, hb10⟩
          have HB10 : Hid (Below w.heap.size w w10) := (HB9.out.alloc HB9.out.size (.cells #[.int .i64 t9.k, .int .i64 t9.f, .int .i64 t9.g, .int .i64 t9.e] 46)).trans (hb10.mono (Nat.le_trans HB9.out.size (by simp)))
          clear hb10
          rw [HX9.out]
          go_wp2_with fail
          go_ret
          exact ⟨by simp, HB10.out⟩
        · unfold tokV errP
          go_wp2_with fail
          go_ret
          exact ⟨rfl, HB9.out.alloc HB9.out.size _⟩
        · unfold tokV errP
          go_wp2_with fail
          go_ret
          exact ⟨rfl, HB9.out.alloc HB9.out.size _⟩
    · go_wp2_with fail
      refine (writeP_no key ⟨tk, tf, tg, te⟩ _ hm).mono ?_
      rintro e w2 ⟨rfl, hb2⟩
      have HBX : Hid (Below w.heap.size w w2) := HB1.out.trans (hb2.mono HB1.out.size)
      clear hb2 hm k0 k1 k2 k3
      go_wp2_with fail
      refine (readP_is key s _ (by omega) (HL.out.below HBX.out rfl)).mono ?_
      rintro e w9 ⟨hb9, t9, n9, ho9, rfl⟩
      have HB9 : Hid (Below w.heap.size w w9) := HBX.out.trans (hb9.mono HBX.out.size)
      clear hb9
      rcases ho9 with ⟨rfl, tag9, hf9, he9⟩ | ⟨rfl, rfl, _⟩ | ⟨rfl, rfl, _⟩
      · have hx9 : (⟨(textOf key t9).toArray⟩ : ByteArray) = s := (bstr (by rw [hf9.2.2, he9]; rfl)).symm
        have HM9 : Hid (may t9) := hf9.1
        have HX9 : Hid ((⟨(textOf key t9).toArray⟩ : ByteArray) = s) := hx9
        clear hx9 hf9 he9
        unfold tokV errP
        go_wp2_with fail
        refine (writeP_yes key t9 _ HM9.out (HL.out.below (HB9.out.alloc HB9.out.size _) rfl).base).mono ?_
        rintro e w10 ⟨rfl, hb10⟩
        have HB10 : Hid (Below w.heap.size w w10) := (HB9.out.alloc HB9.out.size (.cells #[.int .i64 t9.k, .int .i64 t9.f, .int .i64 t9.g, .int .i64 t9.e] 46)).trans (hb10.mono (Nat.le_trans HB9.out.size (by simp)))
        clear hb10
        rw [HX9.out]
        go_wp2_with fail
        go_ret
        exact ⟨by simp, HB10.out⟩
      · unfold tokV errP
        go_wp2_with fail
        go_ret
        exact ⟨rfl, HB9.out.alloc HB9.out.size _⟩
      · unfold tokV errP
        go_wp2_with fail
        go_ret
        exact ⟨rfl, HB9.out.alloc HB9.out.size _⟩
  · have hs' : ¬ (s.size : Int) ≤ 150 := by omega
    go_enter Tryd.func6, Tryd.ntmps6
    go_wp2_with fail
    go_ret
    exact ⟨rfl, HB0.out⟩
end Go.Proofs.YteblegcojhcccaaDoor
