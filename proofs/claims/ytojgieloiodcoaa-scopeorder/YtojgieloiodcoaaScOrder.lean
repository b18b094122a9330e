/-
  The law ScopeOrder: less is less.
-/
import Derived.Test.YtojgieloiodcoaaScLeast
namespace Go.Proofs.Ytojgieloiodcoaa
open Go Go.RowKit Sc
theorem out_by {s : List UInt8} {l ws : List Word} (hw : words s = ws) (hf : ws.all wordB = true) (hs : l.Pairwise (· < ·)) (hm : ∀ x, x ∈ l ↔ x ∈ ws) (h5 : l.length ≤ 5) (h8 : ∀ w ∈ ws, w.length ≤ 8) : Out s l 0 := by
  refine .inl ⟨rfl, ?_, ?_, h5, ?_⟩
  · unfold formedB; rw [hw]; exact hf
  · rw [hw]; exact ⟨hs, hm⟩
  · rw [hw]; exact h8
theorem words_read : words [114, 101, 97, 100] = [[114, 101, 97, 100]] := by
  rw [words_ne (by simp), Tok.parts_no (by simp)]
theorem words_two : words [119, 114, 105, 116, 101, 43, 114, 101, 97, 100] = [[119, 114, 105, 116, 101], [114, 101, 97, 100]] := by
  rw [words_ne (by simp), show ([119, 114, 105, 116, 101, 43, 114, 101, 97, 100] : List UInt8) = [119, 114, 105, 116, 101] ++ 43 :: [114, 101, 97, 100] from rfl, Tok.parts_at _ (by simp), Tok.parts_no (by simp)]
theorem words_bab : words [98, 43, 97, 43, 98] = [[98], [97], [98]] := by
  rw [words_ne (by simp), show ([98, 43, 97, 43, 98] : List UInt8) = [98] ++ 43 :: ([97] ++ 43 :: [98]) from rfl, Tok.parts_at _ (by simp), Tok.parts_at _ (by simp), Tok.parts_no (by simp)]
theorem out_read : Out [114, 101, 97, 100] [[114, 101, 97, 100]] 0 := out_by words_read (by decide) (by simp) (fun _ => Iff.rfl) (by simp) (by simp)
theorem out_two : Out [119, 114, 105, 116, 101, 43, 114, 101, 97, 100] [[114, 101, 97, 100], [119, 114, 105, 116, 101]] 0 :=
  out_by words_two (by decide) (by decide) (fun x => by simp [or_comm]) (by simp) (by simp)
theorem ab_mem (x : Word) : x ∈ [([97] : Word), [98]] ↔ x ∈ [([98] : Word), [97], [98]] := by
  simp only [List.mem_cons, List.not_mem_nil, or_false]
  constructor
  · rintro (h | h)
    · exact .inr (.inl h)
    · exact .inl h
  · rintro (h | h | h)
    · exact .inr h
    · exact .inl h
    · exact .inr h
theorem out_bab : Out [98, 43, 97, 43, 98] [[97], [98]] 0 :=
  out_by words_bab (by decide) (by decide) ab_mem (by simp) (by simp)
theorem within_two : WOut [114, 101, 97, 100] [119, 114, 105, 116, 101, 43, 114, 101, 97, 100] true 0 :=
  ⟨_, _, _, _, out_read, out_two, .inr (.inr ⟨rfl, rfl, rfl, by simp [inB]⟩)⟩
set_option maxRecDepth 100000 in
set_option maxHeartbeats 4000000 in
theorem narrow_is (w : World) (hL : LenOk w) : Calls Try.prog 4 #[] w fun e w' => e = .returned (.bool true) ∧ Below w.heap.size w w' := by
  have HL : Hid (LenOk w) := hL
  clear hL
  go_enter Try.func4, Try.ntmps4
  go_wp2_with fail
  refine (withinS_is ⟨#[114, 101, 97, 100]⟩ ⟨#[119, 114, 105, 116, 101, 43, 114, 101, 97, 100]⟩ _ (by decide) (by decide) HL.out).mono ?_
  rintro e w1 ⟨r, n, rfl, hw, hb1⟩
  obtain ⟨rfl, rfl⟩ := wout_inj within_two hw
  have HB1 : Hid (Below w.heap.size w w1) := hb1
  clear hw hb1
  rw [show errQ 0 = .nilIface from rfl]
  go_wp2_with fail
  refine (leastS_is ⟨#[98, 43, 97, 43, 98]⟩ _ (by decide) (HL.out.below HB1.out)).mono ?_
  rintro e w2 ⟨l, n, rfl, ho, hb2⟩
  obtain ⟨rfl, rfl⟩ := out_inj out_bab ho
  have HB2 : Hid (Below w.heap.size w w2) := HB1.out.trans (hb2.mono HB1.out.size)
  clear ho hb2 HB1
  rw [show errQ 0 = .nilIface from rfl, show joined [[97], [98]] = [97, 43, 98] by rw [joined_two, joined_one]; rfl]
  go_wp2_with fail
  go_ret
  exact ⟨by first | rfl | decide, HB2.out⟩
theorem within_of {s t : List UInt8} {l m : List Word} {r : Bool} {n : Nat} (h1 : Out s l 0) (h2 : Out t m 0) (h : WOut s t r n) : r = inB l m ∧ n = 0 :=
  wout_inj h ⟨_, _, _, _, h1, h2, .inr (.inr ⟨rfl, rfl, rfl, rfl⟩)⟩
theorem inB_self (l : List Word) : inB l l = true := inB_iff.2 fun _ h => h
theorem inB_trans {l m k : List Word} (h1 : inB l m = true) (h2 : inB m k = true) : inB l k = true := inB_iff.2 fun x hx => inB_iff.1 h2 x (inB_iff.1 h1 x hx)
theorem inB_both {s t : List UInt8} {l m : List Word} (h1 : Out s l 0) (h2 : Out t m 0) (a : inB l m = true) (b : inB m l = true) : l = m :=
  rising_eq (out_words h1).2.2.2 (out_words h2).2.2.2 fun x => ⟨inB_iff.1 a x, inB_iff.1 b x⟩
set_option maxRecDepth 100000 in
set_option maxHeartbeats 8000000 in
theorem scopeOrderLaw (a b c : ByteArray) (w : World) (ha : a.size ≤ 140737488355328) (hb : b.size ≤ 140737488355328) (hc : c.size ≤ 140737488355328) (hL : LenOk w) : Calls Try.prog 3 #[.string a, .string b, .string c] w fun e w' => e = .returned (.bool true) ∧ Below w.heap.size w w' := by
  have HL : Hid (LenOk w) := hL
  clear hL
  have h1 : ¬ 9223372036854775807 < a.size + b.size := by omega
  have h2 : ¬ 9223372036854775807 < a.size + b.size + c.size := by omega
  by_cases hs : a.size + b.size + c.size ≤ 300
  · have h3 : (a.size : Int) + (b.size : Int) + (c.size : Int) ≤ 300 := by omega
    have HA : Hid (a.size ≤ 1000) := by show _ ≤ _; omega
    have HBB : Hid (b.size ≤ 1000) := by show _ ≤ _; omega
    have HCC : Hid (c.size ≤ 1000) := by show _ ≤ _; omega
    clear hs ha hb hc
    go_enter Try.func3, Try.ntmps3
    go_wp2_with fail
    clear h1 h2 h3
    refine (narrow_is _ HL.out).mono ?_
    rintro e w1 ⟨rfl, hb1⟩
    have HB1 : Hid (Below w.heap.size w w1) := hb1
    clear hb1
    go_wp2_with fail
    refine (leastS_is a _ HA.out (HL.out.below HB1.out)).mono ?_
    rintro e w2 ⟨l1, n1, rfl, ho1, hb2⟩
    have HO1 : Hid (Out a.data.toList l1 n1) := ho1
    have HB2 : Hid (Below w.heap.size w w2) := HB1.out.trans (hb2.mono HB1.out.size)
    clear ho1 hb2 HB1
    go_wp2_with fail
    refine (leastS_is b _ HBB.out (HL.out.below HB2.out)).mono ?_
    rintro e w3 ⟨l2, n2, rfl, ho2, hb3⟩
    have HO2 : Hid (Out b.data.toList l2 n2) := ho2
    have HB3 : Hid (Below w.heap.size w w3) := HB2.out.trans (hb3.mono HB2.out.size)
    clear ho2 hb3 HB2
    go_wp2_with fail
    refine (leastS_is c _ HCC.out (HL.out.below HB3.out)).mono ?_
    rintro e w4 ⟨l3, n3, rfl, ho3, hb4⟩
    have HO3 : Hid (Out c.data.toList l3 n3) := ho3
    have HB4 : Hid (Below w.heap.size w w4) := HB3.out.trans (hb4.mono HB3.out.size)
    clear ho3 hb4 HB3
    cases n1 with
    | succ n1 =>
      rw [errQ_succ]
      cases n2 <;> cases n3 <;> simp only [errQ_succ, show errQ 0 = .nilIface from rfl] <;> (go_wp2_with fail; go_ret; exact ⟨rfl, HB4.out⟩)
    | zero =>
    cases n2 with
    | succ n2 =>
      rw [errQ_succ, show errQ 0 = .nilIface from rfl]
      cases n3 <;> simp only [errQ_succ, show errQ 0 = .nilIface from rfl] <;> (go_wp2_with fail; go_ret; exact ⟨rfl, HB4.out⟩)
    | zero =>
    cases n3 with
    | succ n3 =>
      rw [errQ_succ, show errQ 0 = .nilIface from rfl]
      go_wp2_with fail
      go_ret
      exact ⟨rfl, HB4.out⟩
    | zero =>
    rw [show errQ 0 = .nilIface from rfl]
    have HJ : Hid (Out (joined l1) l1 0) := out_joined HO1.out
    have HJS : Hid ((⟨(joined l1).toArray⟩ : ByteArray).size ≤ 1000) := by show _ ≤ _; rw [bsize]; have := (out_len HO1.out).2; omega
    go_wp2_with fail
    refine (withinS_is a ⟨(joined l1).toArray⟩ _ HA.out HJS.out (HL.out.below HB4.out)).mono ?_
    rintro e w5 ⟨r1, m, rfl, hw, hb⟩
    obtain ⟨rfl, rfl⟩ := within_of HO1.out HJ.out hw
    have HB5 : Hid (Below w.heap.size w w5) := HB4.out.trans (hb.mono HB4.out.size)
    clear hw hb HB4
    rw [show errQ 0 = .nilIface from rfl]
    go_wp2_with fail
    refine (withinS_is a b _ HA.out HBB.out (HL.out.below HB5.out)).mono ?_
    rintro e w6 ⟨r2, m, rfl, hw, hb⟩
    obtain ⟨rfl, rfl⟩ := within_of HO1.out HO2.out hw
    have HB6 : Hid (Below w.heap.size w w6) := HB5.out.trans (hb.mono HB5.out.size)
    clear hw hb HB5
    rw [show errQ 0 = .nilIface from rfl]
    go_wp2_with fail
    refine (withinS_is b a _ HBB.out HA.out (HL.out.below HB6.out)).mono ?_
    rintro e w7 ⟨r3, m, rfl, hw, hb⟩
    obtain ⟨rfl, rfl⟩ := within_of HO2.out HO1.out hw
    have HB7 : Hid (Below w.heap.size w w7) := HB6.out.trans (hb.mono HB6.out.size)
    clear hw hb HB6
    rw [show errQ 0 = .nilIface from rfl]
    go_wp2_with fail
    refine (withinS_is b c _ HBB.out HCC.out (HL.out.below HB7.out)).mono ?_
    rintro e w8 ⟨r4, m, rfl, hw, hb⟩
    obtain ⟨rfl, rfl⟩ := within_of HO2.out HO3.out hw
    have HB8 : Hid (Below w.heap.size w w8) := HB7.out.trans (hb.mono HB7.out.size)
    clear hw hb HB7
    rw [show errQ 0 = .nilIface from rfl]
    go_wp2_with fail
    refine (withinS_is a c _ HA.out HCC.out (HL.out.below HB8.out)).mono ?_
    rintro e w9 ⟨r5, m, rfl, hw, hb⟩
    obtain ⟨rfl, rfl⟩ := within_of HO1.out HO3.out hw
    have HB9 : Hid (Below w.heap.size w w9) := HB8.out.trans (hb.mono HB8.out.size)
    clear hw hb HB8
    rw [show errQ 0 = .nilIface from rfl]
    go_wp2_with fail
    refine (leastS_is ⟨(joined l1).toArray⟩ _ HJS.out (HL.out.below HB9.out)).mono ?_
    rintro e w10 ⟨l4, n4, rfl, ho4, hb10⟩
    obtain ⟨rfl, rfl⟩ := out_inj HJ.out ho4
    have HB10 : Hid (Below w.heap.size w w10) := HB9.out.trans (hb10.mono HB9.out.size)
    clear ho4 hb10 HB9
    rw [show errQ 0 = .nilIface from rfl, inB_self]
    have HNE : Hid (inB l1 l2 = false ∨ inB l2 l1 = false → ¬ joined l1 = joined l2) := fun h e => by
      have el := joined_inj (out_words HO1.out).1 (out_words HO2.out).1 e
      rw [← el, inB_self] at h
      rcases h with h | h <;> cases h
    have HEQ : Hid (inB l1 l2 = true → inB l2 l1 = true → joined l1 = joined l2) := fun h k => by rw [inB_both HO1.out HO2.out h k]
    have HTR : Hid (inB l1 l2 = true → inB l2 l3 = true → inB l1 l3 = true) := inB_trans
    generalize joined l1 = J1 at *
    generalize joined l2 = J2 at *
    generalize inB l1 l2 = p at *
    generalize inB l2 l1 = q at *
    generalize inB l2 l3 = x at *
    generalize inB l1 l3 = y at *
    cases p with
    | false =>
      have hne : ¬ J1 = J2 := HNE.out (.inl rfl)
      have hne2 : (J1 == J2) = false := beq_eq_false_iff_ne.2 hne
      go_wp2_with fail
      go_ret
      exact ⟨by first | rfl | simp [hne] | simp, HB10.out⟩
    | true =>
      cases q with
      | false =>
        cases x with
        | false =>
          have hne : ¬ J1 = J2 := HNE.out (.inr rfl)
          have hne2 : (J1 == J2) = false := beq_eq_false_iff_ne.2 hne
          go_wp2_with fail
          go_ret
          exact ⟨by first | rfl | simp [hne] | simp, HB10.out⟩
        | true =>
          obtain rfl : y = true := HTR.out rfl rfl
          have hne : ¬ J1 = J2 := HNE.out (.inr rfl)
          have hne2 : (J1 == J2) = false := beq_eq_false_iff_ne.2 hne
          go_wp2_with fail
          go_ret
          exact ⟨by first | rfl | simp [hne] | simp, HB10.out⟩
      | true =>
        obtain rfl : J1 = J2 := HEQ.out rfl rfl
        cases x with
        | false =>
          go_wp2_with fail
          go_ret
          exact ⟨by first | rfl | simp, HB10.out⟩
        | true =>
          obtain rfl : y = true := HTR.out rfl rfl
          go_wp2_with fail
          go_ret
          exact ⟨by first | rfl | simp, HB10.out⟩
  · have h3 : ¬ (a.size : Int) + (b.size : Int) + (c.size : Int) ≤ 300 := by omega
    go_enter Try.func3, Try.ntmps3
    go_wp2_with fail
    go_ret
    exact ⟨rfl, Below.refl _ _⟩
end Go.Proofs.Ytojgieloiodcoaa
