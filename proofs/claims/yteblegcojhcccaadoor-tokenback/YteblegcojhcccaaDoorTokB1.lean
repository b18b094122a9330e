import Derived.Test.YteblegcojhcccaaDoorTokR4
import Derived.Test.YteblegcojhcccaaDoorRefSum
import Derived.Test.YteblegcojhcccaaDoorMacSum
import Derived.Test.YteblegcojhcccaaDoorTokW2
namespace Go.Proofs.YteblegcojhcccaaDoor
open Go.RowKit Tok
theorem tag_turn {t : T} {tg l : List UInt8} {p : Nat} {c : UInt8} (ht : hex16 tg) (hl : l = body t ++ 46 :: tg) (hp : p < 16) (hc : isHex c) (hne : l.getD (l.length - 1 - p) 0 ≠ c) :
    ∃ tg', hex16 tg' ∧ l.set (l.length - 1 - p) c = body t ++ 46 :: tg' ∧ tg' ≠ tg := by
  have hK : l.length - 1 - p = (body t).length + (15 - p + 1) := by rw [hl]; simp [ht.1]; omega
  refine ⟨tg.set (15 - p) c, ⟨by simp [ht.1], fun b hb => ?_⟩, ?_, fun he => hne ?_⟩
  · rcases List.mem_or_eq_of_mem_set hb with h | h
    · exact ht.2 b h
    · exact h ▸ hc
  · rw [hK, hl, List.set_append_right _ _ (by omega), show (body t).length + (15 - p + 1) - (body t).length = 15 - p + 1 by omega, List.set_cons_succ]
  · rw [hK, hl, List.getD_eq_getElem?_getD, List.getElem?_append_right (by omega), show (body t).length + (15 - p + 1) - (body t).length = 15 - p + 1 by omega, List.getElem?_cons_succ]
    have h1 : (tg.set (15 - p) c)[15 - p]? = some c := by rw [List.getElem?_set_self (by rw [ht.1]; omega)]
    rw [he] at h1
    rw [h1]; rfl
theorem hexs_allB : ∀ d : Fin 16, isHexB ((⟨#[48, 49, 50, 51, 52, 53, 54, 55, 56, 57, 97, 98, 99, 100, 101, 102]⟩ : ByteArray)[d.val]'(by simp [ByteArray.size])) = true := by decide
theorem hexs_all : ∀ d : Fin 16, isHex ((⟨#[48, 49, 50, 51, 52, 53, 54, 55, 56, 57, 97, 98, 99, 100, 101, 102]⟩ : ByteArray)[d.val]'(by simp [ByteArray.size])) := fun d => isHexB_iff.1 (hexs_allB d)
theorem pick_math (a : Int) : ∃ p : Nat, p < 16 ∧ wrap64 ((IntKind.u64.wrap a).tmod 16) = p := by
  refine ⟨(a % 18446744073709551616 % 16).toNat, by omega, ?_⟩
  have h : 0 ≤ a % 18446744073709551616 % 16 ∧ a % 18446744073709551616 % 16 < 16 := by omega
  rw [IntKind.wrap_u64, Int.tmod_eq_emod_of_nonneg (by omega)]
  unfold wrap64
  omega
set_option maxHeartbeats 1000000 in
theorem pick_is (a : Int) (w : World) : Calls Tryd.prog 22 #[.int .i64 a, .int .i64 16] w fun e w' => ∃ p : Nat, p < 16 ∧ e = .returned (.int .i64 p) ∧ w' = w := by
  obtain ⟨p, hp, he⟩ := pick_math a
  have HE : Hid (wrap64 ((IntKind.u64.wrap a).tmod 16) = p) := he
  clear he
  go_enter Tryd.func22, Tryd.ntmps22
  go_wp2_with fail
  go_ret
  exact ⟨p, hp, by rw [← HE.out]; rfl, rfl⟩
set_option maxRecDepth 100000 in
theorem summed_fact : Sip.sip 506097522914230528 1084818905618843912 [0, 1, 2, 3, 4, 5, 6, 7, 8, 9, 10, 11, 12, 13, 14] = 11613035633349379557 := by decide +kernel
theorem summed_is (w : World) : Calls Tryd.prog 20 #[] w fun e w' => e = .returned (.bool true) ∧ Below w.heap.size w w' := by
  have hs := macSum_any 506097522914230528 1084818905618843912 ⟨#[0, 1, 2, 3, 4, 5, 6, 7, 8, 9, 10, 11, 12, 13, 14]⟩ w (by decide)
  rw [show (⟨#[0, 1, 2, 3, 4, 5, 6, 7, 8, 9, 10, 11, 12, 13, 14]⟩ : ByteArray).data.toList = [0, 1, 2, 3, 4, 5, 6, 7, 8, 9, 10, 11, 12, 13, 14] from rfl, summed_fact] at hs
  go_enter Tryd.func20, Tryd.ntmps20
  go_wp2_with fail
  refine hs.mono ?_
  rintro e w' ⟨rfl, hb⟩
  have HB : Hid (Below w.heap.size w w') := hb
  clear hs hb
  go_wp2_with fail
  go_ret
  exact ⟨rfl, HB.out⟩
end Go.Proofs.YteblegcojhcccaaDoor
