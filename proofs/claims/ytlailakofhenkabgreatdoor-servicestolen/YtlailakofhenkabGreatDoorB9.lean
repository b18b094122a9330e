/-
  Own texts put together: EvReadE, MacRounds, RefRounds, SipSum, RefSum.
-/
import Derived.Test.YtlailakofhenkabGreatDoorB8
import Derived.Test.YtlailakofhenkabGreatDoorB1
import Derived.BigQuiet
import Derived.RegionTactic
import Derived.BigRegion
import Derived.Deep.RegionWith
import Derived.Deep.CutRange
import Derived.Deep.LoopGhost
import Derived.Test.YtlailakofhenkabGreatDoorB3
namespace Go.Proofs.YtlailakofhenkabGreatDoor
open Go Go.RowKit Tok Sc Ev
theorem words_of (s : ByteArray) (hs : s.size ≤ 5000) :
    (Lib.splitB ⟨#[32]⟩ 0 (min 10 (s.size + 1) - 1) s).map (·.data.toList) = Lib.splitK [32] 0 (min 10 (s.data.toList.length + 1) - 1) s.data.toList ∧
    0 < (Lib.splitB ⟨#[32]⟩ 0 (min 10 (s.size + 1) - 1) s).length ∧ (Lib.splitB ⟨#[32]⟩ 0 (min 10 (s.size + 1) - 1) s).length ≤ 5000 ∧
    ∀ x ∈ Lib.splitB ⟨#[32]⟩ 0 (min 10 (s.size + 1) - 1) s, x.size ≤ 5000 := by
  have h1 := Lib.splitB_data ⟨#[32]⟩ 0 (min 10 (s.size + 1) - 1) s
  rw [show (⟨#[32]⟩ : ByteArray).data.toList = [32] from rfl] at h1
  have hl : s.data.toList.length = s.size := Array.length_toList
  have h2 := Lib.splitB_length_le ⟨#[32]⟩ 0 (min 10 (s.size + 1) - 1) s
  refine ⟨by rw [hl]; exact h1, ?_, by omega, fun x hx => ?_⟩
  · have := splitK_pos 32 (min 10 (s.size + 1) - 1) s.data.toList
    rw [← h1, List.length_map] at this
    exact this
  · have := splitK_len 32 (min 10 (s.size + 1) - 1) s.data.toList x.data.toList (by rw [← h1]; exact List.mem_map.2 ⟨x, hx, rfl⟩)
    have h3 : x.data.toList.length = x.size := Array.length_toList
    omega
def ReadAs (s : ByteArray) (r : Ending) : Prop := (∃ e, Ev.may e ∧ s = bs8 (line e) ∧ r = .returned (.tuple #[evV e, .nilIface])) ∨ ((∀ e, Ev.may e → s ≠ bs8 (line e)) ∧ r = .returned (.tuple #[evV zeroE, .iface 47 (.int .i64 3)]))
set_option maxRecDepth 100000 in
set_option maxHeartbeats 8000000 in
theorem readE_is (s : ByteArray) (w : World) (hs : s.size ≤ 5000) (hL : LibsA w) : Calls Tryz.prog 59 #[.string s] w fun r w' => ReadAs s r ∧ Below w.heap.size w w' := by
  obtain ⟨m, hm⟩ := hL.base.len
  have HL : Hid (LibsA w) := hL
  obtain ⟨hp1, hp2, hp3, hp4⟩ := words_of s hs
  have hm1 := Lib.cell?_alloc_some (.cells #[.int .i64 0, .int .i64 0, .string ⟨#[]⟩, .string ⟨#[]⟩, .string ⟨#[]⟩, .int .i64 0, .int .i64 0, .int .i64 0, .string ⟨#[]⟩, .bool false, .int .i64 0, .int .i64 0] 42) hm
  have hsp := Tryz.strings_SplitN s ⟨#[32]⟩ 10 m _ (by omega) hm1 (by decide) (by decide) (by decide)
  generalize hP : Lib.splitB ⟨#[32]⟩ 0 (min 10 (s.size + 1) - 1) s = ps at *
  have HP : Hid (ps.map (·.data.toList) = Lib.splitK [32] 0 (min 10 (s.data.toList.length + 1) - 1) s.data.toList) := hp1
  generalize min 10 (s.size + 1) = N at *
  have HOW : Hid (∀ (g c : Nat) (W : World), WordsAt W g ps → LibsA W → Calls Tryz.prog 119 #[.slice (some ⟨g, 0, none⟩) ps.length c] W fun r w' => ∃ e, r = .returned (evV e) ∧ ToldW ps e ∧ Small 5000 e.fam ∧ Below W.heap.size W w') := fun g c W h1 h2 => ofWords_is ps g c W hp2 hp3 hp4 h1 h2
  have HS : Hid (s.size ≤ 5000) := hs
  clear hp1 hP hL hp2 hp3 hp4 hs
  go_enter Tryz.func59, Tryz.ntmps59
  go_wp2_with fail
  refine hsp.mono ?_
  rintro e w1 ⟨rfl, rfl⟩
  clear hsp hm1 hm
  have hwa := wordsAt_cellsOf (w.alloc (.cells #[.int .i64 0, .int .i64 0, .string ⟨#[]⟩, .string ⟨#[]⟩, .string ⟨#[]⟩, .int .i64 0, .int .i64 0, .int .i64 0, .string ⟨#[]⟩, .bool false, .int .i64 0, .int .i64 0] 42)) ps N 9
  rw [show ((w.alloc (.cells #[.int .i64 0, .int .i64 0, .string ⟨#[]⟩, .string ⟨#[]⟩, .string ⟨#[]⟩, .int .i64 0, .int .i64 0, .int .i64 0, .string ⟨#[]⟩, .bool false, .int .i64 0, .int .i64 0] 42)) : World).heap.size = w.heap.size + 1 by simp] at hwa
  have HB1 : Hid (Below w.heap.size w ((w.alloc (.cells #[.int .i64 0, .int .i64 0, .string ⟨#[]⟩, .string ⟨#[]⟩, .string ⟨#[]⟩, .int .i64 0, .int .i64 0, .int .i64 0, .string ⟨#[]⟩, .bool false, .int .i64 0, .int .i64 0] 42)).alloc (.cells (Lib.cellsOf ps N) 9))) := ((Below.refl _ _).alloc (Nat.le_refl _) _).alloc (by simp) _
  have hL1 := HL.out.below HB1.out
  have hbx : EvAt ((w.alloc (.cells #[.int .i64 0, .int .i64 0, .string ⟨#[]⟩, .string ⟨#[]⟩, .string ⟨#[]⟩, .int .i64 0, .int .i64 0, .int .i64 0, .string ⟨#[]⟩, .bool false, .int .i64 0, .int .i64 0] 42)).alloc (.cells (Lib.cellsOf ps N) 9)) w.heap.size zeroE := (evAt_made w zeroE 42 _ rfl).on ((Below.refl _ _).alloc (Nat.le_refl _) _)
  have hfz : ∀ i, ((w.alloc (.cells #[.int .i64 0, .int .i64 0, .string ⟨#[]⟩, .string ⟨#[]⟩, .string ⟨#[]⟩, .int .i64 0, .int .i64 0, .int .i64 0, .string ⟨#[]⟩, .bool false, .int .i64 0, .int .i64 0] 42)).alloc (.cells (Lib.cellsOf ps N) 9)).frozen? ⟨w.heap.size, i, none⟩ = false := fun i => (((Below.refl _ _).alloc (Nat.le_refl _) _).frozen (p := ⟨w.heap.size, i, none⟩) (by simp)).trans (World.frozen?_alloc_at _ _ _ _ rfl)
  have how := HOW.out _ N _ hwa hL1
  clear hwa hL1
  go_wp2_with fail
  refine how.mono ?_
  rintro e2 w2 ⟨e, rfl, ht, hsm, hb2⟩
  have HB2 : Hid (Below w.heap.size w w2) := HB1.out.trans (hb2.mono HB1.out.size)
  have HT : Hid (ToldW ps e) := ht
  have HZ2 : Hid (EvAt w2 w.heap.size zeroE) := hbx.on hb2
  have HF2 : Hid (∀ i, w2.frozen? ⟨w.heap.size, i, none⟩ = false) := fun i => (hb2.frozen (p := ⟨w.heap.size, i, none⟩) hbx.lt).trans (hfz i)
  have hE0 : EvAt (w2.alloc (.cells #[.int .i64 e.kind, .int .i64 e.fam.id, .string e.fam.client, .string e.fam.subject, .string e.fam.scope, .int .i64 e.fam.gen, .int .i64 e.fam.made, .int .i64 e.fam.used, .string e.fam.request, .bool e.fam.dead, .int .i64 e.id, .int .i64 e.time] 42)) w2.heap.size e := evAt_made w2 e 42 _ rfl
  have HB3 : Hid (Below w.heap.size w (w2.alloc (.cells #[.int .i64 e.kind, .int .i64 e.fam.id, .string e.fam.client, .string e.fam.subject, .string e.fam.scope, .int .i64 e.fam.gen, .int .i64 e.fam.made, .int .i64 e.fam.used, .string e.fam.request, .bool e.fam.dead, .int .i64 e.id, .int .i64 e.time] 42))) := HB2.out.alloc HB2.out.size _
  have hL3 := HL.out.below HB3.out
  clear how hbx hfz ht hb2
  by_cases hm : Ev.may e
  · have hwr := writeE_yes e _ hm hsm hL3.base
    have HM : Hid (Ev.may e) := hm
    have HE0 : Hid _ := hE0
    have HSM : Hid (Small 5000 e.fam) := hsm
    clear hm hL3 hE0 hsm
    obtain ⟨k, ⟨f1, f2, f3, f4, f5, f6, f7, f8, f9⟩, i, t⟩ := e
    unfold evV evCs at hwr ⊢
    simp only at hwr ⊢
    go_wp2_with fail
    refine hwr.mono ?_
    rintro e4 w4 ⟨rfl, hb4⟩
    have HE4 : Hid (EvAt w4 w2.heap.size ⟨k, ⟨f1, f2, f3, f4, f5, f6, f7, f8, f9⟩, i, t⟩) := HE0.out.on hb4
    have HB4 : Hid (Below w.heap.size w w4) := HB3.out.trans (hb4.mono HB3.out.size)
    have d0 := HE4.out.c0; have d1 := HE4.out.fam.c0; have d2 := HE4.out.fam.c1; have d3 := HE4.out.fam.c2; have d4 := HE4.out.fam.c3; have d5 := HE4.out.fam.c4; have d6 := HE4.out.fam.c5; have d7 := HE4.out.fam.c6; have d8 := HE4.out.fam.c7; have d9 := HE4.out.fam.c8; have d10 := HE4.out.c10; have d11 := HE4.out.c11
    simp only at d0 d1 d2 d3 d4 d5 d6 d7 d8 d9 d10 d11
    have hz4 := (HZ2.out.on ((Below.refl _ _).alloc (Nat.le_refl _) _)).on hb4
    have fz : ∀ i, w4.frozen? ⟨w.heap.size, i, none⟩ = false := fun i => ((hb4.frozen (p := ⟨w.heap.size, i, none⟩) (by have := HZ2.out.lt; simp; omega)).trans (((Below.refl _ _).alloc (Nat.le_refl _) _).frozen (p := ⟨w.heap.size, i, none⟩) HZ2.out.lt)).trans (HF2.out i)
    have c0 := hz4.c0; have c1 := hz4.fam.c0; have c2 := hz4.fam.c1; have c3 := hz4.fam.c2; have c4 := hz4.fam.c3; have c5 := hz4.fam.c4; have c6 := hz4.fam.c5; have c7 := hz4.fam.c6; have c8 := hz4.fam.c7; have c9 := hz4.fam.c8; have c10 := hz4.c10; have c11 := hz4.c11
    simp only [zeroE, zeroF] at c0 c1 c2 c3 c4 c5 c6 c7 c8 c9 c10 c11
    have HTH : Hid (∀ j, j < 12 → (w4.cell? ⟨w.heap.size, 0 + j, none⟩).isSome = true) := by
      show ∀ j, j < 12 → (w4.cell? ⟨w.heap.size, 0 + j, none⟩).isSome = true
      intro j hj
      rw [Nat.zero_add]
      match j, hj with
      | 0, _ => rw [c0]; rfl
      | 1, _ => rw [c1]; rfl
      | 2, _ => rw [c2]; rfl
      | 3, _ => rw [c3]; rfl
      | 4, _ => rw [c4]; rfl
      | 5, _ => rw [c5]; rfl
      | 6, _ => rw [c6]; rfl
      | 7, _ => rw [c7]; rfl
      | 8, _ => rw [c8]; rfl
      | 9, _ => rw [c9]; rfl
      | 10, _ => rw [c10]; rfl
      | 11, _ => rw [c11]; rfl
    clear hz4
    clear hwr hb4
    generalize hx : bs8 (line ⟨k, ⟨f1, f2, f3, f4, f5, f6, f7, f8, f9⟩, i, t⟩) = x at *
    by_cases hxs : x = s
    · subst hxs
      go_wp2_with fail
      have hth : ∀ j, j < ([.int .i64 k, .int .i64 f1, .string f2, .string f3, .string f4, .int .i64 f5, .int .i64 f6, .int .i64 f7, .string f8, .bool f9, .int .i64 i, .int .i64 t] : List Value).length → (w4.cell? ⟨w.heap.size, 0 + j, none⟩).isSome = true := HTH.out
      have HBF : Hid (Below w.heap.size w (w4.setCells w.heap.size 0 [.int .i64 k, .int .i64 f1, .string f2, .string f3, .string f4, .int .i64 f5, .int .i64 f6, .int .i64 f7, .string f8, .bool f9, .int .i64 i, .int .i64 t])) := HB4.out.trans (below_setCellsW (Nat.le_refl _) _ 0 w4)
      have q0 := World.cell?_setCells_in w.heap.size [.int .i64 k, .int .i64 f1, .string f2, .string f3, .string f4, .int .i64 f5, .int .i64 f6, .int .i64 f7, .string f8, .bool f9, .int .i64 i, .int .i64 t] 0 w4 hth 0 (by simp)
      have q1 := World.cell?_setCells_in w.heap.size [.int .i64 k, .int .i64 f1, .string f2, .string f3, .string f4, .int .i64 f5, .int .i64 f6, .int .i64 f7, .string f8, .bool f9, .int .i64 i, .int .i64 t] 0 w4 hth 1 (by simp)
      have q2 := World.cell?_setCells_in w.heap.size [.int .i64 k, .int .i64 f1, .string f2, .string f3, .string f4, .int .i64 f5, .int .i64 f6, .int .i64 f7, .string f8, .bool f9, .int .i64 i, .int .i64 t] 0 w4 hth 2 (by simp)
      have q3 := World.cell?_setCells_in w.heap.size [.int .i64 k, .int .i64 f1, .string f2, .string f3, .string f4, .int .i64 f5, .int .i64 f6, .int .i64 f7, .string f8, .bool f9, .int .i64 i, .int .i64 t] 0 w4 hth 3 (by simp)
      have q4 := World.cell?_setCells_in w.heap.size [.int .i64 k, .int .i64 f1, .string f2, .string f3, .string f4, .int .i64 f5, .int .i64 f6, .int .i64 f7, .string f8, .bool f9, .int .i64 i, .int .i64 t] 0 w4 hth 4 (by simp)
      have q5 := World.cell?_setCells_in w.heap.size [.int .i64 k, .int .i64 f1, .string f2, .string f3, .string f4, .int .i64 f5, .int .i64 f6, .int .i64 f7, .string f8, .bool f9, .int .i64 i, .int .i64 t] 0 w4 hth 5 (by simp)
      have q6 := World.cell?_setCells_in w.heap.size [.int .i64 k, .int .i64 f1, .string f2, .string f3, .string f4, .int .i64 f5, .int .i64 f6, .int .i64 f7, .string f8, .bool f9, .int .i64 i, .int .i64 t] 0 w4 hth 6 (by simp)
      have q7 := World.cell?_setCells_in w.heap.size [.int .i64 k, .int .i64 f1, .string f2, .string f3, .string f4, .int .i64 f5, .int .i64 f6, .int .i64 f7, .string f8, .bool f9, .int .i64 i, .int .i64 t] 0 w4 hth 7 (by simp)
      have q8 := World.cell?_setCells_in w.heap.size [.int .i64 k, .int .i64 f1, .string f2, .string f3, .string f4, .int .i64 f5, .int .i64 f6, .int .i64 f7, .string f8, .bool f9, .int .i64 i, .int .i64 t] 0 w4 hth 8 (by simp)
      have q9 := World.cell?_setCells_in w.heap.size [.int .i64 k, .int .i64 f1, .string f2, .string f3, .string f4, .int .i64 f5, .int .i64 f6, .int .i64 f7, .string f8, .bool f9, .int .i64 i, .int .i64 t] 0 w4 hth 9 (by simp)
      have q10 := World.cell?_setCells_in w.heap.size [.int .i64 k, .int .i64 f1, .string f2, .string f3, .string f4, .int .i64 f5, .int .i64 f6, .int .i64 f7, .string f8, .bool f9, .int .i64 i, .int .i64 t] 0 w4 hth 10 (by simp)
      have q11 := World.cell?_setCells_in w.heap.size [.int .i64 k, .int .i64 f1, .string f2, .string f3, .string f4, .int .i64 f5, .int .i64 f6, .int .i64 f7, .string f8, .bool f9, .int .i64 i, .int .i64 t] 0 w4 hth 11 (by simp)
      generalize hWW : World.setCell _ ⟨w.heap.size, 11, none⟩ _ = WW
      have hW2 : w4.setCells w.heap.size 0 [.int .i64 k, .int .i64 f1, .string f2, .string f3, .string f4, .int .i64 f5, .int .i64 f6, .int .i64 f7, .string f8, .bool f9, .int .i64 i, .int .i64 t] = WW := hWW
      have HB5 : Hid (Below w.heap.size w WW) := by rw [← hW2]; exact HBF.out
      rw [hW2] at q0 q1 q2 q3 q4 q5 q6 q7 q8 q9 q10 q11
      simp only [Nat.zero_add, List.getElem_cons_zero, List.getElem_cons_succ] at q0 q1 q2 q3 q4 q5 q6 q7 q8 q9 q10 q11
      exact bodyPost_ret (v := .tuple #[.agg #[.int .i64 k, .int .i64 f1, .string f2, .string f3, .string f4, .int .i64 f5, .int .i64 f6, .int .i64 f7, .string f8, .bool f9, .int .i64 i, .int .i64 t], .nilIface]) (by simp [results, Tryz.results59, go_sem, q0, q1, q2, q3, q4, q5, q6, q7, q8, q9, q10, q11]) rfl ⟨.inl ⟨_, HM.out, hx.symm, rfl⟩, HB5.out⟩
    · have HNS : Hid (∀ e', Ev.may e' → s ≠ bs8 (line e')) := fun e' he hs => by
        have h1 : ps.map (·.data.toList) = wordsOf e' := by
          rw [HP.out, hs]
          exact split_line he
        have h2 := HT.out e' he h1
        exact hxs (by rw [← hx, h2, hs])
      have hxb : (x.toList == s.toList) = false := by
        rw [beq_eq_false_iff_ne]
        intro h
        exact hxs (bytes_eq (by rwa [ByteArray.toList_eq, ByteArray.toList_eq] at h))
      go_wp2_with fail
      have hth : ∀ j, j < ([.int .i64 0, .int .i64 0, .string ⟨#[]⟩, .string ⟨#[]⟩, .string ⟨#[]⟩, .int .i64 0, .int .i64 0, .int .i64 0, .string ⟨#[]⟩, .bool false, .int .i64 0, .int .i64 0] : List Value).length → (w4.cell? ⟨w.heap.size, 0 + j, none⟩).isSome = true := HTH.out
      have HBF : Hid (Below w.heap.size w (w4.setCells w.heap.size 0 [.int .i64 0, .int .i64 0, .string ⟨#[]⟩, .string ⟨#[]⟩, .string ⟨#[]⟩, .int .i64 0, .int .i64 0, .int .i64 0, .string ⟨#[]⟩, .bool false, .int .i64 0, .int .i64 0])) := HB4.out.trans (below_setCellsW (Nat.le_refl _) _ 0 w4)
      have q0 := World.cell?_setCells_in w.heap.size [.int .i64 0, .int .i64 0, .string ⟨#[]⟩, .string ⟨#[]⟩, .string ⟨#[]⟩, .int .i64 0, .int .i64 0, .int .i64 0, .string ⟨#[]⟩, .bool false, .int .i64 0, .int .i64 0] 0 w4 hth 0 (by simp)
      have q1 := World.cell?_setCells_in w.heap.size [.int .i64 0, .int .i64 0, .string ⟨#[]⟩, .string ⟨#[]⟩, .string ⟨#[]⟩, .int .i64 0, .int .i64 0, .int .i64 0, .string ⟨#[]⟩, .bool false, .int .i64 0, .int .i64 0] 0 w4 hth 1 (by simp)
      have q2 := World.cell?_setCells_in w.heap.size [.int .i64 0, .int .i64 0, .string ⟨#[]⟩, .string ⟨#[]⟩, .string ⟨#[]⟩, .int .i64 0, .int .i64 0, .int .i64 0, .string ⟨#[]⟩, .bool false, .int .i64 0, .int .i64 0] 0 w4 hth 2 (by simp)
      have q3 := World.cell?_setCells_in w.heap.size [.int .i64 0, .int .i64 0, .string ⟨#[]⟩, .string ⟨#[]⟩, .string ⟨#[]⟩, .int .i64 0, .int .i64 0, .int .i64 0, .string ⟨#[]⟩, .bool false, .int .i64 0, .int .i64 0] 0 w4 hth 3 (by simp)
      have q4 := World.cell?_setCells_in w.heap.size [.int .i64 0, .int .i64 0, .string ⟨#[]⟩, .string ⟨#[]⟩, .string ⟨#[]⟩, .int .i64 0, .int .i64 0, .int .i64 0, .string ⟨#[]⟩, .bool false, .int .i64 0, .int .i64 0] 0 w4 hth 4 (by simp)
      have q5 := World.cell?_setCells_in w.heap.size [.int .i64 0, .int .i64 0, .string ⟨#[]⟩, .string ⟨#[]⟩, .string ⟨#[]⟩, .int .i64 0, .int .i64 0, .int .i64 0, .string ⟨#[]⟩, .bool false, .int .i64 0, .int .i64 0] 0 w4 hth 5 (by simp)
      have q6 := World.cell?_setCells_in w.heap.size [.int .i64 0, .int .i64 0, .string ⟨#[]⟩, .string ⟨#[]⟩, .string ⟨#[]⟩, .int .i64 0, .int .i64 0, .int .i64 0, .string ⟨#[]⟩, .bool false, .int .i64 0, .int .i64 0] 0 w4 hth 6 (by simp)
      have q7 := World.cell?_setCells_in w.heap.size [.int .i64 0, .int .i64 0, .string ⟨#[]⟩, .string ⟨#[]⟩, .string ⟨#[]⟩, .int .i64 0, .int .i64 0, .int .i64 0, .string ⟨#[]⟩, .bool false, .int .i64 0, .int .i64 0] 0 w4 hth 7 (by simp)
      have q8 := World.cell?_setCells_in w.heap.size [.int .i64 0, .int .i64 0, .string ⟨#[]⟩, .string ⟨#[]⟩, .string ⟨#[]⟩, .int .i64 0, .int .i64 0, .int .i64 0, .string ⟨#[]⟩, .bool false, .int .i64 0, .int .i64 0] 0 w4 hth 8 (by simp)
      have q9 := World.cell?_setCells_in w.heap.size [.int .i64 0, .int .i64 0, .string ⟨#[]⟩, .string ⟨#[]⟩, .string ⟨#[]⟩, .int .i64 0, .int .i64 0, .int .i64 0, .string ⟨#[]⟩, .bool false, .int .i64 0, .int .i64 0] 0 w4 hth 9 (by simp)
      have q10 := World.cell?_setCells_in w.heap.size [.int .i64 0, .int .i64 0, .string ⟨#[]⟩, .string ⟨#[]⟩, .string ⟨#[]⟩, .int .i64 0, .int .i64 0, .int .i64 0, .string ⟨#[]⟩, .bool false, .int .i64 0, .int .i64 0] 0 w4 hth 10 (by simp)
      have q11 := World.cell?_setCells_in w.heap.size [.int .i64 0, .int .i64 0, .string ⟨#[]⟩, .string ⟨#[]⟩, .string ⟨#[]⟩, .int .i64 0, .int .i64 0, .int .i64 0, .string ⟨#[]⟩, .bool false, .int .i64 0, .int .i64 0] 0 w4 hth 11 (by simp)
      generalize hWW : World.setCell _ ⟨w.heap.size, 11, none⟩ _ = WW
      have hW2 : w4.setCells w.heap.size 0 [.int .i64 0, .int .i64 0, .string ⟨#[]⟩, .string ⟨#[]⟩, .string ⟨#[]⟩, .int .i64 0, .int .i64 0, .int .i64 0, .string ⟨#[]⟩, .bool false, .int .i64 0, .int .i64 0] = WW := hWW
      have HB5 : Hid (Below w.heap.size w WW) := by rw [← hW2]; exact HBF.out
      rw [hW2] at q0 q1 q2 q3 q4 q5 q6 q7 q8 q9 q10 q11
      simp only [Nat.zero_add, List.getElem_cons_zero, List.getElem_cons_succ] at q0 q1 q2 q3 q4 q5 q6 q7 q8 q9 q10 q11
      exact bodyPost_ret (v := .tuple #[.agg #[.int .i64 0, .int .i64 0, .string ⟨#[]⟩, .string ⟨#[]⟩, .string ⟨#[]⟩, .int .i64 0, .int .i64 0, .int .i64 0, .string ⟨#[]⟩, .bool false, .int .i64 0, .int .i64 0], .iface 47 (.int .i64 3)]) (by simp [results, Tryz.results59, go_sem, q0, q1, q2, q3, q4, q5, q6, q7, q8, q9, q10, q11]) rfl ⟨.inr ⟨HNS.out, rfl⟩, HB5.out⟩
  · have hwr := writeE_no e _ hm hsm hL3.base.len
    have HM : Hid (¬ Ev.may e) := hm
    clear hm hL3 hE0 hsm
    obtain ⟨k, ⟨f1, f2, f3, f4, f5, f6, f7, f8, f9⟩, i, t⟩ := e
    unfold evV evCs at hwr ⊢
    simp only at hwr ⊢
    go_wp2_with fail
    refine hwr.mono ?_
    rintro e4 w4 ⟨rfl, hb4⟩
    have HB4 : Hid (Below w.heap.size w w4) := HB3.out.trans (hb4.mono HB3.out.size)
    have hz4 := (HZ2.out.on ((Below.refl _ _).alloc (Nat.le_refl _) _)).on hb4
    have fz : ∀ i, w4.frozen? ⟨w.heap.size, i, none⟩ = false := fun i => ((hb4.frozen (p := ⟨w.heap.size, i, none⟩) (by have := HZ2.out.lt; simp; omega)).trans (((Below.refl _ _).alloc (Nat.le_refl _) _).frozen (p := ⟨w.heap.size, i, none⟩) HZ2.out.lt)).trans (HF2.out i)
    have c0 := hz4.c0; have c1 := hz4.fam.c0; have c2 := hz4.fam.c1; have c3 := hz4.fam.c2; have c4 := hz4.fam.c3; have c5 := hz4.fam.c4; have c6 := hz4.fam.c5; have c7 := hz4.fam.c6; have c8 := hz4.fam.c7; have c9 := hz4.fam.c8; have c10 := hz4.c10; have c11 := hz4.c11
    simp only [zeroE, zeroF] at c0 c1 c2 c3 c4 c5 c6 c7 c8 c9 c10 c11
    have HTH : Hid (∀ j, j < 12 → (w4.cell? ⟨w.heap.size, 0 + j, none⟩).isSome = true) := by
      show ∀ j, j < 12 → (w4.cell? ⟨w.heap.size, 0 + j, none⟩).isSome = true
      intro j hj
      rw [Nat.zero_add]
      match j, hj with
      | 0, _ => rw [c0]; rfl
      | 1, _ => rw [c1]; rfl
      | 2, _ => rw [c2]; rfl
      | 3, _ => rw [c3]; rfl
      | 4, _ => rw [c4]; rfl
      | 5, _ => rw [c5]; rfl
      | 6, _ => rw [c6]; rfl
      | 7, _ => rw [c7]; rfl
      | 8, _ => rw [c8]; rfl
      | 9, _ => rw [c9]; rfl
      | 10, _ => rw [c10]; rfl
      | 11, _ => rw [c11]; rfl
    clear hz4
    clear hwr hb4
    have HNS : Hid (∀ e', Ev.may e' → s ≠ bs8 (line e')) := fun e' he hs => by
      have h1 : ps.map (·.data.toList) = wordsOf e' := by
        rw [HP.out, hs]
        exact split_line he
      have h2 := HT.out e' he h1
      exact HM.out (h2 ▸ he)
    go_wp2_with fail
    have hth : ∀ j, j < ([.int .i64 0, .int .i64 0, .string ⟨#[]⟩, .string ⟨#[]⟩, .string ⟨#[]⟩, .int .i64 0, .int .i64 0, .int .i64 0, .string ⟨#[]⟩, .bool false, .int .i64 0, .int .i64 0] : List Value).length → (w4.cell? ⟨w.heap.size, 0 + j, none⟩).isSome = true := HTH.out
    have HBF : Hid (Below w.heap.size w (w4.setCells w.heap.size 0 [.int .i64 0, .int .i64 0, .string ⟨#[]⟩, .string ⟨#[]⟩, .string ⟨#[]⟩, .int .i64 0, .int .i64 0, .int .i64 0, .string ⟨#[]⟩, .bool false, .int .i64 0, .int .i64 0])) := HB4.out.trans (below_setCellsW (Nat.le_refl _) _ 0 w4)
    have q0 := World.cell?_setCells_in w.heap.size [.int .i64 0, .int .i64 0, .string ⟨#[]⟩, .string ⟨#[]⟩, .string ⟨#[]⟩, .int .i64 0, .int .i64 0, .int .i64 0, .string ⟨#[]⟩, .bool false, .int .i64 0, .int .i64 0] 0 w4 hth 0 (by simp)
    have q1 := World.cell?_setCells_in w.heap.size [.int .i64 0, .int .i64 0, .string ⟨#[]⟩, .string ⟨#[]⟩, .string ⟨#[]⟩, .int .i64 0, .int .i64 0, .int .i64 0, .string ⟨#[]⟩, .bool false, .int .i64 0, .int .i64 0] 0 w4 hth 1 (by simp)
    have q2 := World.cell?_setCells_in w.heap.size [.int .i64 0, .int .i64 0, .string ⟨#[]⟩, .string ⟨#[]⟩, .string ⟨#[]⟩, .int .i64 0, .int .i64 0, .int .i64 0, .string ⟨#[]⟩, .bool false, .int .i64 0, .int .i64 0] 0 w4 hth 2 (by simp)
    have q3 := World.cell?_setCells_in w.heap.size [.int .i64 0, .int .i64 0, .string ⟨#[]⟩, .string ⟨#[]⟩, .string ⟨#[]⟩, .int .i64 0, .int .i64 0, .int .i64 0, .string ⟨#[]⟩, .bool false, .int .i64 0, .int .i64 0] 0 w4 hth 3 (by simp)
    have q4 := World.cell?_setCells_in w.heap.size [.int .i64 0, .int .i64 0, .string ⟨#[]⟩, .string ⟨#[]⟩, .string ⟨#[]⟩, .int .i64 0, .int .i64 0, .int .i64 0, .string ⟨#[]⟩, .bool false, .int .i64 0, .int .i64 0] 0 w4 hth 4 (by simp)
    have q5 := World.cell?_setCells_in w.heap.size [.int .i64 0, .int .i64 0, .string ⟨#[]⟩, .string ⟨#[]⟩, .string ⟨#[]⟩, .int .i64 0, .int .i64 0, .int .i64 0, .string ⟨#[]⟩, .bool false, .int .i64 0, .int .i64 0] 0 w4 hth 5 (by simp)
    have q6 := World.cell?_setCells_in w.heap.size [.int .i64 0, .int .i64 0, .string ⟨#[]⟩, .string ⟨#[]⟩, .string ⟨#[]⟩, .int .i64 0, .int .i64 0, .int .i64 0, .string ⟨#[]⟩, .bool false, .int .i64 0, .int .i64 0] 0 w4 hth 6 (by simp)
    have q7 := World.cell?_setCells_in w.heap.size [.int .i64 0, .int .i64 0, .string ⟨#[]⟩, .string ⟨#[]⟩, .string ⟨#[]⟩, .int .i64 0, .int .i64 0, .int .i64 0, .string ⟨#[]⟩, .bool false, .int .i64 0, .int .i64 0] 0 w4 hth 7 (by simp)
    have q8 := World.cell?_setCells_in w.heap.size [.int .i64 0, .int .i64 0, .string ⟨#[]⟩, .string ⟨#[]⟩, .string ⟨#[]⟩, .int .i64 0, .int .i64 0, .int .i64 0, .string ⟨#[]⟩, .bool false, .int .i64 0, .int .i64 0] 0 w4 hth 8 (by simp)
    have q9 := World.cell?_setCells_in w.heap.size [.int .i64 0, .int .i64 0, .string ⟨#[]⟩, .string ⟨#[]⟩, .string ⟨#[]⟩, .int .i64 0, .int .i64 0, .int .i64 0, .string ⟨#[]⟩, .bool false, .int .i64 0, .int .i64 0] 0 w4 hth 9 (by simp)
    have q10 := World.cell?_setCells_in w.heap.size [.int .i64 0, .int .i64 0, .string ⟨#[]⟩, .string ⟨#[]⟩, .string ⟨#[]⟩, .int .i64 0, .int .i64 0, .int .i64 0, .string ⟨#[]⟩, .bool false, .int .i64 0, .int .i64 0] 0 w4 hth 10 (by simp)
    have q11 := World.cell?_setCells_in w.heap.size [.int .i64 0, .int .i64 0, .string ⟨#[]⟩, .string ⟨#[]⟩, .string ⟨#[]⟩, .int .i64 0, .int .i64 0, .int .i64 0, .string ⟨#[]⟩, .bool false, .int .i64 0, .int .i64 0] 0 w4 hth 11 (by simp)
    generalize hWW : World.setCell _ ⟨w.heap.size, 11, none⟩ _ = WW
    have hW2 : w4.setCells w.heap.size 0 [.int .i64 0, .int .i64 0, .string ⟨#[]⟩, .string ⟨#[]⟩, .string ⟨#[]⟩, .int .i64 0, .int .i64 0, .int .i64 0, .string ⟨#[]⟩, .bool false, .int .i64 0, .int .i64 0] = WW := hWW
    have HB5 : Hid (Below w.heap.size w WW) := by rw [← hW2]; exact HBF.out
    rw [hW2] at q0 q1 q2 q3 q4 q5 q6 q7 q8 q9 q10 q11
    simp only [Nat.zero_add, List.getElem_cons_zero, List.getElem_cons_succ] at q0 q1 q2 q3 q4 q5 q6 q7 q8 q9 q10 q11
    exact bodyPost_ret (v := .tuple #[.agg #[.int .i64 0, .int .i64 0, .string ⟨#[]⟩, .string ⟨#[]⟩, .string ⟨#[]⟩, .int .i64 0, .int .i64 0, .int .i64 0, .string ⟨#[]⟩, .bool false, .int .i64 0, .int .i64 0], .iface 47 (.int .i64 3)]) (by simp [results, Tryz.results59, go_sem, q0, q1, q2, q3, q4, q5, q6, q7, q8, q9, q10, q11]) rfl ⟨.inr ⟨HNS.out, rfl⟩, HB5.out⟩
end Go.Proofs.YtlailakofhenkabGreatDoor

namespace Go.Proofs.YtlailakofhenkabGreatDoor
open Go.RowKit Sip
theorem rotl_any (x : Int) (k : Int) (w : World) (k0 : 0 < k) (k1 : k < 64):
    Calls Tryz.prog 218 #[.int .u64 x, .int .i64 k] w fun e w' => e = .returned (.int .u64 (rl x k)) ∧ w' = w := by
  have hk := and63 k k0 k1
  go_enter Tryz.func218, Tryz.ntmps218
  go_wp2
  go_ret
  exact ⟨rfl, rfl⟩
theorem rotl4 (x : Int) (w : World) : Calls Tryz.prog 218 #[.int .u64 x, .int .i64 4] w fun e w' => e = .returned (.int .u64 (rl x 4)) ∧ w' = w := rotl_any x 4 w (by decide) (by decide)
theorem rotl13 (x : Int) (w : World) : Calls Tryz.prog 218 #[.int .u64 x, .int .i64 13] w fun e w' => e = .returned (.int .u64 (rl x 13)) ∧ w' = w := rotl_any x 13 w (by decide) (by decide)
theorem rotl16 (x : Int) (w : World) : Calls Tryz.prog 218 #[.int .u64 x, .int .i64 16] w fun e w' => e = .returned (.int .u64 (rl x 16)) ∧ w' = w := rotl_any x 16 w (by decide) (by decide)
theorem rotl17 (x : Int) (w : World) : Calls Tryz.prog 218 #[.int .u64 x, .int .i64 17] w fun e w' => e = .returned (.int .u64 (rl x 17)) ∧ w' = w := rotl_any x 17 w (by decide) (by decide)
theorem rotl21 (x : Int) (w : World) : Calls Tryz.prog 218 #[.int .u64 x, .int .i64 21] w fun e w' => e = .returned (.int .u64 (rl x 21)) ∧ w' = w := rotl_any x 21 w (by decide) (by decide)
theorem rotl32 (x : Int) (w : World) : Calls Tryz.prog 218 #[.int .u64 x, .int .i64 32] w fun e w' => e = .returned (.int .u64 (rl x 32)) ∧ w' = w := rotl_any x 32 w (by decide) (by decide)
structure IsSt (w : World) (g : Nat) (s : St) : Prop where
  a : w.cell? ⟨g, 0, none⟩ = some (.int .u64 s.a)
  b : w.cell? ⟨g, 1, none⟩ = some (.int .u64 s.b)
  c : w.cell? ⟨g, 2, none⟩ = some (.int .u64 s.c)
  d : w.cell? ⟨g, 3, none⟩ = some (.int .u64 s.d)
  fa : w.frozen? ⟨g, 0, none⟩ = false
  fb : w.frozen? ⟨g, 1, none⟩ = false
  fc : w.frozen? ⟨g, 2, none⟩ = false
  fd : w.frozen? ⟨g, 3, none⟩ = false
theorem IsSt.drew {w : World} {g : Nat} {s : St} (h : IsSt w g s) : IsSt w.drew g s := ⟨h.a, h.b, h.c, h.d, h.fa, h.fb, h.fc, h.fd⟩
theorem IsSt.setA {w : World} {g : Nat} {s : St} (h : IsSt w g s) (x : Int) : IsSt (w.setCell ⟨g, 0, none⟩ (.int .u64 x)) g ⟨x, s.b, s.c, s.d⟩ := by
  obtain ⟨ha, hb, hc, hd, fa, fb, fc, fd⟩ := h
  constructor <;> go_simp
theorem IsSt.setB {w : World} {g : Nat} {s : St} (h : IsSt w g s) (x : Int) : IsSt (w.setCell ⟨g, 1, none⟩ (.int .u64 x)) g ⟨s.a, x, s.c, s.d⟩ := by
  obtain ⟨ha, hb, hc, hd, fa, fb, fc, fd⟩ := h
  constructor <;> go_simp
theorem IsSt.setC {w : World} {g : Nat} {s : St} (h : IsSt w g s) (x : Int) : IsSt (w.setCell ⟨g, 2, none⟩ (.int .u64 x)) g ⟨s.a, s.b, x, s.d⟩ := by
  obtain ⟨ha, hb, hc, hd, fa, fb, fc, fd⟩ := h
  constructor <;> go_simp
theorem IsSt.setD {w : World} {g : Nat} {s : St} (h : IsSt w g s) (x : Int) : IsSt (w.setCell ⟨g, 3, none⟩ (.int .u64 x)) g ⟨s.a, s.b, s.c, x⟩ := by
  obtain ⟨ha, hb, hc, hd, fa, fb, fc, fd⟩ := h
  constructor <;> go_simp
set_option maxRecDepth 100000 in
set_option maxHeartbeats 2000000 in
theorem rounds_any (s : St) (g n B : Nat) (hB : B ≤ g) (w : World) (hn : n < 100) (h : IsSt w g s) :
    Calls Tryz.prog 287 #[.pointer (some ⟨g, 0, none⟩), .int .i64 n] w fun e w' => e = .returned (.tuple #[]) ∧ IsSt w' g (rnds n s) ∧ Below B w w' := by
  go_enter Tryz.func287, Tryz.ntmps287
  go_wp2
  go_loopg [5] n (fun gg i wr => ∃ k : Nat, k ≤ n ∧ gg = n - k ∧ i = .int .i64 k ∧ IsSt wr g (rnds k s) ∧ Below B w wr)
  case atStart => exact ⟨0, Nat.zero_le _, rfl, rfl, h, Below.refl _ _⟩
  case round =>
    obtain ⟨k, hk, hgk, rfl, hst, hb⟩ := hrel
    have HG : Hid (gk = n - k) := hgk
    clear hgk
    have HR : Hid (rnd (rnds k s) = rnds (k + 1) s) := rfl
    generalize hq : rnds k s = q at *
    have HQ : Hid (rnds k s = q) := hq
    clear hq
    obtain ⟨a, b, c, d⟩ := q
    obtain ⟨ha, hbb, hc, hd, fa, fb, fc, fd⟩ := hst
    dsimp only at ha hbb hc hd
    by_cases hlt : k < n
    · go_wp2
      go_cut [] from 6 to 119 (fun wx => IsSt wx g ⟨(ad a b), b, c, d⟩ ∧ Below B w wx)
      case first =>
        go_region
        all_goals (go_wp2_with fail; go_meet)
        all_goals exact ⟨((⟨ha, hbb, hc, hd, fa, fb, fc, fd⟩ : IsSt _ g ⟨a, b, c, d⟩).setA _).drew, (hb.setCell (p := ⟨g, _, none⟩) hB _).drew⟩
      obtain ⟨a1, ha1⟩ : ∃ x, x = ad a b := ⟨_, rfl⟩
      rw [← ha1] at hcut
      have Ha1 : Hid (a1 = ad a b) := ha1
      clear ha1 ha hbb hc hd fa fb fc fd hb
      obtain ⟨⟨ha, hbb, hc, hd, fa, fb, fc, fd⟩, hb⟩ := hcut
      dsimp only at ha hbb hc hd
      go_wp2
      go_cut [] from 6 to 119 (fun wx => IsSt wx g ⟨a1, (xr (rl b 13) a1), c, d⟩ ∧ Below B w wx)
      case first =>
        go_region_with (go_at_call 218; refine (rotl13 _ _).mono ?_; rintro e w' ⟨rfl, rfl⟩)
        all_goals (go_wp2_with fail; go_meet)
        all_goals exact ⟨((⟨ha, hbb, hc, hd, fa, fb, fc, fd⟩ : IsSt _ g ⟨a1, b, c, d⟩).setB _).drew, (hb.setCell (p := ⟨g, _, none⟩) hB _).drew⟩
      obtain ⟨b1, hb1⟩ : ∃ x, x = xr (rl b 13) a1 := ⟨_, rfl⟩
      rw [← hb1] at hcut
      have Hb1 : Hid (b1 = xr (rl b 13) a1) := hb1
      clear hb1 ha hbb hc hd fa fb fc fd hb
      obtain ⟨⟨ha, hbb, hc, hd, fa, fb, fc, fd⟩, hb⟩ := hcut
      dsimp only at ha hbb hc hd
      go_upto_region 4 with fail
      go_cut [] from 6 to 119 (fun wx => IsSt wx g ⟨(rl a1 32), b1, c, d⟩ ∧ Below B w wx)
      case first =>
        go_wp2_with (go_at_call 218; refine (rotl32 _ _).mono ?_; rintro e w' ⟨rfl, rfl⟩)
        all_goals (go_wp2_with fail; go_meet)
        all_goals exact ⟨((⟨ha, hbb, hc, hd, fa, fb, fc, fd⟩ : IsSt _ g ⟨a1, b1, c, d⟩).setA _), (hb.setCell (p := ⟨g, _, none⟩) hB _)⟩
      obtain ⟨a2, ha2⟩ : ∃ x, x = rl a1 32 := ⟨_, rfl⟩
      rw [← ha2] at hcut
      have Ha2 : Hid (a2 = rl a1 32) := ha2
      clear ha2 ha hbb hc hd fa fb fc fd hb
      obtain ⟨⟨ha, hbb, hc, hd, fa, fb, fc, fd⟩, hb⟩ := hcut
      dsimp only at ha hbb hc hd
      go_wp2
      go_cut [] from 6 to 119 (fun wx => IsSt wx g ⟨a2, b1, (ad c d), d⟩ ∧ Below B w wx)
      case first =>
        go_region
        all_goals (go_wp2_with fail; go_meet)
        all_goals exact ⟨((⟨ha, hbb, hc, hd, fa, fb, fc, fd⟩ : IsSt _ g ⟨a2, b1, c, d⟩).setC _).drew, (hb.setCell (p := ⟨g, _, none⟩) hB _).drew⟩
      obtain ⟨c1, hc1⟩ : ∃ x, x = ad c d := ⟨_, rfl⟩
      rw [← hc1] at hcut
      have Hc1 : Hid (c1 = ad c d) := hc1
      clear hc1 ha hbb hc hd fa fb fc fd hb
      obtain ⟨⟨ha, hbb, hc, hd, fa, fb, fc, fd⟩, hb⟩ := hcut
      dsimp only at ha hbb hc hd
      go_wp2
      go_cut [] from 6 to 119 (fun wx => IsSt wx g ⟨a2, b1, c1, (xr (rl d 16) c1)⟩ ∧ Below B w wx)
      case first =>
        go_region_with (go_at_call 218; refine (rotl16 _ _).mono ?_; rintro e w' ⟨rfl, rfl⟩)
        all_goals (go_wp2_with fail; go_meet)
        all_goals exact ⟨((⟨ha, hbb, hc, hd, fa, fb, fc, fd⟩ : IsSt _ g ⟨a2, b1, c1, d⟩).setD _).drew, (hb.setCell (p := ⟨g, _, none⟩) hB _).drew⟩
      obtain ⟨d1, hd1⟩ : ∃ x, x = xr (rl d 16) c1 := ⟨_, rfl⟩
      rw [← hd1] at hcut
      have Hd1 : Hid (d1 = xr (rl d 16) c1) := hd1
      clear hd1 ha hbb hc hd fa fb fc fd hb
      obtain ⟨⟨ha, hbb, hc, hd, fa, fb, fc, fd⟩, hb⟩ := hcut
      dsimp only at ha hbb hc hd
      go_wp2
      go_cut [] from 6 to 119 (fun wx => IsSt wx g ⟨(ad a2 d1), b1, c1, d1⟩ ∧ Below B w wx)
      case first =>
        go_region
        all_goals (go_wp2_with fail; go_meet)
        all_goals exact ⟨((⟨ha, hbb, hc, hd, fa, fb, fc, fd⟩ : IsSt _ g ⟨a2, b1, c1, d1⟩).setA _).drew, (hb.setCell (p := ⟨g, _, none⟩) hB _).drew⟩
      obtain ⟨a3, ha3⟩ : ∃ x, x = ad a2 d1 := ⟨_, rfl⟩
      rw [← ha3] at hcut
      have Ha3 : Hid (a3 = ad a2 d1) := ha3
      clear ha3 ha hbb hc hd fa fb fc fd hb
      obtain ⟨⟨ha, hbb, hc, hd, fa, fb, fc, fd⟩, hb⟩ := hcut
      dsimp only at ha hbb hc hd
      go_wp2
      go_cut [] from 6 to 119 (fun wx => IsSt wx g ⟨a3, b1, c1, (xr (rl d1 21) a3)⟩ ∧ Below B w wx)
      case first =>
        go_region_with (go_at_call 218; refine (rotl21 _ _).mono ?_; rintro e w' ⟨rfl, rfl⟩)
        all_goals (go_wp2_with fail; go_meet)
        all_goals exact ⟨((⟨ha, hbb, hc, hd, fa, fb, fc, fd⟩ : IsSt _ g ⟨a3, b1, c1, d1⟩).setD _).drew, (hb.setCell (p := ⟨g, _, none⟩) hB _).drew⟩
      obtain ⟨d2, hd2⟩ : ∃ x, x = xr (rl d1 21) a3 := ⟨_, rfl⟩
      rw [← hd2] at hcut
      have Hd2 : Hid (d2 = xr (rl d1 21) a3) := hd2
      clear hd2 ha hbb hc hd fa fb fc fd hb
      obtain ⟨⟨ha, hbb, hc, hd, fa, fb, fc, fd⟩, hb⟩ := hcut
      dsimp only at ha hbb hc hd
      go_wp2
      go_cut [] from 6 to 119 (fun wx => IsSt wx g ⟨a3, b1, (ad c1 b1), d2⟩ ∧ Below B w wx)
      case first =>
        go_region
        all_goals (go_wp2_with fail; go_meet)
        all_goals exact ⟨((⟨ha, hbb, hc, hd, fa, fb, fc, fd⟩ : IsSt _ g ⟨a3, b1, c1, d2⟩).setC _).drew, (hb.setCell (p := ⟨g, _, none⟩) hB _).drew⟩
      obtain ⟨c2, hc2⟩ : ∃ x, x = ad c1 b1 := ⟨_, rfl⟩
      rw [← hc2] at hcut
      have Hc2 : Hid (c2 = ad c1 b1) := hc2
      clear hc2 ha hbb hc hd fa fb fc fd hb
      obtain ⟨⟨ha, hbb, hc, hd, fa, fb, fc, fd⟩, hb⟩ := hcut
      dsimp only at ha hbb hc hd
      go_wp2
      go_cut [] from 6 to 119 (fun wx => IsSt wx g ⟨a3, (xr (rl b1 17) c2), c2, d2⟩ ∧ Below B w wx)
      case first =>
        go_region_with (go_at_call 218; refine (rotl17 _ _).mono ?_; rintro e w' ⟨rfl, rfl⟩)
        all_goals (go_wp2_with fail; go_meet)
        all_goals exact ⟨((⟨ha, hbb, hc, hd, fa, fb, fc, fd⟩ : IsSt _ g ⟨a3, b1, c2, d2⟩).setB _).drew, (hb.setCell (p := ⟨g, _, none⟩) hB _).drew⟩
      obtain ⟨b2, hb2⟩ : ∃ x, x = xr (rl b1 17) c2 := ⟨_, rfl⟩
      rw [← hb2] at hcut
      have Hb2 : Hid (b2 = xr (rl b1 17) c2) := hb2
      clear hb2 ha hbb hc hd fa fb fc fd hb
      obtain ⟨⟨ha, hbb, hc, hd, fa, fb, fc, fd⟩, hb⟩ := hcut
      dsimp only at ha hbb hc hd
      go_wp2_with (go_at_call 218; refine (rotl32 _ _).mono ?_; rintro e w' ⟨rfl, rfl⟩)
      go_roundg (n - (k + 1))
      case measure => have := HG.out; omega
      case rel =>
        refine ⟨k + 1, by omega, rfl, by go_num, ?_, (hb.setCell (p := ⟨g, _, none⟩) hB _)⟩
        rw [← HR.out]
        have hE : rnd ⟨a, b, c, d⟩ = ⟨a3, b2, rl c2 32, d2⟩ := by
          rw [Hb2.out, Hc2.out, Hd2.out, Ha3.out, Hd1.out, Hc1.out, Ha2.out, Hb1.out, Ha1.out]; rfl
        rw [hE]
        exact (⟨ha, hbb, hc, hd, fa, fb, fc, fd⟩ : IsSt _ g ⟨a3, b2, c2, d2⟩).setC _
    · obtain rfl : k = n := by omega
      go_wp2
      go_end0
      exact ⟨rfl, by rw [HQ.out]; exact ⟨ha, hbb, hc, hd, fa, fb, fc, fd⟩, hb⟩
end Go.Proofs.YtlailakofhenkabGreatDoor

namespace Go.Proofs.YtlailakofhenkabGreatDoor
open Go.RowKit Sip
def St.val (s : St) : Value := .agg #[.int .u64 s.a, .int .u64 s.b, .int .u64 s.c, .int .u64 s.d]
end Go.Proofs.YtlailakofhenkabGreatDoor

namespace Go.Proofs.YtlailakofhenkabGreatDoor
namespace Sip
def fin (top : Nat) : Nat → St → List UInt8 → Int
  | 0, q, l => close (eatS q ((le l + top * 256 ^ 7 : Nat) : Int))
  | f + 1, q, l => if 8 ≤ l.length then fin top f (eatS q (le (l.take 8))) (l.drop 8) else close (eatS q ((le l + top * 256 ^ 7 : Nat) : Int))
def sip (k0 k1 : Int) (l : List UInt8) : Int := fin (l.length % 256) l.length (start k0 k1) l
theorem top_step (l : List UInt8) (n : Nat) (h : l.length ≤ 7) :
    bits .or .u64 (le l : Int) (IntKind.u64.wrap ((n : Int) * 72057594037927936)) = ((le l + n % 256 * 256 ^ 7 : Nat) : Int) := by
  have h1 : le l < 256 ^ 7 := Nat.lt_of_lt_of_le (le_lt l) (Nat.pow_le_pow_right (by decide) h)
  have e1 : IntKind.u64.wrap ((n : Int) * 72057594037927936) = ((n % 256 * 256 ^ 7 : Nat) : Int) := by rw [IntKind.wrap_u64]; omega
  rw [e1, bits_or_nat _ _ (by omega) (by omega), or_disjoint _ _ _ h1]
end Sip
end Go.Proofs.YtlailakofhenkabGreatDoor

namespace Go.Proofs.YtlailakofhenkabGreatDoor
open Go.RowKit Sip
def bs (l : List UInt8) : List Value := l.map fun b => .int .u8 (b.toNat : Int)
theorem IsSt.below {B : Nat} {w w' : World} {g : Nat} {s : St} (h : IsSt w g s) (hb : Below B w w') (hg : g < B) : IsSt w' g s :=
  ⟨(hb.cell (p := ⟨g, 0, none⟩) hg).trans h.a, (hb.cell (p := ⟨g, 1, none⟩) hg).trans h.b, (hb.cell (p := ⟨g, 2, none⟩) hg).trans h.c, (hb.cell (p := ⟨g, 3, none⟩) hg).trans h.d,
   (hb.frozen (p := ⟨g, 0, none⟩) hg).trans h.fa, (hb.frozen (p := ⟨g, 1, none⟩) hg).trans h.fb, (hb.frozen (p := ⟨g, 2, none⟩) hg).trans h.fc, (hb.frozen (p := ⟨g, 3, none⟩) hg).trans h.fd⟩
end Go.Proofs.YtlailakofhenkabGreatDoor
