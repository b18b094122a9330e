/-
  Own texts put together: EvReadE, EvRLaw.
-/
import Derived.Test.YtlailakofhenkaaGreatDoorB10
import Derived.Test.YtlailakofhenkaaGreatDoorB12
import Derived.Test.YtlailakofhenkaaGreatDoorB14
/-
  An event of a text, as the program reads it.
-/

namespace Go.Proofs.YtlailakofhenkaaGreatDoor
open Go Go.RowKit Tok Sc Ev
--%need c:Tryz.strings_SplitN
theorem words_of (s : ByteArray) (hs : s.size ≤ 5000) :
    (Lib.splitB ⟨#[32]⟩ 0 (min 10 (s.size + 1) - 1) s).map (·.data.toList) = Lib.splitK [32] 0 (min 10 (s.data.toList.length + 1) - 1) s.data.toList ∧
    0 < (Lib.splitB ⟨#[32]⟩ 0 (min 10 (s.size + 1) - 1) s).length ∧ (Lib.splitB ⟨#[32]⟩ 0 (min 10 (s.size + 1) - 1) s).length ≤ 5000 ∧
    ∀ x ∈ Lib.splitB ⟨#[32]⟩ 0 (min 10 (s.size + 1) - 1) s, x.size ≤ 5000 := by
  have h1 := Lib.splitB_data ⟨#[32]⟩ 0 (min 10 (s.size + 1) - 1) s
  rw [show (⟨#[32]⟩ : ByteArray).data.toList = [32] from rfl] at h1
  have hl : s.data.toList.length = s.size := Array.length_toList
  have h2 := Lib.splitB_length_le ⟨#[32]⟩ 0 (min 10 (s.size + 1) - 1) s
  refine ⟨by rw [hl]; exact h1, ?_, by omega, fun x hx => ?_⟩
  · have := splitK_pos 32 (min 10 (s.size + 1) - 1) s.data.toList
    rw [← h1, List.length_map] at this
    exact this
  · have := splitK_len 32 (min 10 (s.size + 1) - 1) s.data.toList x.data.toList (by rw [← h1]; exact List.mem_map.2 ⟨x, hx, rfl⟩)
    have h3 : x.data.toList.length = x.size := Array.length_toList
    omega
/-- What a text is read as: the event whose line it is, or none. -/
def ReadAs (s : ByteArray) (r : Ending) : Prop := (∃ e, Ev.may e ∧ s = bs8 (line e) ∧ r = .returned (.tuple #[evV e, .nilIface])) ∨ ((∀ e, Ev.may e → s ≠ bs8 (line e)) ∧ r = .returned (.tuple #[evV zeroE, .iface 26 (.int .i64 3)]))
set_option maxRecDepth 100000 in
set_option maxHeartbeats 8000000 in
theorem readE_is (s : ByteArray) (w : World) (hs : s.size ≤ 5000) (hL : LibsA w) : Calls Tryz.prog 20 #[.string s] w fun r w' => ReadAs s r ∧ Below w.heap.size w w' := by
  obtain ⟨m, hm⟩ := hL.base.len
  have HL : Hid (LibsA w) := hL
  obtain ⟨hp1, hp2, hp3, hp4⟩ := words_of s hs
  have hm1 := Lib.cell?_alloc_some (.cells #[.int .i64 0, .int .i64 0, .string ⟨#[]⟩, .string ⟨#[]⟩, .string ⟨#[]⟩, .int .i64 0, .int .i64 0, .int .i64 0, .string ⟨#[]⟩, .bool false, .int .i64 0, .int .i64 0] 40) hm
  have hsp := Tryz.strings_SplitN s ⟨#[32]⟩ 10 m _ (by omega) hm1 (by decide) (by decide) (by decide)
  generalize hP : Lib.splitB ⟨#[32]⟩ 0 (min 10 (s.size + 1) - 1) s = ps at *
  have HP : Hid (ps.map (·.data.toList) = Lib.splitK [32] 0 (min 10 (s.data.toList.length + 1) - 1) s.data.toList) := hp1
  generalize min 10 (s.size + 1) = N at *
  have HOW : Hid (∀ (g c : Nat) (W : World), WordsAt W g ps → LibsA W → Calls Tryz.prog 63 #[.slice (some ⟨g, 0, none⟩) ps.length c] W fun r w' => ∃ e, r = .returned (evV e) ∧ ToldW ps e ∧ Small 5000 e.fam ∧ Below W.heap.size W w') := fun g c W h1 h2 => ofWords_is ps g c W hp2 hp3 hp4 h1 h2
  have HS : Hid (s.size ≤ 5000) := hs
  clear hp1 hP hL hp2 hp3 hp4 hs
  go_enter Tryz.func20, Tryz.ntmps20
  go_wp2_with fail
  refine hsp.mono ?_
  rintro e w1 ⟨rfl, rfl⟩
  clear hsp hm1 hm
  have hwa := wordsAt_cellsOf (w.alloc (.cells #[.int .i64 0, .int .i64 0, .string ⟨#[]⟩, .string ⟨#[]⟩, .string ⟨#[]⟩, .int .i64 0, .int .i64 0, .int .i64 0, .string ⟨#[]⟩, .bool false, .int .i64 0, .int .i64 0] 40)) ps N 9
  rw [show ((w.alloc (.cells #[.int .i64 0, .int .i64 0, .string ⟨#[]⟩, .string ⟨#[]⟩, .string ⟨#[]⟩, .int .i64 0, .int .i64 0, .int .i64 0, .string ⟨#[]⟩, .bool false, .int .i64 0, .int .i64 0] 40)) : World).heap.size = w.heap.size + 1 by simp] at hwa
  have HB1 : Hid (Below w.heap.size w ((w.alloc (.cells #[.int .i64 0, .int .i64 0, .string ⟨#[]⟩, .string ⟨#[]⟩, .string ⟨#[]⟩, .int .i64 0, .int .i64 0, .int .i64 0, .string ⟨#[]⟩, .bool false, .int .i64 0, .int .i64 0] 40)).alloc (.cells (Lib.cellsOf ps N) 9))) := ((Below.refl _ _).alloc (Nat.le_refl _) _).alloc (by simp) _
  have hL1 := HL.out.below HB1.out
  have hbx : EvAt ((w.alloc (.cells #[.int .i64 0, .int .i64 0, .string ⟨#[]⟩, .string ⟨#[]⟩, .string ⟨#[]⟩, .int .i64 0, .int .i64 0, .int .i64 0, .string ⟨#[]⟩, .bool false, .int .i64 0, .int .i64 0] 40)).alloc (.cells (Lib.cellsOf ps N) 9)) w.heap.size zeroE := (evAt_made w zeroE 40 _ rfl).on ((Below.refl _ _).alloc (Nat.le_refl _) _)
  have hfz : ∀ i, ((w.alloc (.cells #[.int .i64 0, .int .i64 0, .string ⟨#[]⟩, .string ⟨#[]⟩, .string ⟨#[]⟩, .int .i64 0, .int .i64 0, .int .i64 0, .string ⟨#[]⟩, .bool false, .int .i64 0, .int .i64 0] 40)).alloc (.cells (Lib.cellsOf ps N) 9)).frozen? ⟨w.heap.size, i, none⟩ = false := fun i => (((Below.refl _ _).alloc (Nat.le_refl _) _).frozen (p := ⟨w.heap.size, i, none⟩) (by simp)).trans (World.frozen?_alloc_at _ _ _ _ rfl)
  have how := HOW.out _ N _ hwa hL1
  clear hwa hL1
  go_wp2_with fail
  refine how.mono ?_
  rintro e2 w2 ⟨e, rfl, ht, hsm, hb2⟩
  have HB2 : Hid (Below w.heap.size w w2) := HB1.out.trans (hb2.mono HB1.out.size)
  have HT : Hid (ToldW ps e) := ht
  have HZ2 : Hid (EvAt w2 w.heap.size zeroE) := hbx.on hb2
  have HF2 : Hid (∀ i, w2.frozen? ⟨w.heap.size, i, none⟩ = false) := fun i => (hb2.frozen (p := ⟨w.heap.size, i, none⟩) hbx.lt).trans (hfz i)
  have hE0 : EvAt (w2.alloc (.cells #[.int .i64 e.kind, .int .i64 e.fam.id, .string e.fam.client, .string e.fam.subject, .string e.fam.scope, .int .i64 e.fam.gen, .int .i64 e.fam.made, .int .i64 e.fam.used, .string e.fam.request, .bool e.fam.dead, .int .i64 e.id, .int .i64 e.time] 40)) w2.heap.size e := evAt_made w2 e 40 _ rfl
  have HB3 : Hid (Below w.heap.size w (w2.alloc (.cells #[.int .i64 e.kind, .int .i64 e.fam.id, .string e.fam.client, .string e.fam.subject, .string e.fam.scope, .int .i64 e.fam.gen, .int .i64 e.fam.made, .int .i64 e.fam.used, .string e.fam.request, .bool e.fam.dead, .int .i64 e.id, .int .i64 e.time] 40))) := HB2.out.alloc HB2.out.size _
  have hL3 := HL.out.below HB3.out
  clear how hbx hfz ht hb2
  by_cases hm : Ev.may e
  · have hwr := writeE_yes e _ hm hsm hL3.base
    have HM : Hid (Ev.may e) := hm
    have HE0 : Hid _ := hE0
    have HSM : Hid (Small 5000 e.fam) := hsm
    clear hm hL3 hE0 hsm
    obtain ⟨k, ⟨f1, f2, f3, f4, f5, f6, f7, f8, f9⟩, i, t⟩ := e
    unfold evV evCs at hwr ⊢
    simp only at hwr ⊢
    go_wp2_with fail
    refine hwr.mono ?_
    rintro e4 w4 ⟨rfl, hb4⟩
    have HE4 : Hid (EvAt w4 w2.heap.size ⟨k, ⟨f1, f2, f3, f4, f5, f6, f7, f8, f9⟩, i, t⟩) := HE0.out.on hb4
    have HB4 : Hid (Below w.heap.size w w4) := HB3.out.trans (hb4.mono HB3.out.size)
    have d0 := HE4.out.c0; have d1 := HE4.out.fam.c0; have d2 := HE4.out.fam.c1; have d3 := HE4.out.fam.c2; have d4 := HE4.out.fam.c3; have d5 := HE4.out.fam.c4; have d6 := HE4.out.fam.c5; have d7 := HE4.out.fam.c6; have d8 := HE4.out.fam.c7; have d9 := HE4.out.fam.c8; have d10 := HE4.out.c10; have d11 := HE4.out.c11
    simp only at d0 d1 d2 d3 d4 d5 d6 d7 d8 d9 d10 d11
    have hz4 := (HZ2.out.on ((Below.refl _ _).alloc (Nat.le_refl _) _)).on hb4
    have fz : ∀ i, w4.frozen? ⟨w.heap.size, i, none⟩ = false := fun i => ((hb4.frozen (p := ⟨w.heap.size, i, none⟩) (by have := HZ2.out.lt; simp; omega)).trans (((Below.refl _ _).alloc (Nat.le_refl _) _).frozen (p := ⟨w.heap.size, i, none⟩) HZ2.out.lt)).trans (HF2.out i)
    have c0 := hz4.c0; have c1 := hz4.fam.c0; have c2 := hz4.fam.c1; have c3 := hz4.fam.c2; have c4 := hz4.fam.c3; have c5 := hz4.fam.c4; have c6 := hz4.fam.c5; have c7 := hz4.fam.c6; have c8 := hz4.fam.c7; have c9 := hz4.fam.c8; have c10 := hz4.c10; have c11 := hz4.c11
    simp only [zeroE, zeroF] at c0 c1 c2 c3 c4 c5 c6 c7 c8 c9 c10 c11
    have HTH : Hid (∀ j, j < 12 → (w4.cell? ⟨w.heap.size, 0 + j, none⟩).isSome = true) := by
      show ∀ j, j < 12 → (w4.cell? ⟨w.heap.size, 0 + j, none⟩).isSome = true
      intro j hj
      rw [Nat.zero_add]
      match j, hj with
      | 0, _ => rw [c0]; rfl
      | 1, _ => rw [c1]; rfl
      | 2, _ => rw [c2]; rfl
      | 3, _ => rw [c3]; rfl
      | 4, _ => rw [c4]; rfl
      | 5, _ => rw [c5]; rfl
      | 6, _ => rw [c6]; rfl
      | 7, _ => rw [c7]; rfl
      | 8, _ => rw [c8]; rfl
      | 9, _ => rw [c9]; rfl
      | 10, _ => rw [c10]; rfl
      | 11, _ => rw [c11]; rfl
    clear hz4
    clear hwr hb4
    generalize hx : bs8 (line ⟨k, ⟨f1, f2, f3, f4, f5, f6, f7, f8, f9⟩, i, t⟩) = x at *
    by_cases hxs : x = s
    · subst hxs
      go_wp2_with fail
      have hth : ∀ j, j < ([.int .i64 k, .int .i64 f1, .string f2, .string f3, .string f4, .int .i64 f5, .int .i64 f6, .int .i64 f7, .string f8, .bool f9, .int .i64 i, .int .i64 t] : List Value).length → (w4.cell? ⟨w.heap.size, 0 + j, none⟩).isSome = true := HTH.out
      have HBF : Hid (Below w.heap.size w (w4.setCells w.heap.size 0 [.int .i64 k, .int .i64 f1, .string f2, .string f3, .string f4, .int .i64 f5, .int .i64 f6, .int .i64 f7, .string f8, .bool f9, .int .i64 i, .int .i64 t])) := HB4.out.trans (below_setCellsW (Nat.le_refl _) _ 0 w4)
      have q0 := World.cell?_setCells_in w.heap.size [.int .i64 k, .int .i64 f1, .string f2, .string f3, .string f4, .int .i64 f5, .int .i64 f6, .int .i64 f7, .string f8, .bool f9, .int .i64 i, .int .i64 t] 0 w4 hth 0 (by simp)
      have q1 := World.cell?_setCells_in w.heap.size [.int .i64 k, .int .i64 f1, .string f2, .string f3, .string f4, .int .i64 f5, .int .i64 f6, .int .i64 f7, .string f8, .bool f9, .int .i64 i, .int .i64 t] 0 w4 hth 1 (by simp)
      have q2 := World.cell?_setCells_in w.heap.size [.int .i64 k, .int .i64 f1, .string f2, .string f3, .string f4, .int .i64 f5, .int .i64 f6, .int .i64 f7, .string f8, .bool f9, .int .i64 i, .int .i64 t] 0 w4 hth 2 (by simp)
      have q3 := World.cell?_setCells_in w.heap.size [.int .i64 k, .int .i64 f1, .string f2, .string f3, .string f4, .int .i64 f5, .int .i64 f6, .int .i64 f7, .string f8, .bool f9, .int .i64 i, .int .i64 t] 0 w4 hth 3 (by simp)
      have q4 := World.cell?_setCells_in w.heap.size [.int .i64 k, .int .i64 f1, .string f2, .string f3, .string f4, .int .i64 f5, .int .i64 f6, .int .i64 f7, .string f8, .bool f9, .int .i64 i, .int .i64 t] 0 w4 hth 4 (by simp)
      have q5 := World.cell?_setCells_in w.heap.size [.int .i64 k, .int .i64 f1, .string f2, .string f3, .string f4, .int .i64 f5, .int .i64 f6, .int .i64 f7, .string f8, .bool f9, .int .i64 i, .int .i64 t] 0 w4 hth 5 (by simp)
      have q6 := World.cell?_setCells_in w.heap.size [.int .i64 k, .int .i64 f1, .string f2, .string f3, .string f4, .int .i64 f5, .int .i64 f6, .int .i64 f7, .string f8, .bool f9, .int .i64 i, .int .i64 t] 0 w4 hth 6 (by simp)
      have q7 := World.cell?_setCells_in w.heap.size [.int .i64 k, .int .i64 f1, .string f2, .string f3, .string f4, .int .i64 f5, .int .i64 f6, .int .i64 f7, .string f8, .bool f9, .int .i64 i, .int .i64 t] 0 w4 hth 7 (by simp)
      have q8 := World.cell?_setCells_in w.heap.size [.int .i64 k, .int .i64 f1, .string f2, .string f3, .string f4, .int .i64 f5, .int .i64 f6, .int .i64 f7, .string f8, .bool f9, .int .i64 i, .int .i64 t] 0 w4 hth 8 (by simp)
      have q9 := World.cell?_setCells_in w.heap.size [.int .i64 k, .int .i64 f1, .string f2, .string f3, .string f4, .int .i64 f5, .int .i64 f6, .int .i64 f7, .string f8, .bool f9, .int .i64 i, .int .i64 t] 0 w4 hth 9 (by simp)
      have q10 := World.cell?_setCells_in w.heap.size [.int .i64 k, .int .i64 f1, .string f2, .string f3, .string f4, .int .i64 f5, .int .i64 f6, .int .i64 f7, .string f8, .bool f9, .int .i64 i, .int .i64 t] 0 w4 hth 10 (by simp)
      have q11 := World.cell?_setCells_in w.heap.size [.int .i64 k, .int .i64 f1, .string f2, .string f3, .string f4, .int .i64 f5, .int .i64 f6, .int .i64 f7, .string f8, .bool f9, .int .i64 i, .int .i64 t] 0 w4 hth 11 (by simp)
      generalize hWW : World.setCell _ ⟨w.heap.size, 11, none⟩ _ = WW
      have hW2 : w4.setCells w.heap.size 0 [.int .i64 k, .int .i64 f1, .string f2, .string f3, .string f4, .int .i64 f5, .int .i64 f6, .int .i64 f7, .string f8, .bool f9, .int .i64 i, .int .i64 t] = WW := hWW
      have HB5 : Hid (Below w.heap.size w WW) := by rw [← hW2]; exact HBF.out
      rw [hW2] at q0 q1 q2 q3 q4 q5 q6 q7 q8 q9 q10 q11
      simp only [Nat.zero_add, List.getElem_cons_zero, List.getElem_cons_succ] at q0 q1 q2 q3 q4 q5 q6 q7 q8 q9 q10 q11
      exact bodyPost_ret (v := .tuple #[.agg #[.int .i64 k, .int .i64 f1, .string f2, .string f3, .string f4, .int .i64 f5, .int .i64 f6, .int .i64 f7, .string f8, .bool f9, .int .i64 i, .int .i64 t], .nilIface]) (by simp [results, Tryz.results20, go_sem, q0, q1, q2, q3, q4, q5, q6, q7, q8, q9, q10, q11]) rfl ⟨.inl ⟨_, HM.out, hx.symm, rfl⟩, HB5.out⟩
    · have HNS : Hid (∀ e', Ev.may e' → s ≠ bs8 (line e')) := fun e' he hs => by
        have h1 : ps.map (·.data.toList) = wordsOf e' := by
          rw [HP.out, hs]
          exact split_line he
        have h2 := HT.out e' he h1
        exact hxs (by rw [← hx, h2, hs])
      have hxb : (x.toList == s.toList) = false := by
        rw [beq_eq_false_iff_ne]
        intro h
        exact hxs (bytes_eq (by rwa [ByteArray.toList_eq, ByteArray.toList_eq] at h))
      go_wp2_with fail
      have hth : ∀ j, j < ([.int .i64 0, .int .i64 0, .string ⟨#[]⟩, .string ⟨#[]⟩, .string ⟨#[]⟩, .int .i64 0, .int .i64 0, .int .i64 0, .string ⟨#[]⟩, .bool false, .int .i64 0, .int .i64 0] : List Value).length → (w4.cell? ⟨w.heap.size, 0 + j, none⟩).isSome = true := HTH.out
      have HBF : Hid (Below w.heap.size w (w4.setCells w.heap.size 0 [.int .i64 0, .int .i64 0, .string ⟨#[]⟩, .string ⟨#[]⟩, .string ⟨#[]⟩, .int .i64 0, .int .i64 0, .int .i64 0, .string ⟨#[]⟩, .bool false, .int .i64 0, .int .i64 0])) := HB4.out.trans (below_setCellsW (Nat.le_refl _) _ 0 w4)
      have q0 := World.cell?_setCells_in w.heap.size [.int .i64 0, .int .i64 0, .string ⟨#[]⟩, .string ⟨#[]⟩, .string ⟨#[]⟩, .int .i64 0, .int .i64 0, .int .i64 0, .string ⟨#[]⟩, .bool false, .int .i64 0, .int .i64 0] 0 w4 hth 0 (by simp)
      have q1 := World.cell?_setCells_in w.heap.size [.int .i64 0, .int .i64 0, .string ⟨#[]⟩, .string ⟨#[]⟩, .string ⟨#[]⟩, .int .i64 0, .int .i64 0, .int .i64 0, .string ⟨#[]⟩, .bool false, .int .i64 0, .int .i64 0] 0 w4 hth 1 (by simp)
      have q2 := World.cell?_setCells_in w.heap.size [.int .i64 0, .int .i64 0, .string ⟨#[]⟩, .string ⟨#[]⟩, .string ⟨#[]⟩, .int .i64 0, .int .i64 0, .int .i64 0, .string ⟨#[]⟩, .bool false, .int .i64 0, .int .i64 0] 0 w4 hth 2 (by simp)
      have q3 := World.cell?_setCells_in w.heap.size [.int .i64 0, .int .i64 0, .string ⟨#[]⟩, .string ⟨#[]⟩, .string ⟨#[]⟩, .int .i64 0, .int .i64 0, .int .i64 0, .string ⟨#[]⟩, .bool false, .int .i64 0, .int .i64 0] 0 w4 hth 3 (by simp)
      have q4 := World.cell?_setCells_in w.heap.size [.int .i64 0, .int .i64 0, .string ⟨#[]⟩, .string ⟨#[]⟩, .string ⟨#[]⟩, .int .i64 0, .int .i64 0, .int .i64 0, .string ⟨#[]⟩, .bool false, .int .i64 0, .int .i64 0] 0 w4 hth 4 (by simp)
      have q5 := World.cell?_setCells_in w.heap.size [.int .i64 0, .int .i64 0, .string ⟨#[]⟩, .string ⟨#[]⟩, .string ⟨#[]⟩, .int .i64 0, .int .i64 0, .int .i64 0, .string ⟨#[]⟩, .bool false, .int .i64 0, .int .i64 0] 0 w4 hth 5 (by simp)
      have q6 := World.cell?_setCells_in w.heap.size [.int .i64 0, .int .i64 0, .string ⟨#[]⟩, .string ⟨#[]⟩, .string ⟨#[]⟩, .int .i64 0, .int .i64 0, .int .i64 0, .string ⟨#[]⟩, .bool false, .int .i64 0, .int .i64 0] 0 w4 hth 6 (by simp)
      have q7 := World.cell?_setCells_in w.heap.size [.int .i64 0, .int .i64 0, .string ⟨#[]⟩, .string ⟨#[]⟩, .string ⟨#[]⟩, .int .i64 0, .int .i64 0, .int .i64 0, .string ⟨#[]⟩, .bool false, .int .i64 0, .int .i64 0] 0 w4 hth 7 (by simp)
      have q8 := World.cell?_setCells_in w.heap.size [.int .i64 0, .int .i64 0, .string ⟨#[]⟩, .string ⟨#[]⟩, .string ⟨#[]⟩, .int .i64 0, .int .i64 0, .int .i64 0, .string ⟨#[]⟩, .bool false, .int .i64 0, .int .i64 0] 0 w4 hth 8 (by simp)
      have q9 := World.cell?_setCells_in w.heap.size [.int .i64 0, .int .i64 0, .string ⟨#[]⟩, .string ⟨#[]⟩, .string ⟨#[]⟩, .int .i64 0, .int .i64 0, .int .i64 0, .string ⟨#[]⟩, .bool false, .int .i64 0, .int .i64 0] 0 w4 hth 9 (by simp)
      have q10 := World.cell?_setCells_in w.heap.size [.int .i64 0, .int .i64 0, .string ⟨#[]⟩, .string ⟨#[]⟩, .string ⟨#[]⟩, .int .i64 0, .int .i64 0, .int .i64 0, .string ⟨#[]⟩, .bool false, .int .i64 0, .int .i64 0] 0 w4 hth 10 (by simp)
      have q11 := World.cell?_setCells_in w.heap.size [.int .i64 0, .int .i64 0, .string ⟨#[]⟩, .string ⟨#[]⟩, .string ⟨#[]⟩, .int .i64 0, .int .i64 0, .int .i64 0, .string ⟨#[]⟩, .bool false, .int .i64 0, .int .i64 0] 0 w4 hth 11 (by simp)
      generalize hWW : World.setCell _ ⟨w.heap.size, 11, none⟩ _ = WW
      have hW2 : w4.setCells w.heap.size 0 [.int .i64 0, .int .i64 0, .string ⟨#[]⟩, .string ⟨#[]⟩, .string ⟨#[]⟩, .int .i64 0, .int .i64 0, .int .i64 0, .string ⟨#[]⟩, .bool false, .int .i64 0, .int .i64 0] = WW := hWW
      have HB5 : Hid (Below w.heap.size w WW) := by rw [← hW2]; exact HBF.out
      rw [hW2] at q0 q1 q2 q3 q4 q5 q6 q7 q8 q9 q10 q11
      simp only [Nat.zero_add, List.getElem_cons_zero, List.getElem_cons_succ] at q0 q1 q2 q3 q4 q5 q6 q7 q8 q9 q10 q11
      exact bodyPost_ret (v := .tuple #[.agg #[.int .i64 0, .int .i64 0, .string ⟨#[]⟩, .string ⟨#[]⟩, .string ⟨#[]⟩, .int .i64 0, .int .i64 0, .int .i64 0, .string ⟨#[]⟩, .bool false, .int .i64 0, .int .i64 0], .iface 26 (.int .i64 3)]) (by simp [results, Tryz.results20, go_sem, q0, q1, q2, q3, q4, q5, q6, q7, q8, q9, q10, q11]) rfl ⟨.inr ⟨HNS.out, rfl⟩, HB5.out⟩
  · have hwr := writeE_no e _ hm hsm hL3.base.len
    have HM : Hid (¬ Ev.may e) := hm
    clear hm hL3 hE0 hsm
    obtain ⟨k, ⟨f1, f2, f3, f4, f5, f6, f7, f8, f9⟩, i, t⟩ := e
    unfold evV evCs at hwr ⊢
    simp only at hwr ⊢
    go_wp2_with fail
    refine hwr.mono ?_
    rintro e4 w4 ⟨rfl, hb4⟩
    have HB4 : Hid (Below w.heap.size w w4) := HB3.out.trans (hb4.mono HB3.out.size)
    have hz4 := (HZ2.out.on ((Below.refl _ _).alloc (Nat.le_refl _) _)).on hb4
    have fz : ∀ i, w4.frozen? ⟨w.heap.size, i, none⟩ = false := fun i => ((hb4.frozen (p := ⟨w.heap.size, i, none⟩) (by have := HZ2.out.lt; simp; omega)).trans (((Below.refl _ _).alloc (Nat.le_refl _) _).frozen (p := ⟨w.heap.size, i, none⟩) HZ2.out.lt)).trans (HF2.out i)
    have c0 := hz4.c0; have c1 := hz4.fam.c0; have c2 := hz4.fam.c1; have c3 := hz4.fam.c2; have c4 := hz4.fam.c3; have c5 := hz4.fam.c4; have c6 := hz4.fam.c5; have c7 := hz4.fam.c6; have c8 := hz4.fam.c7; have c9 := hz4.fam.c8; have c10 := hz4.c10; have c11 := hz4.c11
    simp only [zeroE, zeroF] at c0 c1 c2 c3 c4 c5 c6 c7 c8 c9 c10 c11
    have HTH : Hid (∀ j, j < 12 → (w4.cell? ⟨w.heap.size, 0 + j, none⟩).isSome = true) := by
      show ∀ j, j < 12 → (w4.cell? ⟨w.heap.size, 0 + j, none⟩).isSome = true
      intro j hj
      rw [Nat.zero_add]
      match j, hj with
      | 0, _ => rw [c0]; rfl
      | 1, _ => rw [c1]; rfl
      | 2, _ => rw [c2]; rfl
      | 3, _ => rw [c3]; rfl
      | 4, _ => rw [c4]; rfl
      | 5, _ => rw [c5]; rfl
      | 6, _ => rw [c6]; rfl
      | 7, _ => rw [c7]; rfl
      | 8, _ => rw [c8]; rfl
      | 9, _ => rw [c9]; rfl
      | 10, _ => rw [c10]; rfl
      | 11, _ => rw [c11]; rfl
    clear hz4
    clear hwr hb4
    have HNS : Hid (∀ e', Ev.may e' → s ≠ bs8 (line e')) := fun e' he hs => by
      have h1 : ps.map (·.data.toList) = wordsOf e' := by
        rw [HP.out, hs]
        exact split_line he
      have h2 := HT.out e' he h1
      exact HM.out (h2 ▸ he)
    go_wp2_with fail
    have hth : ∀ j, j < ([.int .i64 0, .int .i64 0, .string ⟨#[]⟩, .string ⟨#[]⟩, .string ⟨#[]⟩, .int .i64 0, .int .i64 0, .int .i64 0, .string ⟨#[]⟩, .bool false, .int .i64 0, .int .i64 0] : List Value).length → (w4.cell? ⟨w.heap.size, 0 + j, none⟩).isSome = true := HTH.out
    have HBF : Hid (Below w.heap.size w (w4.setCells w.heap.size 0 [.int .i64 0, .int .i64 0, .string ⟨#[]⟩, .string ⟨#[]⟩, .string ⟨#[]⟩, .int .i64 0, .int .i64 0, .int .i64 0, .string ⟨#[]⟩, .bool false, .int .i64 0, .int .i64 0])) := HB4.out.trans (below_setCellsW (Nat.le_refl _) _ 0 w4)
    have q0 := World.cell?_setCells_in w.heap.size [.int .i64 0, .int .i64 0, .string ⟨#[]⟩, .string ⟨#[]⟩, .string ⟨#[]⟩, .int .i64 0, .int .i64 0, .int .i64 0, .string ⟨#[]⟩, .bool false, .int .i64 0, .int .i64 0] 0 w4 hth 0 (by simp)
    have q1 := World.cell?_setCells_in w.heap.size [.int .i64 0, .int .i64 0, .string ⟨#[]⟩, .string ⟨#[]⟩, .string ⟨#[]⟩, .int .i64 0, .int .i64 0, .int .i64 0, .string ⟨#[]⟩, .bool false, .int .i64 0, .int .i64 0] 0 w4 hth 1 (by simp)
    have q2 := World.cell?_setCells_in w.heap.size [.int .i64 0, .int .i64 0, .string ⟨#[]⟩, .string ⟨#[]⟩, .string ⟨#[]⟩, .int .i64 0, .int .i64 0, .int .i64 0, .string ⟨#[]⟩, .bool false, .int .i64 0, .int .i64 0] 0 w4 hth 2 (by simp)
    have q3 := World.cell?_setCells_in w.heap.size [.int .i64 0, .int .i64 0, .string ⟨#[]⟩, .string ⟨#[]⟩, .string ⟨#[]⟩, .int .i64 0, .int .i64 0, .int .i64 0, .string ⟨#[]⟩, .bool false, .int .i64 0, .int .i64 0] 0 w4 hth 3 (by simp)
    have q4 := World.cell?_setCells_in w.heap.size [.int .i64 0, .int .i64 0, .string ⟨#[]⟩, .string ⟨#[]⟩, .string ⟨#[]⟩, .int .i64 0, .int .i64 0, .int .i64 0, .string ⟨#[]⟩, .bool false, .int .i64 0, .int .i64 0] 0 w4 hth 4 (by simp)
    have q5 := World.cell?_setCells_in w.heap.size [.int .i64 0, .int .i64 0, .string ⟨#[]⟩, .string ⟨#[]⟩, .string ⟨#[]⟩, .int .i64 0, .int .i64 0, .int .i64 0, .string ⟨#[]⟩, .bool false, .int .i64 0, .int .i64 0] 0 w4 hth 5 (by simp)
    have q6 := World.cell?_setCells_in w.heap.size [.int .i64 0, .int .i64 0, .string ⟨#[]⟩, .string ⟨#[]⟩, .string ⟨#[]⟩, .int .i64 0, .int .i64 0, .int .i64 0, .string ⟨#[]⟩, .bool false, .int .i64 0, .int .i64 0] 0 w4 hth 6 (by simp)
    have q7 := World.cell?_setCells_in w.heap.size [.int .i64 0, .int .i64 0, .string ⟨#[]⟩, .string ⟨#[]⟩, .string ⟨#[]⟩, .int .i64 0, .int .i64 0, .int .i64 0, .string ⟨#[]⟩, .bool false, .int .i64 0, .int .i64 0] 0 w4 hth 7 (by simp)
    have q8 := World.cell?_setCells_in w.heap.size [.int .i64 0, .int .i64 0, .string ⟨#[]⟩, .string ⟨#[]⟩, .string ⟨#[]⟩, .int .i64 0, .int .i64 0, .int .i64 0, .string ⟨#[]⟩, .bool false, .int .i64 0, .int .i64 0] 0 w4 hth 8 (by simp)
    have q9 := World.cell?_setCells_in w.heap.size [.int .i64 0, .int .i64 0, .string ⟨#[]⟩, .string ⟨#[]⟩, .string ⟨#[]⟩, .int .i64 0, .int .i64 0, .int .i64 0, .string ⟨#[]⟩, .bool false, .int .i64 0, .int .i64 0] 0 w4 hth 9 (by simp)
    have q10 := World.cell?_setCells_in w.heap.size [.int .i64 0, .int .i64 0, .string ⟨#[]⟩, .string ⟨#[]⟩, .string ⟨#[]⟩, .int .i64 0, .int .i64 0, .int .i64 0, .string ⟨#[]⟩, .bool false, .int .i64 0, .int .i64 0] 0 w4 hth 10 (by simp)
    have q11 := World.cell?_setCells_in w.heap.size [.int .i64 0, .int .i64 0, .string ⟨#[]⟩, .string ⟨#[]⟩, .string ⟨#[]⟩, .int .i64 0, .int .i64 0, .int .i64 0, .string ⟨#[]⟩, .bool false, .int .i64 0, .int .i64 0] 0 w4 hth 11 (by simp)
    generalize hWW : World.setCell _ ⟨w.heap.size, 11, none⟩ _ = WW
    have hW2 : w4.setCells w.heap.size 0 [.int .i64 0, .int .i64 0, .string ⟨#[]⟩, .string ⟨#[]⟩, .string ⟨#[]⟩, .int .i64 0, .int .i64 0, .int .i64 0, .string ⟨#[]⟩, .bool false, .int .i64 0, .int .i64 0] = WW := hWW
    have HB5 : Hid (Below w.heap.size w WW) := by rw [← hW2]; exact HBF.out
    rw [hW2] at q0 q1 q2 q3 q4 q5 q6 q7 q8 q9 q10 q11
    simp only [Nat.zero_add, List.getElem_cons_zero, List.getElem_cons_succ] at q0 q1 q2 q3 q4 q5 q6 q7 q8 q9 q10 q11
    exact bodyPost_ret (v := .tuple #[.agg #[.int .i64 0, .int .i64 0, .string ⟨#[]⟩, .string ⟨#[]⟩, .string ⟨#[]⟩, .int .i64 0, .int .i64 0, .int .i64 0, .string ⟨#[]⟩, .bool false, .int .i64 0, .int .i64 0], .iface 26 (.int .i64 3)]) (by simp [results, Tryz.results20, go_sem, q0, q1, q2, q3, q4, q5, q6, q7, q8, q9, q10, q11]) rfl ⟨.inr ⟨HNS.out, rfl⟩, HB5.out⟩
end Go.Proofs.YtlailakofhenkaaGreatDoor

/-
  The law EventReads: the event that any line is, or that it is none, is the document's.
-/

namespace Go.Proofs.YtlailakofhenkaaGreatDoor
open Go Go.RowKit Tok Sc Ev
/-- The two events' boxes. -/
structure BW (w0 : World) (a b : Nat) (e : E) (w : World) : Prop where
  ea : EvAt w a e
  eb : EvAt w b e
  err : ErrVar w
  below : Below w0.heap.size w0 w
theorem BW.on {w0 : World} {a b : Nat} {e : E} {w w' : World} (h : BW w0 a b e w) (hb : Below w.heap.size w w') : BW w0 a b e w' := ⟨h.ea.on hb, h.eb.on hb, h.err.on hb, h.below.trans (hb.mono h.below.size)⟩
theorem bw_all {w0 : World} {a b : Nat} {k f1 f5 f6 f7 i t : Int} {f2 f3 f4 f8 : ByteArray} {f9 : Bool} {w : World} (h : BW w0 a b ⟨k, ⟨f1, f2, f3, f4, f5, f6, f7, f8, f9⟩, i, t⟩ w) : (w.cell? ⟨a, 0, none⟩ = some (.int .i64 k) ∧ w.cell? ⟨a, 1, none⟩ = some (.int .i64 f1) ∧ w.cell? ⟨a, 2, none⟩ = some (.string f2) ∧ w.cell? ⟨a, 3, none⟩ = some (.string f3) ∧ w.cell? ⟨a, 4, none⟩ = some (.string f4) ∧ w.cell? ⟨a, 5, none⟩ = some (.int .i64 f5) ∧ w.cell? ⟨a, 6, none⟩ = some (.int .i64 f6) ∧ w.cell? ⟨a, 7, none⟩ = some (.int .i64 f7) ∧ w.cell? ⟨a, 8, none⟩ = some (.string f8) ∧ w.cell? ⟨a, 9, none⟩ = some (.bool f9) ∧ w.cell? ⟨a, 10, none⟩ = some (.int .i64 i) ∧ w.cell? ⟨a, 11, none⟩ = some (.int .i64 t) ∧ w.cell? ⟨b, 0, none⟩ = some (.int .i64 k) ∧ w.cell? ⟨b, 1, none⟩ = some (.int .i64 f1) ∧ w.cell? ⟨b, 2, none⟩ = some (.string f2) ∧ w.cell? ⟨b, 3, none⟩ = some (.string f3) ∧ w.cell? ⟨b, 4, none⟩ = some (.string f4) ∧ w.cell? ⟨b, 5, none⟩ = some (.int .i64 f5) ∧ w.cell? ⟨b, 6, none⟩ = some (.int .i64 f6) ∧ w.cell? ⟨b, 7, none⟩ = some (.int .i64 f7) ∧ w.cell? ⟨b, 8, none⟩ = some (.string f8) ∧ w.cell? ⟨b, 9, none⟩ = some (.bool f9) ∧ w.cell? ⟨b, 10, none⟩ = some (.int .i64 i) ∧ w.cell? ⟨b, 11, none⟩ = some (.int .i64 t) ∧ BW w0 a b ⟨k, ⟨f1, f2, f3, f4, f5, f6, f7, f8, f9⟩, i, t⟩ w) := by
  have x := h.ea
  have y := h.eb
  exact ⟨x.c0, x.fam.c0, x.fam.c1, x.fam.c2, x.fam.c3, x.fam.c4, x.fam.c5, x.fam.c6, x.fam.c7, x.fam.c8, x.c10, x.c11, y.c0, y.fam.c0, y.fam.c1, y.fam.c2, y.fam.c3, y.fam.c4, y.fam.c5, y.fam.c6, y.fam.c7, y.fam.c8, y.c10, y.c11, h⟩
theorem bw_of {w0 : World} {a b : Nat} {k f1 f5 f6 f7 i t : Int} {f2 f3 f4 f8 : ByteArray} {f9 : Bool} {w : World} (h : (w.cell? ⟨a, 0, none⟩ = some (.int .i64 k) ∧ w.cell? ⟨a, 1, none⟩ = some (.int .i64 f1) ∧ w.cell? ⟨a, 2, none⟩ = some (.string f2) ∧ w.cell? ⟨a, 3, none⟩ = some (.string f3) ∧ w.cell? ⟨a, 4, none⟩ = some (.string f4) ∧ w.cell? ⟨a, 5, none⟩ = some (.int .i64 f5) ∧ w.cell? ⟨a, 6, none⟩ = some (.int .i64 f6) ∧ w.cell? ⟨a, 7, none⟩ = some (.int .i64 f7) ∧ w.cell? ⟨a, 8, none⟩ = some (.string f8) ∧ w.cell? ⟨a, 9, none⟩ = some (.bool f9) ∧ w.cell? ⟨a, 10, none⟩ = some (.int .i64 i) ∧ w.cell? ⟨a, 11, none⟩ = some (.int .i64 t) ∧ w.cell? ⟨b, 0, none⟩ = some (.int .i64 k) ∧ w.cell? ⟨b, 1, none⟩ = some (.int .i64 f1) ∧ w.cell? ⟨b, 2, none⟩ = some (.string f2) ∧ w.cell? ⟨b, 3, none⟩ = some (.string f3) ∧ w.cell? ⟨b, 4, none⟩ = some (.string f4) ∧ w.cell? ⟨b, 5, none⟩ = some (.int .i64 f5) ∧ w.cell? ⟨b, 6, none⟩ = some (.int .i64 f6) ∧ w.cell? ⟨b, 7, none⟩ = some (.int .i64 f7) ∧ w.cell? ⟨b, 8, none⟩ = some (.string f8) ∧ w.cell? ⟨b, 9, none⟩ = some (.bool f9) ∧ w.cell? ⟨b, 10, none⟩ = some (.int .i64 i) ∧ w.cell? ⟨b, 11, none⟩ = some (.int .i64 t) ∧ BW w0 a b ⟨k, ⟨f1, f2, f3, f4, f5, f6, f7, f8, f9⟩, i, t⟩ w)) : BW w0 a b ⟨k, ⟨f1, f2, f3, f4, f5, f6, f7, f8, f9⟩, i, t⟩ w := h.2.2.2.2.2.2.2.2.2.2.2.2.2.2.2.2.2.2.2.2.2.2.2.2
theorem bw_drew {w0 : World} {a b : Nat} {k f1 f5 f6 f7 i t : Int} {f2 f3 f4 f8 : ByteArray} {f9 : Bool} {w : World} (h : BW w0 a b ⟨k, ⟨f1, f2, f3, f4, f5, f6, f7, f8, f9⟩, i, t⟩ w) : (w.drew.cell? ⟨a, 0, none⟩ = some (.int .i64 k) ∧ w.drew.cell? ⟨a, 1, none⟩ = some (.int .i64 f1) ∧ w.drew.cell? ⟨a, 2, none⟩ = some (.string f2) ∧ w.drew.cell? ⟨a, 3, none⟩ = some (.string f3) ∧ w.drew.cell? ⟨a, 4, none⟩ = some (.string f4) ∧ w.drew.cell? ⟨a, 5, none⟩ = some (.int .i64 f5) ∧ w.drew.cell? ⟨a, 6, none⟩ = some (.int .i64 f6) ∧ w.drew.cell? ⟨a, 7, none⟩ = some (.int .i64 f7) ∧ w.drew.cell? ⟨a, 8, none⟩ = some (.string f8) ∧ w.drew.cell? ⟨a, 9, none⟩ = some (.bool f9) ∧ w.drew.cell? ⟨a, 10, none⟩ = some (.int .i64 i) ∧ w.drew.cell? ⟨a, 11, none⟩ = some (.int .i64 t) ∧ w.drew.cell? ⟨b, 0, none⟩ = some (.int .i64 k) ∧ w.drew.cell? ⟨b, 1, none⟩ = some (.int .i64 f1) ∧ w.drew.cell? ⟨b, 2, none⟩ = some (.string f2) ∧ w.drew.cell? ⟨b, 3, none⟩ = some (.string f3) ∧ w.drew.cell? ⟨b, 4, none⟩ = some (.string f4) ∧ w.drew.cell? ⟨b, 5, none⟩ = some (.int .i64 f5) ∧ w.drew.cell? ⟨b, 6, none⟩ = some (.int .i64 f6) ∧ w.drew.cell? ⟨b, 7, none⟩ = some (.int .i64 f7) ∧ w.drew.cell? ⟨b, 8, none⟩ = some (.string f8) ∧ w.drew.cell? ⟨b, 9, none⟩ = some (.bool f9) ∧ w.drew.cell? ⟨b, 10, none⟩ = some (.int .i64 i) ∧ w.drew.cell? ⟨b, 11, none⟩ = some (.int .i64 t) ∧ BW w0 a b ⟨k, ⟨f1, f2, f3, f4, f5, f6, f7, f8, f9⟩, i, t⟩ w.drew) := bw_all (h.on (Below.refl _ _).drew)
theorem bw_keep {w0 : World} {a b : Nat} {k f1 f5 f6 f7 i t : Int} {f2 f3 f4 f8 : ByteArray} {f9 : Bool} {w w' : World} (h : (w.cell? ⟨a, 0, none⟩ = some (.int .i64 k) ∧ w.cell? ⟨a, 1, none⟩ = some (.int .i64 f1) ∧ w.cell? ⟨a, 2, none⟩ = some (.string f2) ∧ w.cell? ⟨a, 3, none⟩ = some (.string f3) ∧ w.cell? ⟨a, 4, none⟩ = some (.string f4) ∧ w.cell? ⟨a, 5, none⟩ = some (.int .i64 f5) ∧ w.cell? ⟨a, 6, none⟩ = some (.int .i64 f6) ∧ w.cell? ⟨a, 7, none⟩ = some (.int .i64 f7) ∧ w.cell? ⟨a, 8, none⟩ = some (.string f8) ∧ w.cell? ⟨a, 9, none⟩ = some (.bool f9) ∧ w.cell? ⟨a, 10, none⟩ = some (.int .i64 i) ∧ w.cell? ⟨a, 11, none⟩ = some (.int .i64 t) ∧ w.cell? ⟨b, 0, none⟩ = some (.int .i64 k) ∧ w.cell? ⟨b, 1, none⟩ = some (.int .i64 f1) ∧ w.cell? ⟨b, 2, none⟩ = some (.string f2) ∧ w.cell? ⟨b, 3, none⟩ = some (.string f3) ∧ w.cell? ⟨b, 4, none⟩ = some (.string f4) ∧ w.cell? ⟨b, 5, none⟩ = some (.int .i64 f5) ∧ w.cell? ⟨b, 6, none⟩ = some (.int .i64 f6) ∧ w.cell? ⟨b, 7, none⟩ = some (.int .i64 f7) ∧ w.cell? ⟨b, 8, none⟩ = some (.string f8) ∧ w.cell? ⟨b, 9, none⟩ = some (.bool f9) ∧ w.cell? ⟨b, 10, none⟩ = some (.int .i64 i) ∧ w.cell? ⟨b, 11, none⟩ = some (.int .i64 t) ∧ BW w0 a b ⟨k, ⟨f1, f2, f3, f4, f5, f6, f7, f8, f9⟩, i, t⟩ w)) (hb : Below w.heap.size w w') : (w'.cell? ⟨a, 0, none⟩ = some (.int .i64 k) ∧ w'.cell? ⟨a, 1, none⟩ = some (.int .i64 f1) ∧ w'.cell? ⟨a, 2, none⟩ = some (.string f2) ∧ w'.cell? ⟨a, 3, none⟩ = some (.string f3) ∧ w'.cell? ⟨a, 4, none⟩ = some (.string f4) ∧ w'.cell? ⟨a, 5, none⟩ = some (.int .i64 f5) ∧ w'.cell? ⟨a, 6, none⟩ = some (.int .i64 f6) ∧ w'.cell? ⟨a, 7, none⟩ = some (.int .i64 f7) ∧ w'.cell? ⟨a, 8, none⟩ = some (.string f8) ∧ w'.cell? ⟨a, 9, none⟩ = some (.bool f9) ∧ w'.cell? ⟨a, 10, none⟩ = some (.int .i64 i) ∧ w'.cell? ⟨a, 11, none⟩ = some (.int .i64 t) ∧ w'.cell? ⟨b, 0, none⟩ = some (.int .i64 k) ∧ w'.cell? ⟨b, 1, none⟩ = some (.int .i64 f1) ∧ w'.cell? ⟨b, 2, none⟩ = some (.string f2) ∧ w'.cell? ⟨b, 3, none⟩ = some (.string f3) ∧ w'.cell? ⟨b, 4, none⟩ = some (.string f4) ∧ w'.cell? ⟨b, 5, none⟩ = some (.int .i64 f5) ∧ w'.cell? ⟨b, 6, none⟩ = some (.int .i64 f6) ∧ w'.cell? ⟨b, 7, none⟩ = some (.int .i64 f7) ∧ w'.cell? ⟨b, 8, none⟩ = some (.string f8) ∧ w'.cell? ⟨b, 9, none⟩ = some (.bool f9) ∧ w'.cell? ⟨b, 10, none⟩ = some (.int .i64 i) ∧ w'.cell? ⟨b, 11, none⟩ = some (.int .i64 t) ∧ BW w0 a b ⟨k, ⟨f1, f2, f3, f4, f5, f6, f7, f8, f9⟩, i, t⟩ w') := bw_all ((bw_of h).on hb)
theorem readsBoth (s : ByteArray) (hs : s.size ≤ 5000) : ∃ (e : E) (nq : Nat), (∀ W, LibsA W → Calls Tryz.prog 19 #[.string s] W fun r w' => r = .returned (.tuple #[evV e, .int .i64 (nq : Int)]) ∧ Below W.heap.size W w') ∧ (∀ W, LibsA W → Calls Tryz.prog 20 #[.string s] W fun r w' => r = .returned (.tuple #[evV e, errQ nq]) ∧ Below W.heap.size W w') := by
  by_cases h : ∃ e, Ev.may e ∧ s = bs8 (line e)
  · obtain ⟨e, hm, he⟩ := h
    have hu : ∀ e', Ev.may e' → s = bs8 (line e') → e' = e := fun e' hm' he' => by
      have h1 : line e' = line e := by
        have := congrArg (fun b : ByteArray => b.data.toList) (he'.symm.trans he)
        simpa using this
      exact line_inj hm' hm h1
    refine ⟨e, 0, fun W hW => (refRead_is s W hs hW).mono ?_, fun W hW => (readE_is s W hs hW).mono ?_⟩
    · rintro r w' ⟨h1 | h1, hb⟩
      · obtain ⟨e', hm', hx, rfl⟩ := h1
        rw [hu e' hm' hx]
        exact ⟨rfl, hb⟩
      · exact absurd he (h1.1 e hm)
    · rintro r w' ⟨h1 | h1, hb⟩
      · obtain ⟨e', hm', hx, rfl⟩ := h1
        rw [hu e' hm' hx]
        exact ⟨rfl, hb⟩
      · exact absurd he (h1.1 e hm)
  · refine ⟨zeroE, 3, fun W hW => (refRead_is s W hs hW).mono ?_, fun W hW => (readE_is s W hs hW).mono ?_⟩
    · rintro r w' ⟨h1 | h1, hb⟩
      · obtain ⟨e', hm', hx, rfl⟩ := h1
        exact absurd ⟨e', hm', hx⟩ h
      · exact ⟨h1.2, hb⟩
    · rintro r w' ⟨h1 | h1, hb⟩
      · obtain ⟨e', hm', hx, rfl⟩ := h1
        exact absurd ⟨e', hm', hx⟩ h
      · exact ⟨h1.2, hb⟩
set_option maxRecDepth 100000 in
set_option maxHeartbeats 8000000 in
theorem eventReadsLaw (s : ByteArray) (w : World) (hL : LibsA w) (hE : ErrVar w) : Calls Tryz.prog 5 #[.string s] w fun r w' => r = .returned (.bool true) ∧ Below w.heap.size w w' := by
  have HL : Hid (LibsA w) := hL
  have HE : Hid (ErrVar w) := hE
  clear hL hE
  by_cases hs : s.size ≤ 400
  · have hs' : ¬ (400 : Int) < (s.size : Int) := by omega
    obtain ⟨e, nq, HR, HP⟩ := readsBoth s (by omega)
    have HHA := fun (W : World) => happens_is e W
    have hbq := fun (W : World) (hW : ErrVar W) => bareQ nq W hW
    have HMA : Hid (∀ W : World, EvAt (W.alloc (.cells #[.int .i64 e.kind, .int .i64 e.fam.id, .string e.fam.client, .string e.fam.subject, .string e.fam.scope, .int .i64 e.fam.gen, .int .i64 e.fam.made, .int .i64 e.fam.used, .string e.fam.request, .bool e.fam.dead, .int .i64 e.id, .int .i64 e.time] 44)) W.heap.size e) := fun W => evAt_made W e 44 _ rfl
    have HMB : Hid (∀ W : World, EvAt (W.alloc (.cells #[.int .i64 e.kind, .int .i64 e.fam.id, .string e.fam.client, .string e.fam.subject, .string e.fam.scope, .int .i64 e.fam.gen, .int .i64 e.fam.made, .int .i64 e.fam.used, .string e.fam.request, .bool e.fam.dead, .int .i64 e.id, .int .i64 e.time] 40)) W.heap.size e) := fun W => evAt_made W e 40 _ rfl
    clear hs
    obtain ⟨k, ⟨f1, f2, f3, f4, f5, f6, f7, f8, f9⟩, i, t⟩ := e
    unfold evV evCs at *
    simp only at HR HP HHA HMA HMB
    go_enter Tryz.func5, Tryz.ntmps5
    go_wp2_with fail
    refine (HR _ HL.out).mono ?_
    rintro e1 w1 ⟨rfl, hb1⟩
    have HB1 : Hid (Below w.heap.size w w1) := hb1
    have HX1 : Hid _ := HMA.out w1
    have HB2 : Hid (Below w.heap.size w (w1.alloc (.cells #[.int .i64 k, .int .i64 f1, .string f2, .string f3, .string f4, .int .i64 f5, .int .i64 f6, .int .i64 f7, .string f8, .bool f9, .int .i64 i, .int .i64 t] 44))) := hb1.alloc hb1.size _
    clear hb1
    go_wp2_with fail
    refine (HP _ (HL.out.below HB2.out)).mono ?_
    rintro e3 w3 ⟨rfl, hb3⟩
    have HX3 : Hid _ := HX1.out.on hb3
    have HB3 : Hid (Below w.heap.size w w3) := HB2.out.trans (hb3.mono HB2.out.size)
    clear hb3
    generalize errQ nq = ev at *
    have hbw : BW w w1.heap.size w3.heap.size ⟨k, ⟨f1, f2, f3, f4, f5, f6, f7, f8, f9⟩, i, t⟩ (w3.alloc (.cells #[.int .i64 k, .int .i64 f1, .string f2, .string f3, .string f4, .int .i64 f5, .int .i64 f6, .int .i64 f7, .string f8, .bool f9, .int .i64 i, .int .i64 t] 40)) :=
      ⟨HX3.out.on ((Below.refl _ _).alloc (Nat.le_refl _) _), HMB.out w3, HE.out.on (HB3.out.alloc HB3.out.size _), HB3.out.alloc HB3.out.size _⟩
    go_upto_region 5 with fail
    clear HMA HMB HX1 HX3 HB1 HB2 HB3 HR HP
    generalize hWW : w3.alloc _ = W at *
    clear hWW
    generalize w1.heap.size = a at *
    generalize w3.heap.size = b at *
    go_region_held3 (fun w' => (w'.cell? ⟨a, 0, none⟩ = some (.int .i64 k) ∧ w'.cell? ⟨a, 1, none⟩ = some (.int .i64 f1) ∧ w'.cell? ⟨a, 2, none⟩ = some (.string f2) ∧ w'.cell? ⟨a, 3, none⟩ = some (.string f3) ∧ w'.cell? ⟨a, 4, none⟩ = some (.string f4) ∧ w'.cell? ⟨a, 5, none⟩ = some (.int .i64 f5) ∧ w'.cell? ⟨a, 6, none⟩ = some (.int .i64 f6) ∧ w'.cell? ⟨a, 7, none⟩ = some (.int .i64 f7) ∧ w'.cell? ⟨a, 8, none⟩ = some (.string f8) ∧ w'.cell? ⟨a, 9, none⟩ = some (.bool f9) ∧ w'.cell? ⟨a, 10, none⟩ = some (.int .i64 i) ∧ w'.cell? ⟨a, 11, none⟩ = some (.int .i64 t) ∧ w'.cell? ⟨b, 0, none⟩ = some (.int .i64 k) ∧ w'.cell? ⟨b, 1, none⟩ = some (.int .i64 f1) ∧ w'.cell? ⟨b, 2, none⟩ = some (.string f2) ∧ w'.cell? ⟨b, 3, none⟩ = some (.string f3) ∧ w'.cell? ⟨b, 4, none⟩ = some (.string f4) ∧ w'.cell? ⟨b, 5, none⟩ = some (.int .i64 f5) ∧ w'.cell? ⟨b, 6, none⟩ = some (.int .i64 f6) ∧ w'.cell? ⟨b, 7, none⟩ = some (.int .i64 f7) ∧ w'.cell? ⟨b, 8, none⟩ = some (.string f8) ∧ w'.cell? ⟨b, 9, none⟩ = some (.bool f9) ∧ w'.cell? ⟨b, 10, none⟩ = some (.int .i64 i) ∧ w'.cell? ⟨b, 11, none⟩ = some (.int .i64 t) ∧ BW w a b ⟨k, ⟨f1, f2, f3, f4, f5, f6, f7, f8, f9⟩, i, t⟩ w')) (first | exact bw_drew hbw | exact bw_keep (by assumption) (by assumption) | assumption)
      (first
        | (go_at_call 11; refine (hbq _ (bw_of (w0 := w) (by assumption)).err).mono ?_; rintro e5 w5 ⟨rfl, hb5⟩)
        | (go_at_call 15; refine (HHA _).mono ?_; rintro e6 w6 ⟨rfl, hb6⟩))
    rename_i hHH
    have HFB : Hid (Below w.heap.size w w6) := (bw_of hHH).below
    clear hHH
    go_wp2_with fail
    go_ret
    exact ⟨by simp, HFB.out⟩
  · have hs' : (400 : Int) < (s.size : Int) := by omega
    clear hs
    go_enter Tryz.func5, Tryz.ntmps5
    go_wp2_with fail
    go_ret
    exact ⟨rfl, Below.refl _ _⟩
end Go.Proofs.YtlailakofhenkaaGreatDoor
