/-
  Own texts put together: EvReadE, EvTold, RowK2, EvSl1.
-/
import Derived.Test.YtkggfahcdpgapaaGreatDoorB9
import Derived.Test.YtkggfahcdpgapaaGreatDoorB11
import Derived.Test.YtkggfahcdpgapaaGreatDoorB4
import Derived.Test.YtkggfahcdpgapaaGreatDoorRows
import Derived.WalkKit
import Derived.WalkSpells
import Derived.WalkLawsBesides
import Derived.Deep.LoopGhost
import Derived.BigQuiet
import Derived.Lib.Overlaps
import Derived.Lib.SliceRun
import Derived.Laws.Externs
/-
  An event of a text, as the program reads it.
-/

namespace Go.Proofs.YtkggfahcdpgapaaGreatDoor
open Go Go.RowKit Tok Sc Ev
--%need c:Tryz.strings_SplitN
theorem words_of (s : ByteArray) (hs : s.size ≤ 1000) :
    (Lib.splitB ⟨#[32]⟩ 0 (min 10 (s.size + 1) - 1) s).map (·.data.toList) = Lib.splitK [32] 0 (min 10 (s.data.toList.length + 1) - 1) s.data.toList ∧
    0 < (Lib.splitB ⟨#[32]⟩ 0 (min 10 (s.size + 1) - 1) s).length ∧ (Lib.splitB ⟨#[32]⟩ 0 (min 10 (s.size + 1) - 1) s).length ≤ 1000 ∧
    ∀ x ∈ Lib.splitB ⟨#[32]⟩ 0 (min 10 (s.size + 1) - 1) s, x.size ≤ 1000 := by
  have h1 := Lib.splitB_data ⟨#[32]⟩ 0 (min 10 (s.size + 1) - 1) s
  rw [show (⟨#[32]⟩ : ByteArray).data.toList = [32] from rfl] at h1
  have hl : s.data.toList.length = s.size := Array.length_toList
  have h2 := Lib.splitB_length_le ⟨#[32]⟩ 0 (min 10 (s.size + 1) - 1) s
  refine ⟨by rw [hl]; exact h1, ?_, by omega, fun x hx => ?_⟩
  · have := splitK_pos 32 (min 10 (s.size + 1) - 1) s.data.toList
    rw [← h1, List.length_map] at this
    exact this
  · have := splitK_len 32 (min 10 (s.size + 1) - 1) s.data.toList x.data.toList (by rw [← h1]; exact List.mem_map.2 ⟨x, hx, rfl⟩)
    have h3 : x.data.toList.length = x.size := Array.length_toList
    omega
/-- What a text is read as: the event whose line it is, or none. -/
def ReadAs (s : ByteArray) (r : Ending) : Prop := (∃ e, Ev.may e ∧ s = bs8 (line e) ∧ r = .returned (.tuple #[evV e, .nilIface])) ∨ ((∀ e, Ev.may e → s ≠ bs8 (line e)) ∧ r = .returned (.tuple #[evV zeroE, .iface 26 (.int .i64 3)]))
set_option maxRecDepth 100000 in
set_option maxHeartbeats 8000000 in
theorem readE_is (s : ByteArray) (w : World) (hs : s.size ≤ 1000) (hL : LibsA w) : Calls Tryz.prog 20 #[.string s] w fun r w' => ReadAs s r ∧ Below w.heap.size w w' := by
  obtain ⟨m, hm⟩ := hL.base.len
  have HL : Hid (LibsA w) := hL
  obtain ⟨hp1, hp2, hp3, hp4⟩ := words_of s hs
  have hm1 := Lib.cell?_alloc_some (.cells #[.int .i64 0, .int .i64 0, .string ⟨#[]⟩, .string ⟨#[]⟩, .string ⟨#[]⟩, .int .i64 0, .int .i64 0, .int .i64 0, .string ⟨#[]⟩, .bool false, .int .i64 0, .int .i64 0] 40) hm
  have hsp := Tryz.strings_SplitN s ⟨#[32]⟩ 10 m _ (by omega) hm1 (by decide) (by decide) (by decide)
  generalize hP : Lib.splitB ⟨#[32]⟩ 0 (min 10 (s.size + 1) - 1) s = ps at *
  have HP : Hid (ps.map (·.data.toList) = Lib.splitK [32] 0 (min 10 (s.data.toList.length + 1) - 1) s.data.toList) := hp1
  generalize min 10 (s.size + 1) = N at *
  have HOW : Hid (∀ (g c : Nat) (W : World), WordsAt W g ps → LibsA W → Calls Tryz.prog 63 #[.slice (some ⟨g, 0, none⟩) ps.length c] W fun r w' => ∃ e, r = .returned (evV e) ∧ ToldW ps e ∧ Small 1000 e.fam ∧ Below W.heap.size W w') := fun g c W h1 h2 => ofWords_is ps g c W hp2 hp3 hp4 h1 h2
  have HS : Hid (s.size ≤ 1000) := hs
  clear hp1 hP hL hp2 hp3 hp4 hs
  go_enter Tryz.func20, Tryz.ntmps20
  go_wp2_with fail
  refine hsp.mono ?_
  rintro e w1 ⟨rfl, rfl⟩
  clear hsp hm1 hm
  have hwa := wordsAt_cellsOf (w.alloc (.cells #[.int .i64 0, .int .i64 0, .string ⟨#[]⟩, .string ⟨#[]⟩, .string ⟨#[]⟩, .int .i64 0, .int .i64 0, .int .i64 0, .string ⟨#[]⟩, .bool false, .int .i64 0, .int .i64 0] 40)) ps N 9
  rw [show ((w.alloc (.cells #[.int .i64 0, .int .i64 0, .string ⟨#[]⟩, .string ⟨#[]⟩, .string ⟨#[]⟩, .int .i64 0, .int .i64 0, .int .i64 0, .string ⟨#[]⟩, .bool false, .int .i64 0, .int .i64 0] 40)) : World).heap.size = w.heap.size + 1 by simp] at hwa
  have HB1 : Hid (Below w.heap.size w ((w.alloc (.cells #[.int .i64 0, .int .i64 0, .string ⟨#[]⟩, .string ⟨#[]⟩, .string ⟨#[]⟩, .int .i64 0, .int .i64 0, .int .i64 0, .string ⟨#[]⟩, .bool false, .int .i64 0, .int .i64 0] 40)).alloc (.cells (Lib.cellsOf ps N) 9))) := ((Below.refl _ _).alloc (Nat.le_refl _) _).alloc (by simp) _
  have hL1 := HL.out.below HB1.out
  have hbx : EvAt ((w.alloc (.cells #[.int .i64 0, .int .i64 0, .string ⟨#[]⟩, .string ⟨#[]⟩, .string ⟨#[]⟩, .int .i64 0, .int .i64 0, .int .i64 0, .string ⟨#[]⟩, .bool false, .int .i64 0, .int .i64 0] 40)).alloc (.cells (Lib.cellsOf ps N) 9)) w.heap.size zeroE := (evAt_made w zeroE 40 _ rfl).on ((Below.refl _ _).alloc (Nat.le_refl _) _)
  have hfz : ∀ i, ((w.alloc (.cells #[.int .i64 0, .int .i64 0, .string ⟨#[]⟩, .string ⟨#[]⟩, .string ⟨#[]⟩, .int .i64 0, .int .i64 0, .int .i64 0, .string ⟨#[]⟩, .bool false, .int .i64 0, .int .i64 0] 40)).alloc (.cells (Lib.cellsOf ps N) 9)).frozen? ⟨w.heap.size, i, none⟩ = false := fun i => (((Below.refl _ _).alloc (Nat.le_refl _) _).frozen (p := ⟨w.heap.size, i, none⟩) (by simp)).trans (World.frozen?_alloc_at _ _ _ _ rfl)
  have how := HOW.out _ N _ hwa hL1
  clear hwa hL1
  go_wp2_with fail
  refine how.mono ?_
  rintro e2 w2 ⟨e, rfl, ht, hsm, hb2⟩
  have HB2 : Hid (Below w.heap.size w w2) := HB1.out.trans (hb2.mono HB1.out.size)
  have HT : Hid (ToldW ps e) := ht
  have HZ2 : Hid (EvAt w2 w.heap.size zeroE) := hbx.on hb2
  have HF2 : Hid (∀ i, w2.frozen? ⟨w.heap.size, i, none⟩ = false) := fun i => (hb2.frozen (p := ⟨w.heap.size, i, none⟩) hbx.lt).trans (hfz i)
  have hE0 : EvAt (w2.alloc (.cells #[.int .i64 e.kind, .int .i64 e.fam.id, .string e.fam.client, .string e.fam.subject, .string e.fam.scope, .int .i64 e.fam.gen, .int .i64 e.fam.made, .int .i64 e.fam.used, .string e.fam.request, .bool e.fam.dead, .int .i64 e.id, .int .i64 e.time] 40)) w2.heap.size e := evAt_made w2 e 40 _ rfl
  have HB3 : Hid (Below w.heap.size w (w2.alloc (.cells #[.int .i64 e.kind, .int .i64 e.fam.id, .string e.fam.client, .string e.fam.subject, .string e.fam.scope, .int .i64 e.fam.gen, .int .i64 e.fam.made, .int .i64 e.fam.used, .string e.fam.request, .bool e.fam.dead, .int .i64 e.id, .int .i64 e.time] 40))) := HB2.out.alloc HB2.out.size _
  have hL3 := HL.out.below HB3.out
  clear how hbx hfz ht hb2
  by_cases hm : Ev.may e
  · have hwr := writeE_yes e _ hm hsm hL3.base
    have HM : Hid (Ev.may e) := hm
    have HE0 : Hid _ := hE0
    have HSM : Hid (Small 1000 e.fam) := hsm
    clear hm hL3 hE0 hsm
    obtain ⟨k, ⟨f1, f2, f3, f4, f5, f6, f7, f8, f9⟩, i, t⟩ := e
    unfold evV evCs at hwr ⊢
    simp only at hwr ⊢
    go_wp2_with fail
    refine hwr.mono ?_
    rintro e4 w4 ⟨rfl, hb4⟩
    have HE4 : Hid (EvAt w4 w2.heap.size ⟨k, ⟨f1, f2, f3, f4, f5, f6, f7, f8, f9⟩, i, t⟩) := HE0.out.on hb4
    have HB4 : Hid (Below w.heap.size w w4) := HB3.out.trans (hb4.mono HB3.out.size)
    have d0 := HE4.out.c0; have d1 := HE4.out.fam.c0; have d2 := HE4.out.fam.c1; have d3 := HE4.out.fam.c2; have d4 := HE4.out.fam.c3; have d5 := HE4.out.fam.c4; have d6 := HE4.out.fam.c5; have d7 := HE4.out.fam.c6; have d8 := HE4.out.fam.c7; have d9 := HE4.out.fam.c8; have d10 := HE4.out.c10; have d11 := HE4.out.c11
    simp only at d0 d1 d2 d3 d4 d5 d6 d7 d8 d9 d10 d11
    have hz4 := (HZ2.out.on ((Below.refl _ _).alloc (Nat.le_refl _) _)).on hb4
    have fz : ∀ i, w4.frozen? ⟨w.heap.size, i, none⟩ = false := fun i => ((hb4.frozen (p := ⟨w.heap.size, i, none⟩) (by have := HZ2.out.lt; simp; omega)).trans (((Below.refl _ _).alloc (Nat.le_refl _) _).frozen (p := ⟨w.heap.size, i, none⟩) HZ2.out.lt)).trans (HF2.out i)
    have c0 := hz4.c0; have c1 := hz4.fam.c0; have c2 := hz4.fam.c1; have c3 := hz4.fam.c2; have c4 := hz4.fam.c3; have c5 := hz4.fam.c4; have c6 := hz4.fam.c5; have c7 := hz4.fam.c6; have c8 := hz4.fam.c7; have c9 := hz4.fam.c8; have c10 := hz4.c10; have c11 := hz4.c11
    simp only [zeroE, zeroF] at c0 c1 c2 c3 c4 c5 c6 c7 c8 c9 c10 c11
    have HTH : Hid (∀ j, j < 12 → (w4.cell? ⟨w.heap.size, 0 + j, none⟩).isSome = true) := by
      show ∀ j, j < 12 → (w4.cell? ⟨w.heap.size, 0 + j, none⟩).isSome = true
      intro j hj
      rw [Nat.zero_add]
      match j, hj with
      | 0, _ => rw [c0]; rfl
      | 1, _ => rw [c1]; rfl
      | 2, _ => rw [c2]; rfl
      | 3, _ => rw [c3]; rfl
      | 4, _ => rw [c4]; rfl
      | 5, _ => rw [c5]; rfl
      | 6, _ => rw [c6]; rfl
      | 7, _ => rw [c7]; rfl
      | 8, _ => rw [c8]; rfl
      | 9, _ => rw [c9]; rfl
      | 10, _ => rw [c10]; rfl
      | 11, _ => rw [c11]; rfl
    clear hz4
    clear hwr hb4
    generalize hx : bs8 (line ⟨k, ⟨f1, f2, f3, f4, f5, f6, f7, f8, f9⟩, i, t⟩) = x at *
    by_cases hxs : x = s
    · subst hxs
      go_wp2_with fail
      have hth : ∀ j, j < ([.int .i64 k, .int .i64 f1, .string f2, .string f3, .string f4, .int .i64 f5, .int .i64 f6, .int .i64 f7, .string f8, .bool f9, .int .i64 i, .int .i64 t] : List Value).length → (w4.cell? ⟨w.heap.size, 0 + j, none⟩).isSome = true := HTH.out
      have HBF : Hid (Below w.heap.size w (w4.setCells w.heap.size 0 [.int .i64 k, .int .i64 f1, .string f2, .string f3, .string f4, .int .i64 f5, .int .i64 f6, .int .i64 f7, .string f8, .bool f9, .int .i64 i, .int .i64 t])) := HB4.out.trans (below_setCellsW (Nat.le_refl _) _ 0 w4)
      have q0 := World.cell?_setCells_in w.heap.size [.int .i64 k, .int .i64 f1, .string f2, .string f3, .string f4, .int .i64 f5, .int .i64 f6, .int .i64 f7, .string f8, .bool f9, .int .i64 i, .int .i64 t] 0 w4 hth 0 (by simp)
      have q1 := World.cell?_setCells_in w.heap.size [.int .i64 k, .int .i64 f1, .string f2, .string f3, .string f4, .int .i64 f5, .int .i64 f6, .int .i64 f7, .string f8, .bool f9, .int .i64 i, .int .i64 t] 0 w4 hth 1 (by simp)
      have q2 := World.cell?_setCells_in w.heap.size [.int .i64 k, .int .i64 f1, .string f2, .string f3, .string f4, .int .i64 f5, .int .i64 f6, .int .i64 f7, .string f8, .bool f9, .int .i64 i, .int .i64 t] 0 w4 hth 2 (by simp)
      have q3 := World.cell?_setCells_in w.heap.size [.int .i64 k, .int .i64 f1, .string f2, .string f3, .string f4, .int .i64 f5, .int .i64 f6, .int .i64 f7, .string f8, .bool f9, .int .i64 i, .int .i64 t] 0 w4 hth 3 (by simp)
      have q4 := World.cell?_setCells_in w.heap.size [.int .i64 k, .int .i64 f1, .string f2, .string f3, .string f4, .int .i64 f5, .int .i64 f6, .int .i64 f7, .string f8, .bool f9, .int .i64 i, .int .i64 t] 0 w4 hth 4 (by simp)
      have q5 := World.cell?_setCells_in w.heap.size [.int .i64 k, .int .i64 f1, .string f2, .string f3, .string f4, .int .i64 f5, .int .i64 f6, .int .i64 f7, .string f8, .bool f9, .int .i64 i, .int .i64 t] 0 w4 hth 5 (by simp)
      have q6 := World.cell?_setCells_in w.heap.size [.int .i64 k, .int .i64 f1, .string f2, .string f3, .string f4, .int .i64 f5, .int .i64 f6, .int .i64 f7, .string f8, .bool f9, .int .i64 i, .int .i64 t] 0 w4 hth 6 (by simp)
      have q7 := World.cell?_setCells_in w.heap.size [.int .i64 k, .int .i64 f1, .string f2, .string f3, .string f4, .int .i64 f5, .int .i64 f6, .int .i64 f7, .string f8, .bool f9, .int .i64 i, .int .i64 t] 0 w4 hth 7 (by simp)
      have q8 := World.cell?_setCells_in w.heap.size [.int .i64 k, .int .i64 f1, .string f2, .string f3, .string f4, .int .i64 f5, .int .i64 f6, .int .i64 f7, .string f8, .bool f9, .int .i64 i, .int .i64 t] 0 w4 hth 8 (by simp)
      have q9 := World.cell?_setCells_in w.heap.size [.int .i64 k, .int .i64 f1, .string f2, .string f3, .string f4, .int .i64 f5, .int .i64 f6, .int .i64 f7, .string f8, .bool f9, .int .i64 i, .int .i64 t] 0 w4 hth 9 (by simp)
      have q10 := World.cell?_setCells_in w.heap.size [.int .i64 k, .int .i64 f1, .string f2, .string f3, .string f4, .int .i64 f5, .int .i64 f6, .int .i64 f7, .string f8, .bool f9, .int .i64 i, .int .i64 t] 0 w4 hth 10 (by simp)
      have q11 := World.cell?_setCells_in w.heap.size [.int .i64 k, .int .i64 f1, .string f2, .string f3, .string f4, .int .i64 f5, .int .i64 f6, .int .i64 f7, .string f8, .bool f9, .int .i64 i, .int .i64 t] 0 w4 hth 11 (by simp)
      generalize hWW : World.setCell _ ⟨w.heap.size, 11, none⟩ _ = WW
      have hW2 : w4.setCells w.heap.size 0 [.int .i64 k, .int .i64 f1, .string f2, .string f3, .string f4, .int .i64 f5, .int .i64 f6, .int .i64 f7, .string f8, .bool f9, .int .i64 i, .int .i64 t] = WW := hWW
      have HB5 : Hid (Below w.heap.size w WW) := by rw [← hW2]; exact HBF.out
      rw [hW2] at q0 q1 q2 q3 q4 q5 q6 q7 q8 q9 q10 q11
      simp only [Nat.zero_add, List.getElem_cons_zero, List.getElem_cons_succ] at q0 q1 q2 q3 q4 q5 q6 q7 q8 q9 q10 q11
      exact bodyPost_ret (v := .tuple #[.agg #[.int .i64 k, .int .i64 f1, .string f2, .string f3, .string f4, .int .i64 f5, .int .i64 f6, .int .i64 f7, .string f8, .bool f9, .int .i64 i, .int .i64 t], .nilIface]) (by simp [results, Tryz.results20, go_sem, q0, q1, q2, q3, q4, q5, q6, q7, q8, q9, q10, q11]) rfl ⟨.inl ⟨_, HM.out, hx.symm, rfl⟩, HB5.out⟩
    · have HNS : Hid (∀ e', Ev.may e' → s ≠ bs8 (line e')) := fun e' he hs => by
        have h1 : ps.map (·.data.toList) = wordsOf e' := by
          rw [HP.out, hs]
          exact split_line he
        have h2 := HT.out e' he h1
        exact hxs (by rw [← hx, h2, hs])
      have hxb : (x.toList == s.toList) = false := by
        rw [beq_eq_false_iff_ne]
        intro h
        exact hxs (bytes_eq (by rwa [ByteArray.toList_eq, ByteArray.toList_eq] at h))
      go_wp2_with fail
      have hth : ∀ j, j < ([.int .i64 0, .int .i64 0, .string ⟨#[]⟩, .string ⟨#[]⟩, .string ⟨#[]⟩, .int .i64 0, .int .i64 0, .int .i64 0, .string ⟨#[]⟩, .bool false, .int .i64 0, .int .i64 0] : List Value).length → (w4.cell? ⟨w.heap.size, 0 + j, none⟩).isSome = true := HTH.out
      have HBF : Hid (Below w.heap.size w (w4.setCells w.heap.size 0 [.int .i64 0, .int .i64 0, .string ⟨#[]⟩, .string ⟨#[]⟩, .string ⟨#[]⟩, .int .i64 0, .int .i64 0, .int .i64 0, .string ⟨#[]⟩, .bool false, .int .i64 0, .int .i64 0])) := HB4.out.trans (below_setCellsW (Nat.le_refl _) _ 0 w4)
      have q0 := World.cell?_setCells_in w.heap.size [.int .i64 0, .int .i64 0, .string ⟨#[]⟩, .string ⟨#[]⟩, .string ⟨#[]⟩, .int .i64 0, .int .i64 0, .int .i64 0, .string ⟨#[]⟩, .bool false, .int .i64 0, .int .i64 0] 0 w4 hth 0 (by simp)
      have q1 := World.cell?_setCells_in w.heap.size [.int .i64 0, .int .i64 0, .string ⟨#[]⟩, .string ⟨#[]⟩, .string ⟨#[]⟩, .int .i64 0, .int .i64 0, .int .i64 0, .string ⟨#[]⟩, .bool false, .int .i64 0, .int .i64 0] 0 w4 hth 1 (by simp)
      have q2 := World.cell?_setCells_in w.heap.size [.int .i64 0, .int .i64 0, .string ⟨#[]⟩, .string ⟨#[]⟩, .string ⟨#[]⟩, .int .i64 0, .int .i64 0, .int .i64 0, .string ⟨#[]⟩, .bool false, .int .i64 0, .int .i64 0] 0 w4 hth 2 (by simp)
      have q3 := World.cell?_setCells_in w.heap.size [.int .i64 0, .int .i64 0, .string ⟨#[]⟩, .string ⟨#[]⟩, .string ⟨#[]⟩, .int .i64 0, .int .i64 0, .int .i64 0, .string ⟨#[]⟩, .bool false, .int .i64 0, .int .i64 0] 0 w4 hth 3 (by simp)
      have q4 := World.cell?_setCells_in w.heap.size [.int .i64 0, .int .i64 0, .string ⟨#[]⟩, .string ⟨#[]⟩, .string ⟨#[]⟩, .int .i64 0, .int .i64 0, .int .i64 0, .string ⟨#[]⟩, .bool false, .int .i64 0, .int .i64 0] 0 w4 hth 4 (by simp)
      have q5 := World.cell?_setCells_in w.heap.size [.int .i64 0, .int .i64 0, .string ⟨#[]⟩, .string ⟨#[]⟩, .string ⟨#[]⟩, .int .i64 0, .int .i64 0, .int .i64 0, .string ⟨#[]⟩, .bool false, .int .i64 0, .int .i64 0] 0 w4 hth 5 (by simp)
      have q6 := World.cell?_setCells_in w.heap.size [.int .i64 0, .int .i64 0, .string ⟨#[]⟩, .string ⟨#[]⟩, .string ⟨#[]⟩, .int .i64 0, .int .i64 0, .int .i64 0, .string ⟨#[]⟩, .bool false, .int .i64 0, .int .i64 0] 0 w4 hth 6 (by simp)
      have q7 := World.cell?_setCells_in w.heap.size [.int .i64 0, .int .i64 0, .string ⟨#[]⟩, .string ⟨#[]⟩, .string ⟨#[]⟩, .int .i64 0, .int .i64 0, .int .i64 0, .string ⟨#[]⟩, .bool false, .int .i64 0, .int .i64 0] 0 w4 hth 7 (by simp)
      have q8 := World.cell?_setCells_in w.heap.size [.int .i64 0, .int .i64 0, .string ⟨#[]⟩, .string ⟨#[]⟩, .string ⟨#[]⟩, .int .i64 0, .int .i64 0, .int .i64 0, .string ⟨#[]⟩, .bool false, .int .i64 0, .int .i64 0] 0 w4 hth 8 (by simp)
      have q9 := World.cell?_setCells_in w.heap.size [.int .i64 0, .int .i64 0, .string ⟨#[]⟩, .string ⟨#[]⟩, .string ⟨#[]⟩, .int .i64 0, .int .i64 0, .int .i64 0, .string ⟨#[]⟩, .bool false, .int .i64 0, .int .i64 0] 0 w4 hth 9 (by simp)
      have q10 := World.cell?_setCells_in w.heap.size [.int .i64 0, .int .i64 0, .string ⟨#[]⟩, .string ⟨#[]⟩, .string ⟨#[]⟩, .int .i64 0, .int .i64 0, .int .i64 0, .string ⟨#[]⟩, .bool false, .int .i64 0, .int .i64 0] 0 w4 hth 10 (by simp)
      have q11 := World.cell?_setCells_in w.heap.size [.int .i64 0, .int .i64 0, .string ⟨#[]⟩, .string ⟨#[]⟩, .string ⟨#[]⟩, .int .i64 0, .int .i64 0, .int .i64 0, .string ⟨#[]⟩, .bool false, .int .i64 0, .int .i64 0] 0 w4 hth 11 (by simp)
      generalize hWW : World.setCell _ ⟨w.heap.size, 11, none⟩ _ = WW
      have hW2 : w4.setCells w.heap.size 0 [.int .i64 0, .int .i64 0, .string ⟨#[]⟩, .string ⟨#[]⟩, .string ⟨#[]⟩, .int .i64 0, .int .i64 0, .int .i64 0, .string ⟨#[]⟩, .bool false, .int .i64 0, .int .i64 0] = WW := hWW
      have HB5 : Hid (Below w.heap.size w WW) := by rw [← hW2]; exact HBF.out
      rw [hW2] at q0 q1 q2 q3 q4 q5 q6 q7 q8 q9 q10 q11
      simp only [Nat.zero_add, List.getElem_cons_zero, List.getElem_cons_succ] at q0 q1 q2 q3 q4 q5 q6 q7 q8 q9 q10 q11
      exact bodyPost_ret (v := .tuple #[.agg #[.int .i64 0, .int .i64 0, .string ⟨#[]⟩, .string ⟨#[]⟩, .string ⟨#[]⟩, .int .i64 0, .int .i64 0, .int .i64 0, .string ⟨#[]⟩, .bool false, .int .i64 0, .int .i64 0], .iface 26 (.int .i64 3)]) (by simp [results, Tryz.results20, go_sem, q0, q1, q2, q3, q4, q5, q6, q7, q8, q9, q10, q11]) rfl ⟨.inr ⟨HNS.out, rfl⟩, HB5.out⟩
  · have hwr := writeE_no e _ hm hsm hL3.base.len
    have HM : Hid (¬ Ev.may e) := hm
    clear hm hL3 hE0 hsm
    obtain ⟨k, ⟨f1, f2, f3, f4, f5, f6, f7, f8, f9⟩, i, t⟩ := e
    unfold evV evCs at hwr ⊢
    simp only at hwr ⊢
    go_wp2_with fail
    refine hwr.mono ?_
    rintro e4 w4 ⟨rfl, hb4⟩
    have HB4 : Hid (Below w.heap.size w w4) := HB3.out.trans (hb4.mono HB3.out.size)
    have hz4 := (HZ2.out.on ((Below.refl _ _).alloc (Nat.le_refl _) _)).on hb4
    have fz : ∀ i, w4.frozen? ⟨w.heap.size, i, none⟩ = false := fun i => ((hb4.frozen (p := ⟨w.heap.size, i, none⟩) (by have := HZ2.out.lt; simp; omega)).trans (((Below.refl _ _).alloc (Nat.le_refl _) _).frozen (p := ⟨w.heap.size, i, none⟩) HZ2.out.lt)).trans (HF2.out i)
    have c0 := hz4.c0; have c1 := hz4.fam.c0; have c2 := hz4.fam.c1; have c3 := hz4.fam.c2; have c4 := hz4.fam.c3; have c5 := hz4.fam.c4; have c6 := hz4.fam.c5; have c7 := hz4.fam.c6; have c8 := hz4.fam.c7; have c9 := hz4.fam.c8; have c10 := hz4.c10; have c11 := hz4.c11
    simp only [zeroE, zeroF] at c0 c1 c2 c3 c4 c5 c6 c7 c8 c9 c10 c11
    have HTH : Hid (∀ j, j < 12 → (w4.cell? ⟨w.heap.size, 0 + j, none⟩).isSome = true) := by
      show ∀ j, j < 12 → (w4.cell? ⟨w.heap.size, 0 + j, none⟩).isSome = true
      intro j hj
      rw [Nat.zero_add]
      match j, hj with
      | 0, _ => rw [c0]; rfl
      | 1, _ => rw [c1]; rfl
      | 2, _ => rw [c2]; rfl
      | 3, _ => rw [c3]; rfl
      | 4, _ => rw [c4]; rfl
      | 5, _ => rw [c5]; rfl
      | 6, _ => rw [c6]; rfl
      | 7, _ => rw [c7]; rfl
      | 8, _ => rw [c8]; rfl
      | 9, _ => rw [c9]; rfl
      | 10, _ => rw [c10]; rfl
      | 11, _ => rw [c11]; rfl
    clear hz4
    clear hwr hb4
    have HNS : Hid (∀ e', Ev.may e' → s ≠ bs8 (line e')) := fun e' he hs => by
      have h1 : ps.map (·.data.toList) = wordsOf e' := by
        rw [HP.out, hs]
        exact split_line he
      have h2 := HT.out e' he h1
      exact HM.out (h2 ▸ he)
    go_wp2_with fail
    have hth : ∀ j, j < ([.int .i64 0, .int .i64 0, .string ⟨#[]⟩, .string ⟨#[]⟩, .string ⟨#[]⟩, .int .i64 0, .int .i64 0, .int .i64 0, .string ⟨#[]⟩, .bool false, .int .i64 0, .int .i64 0] : List Value).length → (w4.cell? ⟨w.heap.size, 0 + j, none⟩).isSome = true := HTH.out
    have HBF : Hid (Below w.heap.size w (w4.setCells w.heap.size 0 [.int .i64 0, .int .i64 0, .string ⟨#[]⟩, .string ⟨#[]⟩, .string ⟨#[]⟩, .int .i64 0, .int .i64 0, .int .i64 0, .string ⟨#[]⟩, .bool false, .int .i64 0, .int .i64 0])) := HB4.out.trans (below_setCellsW (Nat.le_refl _) _ 0 w4)
    have q0 := World.cell?_setCells_in w.heap.size [.int .i64 0, .int .i64 0, .string ⟨#[]⟩, .string ⟨#[]⟩, .string ⟨#[]⟩, .int .i64 0, .int .i64 0, .int .i64 0, .string ⟨#[]⟩, .bool false, .int .i64 0, .int .i64 0] 0 w4 hth 0 (by simp)
    have q1 := World.cell?_setCells_in w.heap.size [.int .i64 0, .int .i64 0, .string ⟨#[]⟩, .string ⟨#[]⟩, .string ⟨#[]⟩, .int .i64 0, .int .i64 0, .int .i64 0, .string ⟨#[]⟩, .bool false, .int .i64 0, .int .i64 0] 0 w4 hth 1 (by simp)
    have q2 := World.cell?_setCells_in w.heap.size [.int .i64 0, .int .i64 0, .string ⟨#[]⟩, .string ⟨#[]⟩, .string ⟨#[]⟩, .int .i64 0, .int .i64 0, .int .i64 0, .string ⟨#[]⟩, .bool false, .int .i64 0, .int .i64 0] 0 w4 hth 2 (by simp)
    have q3 := World.cell?_setCells_in w.heap.size [.int .i64 0, .int .i64 0, .string ⟨#[]⟩, .string ⟨#[]⟩, .string ⟨#[]⟩, .int .i64 0, .int .i64 0, .int .i64 0, .string ⟨#[]⟩, .bool false, .int .i64 0, .int .i64 0] 0 w4 hth 3 (by simp)
    have q4 := World.cell?_setCells_in w.heap.size [.int .i64 0, .int .i64 0, .string ⟨#[]⟩, .string ⟨#[]⟩, .string ⟨#[]⟩, .int .i64 0, .int .i64 0, .int .i64 0, .string ⟨#[]⟩, .bool false, .int .i64 0, .int .i64 0] 0 w4 hth 4 (by simp)
    have q5 := World.cell?_setCells_in w.heap.size [.int .i64 0, .int .i64 0, .string ⟨#[]⟩, .string ⟨#[]⟩, .string ⟨#[]⟩, .int .i64 0, .int .i64 0, .int .i64 0, .string ⟨#[]⟩, .bool false, .int .i64 0, .int .i64 0] 0 w4 hth 5 (by simp)
    have q6 := World.cell?_setCells_in w.heap.size [.int .i64 0, .int .i64 0, .string ⟨#[]⟩, .string ⟨#[]⟩, .string ⟨#[]⟩, .int .i64 0, .int .i64 0, .int .i64 0, .string ⟨#[]⟩, .bool false, .int .i64 0, .int .i64 0] 0 w4 hth 6 (by simp)
    have q7 := World.cell?_setCells_in w.heap.size [.int .i64 0, .int .i64 0, .string ⟨#[]⟩, .string ⟨#[]⟩, .string ⟨#[]⟩, .int .i64 0, .int .i64 0, .int .i64 0, .string ⟨#[]⟩, .bool false, .int .i64 0, .int .i64 0] 0 w4 hth 7 (by simp)
    have q8 := World.cell?_setCells_in w.heap.size [.int .i64 0, .int .i64 0, .string ⟨#[]⟩, .string ⟨#[]⟩, .string ⟨#[]⟩, .int .i64 0, .int .i64 0, .int .i64 0, .string ⟨#[]⟩, .bool false, .int .i64 0, .int .i64 0] 0 w4 hth 8 (by simp)
    have q9 := World.cell?_setCells_in w.heap.size [.int .i64 0, .int .i64 0, .string ⟨#[]⟩, .string ⟨#[]⟩, .string ⟨#[]⟩, .int .i64 0, .int .i64 0, .int .i64 0, .string ⟨#[]⟩, .bool false, .int .i64 0, .int .i64 0] 0 w4 hth 9 (by simp)
    have q10 := World.cell?_setCells_in w.heap.size [.int .i64 0, .int .i64 0, .string ⟨#[]⟩, .string ⟨#[]⟩, .string ⟨#[]⟩, .int .i64 0, .int .i64 0, .int .i64 0, .string ⟨#[]⟩, .bool false, .int .i64 0, .int .i64 0] 0 w4 hth 10 (by simp)
    have q11 := World.cell?_setCells_in w.heap.size [.int .i64 0, .int .i64 0, .string ⟨#[]⟩, .string ⟨#[]⟩, .string ⟨#[]⟩, .int .i64 0, .int .i64 0, .int .i64 0, .string ⟨#[]⟩, .bool false, .int .i64 0, .int .i64 0] 0 w4 hth 11 (by simp)
    generalize hWW : World.setCell _ ⟨w.heap.size, 11, none⟩ _ = WW
    have hW2 : w4.setCells w.heap.size 0 [.int .i64 0, .int .i64 0, .string ⟨#[]⟩, .string ⟨#[]⟩, .string ⟨#[]⟩, .int .i64 0, .int .i64 0, .int .i64 0, .string ⟨#[]⟩, .bool false, .int .i64 0, .int .i64 0] = WW := hWW
    have HB5 : Hid (Below w.heap.size w WW) := by rw [← hW2]; exact HBF.out
    rw [hW2] at q0 q1 q2 q3 q4 q5 q6 q7 q8 q9 q10 q11
    simp only [Nat.zero_add, List.getElem_cons_zero, List.getElem_cons_succ] at q0 q1 q2 q3 q4 q5 q6 q7 q8 q9 q10 q11
    exact bodyPost_ret (v := .tuple #[.agg #[.int .i64 0, .int .i64 0, .string ⟨#[]⟩, .string ⟨#[]⟩, .string ⟨#[]⟩, .int .i64 0, .int .i64 0, .int .i64 0, .string ⟨#[]⟩, .bool false, .int .i64 0, .int .i64 0], .iface 26 (.int .i64 3)]) (by simp [results, Tryz.results20, go_sem, q0, q1, q2, q3, q4, q5, q6, q7, q8, q9, q10, q11]) rfl ⟨.inr ⟨HNS.out, rfl⟩, HB5.out⟩
end Go.Proofs.YtkggfahcdpgapaaGreatDoor

/-
  The line of one event that stays the same: what EventBack asks first.
-/

namespace Go.Proofs.YtkggfahcdpgapaaGreatDoor
open Go Go.RowKit Tok Sc Ev
/-- The event that told writes. -/
def toldE : E := ⟨1, ⟨3, ⟨#[97, 112, 112]⟩, ⟨#[97, 110, 110]⟩, ⟨#[114, 101, 97, 100]⟩, 0, 0, 0, ⟨#[]⟩, false⟩, 0, 0⟩
theorem toldE_may : Ev.may toldE := by
  refine .inl ⟨rfl, ⟨⟨⟨by decide, by decide⟩, ⟨by decide, by decide⟩, ⟨by decide, by decide⟩, ⟨by decide, by decide⟩⟩, by decide, by decide, .inl rfl, ⟨[[114, 101, 97, 100]], .inl ⟨rfl, by decide, ⟨by simp, ?_⟩, by decide, ?_⟩, by decide⟩⟩, rfl, rfl⟩
  · intro x
    rw [show words (toldE.fam.scope.data.toList) = [[114, 101, 97, 100]] by decide]
  · intro x hx
    rw [show words (toldE.fam.scope.data.toList) = [[114, 101, 97, 100]] by decide] at hx
    simp at hx
    subst hx
    decide
theorem toldE_line : bs8 (line toldE) = ⟨#[112, 32, 51, 32, 97, 112, 112, 32, 97, 110, 110, 32, 114, 101, 97, 100, 32, 48, 32, 48, 32, 48, 32, 95, 32, 48]⟩ := by kernel_rfl
set_option maxRecDepth 100000 in
set_option maxHeartbeats 4000000 in
theorem toldB_is (w : World) (hL : LibsE w) : Calls Tryz.prog 21 #[] w fun r w' => r = .returned (.bool true) ∧ Below w.heap.size w w' := by
  have hwr := fun (W : World) (hW : LibsE W) => writeE_yes toldE W toldE_may (by unfold toldE Small; decide) hW
  rw [toldE_line] at hwr
  unfold toldE evV evCs at hwr
  simp only at hwr
  have HL : Hid (LibsE w) := hL
  clear hL
  go_enter Tryz.func21, Tryz.ntmps21
  go_wp2_with fail
  refine (hwr _ HL.out).mono ?_
  rintro e w' ⟨rfl, hb⟩
  go_wp2_with fail
  go_ret
  exact ⟨rfl, hb⟩
end Go.Proofs.YtkggfahcdpgapaaGreatDoor

/-
  One element set, put in, taken out, of a list of elements of k cells: what the row holds behind it. Of no program.
-/

namespace Go.Proofs.YtkggfahcdpgapaaGreatDoor
open Go Go.RowKit
theorem RowK.set {k B : Nat} {w : World} {g c n : Nat} {cs : List Value} (h : RowK k B w g c n cs) (i : Nat) (hi : i < n) (us : List Value) (hu : us.length = k) (h1 : ∀ u ∈ us, u.oneCell' = true) :
    RowK k B (w.setCells g (i * k) us) g c n (cs.take (i * k) ++ us ++ cs.drop ((i + 1) * k)) := by
  have e1 : (i + 1) * k = i * k + k := Nat.succ_mul i k
  have e2 : (i + 1) * k ≤ n * k := Nat.mul_le_mul_right k hi
  have e3 : n * k ≤ c * k := Nat.mul_le_mul_right k h.le
  have hlen := h.len
  have ht : (cs.take (i * k)).length = i * k := by rw [List.length_take]; omega
  have htu : (cs.take (i * k) ++ us).length = i * k + k := by rw [List.length_append, ht, hu]
  refine h.setCells (i * k) us (by omega) h.le ?_ ?_ (fun j u hj => ?_)
  · rw [List.length_append, htu, List.length_drop]; omega
  · intro u hu'
    rw [List.mem_append, List.mem_append] at hu'
    rcases hu' with (hu' | hu') | hu'
    · exact h.one u (List.mem_of_mem_take hu')
    · exact h1 u hu'
    · exact h.one u (List.mem_of_mem_drop hu')
  · rw [hu]
    refine ⟨fun hin => ?_, fun hout => ?_⟩
    · rw [List.getElem?_append_left (by omega), List.getElem?_append_right (by omega), ht] at hj
      exact hj
    · by_cases hj1 : j < i * k
      · rw [List.getElem?_append_left (by omega), List.getElem?_append_left (by omega), List.getElem?_take, if_pos hj1] at hj
        exact h.holds j u hj
      · rw [List.getElem?_append_right (by omega), htu, List.getElem?_drop, show (i + 1) * k + (j - (i * k + k)) = j by omega] at hj
        exact h.holds j u hj
theorem RowK.shift {k B : Nat} {w : World} {g c n : Nat} {cs : List Value} (h : RowK k B w g c n cs) (i : Nat) (hi : i ≤ n) (hc : n + 1 ≤ c) (us : List Value) (hu : us.length = k) (h1 : ∀ u ∈ us, u.oneCell' = true) :
    RowK k B ((w.setCells g ((i + 1) * k) (cs.drop (i * k))).setCells g (i * k) us) g c (n + 1) (cs.take (i * k) ++ us ++ cs.drop (i * k)) := by
  have e1 : (i + 1) * k = i * k + k := Nat.succ_mul i k
  have e0 : (n + 1) * k = n * k + k := Nat.succ_mul n k
  have e2 : i * k ≤ n * k := Nat.mul_le_mul_right k hi
  have e3 : (n + 1) * k ≤ c * k := Nat.mul_le_mul_right k hc
  have hlen := h.len
  have ht : (cs.take (i * k)).length = i * k := by rw [List.length_take]; omega
  have hd : (cs.drop (i * k)).length = n * k - i * k := by rw [List.length_drop]; omega
  have htu : (cs.take (i * k) ++ us).length = i * k + k := by rw [List.length_append, ht, hu]
  have hone : ∀ (zs : List Value), (∀ u ∈ zs, u.oneCell' = true) → ∀ u ∈ cs.take (i * k) ++ zs ++ cs.drop (i * k), u.oneCell' = true := by
    intro zs hz u hu'
    rw [List.mem_append, List.mem_append] at hu'
    rcases hu' with (hu' | hu') | hu'
    · exact h.one u (List.mem_of_mem_take hu')
    · exact hz u hu'
    · exact h.one u (List.mem_of_mem_drop hu')
  have h0 : RowK k B (w.setCells g ((i + 1) * k) (cs.drop (i * k))) g c i (cs.take (i * k)) := by
    refine h.setCells _ _ (by omega) (by omega) ht (fun u hu' => h.one u (List.mem_of_mem_take hu')) (fun j u hj => ⟨fun hin => ?_, fun hout => ?_⟩)
    · have := (List.getElem?_eq_some_iff.1 hj).1
      omega
    · have := (List.getElem?_eq_some_iff.1 hj).1
      rw [List.getElem?_take, if_pos (by omega)] at hj
      exact h.holds j u hj
  refine h0.setCells _ _ (by omega) hc ?_ (hone us h1) (fun j u hj => ?_)
  · rw [List.length_append, htu, hd]; omega
  · rw [hu]
    refine ⟨fun hin => ?_, fun hout => ?_⟩
    · rw [List.getElem?_append_left (by omega), List.getElem?_append_right (by omega), ht] at hj
      exact hj
    · by_cases hj1 : j < i * k
      · rw [List.getElem?_append_left (by omega), List.getElem?_append_left (by omega)] at hj
        exact h0.holds j u hj
      · have hjl := (List.getElem?_eq_some_iff.1 hj).1
        rw [List.length_append, htu, hd] at hjl
        rw [List.getElem?_append_right (by omega), htu] at hj
        have hin := World.cell?_setCells_in g (cs.drop (i * k)) ((i + 1) * k) w (fun t ht => (h.there _ (by omega)).1) (j - (i * k + k)) (by omega)
        rw [show (i + 1) * k + (j - (i * k + k)) = j by omega] at hin
        rw [hin, ← hj, List.getElem?_eq_getElem (by omega)]
/-- A new row: what stood ahead, the new one, what stood behind. -/
theorem RowK.grown {k B : Nat} {w W : World} {g c n : Nat} {cs : List Value} (h : RowK k B w g c n cs) (hB : B ≤ W.heap.size) (i : Nat) (hi : i ≤ n) (us : List Value) (hu : us.length = k) (h1 : ∀ u ∈ us, u.oneCell' = true) (z : Array Value) (hz : z.size = k) (G : Nat) (t : TypeId) (hm : G ≤ maxLen) (hl : n + 1 ≤ G) :
    RowK k B ((((W.alloc (.cells ((cs.take (i * k)).toArray ++ Builtin.zeroCells z (n + 1 - i) ++ Builtin.zeroCells z (G - (n + 1))) t)).drew.setCells W.heap.size (i * k) us).drew).setCells W.heap.size ((i + 1) * k) (cs.drop (i * k))) W.heap.size G (n + 1) (cs.take (i * k) ++ us ++ cs.drop (i * k)) := by
  have e1 : (i + 1) * k = i * k + k := Nat.succ_mul i k
  have e0 : (n + 1) * k = n * k + k := Nat.succ_mul n k
  have e2 : i * k ≤ n * k := Nat.mul_le_mul_right k hi
  have e3 : (n + 1) * k ≤ G * k := Nat.mul_le_mul_right k hl
  have hlen := h.len
  have ht : (cs.take (i * k)).length = i * k := by rw [List.length_take]; omega
  have hd : (cs.drop (i * k)).length = n * k - i * k := by rw [List.length_drop]; omega
  have htu : (cs.take (i * k) ++ us).length = i * k + k := by rw [List.length_append, ht, hu]
  have h0 : RowK k B (W.alloc (.cells ((cs.take (i * k)).toArray ++ Builtin.zeroCells z (n + 1 - i) ++ Builtin.zeroCells z (G - (n + 1))) t)) W.heap.size G i (cs.take (i * k)) := by
    have hs : ((cs.take (i * k)).toArray ++ Builtin.zeroCells z (n + 1 - i) ++ Builtin.zeroCells z (G - (n + 1))).size = G * k := by
      rw [Array.size_append, Array.size_append, size_zeroCells, size_zeroCells, hz, List.size_toArray, ht, ← Nat.add_mul, ← Nat.add_mul]
      congr 1
      omega
    refine ⟨hB, by simp, ht, by omega, hm, fun u hu' => h.one u (List.mem_of_mem_take hu'), fun j u hj => ?_, fun j hj => ⟨?_, World.frozen?_alloc_at _ _ _ _ (by simp)⟩⟩
    · have hl := (List.getElem?_eq_some_iff.1 hj).1
      rw [World.cell?_alloc_at _ _ _ _ (by simp), Array.append_assoc, Array.getElem?_append_left (by simpa using hl)]
      simpa using hj
    · rw [World.cell?_alloc_at _ _ _ _ (by simp), Array.getElem?_eq_getElem (by rw [hs]; exact hj)]
      rfl
  have h0' : RowK k B (W.alloc (.cells ((cs.take (i * k)).toArray ++ Builtin.zeroCells z (n + 1 - i) ++ Builtin.zeroCells z (G - (n + 1))) t)).drew W.heap.size G i (cs.take (i * k)) := h0.block (Nat.le_refl _) rfl
  have h2 : RowK k B ((W.alloc (.cells ((cs.take (i * k)).toArray ++ Builtin.zeroCells z (n + 1 - i) ++ Builtin.zeroCells z (G - (n + 1))) t)).drew.setCells W.heap.size (i * k) us) W.heap.size G (i + 1) (cs.take (i * k) ++ us) := by
    refine h0'.setCells _ _ (by omega) (by omega) (by omega) (fun u hu' => ?_) (fun j u hj => ?_)
    · rw [List.mem_append] at hu'
      rcases hu' with hu' | hu'
      · exact h.one u (List.mem_of_mem_take hu')
      · exact h1 u hu'
    · rw [hu]
      refine ⟨fun hin => ?_, fun hout => ?_⟩
      · rw [List.getElem?_append_right (by omega), ht] at hj
        exact hj
      · have hjl := (List.getElem?_eq_some_iff.1 hj).1
        rw [List.getElem?_append_left (by omega)] at hj
        exact h0'.holds j u hj
  have h2' := h2.block (w' := ((W.alloc (.cells ((cs.take (i * k)).toArray ++ Builtin.zeroCells z (n + 1 - i) ++ Builtin.zeroCells z (G - (n + 1))) t)).drew.setCells W.heap.size (i * k) us).drew) (Nat.le_refl _) rfl
  refine h2'.setCells _ _ (by omega) hl ?_ (fun u hu' => ?_) (fun j u hj => ?_)
  · rw [List.length_append, htu, hd]; omega
  · rw [List.mem_append] at hu'
    rcases hu' with hu' | hu'
    · exact h2.one u hu'
    · exact h.one u (List.mem_of_mem_drop hu')
  · rw [hd]
    have hjl := (List.getElem?_eq_some_iff.1 hj).1
    rw [List.length_append, htu, hd] at hjl
    refine ⟨fun hin => ?_, fun hout => ?_⟩
    · rw [List.getElem?_append_right (by omega), htu, ← e1] at hj
      exact hj
    · rw [List.getElem?_append_left (by omega)] at hj
      exact h2'.holds j u hj
/-- One taken out: those behind it moved, the last one's cells cleared. -/
theorem RowK.cut {k B : Nat} {w : World} {g c n : Nat} {cs : List Value} (h : RowK k B w g c n cs) (i : Nat) (hi : i < n) (zs : List Value) (hz : zs.length = k) :
    RowK k B (((w.setCells g (i * k) (cs.drop ((i + 1) * k)))).setCells g ((n - 1) * k) zs) g c (n - 1) (cs.take (i * k) ++ cs.drop ((i + 1) * k)) := by
  obtain ⟨m, rfl⟩ : ∃ m, n = m + 1 := ⟨n - 1, by omega⟩
  rw [Nat.add_sub_cancel]
  have e1 : (i + 1) * k = i * k + k := Nat.succ_mul i k
  have e0 : (m + 1) * k = m * k + k := Nat.succ_mul m k
  have e2 : i * k ≤ m * k := Nat.mul_le_mul_right k (by omega)
  have e3 : (m + 1) * k ≤ c * k := Nat.mul_le_mul_right k h.le
  have hlen := h.len
  have hle := h.le
  have ht : (cs.take (i * k)).length = i * k := by rw [List.length_take]; omega
  have hd : (cs.drop ((i + 1) * k)).length = m * k - i * k := by rw [List.length_drop]; omega
  have hall : (cs.take (i * k) ++ cs.drop ((i + 1) * k)).length = m * k := by rw [List.length_append, ht, hd]; omega
  have hone : ∀ u ∈ cs.take (i * k) ++ cs.drop ((i + 1) * k), u.oneCell' = true := by
    intro u hu'
    rw [List.mem_append] at hu'
    rcases hu' with hu' | hu'
    · exact h.one u (List.mem_of_mem_take hu')
    · exact h.one u (List.mem_of_mem_drop hu')
  have h0 : RowK k B (w.setCells g (i * k) (cs.drop ((i + 1) * k))) g c m (cs.take (i * k) ++ cs.drop ((i + 1) * k)) := by
    refine h.setCells _ _ (by omega) (by omega) hall hone (fun j u hj => ⟨fun hin => ?_, fun hout => ?_⟩)
    · rw [List.getElem?_append_right (by omega), ht] at hj
      exact hj
    · have hjl := (List.getElem?_eq_some_iff.1 hj).1
      rw [hall] at hjl
      rw [List.getElem?_append_left (by omega), List.getElem?_take, if_pos (by omega)] at hj
      exact h.holds j u hj
  refine h0.setCells _ _ (by omega) (by omega) hall hone (fun j u hj => ⟨fun hin => ?_, fun hout => h0.holds j u hj⟩)
  have hjl := (List.getElem?_eq_some_iff.1 hj).1
  omega
end Go.Proofs.YtkggfahcdpgapaaGreatDoor

/-
  Where a family stands: a search among families by their numbers; a copy of them.
-/

namespace Go.Proofs.YtkggfahcdpgapaaGreatDoor
open Go Go.RowKit Ev
def cmpI (a b : Int) : Int := if a < b then -1 else if b < a then 1 else 0
set_option maxHeartbeats 1000000 in
theorem isNaN_is (x : Int) (w : World) : Calls Tryz.prog 180 #[.int .i64 x] w fun e w' => e = .returned (.bool false) ∧ w' = w := by
  go_enter Tryz.func180, Tryz.ntmps180
  go_wp2_with fail
  go_ret
  exact ⟨by simp, rfl⟩
set_option maxHeartbeats 1000000 in
theorem compare_is (a b : Int) (w : World) : Calls Tryz.prog 147 #[.int .i64 a, .int .i64 b] w fun e w' => e = .returned (.int .i64 (cmpI a b)) ∧ w' = w := by
  by_cases h : a < b
  · have H : Hid (cmpI a b = -1) := if_pos h
    go_enter Tryz.func147, Tryz.ntmps147
    go_wp2_with (go_at_call 180; refine (isNaN_is _ _).mono ?_; rintro e w' ⟨rfl, rfl⟩)
    go_ret
    exact ⟨by rw [H.out]; rfl, rfl⟩
  · by_cases h2 : b < a
    · have H : Hid (cmpI a b = 1) := by show _ = _; unfold cmpI; rw [if_neg h, if_pos h2]
      go_enter Tryz.func147, Tryz.ntmps147
      go_wp2_with (go_at_call 180; refine (isNaN_is _ _).mono ?_; rintro e w' ⟨rfl, rfl⟩)
      go_ret
      exact ⟨by rw [H.out]; rfl, rfl⟩
    · have H : Hid (cmpI a b = 0) := by show _ = _; unfold cmpI; rw [if_neg h, if_neg h2]
      go_enter Tryz.func147, Tryz.ntmps147
      go_wp2_with (go_at_call 180; refine (isNaN_is _ _).mono ?_; rintro e w' ⟨rfl, rfl⟩)
      go_ret
      exact ⟨by rw [H.out]; rfl, rfl⟩
set_option maxHeartbeats 1000000 in
theorem byId_is (f : Fam) (n : Int) (w : World) : Calls Tryz.prog 146 #[famV f, .int .i64 n] w fun e w' => e = .returned (.int .i64 (cmpI f.id n)) ∧ Below w.heap.size w w' := by
  obtain ⟨f1, f2, f3, f4, f5, f6, f7, f8, f9⟩ := f
  unfold famV famCs
  simp only
  go_enter Tryz.func146, Tryz.ntmps146
  go_wp2_with fail
  refine (compare_is _ _ _).mono ?_
  rintro e w' ⟨rfl, rfl⟩
  go_wp2_with fail
  go_ret
  exact ⟨rfl, (Below.refl _ _).alloc (Nat.le_refl _) _⟩
end Go.Proofs.YtkggfahcdpgapaaGreatDoor
