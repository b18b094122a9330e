/-
  A state behind a family dropped, as the document's answer makes it.
-/
import Derived.Test.YtibelcnjmpedkaaEvRefApp
namespace Go.Proofs.Ytibelcnjmpedkaa
open Go Go.RowKit Ev
set_option maxRecDepth 100000 in
set_option maxHeartbeats 16000000 in
theorem refApply_2 {B : Nat} {w : World} {v : Value} {l : List Fam} (c n d : Int) (h : Fams B w v l) (hn : l.length ≤ 1000) :
    Calls Try.prog 12 #[stV c n v, evV ⟨2, zeroF, d, 0⟩] w fun r w' => ∃ v', r = .returned (stV c n v') ∧ Fams w.heap.size w' v' (dropP l d) ∧ Below w.heap.size w w' := by
  obtain ⟨i0, hi, hz0, hz1, hz2⟩ := info_fam
  have HRA : Hid _ := ra_made w c n v l ⟨2, zeroF, d, 0⟩ h 33 40 33 31
  obtain ⟨base, cap, rfl⟩ := h.slice
  clear h
  have HE : Hid (EvAt _ _ _) := HRA.out.ab.ev
  have HRA0 : Hid _ := HRA.out
  unfold evV evCs stV
  unfold zeroF at HRA0
  simp only [zeroF]
  simp only at HRA0
  go_enter Try.func12, Try.ntmps12
  go_wp2_with fail
  clear HE
  go_loopg [64] l.length (fun gk iv wr => ∃ (j : Nat) (vl : Value), j + gk = l.length ∧ iv = .int .i64 j ∧ Hid (RA w c n (.slice base l.length cap) l ⟨2, zeroF, d, 0⟩ vl (dropP (l.take j) d) wr))
  case atStart => exact ⟨0, _, by omega, rfl, HRA.out⟩
  case round =>
    obtain ⟨j, vl, hj, rfl, HR⟩ := hrel
    obtain ⟨bl, cl, rfl⟩ := HR.out.fl.slice
    have hdl : (dropP (l.take j) d).length ≤ 1000 := by
      have h1 := drop_len (l.take j) d
      rw [List.length_take] at h1
      omega
    have HJ : Hid (j + gk = l.length) := hj
    have hjl : j ≤ l.length := by omega
    clear hj HRA
    by_cases hlt : j < l.length
    · have hltI : (j : Int) < (l.length : Int) := by omega
      obtain ⟨g, rfl, hc⟩ := HR.out.src.fam j hlt
      have HDT : Hid (dropP (l.take (j + 1)) d = dropP (l.take j) d ++ (if l[j].id = d then [] else [l[j]])) := dropP_take l d j hlt
      generalize l[j] = y at *
      obtain ⟨y1, y2, y3, y4, y5, y6, y7, y8, y9⟩ := y
      have q0 := hc.c0; have q1 := hc.c1; have q2 := hc.c2; have q3 := hc.c3; have q4 := hc.c4; have q5 := hc.c5; have q6 := hc.c6; have q7 := hc.c7; have q8 := hc.c8
      simp only at q0 q1 q2 q3 q4 q5 q6 q7 q8
      have HR1 : Hid (RA w c n _ l _ _ _ (wr.alloc (.cells #[.int .i64 y1, .string y2, .string y3, .string y4, .int .i64 y5, .int .i64 y6, .int .i64 y7, .string y8, .bool y9] 36))) := HR.out.on ((Below.refl _ _).alloc (Nat.le_refl _) _)
      have e0 := HR1.out.ab.ev.c10
      have e1 := HR1.out.l0
      have e2 := HR1.out.lf
      simp only at e0
      clear hc
      by_cases hid : y1 = d
      · have HDT2 : Hid (dropP (l.take (j + 1)) d = dropP (l.take j) d) := by show _ = _; rw [HDT.out, if_pos hid, List.append_nil]
        have hidb : (y1 == d) = true := by rw [beq_iff_eq]; exact hid
        clear hid
        go_wp2_with fail
        go_roundg (gk - 1)
        case measure => have := HJ.out; omega
        case rel => exact ⟨j + 1, _, by have := HJ.out; omega, by go_num, by show RA _ _ _ _ _ _ _ _ _; rw [HDT2.out]; exact HR1.out⟩
      · have HDT2 : Hid (dropP (l.take (j + 1)) d = dropP (l.take j) d ++ [⟨y1, y2, y3, y4, y5, y6, y7, y8, y9⟩]) := by show _ = _; rw [HDT.out, if_neg hid]
        have hidb : (y1 == d) = false := by rw [beq_eq_false_iff_ne]; exact hid
        clear hid
        have HR2 : Hid (RA w c n _ l _ _ _ ((wr.alloc (.cells #[.int .i64 y1, .string y2, .string y3, .string y4, .int .i64 y5, .int .i64 y6, .int .i64 y7, .string y8, .bool y9] 36)).alloc (.cells #[.int .i64 y1, .string y2, .string y3, .string y4, .int .i64 y5, .int .i64 y6, .int .i64 y7, .string y8, .bool y9] 36))) := HR1.out.on ((Below.refl _ _).alloc (Nat.le_refl _) _)
        have hsrc : Src Try.prog 9 31 (.slice (some ⟨wr.heap.size + 1, 0, none⟩) 1 1) 1 (famCs ⟨y1, y2, y3, y4, y5, y6, y7, y8, y9⟩) ((wr.alloc (.cells #[.int .i64 y1, .string y2, .string y3, .string y4, .int .i64 y5, .int .i64 y6, .int .i64 y7, .string y8, .bool y9] 36)).alloc (.cells #[.int .i64 y1, .string y2, .string y3, .string y4, .int .i64 y5, .int .i64 y6, .int .i64 y7, .string y8, .bool y9] 36)) := Src.ofSlice _ Try.underlying31 ⟨wr.heap.size + 1, 0, none⟩ 1 1 _ (by simp [famCs_len]) (fun k u hk => by
          rw [Addr.add_lit, Nat.zero_add, World.cell?_alloc_at _ _ _ _ (by simp)]
          simpa [famCs] using hk) (famCs_one _)
        go_wp2_with (at_builtin; refine wpList_append_rowsK _ rfl _ _ 31 rfl 36 i0 _ 9 i0.bytes Try.underlying31 hi hz0 hz1 rfl zero_cells (w.heap.size + 4) _ _ _ rfl HR2.out.fl HR2.out.ab.size _ 1 (famCs ⟨y1, y2, y3, y4, y5, y6, y7, y8, y9⟩) rfl hsrc (by omega) (by omega) ?_)
        intro v' w3 h7 h8 h9
        have HRB : Hid _ := HR2.out.rb h8
        have hff : Fams (w.heap.size + 4) w3 v' (dropP (l.take (j + 1)) d) := by
          show RowsK _ _ _ _ _ _
          rw [HDT2.out, List.length_append, List.length_singleton, famsCs_app, famsCs_one1]
          exact h7
        obtain ⟨b3, c3, rfl⟩ := hff.slice
        have HR3 : Hid _ := HRB.out.put hff
        have z1 := HRB.out.l0
        have z2 := HRB.out.lf
        clear h7 h8 h9 hff hsrc e0 e1 e2 q0 q1 q2 q3 q4 q5 q6 q7 q8
        go_wp2_with fail
        go_roundg (gk - 1)
        case measure => have := HJ.out; omega
        case rel => exact ⟨j + 1, _, by have := HJ.out; omega, by go_num, HR3.out⟩
    · obtain rfl : j = l.length := by omega
      have hrr := HR.out
      rw [List.take_of_length_le (Nat.le_refl _)] at hrr hdl
      have HRE : Hid _ := hrr
      clear hrr HR HJ hlt
      generalize hpp : dropP l d = D at *
      have HPP : Hid (dropP l d = D) := hpp
      have HF5 : Hid (Fams (w.heap.size + 4) wr (.slice bl D.length cl) D) := HRE.out.fl
      have s0 := HRE.out.ab.s0
      have s1 := HRE.out.ab.s1
      have s2 := HRE.out.ab.s2
      have fz := HRE.out.ab.fs
      have fr : ∀ i, wr.frozen? ⟨w.heap.size + 1 + 1, i, none⟩ = false := HRE.out.ab.fr
      have r0 : wr.cell? ⟨w.heap.size + 1 + 1, 0, none⟩ = _ := HRE.out.ab.r0
      have r1 : wr.cell? ⟨w.heap.size + 1 + 1, 1, none⟩ = _ := HRE.out.ab.r1
      have r2 : wr.cell? ⟨w.heap.size + 1 + 1, 2, none⟩ = _ := HRE.out.ab.r2
      have l0 := HRE.out.l0
      have HB5 : Hid (Below w.heap.size w wr) := HRE.out.below
      have HSET : Hid (∀ (W : World) (g i : Nat) (u : Value), g < w.heap.size + 4 → Fams (w.heap.size + 4) W (.slice bl D.length cl) D → Fams (w.heap.size + 4) (W.setCell ⟨g, i, none⟩ u) (.slice bl D.length cl) D) := fun W g i u hg hw => hw.other (a := ⟨g, i, none⟩) hg u
      clear hpp HRE hdl
      generalize hb : w.heap.size = b at *
      have HWB : Hid (w.heap.size = b) := hb
      clear hb
      have HFN : Hid (Fams b ((((wr.setCell ⟨b, 2, none⟩ (.slice bl D.length cl)).setCell ⟨b + 1 + 1, 0, none⟩ (.int .i64 c)).setCell ⟨b + 1 + 1, 1, none⟩ (.int .i64 n)).setCell ⟨b + 1 + 1, 2, none⟩ (.slice bl D.length cl)) (.slice bl D.length cl) D) := by
        refine RowsK.mono (B := b + 4) ?_ (by omega)
        repeat (first | exact HF5.out | refine HSET.out _ _ _ _ (by omega) ?_)
      have HBN : Hid (Below b w ((((wr.setCell ⟨b, 2, none⟩ (.slice bl D.length cl)).setCell ⟨b + 1 + 1, 0, none⟩ (.int .i64 c)).setCell ⟨b + 1 + 1, 1, none⟩ (.int .i64 n)).setCell ⟨b + 1 + 1, 2, none⟩ (.slice bl D.length cl))) := by
        show Below _ _ _
        repeat (first | exact HB5.out | refine Below.setCell ?_ (by simp; try omega) _)
      go_wp2_with fail
      obtain ⟨q0, q1, q2⟩ := @three_set (wr.setCell ⟨b, 2, none⟩ (.slice bl D.length cl)) (b + 1 + 1) (.int .i64 c) (.int .i64 n) (.slice bl D.length cl) _ _ _ (set_other r0 (by omega)) (set_other r1 (by omega)) (set_other r2 (by omega))
      have HFN2 := HFN.out
      have HBN2 := HBN.out
      clear HFN HBN s0 s1 s2 fz fr r0 r1 r2 l0
      generalize World.setCell _ ⟨b + 1 + 1, 2, none⟩ _ = WW at *
      exact bodyPost_ret (v := .agg #[.int .i64 c, .int .i64 n, .slice bl D.length cl]) (by simp [results, Try.results12, go_sem, q0, q1, q2]) rfl ⟨_, rfl, by rw [HWB.out]; first | exact HFN2 | (rw [HPP.out]; exact HFN2), by rw [HWB.out]; exact HBN2⟩
end Go.Proofs.Ytibelcnjmpedkaa
