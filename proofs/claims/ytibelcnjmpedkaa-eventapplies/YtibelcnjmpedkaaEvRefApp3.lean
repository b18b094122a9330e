/-
  A state behind a time, as the document's answer makes it.
-/
import Derived.Test.YtibelcnjmpedkaaEvRefApp
namespace Go.Proofs.Ytibelcnjmpedkaa
open Go Go.RowKit Ev
set_option maxRecDepth 100000 in
set_option maxHeartbeats 16000000 in
theorem refApply_3 {B : Nat} {w : World} {v : Value} {l : List Fam} (c n d : Int) (h : Fams B w v l) (hn : l.length ≤ 1000) :
    Calls Try.prog 12 #[stV c n v, evV ⟨3, zeroF, 0, d⟩] w fun r w' => ∃ v', r = .returned (stV d n v') ∧ Fams w.heap.size w' v' l ∧ Below w.heap.size w w' := by
  obtain ⟨i0, hi, hz0, hz1, hz2⟩ := info_fam
  have HRA : Hid _ := ra_made w c n v l ⟨3, zeroF, 0, d⟩ h 33 40 33 31
  obtain ⟨base, cap, rfl⟩ := h.slice
  clear h
  have hsrc := HRA.out.src.src
  have hfl := HRA.out.fl
  have hsz := HRA.out.ab.size
  unfold zeroF at hsrc hfl hsz
  unfold evV evCs stV
  simp only [zeroF]
  simp only at hsrc hfl hsz
  go_enter Try.func12, Try.ntmps12
  go_wp2_with (at_builtin; refine wpList_append_rowsK _ rfl _ _ 31 rfl 36 i0 _ 9 i0.bytes Try.underlying31 hi hz0 hz1 rfl zero_cells (w.heap.size + 4) _ _ _ rfl hfl hsz _ l.length (famsCs l) rfl hsrc (by first | omega | (simp; done) | (simp; omega)) (by first | omega | (simp; done) | (simp; omega)) ?_)
  intro v' w3 h7 h8 h9
  have HRB : Hid _ := HRA.out.rb h8
  have hff : Fams (w.heap.size + 4) w3 v' l := by
    show RowsK _ _ _ _ _ _
    simpa [famsCs] using h7
  obtain ⟨bl, cl, rfl⟩ := hff.slice
  have HR3 : Hid _ := HRB.out.put hff
  have z1 := HRB.out.l0
  have z2 := HRB.out.lf
  clear h7 h8 h9 hff hsrc HRA hfl hsz
  have s0 := HRB.out.ab.s0
  have s1 := HRB.out.ab.s1
  have s2 := HRB.out.ab.s2
  have k1 := HRB.out.ab.ev.c11
  have fz := HRB.out.ab.fs
  have fr : ∀ i, w3.frozen? ⟨w.heap.size + 1 + 1, i, none⟩ = false := HRB.out.ab.fr
  have r0 : w3.cell? ⟨w.heap.size + 1 + 1, 0, none⟩ = _ := HRB.out.ab.r0
  have r1 : w3.cell? ⟨w.heap.size + 1 + 1, 1, none⟩ = _ := HRB.out.ab.r1
  have r2 : w3.cell? ⟨w.heap.size + 1 + 1, 2, none⟩ = _ := HRB.out.ab.r2
  simp only at k1
  have HF5 : Hid (Fams (w.heap.size + 4) (w3.setCell ⟨w.heap.size + 3, 0, none⟩ (.slice bl l.length cl)) (.slice bl l.length cl) l) := HR3.out.fl
  have HB5 : Hid (Below w.heap.size w (w3.setCell ⟨w.heap.size + 3, 0, none⟩ (.slice bl l.length cl))) := HR3.out.below
  have HSET : Hid (∀ (W : World) (g i : Nat) (u : Value), g < w.heap.size + 4 → Fams (w.heap.size + 4) W (.slice bl l.length cl) l → Fams (w.heap.size + 4) (W.setCell ⟨g, i, none⟩ u) (.slice bl l.length cl) l) := fun W g i u hg hw => hw.other (a := ⟨g, i, none⟩) hg u
  clear HRB HR3
  generalize hb : w.heap.size = b at *
  have HWB : Hid (w.heap.size = b) := hb
  clear hb
  have HFN : Hid (Fams b ((((((w3.setCell ⟨b + 1 + 1 + 1, 0, none⟩ (.slice bl l.length cl)).setCell ⟨b, 0, none⟩ (.int .i64 d)).setCell ⟨b, 2, none⟩ (.slice bl l.length cl)).setCell ⟨b + 1 + 1, 0, none⟩ (.int .i64 d)).setCell ⟨b + 1 + 1, 1, none⟩ (.int .i64 n)).setCell ⟨b + 1 + 1, 2, none⟩ (.slice bl l.length cl)) (.slice bl l.length cl) l) := by
    refine RowsK.mono (B := b + 4) ?_ (by omega)
    iterate 5 refine HSET.out _ _ _ _ (by omega) ?_
    exact HF5.out
  have HBN : Hid (Below b w ((((((w3.setCell ⟨b + 1 + 1 + 1, 0, none⟩ (.slice bl l.length cl)).setCell ⟨b, 0, none⟩ (.int .i64 d)).setCell ⟨b, 2, none⟩ (.slice bl l.length cl)).setCell ⟨b + 1 + 1, 0, none⟩ (.int .i64 d)).setCell ⟨b + 1 + 1, 1, none⟩ (.int .i64 n)).setCell ⟨b + 1 + 1, 2, none⟩ (.slice bl l.length cl))) := by
    show Below _ _ _
    iterate 5 refine Below.setCell ?_ (by simp; try omega) _
    exact HB5.out
  go_wp2_with fail
  obtain ⟨q0, q1, q2⟩ := @three_set (((w3.setCell ⟨b + 1 + 1 + 1, 0, none⟩ (.slice bl l.length cl)).setCell ⟨b, 0, none⟩ (.int .i64 d)).setCell ⟨b, 2, none⟩ (.slice bl l.length cl)) (b + 1 + 1) (.int .i64 d) (.int .i64 n) (.slice bl l.length cl) _ _ _ (set_other (set_other (set_other r0 (by omega)) (by omega)) (by omega)) (set_other (set_other (set_other r1 (by omega)) (by omega)) (by omega)) (set_other (set_other (set_other r2 (by omega)) (by omega)) (by omega))
  have HFN2 := HFN.out
  have HBN2 := HBN.out
  clear HFN HBN s0 s1 s2 fz fr r0 r1 r2
  generalize World.setCell _ ⟨b + 1 + 1, 2, none⟩ _ = WW at *
  exact bodyPost_ret (v := .agg #[.int .i64 d, .int .i64 n, .slice bl l.length cl]) (by simp [results, Try.results12, go_sem, q0, q1, q2]) rfl ⟨_, rfl, by rw [HWB.out]; exact HFN2, by rw [HWB.out]; exact HBN2⟩
end Go.Proofs.Ytibelcnjmpedkaa
