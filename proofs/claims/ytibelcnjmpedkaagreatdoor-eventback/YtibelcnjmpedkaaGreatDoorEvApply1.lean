/-
  A family put in its place, or taken out, as the program does it.
-/
import Derived.Test.YtibelcnjmpedkaaGreatDoorEvDel
namespace Go.Proofs.YtibelcnjmpedkaaGreatDoor
open Go Go.RowKit Ev
theorem famsCs_set (l : List Fam) (i : Nat) (hi : i < l.length) (f : Fam) : famsCs (l.set i f) = (famsCs l).take (i * 9) ++ famCs f ++ (famsCs l).drop ((i + 1) * 9) := by
  rw [List.set_eq_take_append_cons_drop, if_pos hi, famsCs_app, famsCs_cons, famsCs_take l i (by omega), famsCs_drop l (i + 1) (by omega), List.append_assoc]
set_option maxRecDepth 100000 in
set_option maxHeartbeats 4000000 in
theorem put_is {B : Nat} {w : World} {v : Value} {l : List Fam} (h : Fams B w v l) (hr : Rising l) (hn : l.length ≤ 1000) (hB : B ≤ w.heap.size) (f : Fam) :
    Calls Tryz.prog 66 #[v, famV f] w fun e w' => ∃ v', e = .returned v' ∧ Fams B w' v' (putP l f) ∧ Below B w w' := by
  have hbx : Below w.heap.size w (w.alloc (.cells #[.int .i64 f.id, .string f.client, .string f.subject, .string f.scope, .int .i64 f.gen, .int .i64 f.made, .int .i64 f.used, .string f.request, .bool f.dead] 38)) := (Below.refl _ _).alloc (Nat.le_refl _) _
  have hfa := famAt_made w f 38 w.heap.size rfl
  have hpl := place_is (h.below hbx (Nat.le_refl _)) hr hn f.id
  have HF : Hid (Fams B w v l) := h
  have HBX : Hid _ := hbx
  have hlt0 : w.heap.size < (w.alloc (.cells #[.int .i64 f.id, .string f.client, .string f.subject, .string f.scope, .int .i64 f.gen, .int .i64 f.made, .int .i64 f.used, .string f.request, .bool f.dead] 38)).heap.size := by simp
  obtain ⟨base, c, rfl⟩ := h.slice
  clear h hbx
  have hset := famsCs_set l (rank l f.id)
  have hrl := rank_le l f.id
  have hpt := @put_there l f hr
  have hpn := fun (hx : ∀ x ∈ l, x.id ≠ f.id) => @put_new l f hr hx
  have hnone : thereB l f.id = false → ∀ x ∈ l, x.id ≠ f.id := fun hx => rank_none hr (there_no hx)
  have HP : Hid (putP l f = putP l f) := rfl
  generalize hR : rank l f.id = R at *
  cases htb : thereB l f.id with
  | true =>
    obtain ⟨hq, hid⟩ := there_yes htb
    rw [htb] at hpl
    have HPT : Hid (l.set R f = putP l f) := by
      subst hR
      exact hpt hq hid
    have hqR : R < l.length := by rw [← hR]; exact hq
    have HSET : Hid (famsCs (l.set R f) = (famsCs l).take (R * 9) ++ famCs f ++ (famsCs l).drop ((R + 1) * 9)) := hset hqR f
    clear htb hpt hpn hnone hset hid hq
    obtain ⟨f1, f2, f3, f4, f5, f6, f7, f8, f9⟩ := f
    unfold famV famCs at *
    simp only at *
    go_enter Tryz.func66, Tryz.ntmps66
    go_wp2_with fail
    refine hpl.mono ?_
    rintro e w1 ⟨rfl, hb1⟩
    have hfa1 := hfa.on hb1 hlt0
    have HB1 : Hid (Below w.heap.size w w1) := HBX.out.trans (hb1.mono HBX.out.size)
    have HF1 : Hid (Fams B w1 (.slice base l.length c) l) := HF.out.below HB1.out (Nat.le_refl _)
    have hqI : (R : Int) < (l.length : Int) := by omega
    rcases HF1.out with ⟨_, h0, _⟩ | ⟨g, c', he, hrow⟩
    · omega
    · injection he with he _ hcc
      subst he; subst hcc
      have hle : (R + 1) * 9 ≤ c * 9 := Nat.mul_le_mul_right 9 (by have := hrow.le; omega)
      have hz : ∀ k, k < 9 → ∃ u, w1.cell? ⟨g, R * 9 + k, none⟩ = some u := fun k hk => Option.isSome_iff_exists.1 (hrow.there (R * 9 + k) (by omega)).1
      have hfz : ∀ k, k < 9 → w1.frozen? ⟨g, R * 9 + k, none⟩ = false := fun k hk => (hrow.there (R * 9 + k) (by omega)).2
      obtain ⟨u0, z0⟩ := hz 0 (by omega)
      obtain ⟨u1, z1⟩ := hz 1 (by omega)
      obtain ⟨u2, z2⟩ := hz 2 (by omega)
      obtain ⟨u3, z3⟩ := hz 3 (by omega)
      obtain ⟨u4, z4⟩ := hz 4 (by omega)
      obtain ⟨u5, z5⟩ := hz 5 (by omega)
      obtain ⟨u6, z6⟩ := hz 6 (by omega)
      obtain ⟨u7, z7⟩ := hz 7 (by omega)
      obtain ⟨u8, z8⟩ := hz 8 (by omega)
      have y0 := hfz 0 (by omega)
      have y1 := hfz 1 (by omega)
      have y2 := hfz 2 (by omega)
      have y3 := hfz 3 (by omega)
      have y4 := hfz 4 (by omega)
      have y5 := hfz 5 (by omega)
      have y6 := hfz 6 (by omega)
      have y7 := hfz 7 (by omega)
      have y8 := hfz 8 (by omega)
      rw [Nat.add_zero] at z0 y0
      have p0 := hfa1.c0; have p1 := hfa1.c1; have p2 := hfa1.c2; have p3 := hfa1.c3; have p4 := hfa1.c4; have p5 := hfa1.c5; have p6 := hfa1.c6; have p7 := hfa1.c7; have p8 := hfa1.c8
      simp only [Nat.zero_add] at p0 p1 p2 p3 p4 p5 p6 p7 p8
      have HNEW : Hid (RowK 9 B (w1.setCells g (R * 9) [.int .i64 f1, .string f2, .string f3, .string f4, .int .i64 f5, .int .i64 f6, .int .i64 f7, .string f8, .bool f9]) g c l.length ((famsCs l).take (R * 9) ++ [.int .i64 f1, .string f2, .string f3, .string f4, .int .i64 f5, .int .i64 f6, .int .i64 f7, .string f8, .bool f9] ++ (famsCs l).drop ((R + 1) * 9))) := hrow.set R hqR _ rfl (famCs_one ⟨f1, f2, f3, f4, f5, f6, f7, f8, f9⟩)
      have HBN : Hid (Below B w (w1.setCells g (R * 9) [.int .i64 f1, .string f2, .string f3, .string f4, .int .i64 f5, .int .i64 f6, .int .i64 f7, .string f8, .bool f9])) := (HB1.out.mono hB).trans (below_setCellsW hrow.new _ _ _)
      clear hz hfz hrow hb1 hfa hfa1 hpl
      go_wp2_with fail
      go_ret
      refine ⟨_, rfl, ?_, HBN.out⟩
      rw [← HPT.out]
      refine .inr ⟨g, c, by rw [List.length_set]; rfl, ?_⟩
      rw [List.length_set, HSET.out]
      exact HNEW.out
  | false =>
    have hno := hnone htb
    rw [htb] at hpl
    have HPN : Hid (l.take R ++ f :: l.drop R = putP l f) := hpn hno
    clear htb hpt hpn hnone hset hno hr
    have HIN := fun (W : World) (hf : Fams B W (.slice base l.length c) l) (hBW : B ≤ W.heap.size) => insert_is' hf hn hBW R hrl f 38
    obtain ⟨f1, f2, f3, f4, f5, f6, f7, f8, f9⟩ := f
    unfold famV famCs at *
    simp only at *
    go_enter Tryz.func66, Tryz.ntmps66
    go_wp2_with fail
    refine hpl.mono ?_
    rintro e w1 ⟨rfl, hb1⟩
    have hfa1 := hfa.on hb1 hlt0
    have HB1 : Hid (Below w.heap.size w w1) := HBX.out.trans (hb1.mono HBX.out.size)
    have HF1 : Hid (Fams B w1 (.slice base l.length c) l) := HF.out.below HB1.out (Nat.le_refl _)
    have p0 := hfa1.c0; have p1 := hfa1.c1; have p2 := hfa1.c2; have p3 := hfa1.c3; have p4 := hfa1.c4; have p5 := hfa1.c5; have p6 := hfa1.c6; have p7 := hfa1.c7; have p8 := hfa1.c8
    simp only [Nat.zero_add] at p0 p1 p2 p3 p4 p5 p6 p7 p8
    clear hb1 hfa hfa1 hpl
    go_wp2_with fail
    refine (HIN _ HF1.out (Nat.le_trans hB HB1.out.size)).mono ?_
    rintro e w2 ⟨v', rfl, hf2, hb2⟩
    have HF2 : Hid (Fams B w2 v' (putP l ⟨f1, f2, f3, f4, f5, f6, f7, f8, f9⟩)) := by rw [← HPN.out]; exact hf2
    have HB2 : Hid (Below B w w2) := (HB1.out.mono hB).trans hb2
    clear hf2 hb2 p0 p1 p2 p3 p4 p5 p6 p7 p8
    go_wp2_with fail
    go_ret
    exact ⟨v', rfl, HF2.out, HB2.out⟩
set_option maxRecDepth 100000 in
set_option maxHeartbeats 4000000 in
theorem drop_is {B : Nat} {w : World} {v : Value} {l : List Fam} (h : Fams B w v l) (hr : Rising l) (hn : l.length ≤ 1000) (hB : B ≤ w.heap.size) (n : Int) :
    Calls Tryz.prog 67 #[v, .int .i64 n] w fun e w' => ∃ v', e = .returned v' ∧ Fams B w' v' (dropP l n) ∧ Below B w w' := by
  have hpl := place_is h hr hn n
  have HF : Hid (Fams B w v l) := h
  obtain ⟨base, c, rfl⟩ := h.slice
  clear h
  cases htb : thereB l n with
  | true =>
    obtain ⟨hq, hid⟩ := there_yes htb
    have HD : Hid (l.take (rank l n) ++ l.drop (rank l n + 1) = dropP l n) := drop_there hr hq hid
    rw [htb] at hpl
    have HDE := fun (W : World) (hf : Fams B W (.slice base l.length c) l) => delete_is hf hn (rank l n) hq
    clear htb hid
    generalize rank l n = R at *
    go_enter Tryz.func67, Tryz.ntmps67
    go_wp2_with fail
    refine hpl.mono ?_
    rintro e w1 ⟨rfl, hb1⟩
    have HB1 : Hid (Below w.heap.size w w1) := hb1
    have HF1 : Hid (Fams B w1 (.slice base l.length c) l) := HF.out.below HB1.out (Nat.le_refl _)
    clear hb1 hpl
    go_wp2_with fail
    refine (HDE _ HF1.out).mono ?_
    rintro e w2 ⟨v', rfl, hf2, hb2⟩
    have HF2 : Hid (Fams B w2 v' (dropP l n)) := by rw [← HD.out]; exact hf2
    have HB2 : Hid (Below B w w2) := (HB1.out.mono hB).trans hb2
    clear hf2 hb2
    go_wp2_with fail
    go_ret
    exact ⟨v', rfl, HF2.out, HB2.out⟩
  | false =>
    have HD : Hid (l = dropP l n) := drop_none (rank_none hr (there_no htb))
    rw [htb] at hpl
    clear htb
    generalize rank l n = R at *
    go_enter Tryz.func67, Tryz.ntmps67
    go_wp2_with fail
    refine hpl.mono ?_
    rintro e w1 ⟨rfl, hb1⟩
    have HB1 : Hid (Below w.heap.size w w1) := hb1
    have HF1 : Hid (Fams B w1 (.slice base l.length c) l) := HF.out.below HB1.out (Nat.le_refl _)
    clear hb1 hpl
    go_wp2_with fail
    go_ret
    refine ⟨_, rfl, ?_, HB1.out.mono hB⟩
    rw [← HD.out]
    exact HF1.out
end Go.Proofs.YtibelcnjmpedkaaGreatDoor
