/-
  Own texts put together: EvPut, EvDel, EvApply1.
-/
import Derived.Test.YtlailakofhenkabGreatDoorB12
import Derived.Deep.RegionLaw
namespace Go.Proofs.YtlailakofhenkabGreatDoor
open Go Go.RowKit Ev
theorem famsCs_ins (l : List Fam) (i : Nat) (hi : i ≤ l.length) (f : Fam) : famsCs (l.take i ++ f :: l.drop i) = (famsCs l).take (i * 9) ++ famCs f ++ (famsCs l).drop (i * 9) := by
  rw [famsCs_app, famsCs_cons, famsCs_take l i hi, famsCs_drop l i hi, List.append_assoc]
theorem insert_is' {B : Nat} {w : World} {v : Value} {l : List Fam} (h : Fams B w v l) (hn : l.length ≤ 5000) (hB : B ≤ w.heap.size) (i : Nat) (hi : i ≤ l.length) (f : Fam) (t : TypeId) :
    Calls Tryz.prog 126 #[v, .int .i64 (i : Nat), .slice (some ⟨w.heap.size, 0, none⟩) 1 1] (w.alloc (.cells (famCs f).toArray t)) fun e w' => ∃ v', e = .returned v' ∧ Fams B w' v' (l.take i ++ f :: l.drop i) ∧ Below B w w' := by
  by_cases hil : i = l.length
  · subst hil
    rw [List.take_of_length_le (Nat.le_refl _), List.drop_of_length_le (Nat.le_refl _)]
    exact insert_end h hn hB f t
  · have hlt : i < l.length := by omega
    have hbW : Below B w (w.alloc (.cells (famCs f).toArray t)) := (Below.refl _ _).alloc hB _
    have hvs : ∀ j u, (famCs f)[j]? = some u → (w.alloc (.cells (famCs f).toArray t)).cell? ⟨w.heap.size, j, none⟩ = some u := fun j u hj => by
      rw [World.cell?_alloc_at _ _ _ _ rfl]
      simpa using hj
    have hlen : (l.take i ++ f :: l.drop i).length = l.length + 1 := ins_len l i hi f
    rcases h with ⟨rfl, h0, _⟩ | ⟨g, c, rfl, hr⟩
    · omega
    · have hrW : RowK 9 B (w.alloc (.cells (famCs f).toArray t)) g c l.length (famsCs l) := hr.below ((Below.refl w.heap.size w).alloc (Nat.le_refl _) _) hr.lt
      by_cases hroom : l.length + 1 ≤ c
      · refine (insert_room hrW hn hlt hroom (famCs f) rfl (famCs_one f) w.heap.size (by have := hr.lt; omega) hvs t 9 ?_ (fun j => World.frozen?_alloc_at _ _ _ _ rfl)).mono ?_
        · unfold World.shape?
          rw [show (w.alloc (.cells (famCs f).toArray t)).heap[w.heap.size]? = some (.cells (famCs f).toArray t) from Array.getElem?_push_size]
          rfl
        · rintro e w' ⟨rfl, rfl⟩
          have hrD : RowK 9 B (w.alloc (.cells (famCs f).toArray t)).drew g c l.length (famsCs l) := hrW.block (Nat.le_refl _) rfl
          refine ⟨_, rfl, .inr ⟨g, c, by rw [hlen], ?_⟩, (hbW.drew.trans (below_setCellsW hr.new _ _ _)).trans (below_setCellsW hr.new _ _ _)⟩
          rw [hlen, famsCs_ins l i hi f]
          exact hrD.shift i hi hroom (famCs f) rfl (famCs_one f)
      · refine (insert_grow hrW hn hlt (by omega) (famCs f) rfl (famCs_one f) w.heap.size (by simp) hvs).mono ?_
        rintro e w' ⟨rfl, rfl⟩
        generalize w.alloc (.cells (famCs f).toArray t) = W at *
        have hBW : B ≤ W.heap.size := Nat.le_trans hB hbW.size
        refine ⟨_, rfl, .inr ⟨_, _, by rw [hlen], ?_⟩, (((hbW.alloc hBW _).drew.trans (below_setCellsW hBW _ _ _)).drew).trans (below_setCellsW hBW _ _ _)⟩
        rw [hlen, famsCs_ins l i hi f]
        exact hrW.grown hBW i hi (famCs f) rfl (famCs_one f) _ zero_cells _ _ (grownCap_le_maxLen W _ _ _ (by unfold maxLen; omega)) (grownCap_ge W _ _ _)
end Go.Proofs.YtlailakofhenkabGreatDoor

namespace Go.Proofs.YtlailakofhenkabGreatDoor
open Go Go.RowKit Ev
theorem zeroFT (w : World) : (zeroValue 40).run Tryz.prog w = .ok (famV zeroF) w := by
  obtain ⟨i0, hi, hz0, _⟩ := info_fam
  simp [zeroValue, typeInfo, hi, hz0]
theorem run_clear_z (w : World) (ty : TypeId) (z : Value) (us : List Value) (hz : ∀ w, (zeroValue 40).run Tryz.prog w = .ok z w) (hu : (Builtin.zeroCells z.cells 1).toList = us) (hul : us.length = 9) (h1 : ∀ u ∈ us, u.oneCell' = true) (b o c : Nat) (hc : ∀ j, j < 9 → (w.cell? ⟨b, o + j, none⟩).isSome = true) (hf : ∀ j, j < 9 → w.frozen? ⟨b, o + j, none⟩ = false) :
    (Builtin.clear_ #[34] ty #[.slice (some ⟨b, o, none⟩) 1 c]).run Tryz.prog w = .ok (.tuple #[]) (w.setCells b o us) := by
  have hst := run_storeCells_cells (P := Tryz.prog) b o us 0 w (by simpa [hul] using hc) (by simpa [hul] using hf) h1
  simp only [Nat.add_zero] at hst
  simp [Builtin.clear_, run_underlying Tryz.underlying34, hz, hu, hst]
theorem zeroCs : (Builtin.zeroCells (famV zeroF).cells 1).toList = famCs zeroF := by
  unfold Builtin.zeroCells famV famCs
  simp [Value.cells]
  rfl
theorem run_clear_one (w : World) (ty : TypeId) (b o c : Nat) (hc : ∀ j, j < 9 → (w.cell? ⟨b, o + j, none⟩).isSome = true) (hf : ∀ j, j < 9 → w.frozen? ⟨b, o + j, none⟩ = false) :
    (Builtin.clear_ #[34] ty #[.slice (some ⟨b, o, none⟩) 1 c]).run Tryz.prog w = .ok (.tuple #[]) (w.setCells b o (famCs zeroF)) :=
  run_clear_z w ty (famV zeroF) (famCs zeroF) zeroFT zeroCs rfl (famCs_one zeroF) b o c hc hf
set_option maxRecDepth 100000 in
set_option maxHeartbeats 8000000 in
theorem delete_run {B : Nat} {w : World} {g c i r : Nat} {cs : List Value} (hr : RowK 9 B w g c (i + 1 + r) cs) (hn : i + 1 + r ≤ 5000) :
    Calls Tryz.prog 127 #[.slice (some ⟨g, 0, none⟩) (i + 1 + r) c, .int .i64 (i : Nat), .int .i64 ((i : Int) + 1)] w fun e w' =>
      e = .returned (.slice (some ⟨g, 0, none⟩) (i + r) c) ∧ w' = (w.drew.setCells g (i * 9) (cs.drop ((i + 1) * 9))).setCells g ((i + r) * 9) (famCs zeroF) := by
  have mixed := mixedF
  obtain ⟨i0, hi0, hz0, hz1, hz2⟩ := info_fam
  have hlen := hr.len
  have hle := hr.le
  have hmax : c ≤ 9223372036854775807 := hr.max
  have hk : (i + 1 + r) * 9 ≤ c * 9 := Nat.mul_le_mul_right 9 hle
  have hdl : (cs.drop ((i + 1) * 9)).length = r * 9 := by rw [List.length_drop, hlen]; omega
  obtain ⟨A, hA, hsrc⟩ : ∃ A : Addr, (if c = i + 1 then (some ⟨g, 0, none⟩ : Option Addr) else some ⟨g, (i + 1) * 9, none⟩) = some A ∧ Hid (∀ t u, (cs.drop ((i + 1) * 9))[t]? = some u → w.drew.cell? (A.add t) = some u) := by
    by_cases h : c = i + 1
    · refine ⟨⟨g, 0, none⟩, by simp [h], fun t u hu => ?_⟩
      have hr0 : r = 0 := by omega
      have h0 : (cs.drop ((i + 1) * 9)).length = 0 := by rw [hdl, hr0]
      rw [List.length_eq_zero_iff.1 h0] at hu
      simp at hu
    · refine ⟨⟨g, (i + 1) * 9, none⟩, by simp [h], fun t u hu => ?_⟩
      rw [Addr.add_lit]
      exact hr.holds _ u (by rwa [List.getElem?_drop] at hu)
  have s1 : Hid ((cs.drop ((i + 1) * 9)).length = r * 9) := hdl
  have s2 : Hid (∀ u ∈ cs.drop ((i + 1) * 9), u.oneCell' = true) := fun u hu => hr.one u (List.mem_of_mem_drop hu)
  have s3 : Hid (∀ t, t < (cs.drop ((i + 1) * 9)).length → (w.drew.cell? ⟨g, 0 + i * 9 + t, none⟩).isSome = true ∧ w.drew.frozen? ⟨g, 0 + i * 9 + t, none⟩ = false) := by
    intro t ht
    rw [hdl] at ht
    rw [Nat.zero_add]
    exact hr.there _ (by omega)
  obtain ⟨W1, hW1⟩ : ∃ W1, W1 = w.drew.setCells g (0 + i * 9) (cs.drop ((i + 1) * 9)) := ⟨_, rfl⟩
  have hcl : ∀ ty cc, (Builtin.clear_ #[34] ty #[.slice (some ⟨g, (i + r) * 9, none⟩) 1 cc]).run Tryz.prog W1 = .ok (.tuple #[]) (W1.setCells g ((i + r) * 9) (famCs zeroF)) := fun ty cc =>
    run_clear_one W1 ty g ((i + r) * 9) cc (fun t ht => by
      rw [hW1]
      exact isSome_setCells g (cs.drop ((i + 1) * 9)) (0 + i * 9) w.drew (fun j hj => by rw [Nat.zero_add]; exact (hr.there _ (by rw [hdl] at hj; omega)).1) _ (hr.there _ (by omega)).1)
      (fun t ht => by rw [hW1, World.frozen?_setCells]; exact (hr.there _ (by omega)).2)
  have hW : Hid (W1 = w.drew.setCells g (0 + i * 9) (cs.drop ((i + 1) * 9))) := hW1
  have hic : i ≤ c := by omega
  have hjc : i + 1 ≤ c := by omega
  have hx : i + 1 + r - (i + r) = 1 := by omega
  have hx2 : i + 1 + r - (i + 1) = r := by omega
  have hcn : ¬ c = i + r := by omega
  have hcn2 : ¬ c = i := by omega
  have hI1 : (i : Int) + 1 ≤ (i : Int) + 1 + (r : Int) := by omega
  have hI0 : (0 : Int) ≤ (i : Int) + 1 := by omega
  have hIw : IntKind.i64.wrap ((i : Int) + 1) = (i : Int) + 1 := by rw [IntKind.wrap_i64]; omega
  clear hW1 hr hlen hdl
  go_enter Tryz.func127, Tryz.ntmps127
  go_wp2_with fail
  go_region_law_o (refine step_append_room rfl (.tmp 22) (.tmp 25) 34 rfl 40 i0 9 Tryz.underlying34 hi0 hz1 g 0 i c (by simp [Act.eval, Act.put]) A r (c - (i + 1)) (cs.drop ((i + 1) * 9)) (by simp [Act.eval, Act.put]) s1.out hsrc.out s2.out (by omega) s3.out ?_; rw [← hW.out])
  go_wp2_with fail
  go_ret
  exact ⟨rfl, by rw [hW.out, Nat.zero_add]⟩
theorem delete_is {B : Nat} {w : World} {v : Value} {l : List Fam} (h : Fams B w v l) (hn : l.length ≤ 5000) (i : Nat) (hi : i < l.length) :
    Calls Tryz.prog 127 #[v, .int .i64 (i : Nat), .int .i64 ((i : Int) + 1)] w fun e w' => ∃ v', e = .returned v' ∧ Fams B w' v' (l.take i ++ l.drop (i + 1)) ∧ Below B w w' := by
  obtain ⟨r, hr'⟩ : ∃ r, l.length = i + 1 + r := ⟨l.length - (i + 1), by omega⟩
  have hlen : (l.take i ++ l.drop (i + 1)).length = i + r := by rw [List.length_append, List.length_take, List.length_drop]; omega
  have hcs : famsCs (l.take i ++ l.drop (i + 1)) = (famsCs l).take (i * 9) ++ (famsCs l).drop ((i + 1) * 9) := by
    rw [famsCs_app, famsCs_take l i (by omega), famsCs_drop l (i + 1) (by omega)]
  rcases h with ⟨rfl, h0, _⟩ | ⟨g, c, rfl, hr⟩
  · omega
  · rw [hr'] at hr ⊢
    refine (delete_run hr (by omega)).mono ?_
    rintro e w' ⟨rfl, rfl⟩
    have hrD : RowK 9 B w.drew g c (i + 1 + r) (famsCs l) := hr.block (Nat.le_refl _) rfl
    have hcut := hrD.cut i (by omega) (famCs zeroF) rfl
    rw [show i + 1 + r - 1 = i + r by omega] at hcut
    refine ⟨_, rfl, .inr ⟨g, c, by rw [hlen], ?_⟩, (((Below.refl B w).drew).trans (below_setCellsW hr.new _ _ _)).trans (below_setCellsW hr.new _ _ _)⟩
    rw [hlen, hcs]
    exact hcut
end Go.Proofs.YtlailakofhenkabGreatDoor

namespace Go.Proofs.YtlailakofhenkabGreatDoor
open Go Go.RowKit Ev
theorem famsCs_set (l : List Fam) (i : Nat) (hi : i < l.length) (f : Fam) : famsCs (l.set i f) = (famsCs l).take (i * 9) ++ famCs f ++ (famsCs l).drop ((i + 1) * 9) := by
  rw [List.set_eq_take_append_cons_drop, if_pos hi, famsCs_app, famsCs_cons, famsCs_take l i (by omega), famsCs_drop l (i + 1) (by omega), List.append_assoc]
set_option maxRecDepth 100000 in
set_option maxHeartbeats 4000000 in
theorem put_is {B : Nat} {w : World} {v : Value} {l : List Fam} (h : Fams B w v l) (hr : Rising l) (hn : l.length ≤ 5000) (hB : B ≤ w.heap.size) (f : Fam) :
    Calls Tryz.prog 62 #[v, famV f] w fun e w' => ∃ v', e = .returned v' ∧ Fams B w' v' (putP l f) ∧ Below B w w' := by
  have hbx : Below w.heap.size w (w.alloc (.cells #[.int .i64 f.id, .string f.client, .string f.subject, .string f.scope, .int .i64 f.gen, .int .i64 f.made, .int .i64 f.used, .string f.request, .bool f.dead] 40)) := (Below.refl _ _).alloc (Nat.le_refl _) _
  have hfa := famAt_made w f 40 w.heap.size rfl
  have hpl := place_is (h.below hbx (Nat.le_refl _)) hr hn f.id
  have HF : Hid (Fams B w v l) := h
  have HBX : Hid _ := hbx
  have hlt0 : w.heap.size < (w.alloc (.cells #[.int .i64 f.id, .string f.client, .string f.subject, .string f.scope, .int .i64 f.gen, .int .i64 f.made, .int .i64 f.used, .string f.request, .bool f.dead] 40)).heap.size := by simp
  obtain ⟨base, c, rfl⟩ := h.slice
  clear h hbx
  have hset := famsCs_set l (rank l f.id)
  have hrl := rank_le l f.id
  have hpt := @put_there l f hr
  have hpn := fun (hx : ∀ x ∈ l, x.id ≠ f.id) => @put_new l f hr hx
  have hnone : thereB l f.id = false → ∀ x ∈ l, x.id ≠ f.id := fun hx => rank_none hr (there_no hx)
  have HP : Hid (putP l f = putP l f) := rfl
  generalize hR : rank l f.id = R at *
  cases htb : thereB l f.id with
  | true =>
    obtain ⟨hq, hid⟩ := there_yes htb
    rw [htb] at hpl
    have HPT : Hid (l.set R f = putP l f) := by
      subst hR
      exact hpt hq hid
    have hqR : R < l.length := by rw [← hR]; exact hq
    have HSET : Hid (famsCs (l.set R f) = (famsCs l).take (R * 9) ++ famCs f ++ (famsCs l).drop ((R + 1) * 9)) := hset hqR f
    clear htb hpt hpn hnone hset hid hq
    obtain ⟨f1, f2, f3, f4, f5, f6, f7, f8, f9⟩ := f
    unfold famV famCs at *
    simp only at *
    go_enter Tryz.func62, Tryz.ntmps62
    go_wp2_with fail
    refine hpl.mono ?_
    rintro e w1 ⟨rfl, hb1⟩
    have hfa1 := hfa.on hb1 hlt0
    have HB1 : Hid (Below w.heap.size w w1) := HBX.out.trans (hb1.mono HBX.out.size)
    have HF1 : Hid (Fams B w1 (.slice base l.length c) l) := HF.out.below HB1.out (Nat.le_refl _)
    have hqI : (R : Int) < (l.length : Int) := by omega
    rcases HF1.out with ⟨_, h0, _⟩ | ⟨g, c', he, hrow⟩
    · omega
    · injection he with he _ hcc
      subst he; subst hcc
      have hle : (R + 1) * 9 ≤ c * 9 := Nat.mul_le_mul_right 9 (by have := hrow.le; omega)
      have hz : ∀ k, k < 9 → ∃ u, w1.cell? ⟨g, R * 9 + k, none⟩ = some u := fun k hk => Option.isSome_iff_exists.1 (hrow.there (R * 9 + k) (by omega)).1
      have hfz : ∀ k, k < 9 → w1.frozen? ⟨g, R * 9 + k, none⟩ = false := fun k hk => (hrow.there (R * 9 + k) (by omega)).2
      obtain ⟨u0, z0⟩ := hz 0 (by omega)
      obtain ⟨u1, z1⟩ := hz 1 (by omega)
      obtain ⟨u2, z2⟩ := hz 2 (by omega)
      obtain ⟨u3, z3⟩ := hz 3 (by omega)
      obtain ⟨u4, z4⟩ := hz 4 (by omega)
      obtain ⟨u5, z5⟩ := hz 5 (by omega)
      obtain ⟨u6, z6⟩ := hz 6 (by omega)
      obtain ⟨u7, z7⟩ := hz 7 (by omega)
      obtain ⟨u8, z8⟩ := hz 8 (by omega)
      have y0 := hfz 0 (by omega)
      have y1 := hfz 1 (by omega)
      have y2 := hfz 2 (by omega)
      have y3 := hfz 3 (by omega)
      have y4 := hfz 4 (by omega)
      have y5 := hfz 5 (by omega)
      have y6 := hfz 6 (by omega)
      have y7 := hfz 7 (by omega)
      have y8 := hfz 8 (by omega)
      rw [Nat.add_zero] at z0 y0
      have p0 := hfa1.c0; have p1 := hfa1.c1; have p2 := hfa1.c2; have p3 := hfa1.c3; have p4 := hfa1.c4; have p5 := hfa1.c5; have p6 := hfa1.c6; have p7 := hfa1.c7; have p8 := hfa1.c8
      simp only [Nat.zero_add] at p0 p1 p2 p3 p4 p5 p6 p7 p8
      have HNEW : Hid (RowK 9 B (w1.setCells g (R * 9) [.int .i64 f1, .string f2, .string f3, .string f4, .int .i64 f5, .int .i64 f6, .int .i64 f7, .string f8, .bool f9]) g c l.length ((famsCs l).take (R * 9) ++ [.int .i64 f1, .string f2, .string f3, .string f4, .int .i64 f5, .int .i64 f6, .int .i64 f7, .string f8, .bool f9] ++ (famsCs l).drop ((R + 1) * 9))) := hrow.set R hqR _ rfl (famCs_one ⟨f1, f2, f3, f4, f5, f6, f7, f8, f9⟩)
      have HBN : Hid (Below B w (w1.setCells g (R * 9) [.int .i64 f1, .string f2, .string f3, .string f4, .int .i64 f5, .int .i64 f6, .int .i64 f7, .string f8, .bool f9])) := (HB1.out.mono hB).trans (below_setCellsW hrow.new _ _ _)
      clear hz hfz hrow hb1 hfa hfa1 hpl
      go_wp2_with fail
      go_ret
      refine ⟨_, rfl, ?_, HBN.out⟩
      rw [← HPT.out]
      refine .inr ⟨g, c, by rw [List.length_set]; rfl, ?_⟩
      rw [List.length_set, HSET.out]
      exact HNEW.out
  | false =>
    have hno := hnone htb
    rw [htb] at hpl
    have HPN : Hid (l.take R ++ f :: l.drop R = putP l f) := hpn hno
    clear htb hpt hpn hnone hset hno hr
    have HIN := fun (W : World) (hf : Fams B W (.slice base l.length c) l) (hBW : B ≤ W.heap.size) => insert_is' hf hn hBW R hrl f 40
    obtain ⟨f1, f2, f3, f4, f5, f6, f7, f8, f9⟩ := f
    unfold famV famCs at *
    simp only at *
    go_enter Tryz.func62, Tryz.ntmps62
    go_wp2_with fail
    refine hpl.mono ?_
    rintro e w1 ⟨rfl, hb1⟩
    have hfa1 := hfa.on hb1 hlt0
    have HB1 : Hid (Below w.heap.size w w1) := HBX.out.trans (hb1.mono HBX.out.size)
    have HF1 : Hid (Fams B w1 (.slice base l.length c) l) := HF.out.below HB1.out (Nat.le_refl _)
    have p0 := hfa1.c0; have p1 := hfa1.c1; have p2 := hfa1.c2; have p3 := hfa1.c3; have p4 := hfa1.c4; have p5 := hfa1.c5; have p6 := hfa1.c6; have p7 := hfa1.c7; have p8 := hfa1.c8
    simp only [Nat.zero_add] at p0 p1 p2 p3 p4 p5 p6 p7 p8
    clear hb1 hfa hfa1 hpl
    go_wp2_with fail
    refine (HIN _ HF1.out (Nat.le_trans hB HB1.out.size)).mono ?_
    rintro e w2 ⟨v', rfl, hf2, hb2⟩
    have HF2 : Hid (Fams B w2 v' (putP l ⟨f1, f2, f3, f4, f5, f6, f7, f8, f9⟩)) := by rw [← HPN.out]; exact hf2
    have HB2 : Hid (Below B w w2) := (HB1.out.mono hB).trans hb2
    clear hf2 hb2 p0 p1 p2 p3 p4 p5 p6 p7 p8
    go_wp2_with fail
    go_ret
    exact ⟨v', rfl, HF2.out, HB2.out⟩
set_option maxRecDepth 100000 in
set_option maxHeartbeats 4000000 in
theorem drop_is {B : Nat} {w : World} {v : Value} {l : List Fam} (h : Fams B w v l) (hr : Rising l) (hn : l.length ≤ 5000) (hB : B ≤ w.heap.size) (n : Int) :
    Calls Tryz.prog 63 #[v, .int .i64 n] w fun e w' => ∃ v', e = .returned v' ∧ Fams B w' v' (dropP l n) ∧ Below B w w' := by
  have hpl := place_is h hr hn n
  have HF : Hid (Fams B w v l) := h
  obtain ⟨base, c, rfl⟩ := h.slice
  clear h
  cases htb : thereB l n with
  | true =>
    obtain ⟨hq, hid⟩ := there_yes htb
    have HD : Hid (l.take (rank l n) ++ l.drop (rank l n + 1) = dropP l n) := drop_there hr hq hid
    rw [htb] at hpl
    have HDE := fun (W : World) (hf : Fams B W (.slice base l.length c) l) => delete_is hf hn (rank l n) hq
    clear htb hid
    generalize rank l n = R at *
    go_enter Tryz.func63, Tryz.ntmps63
    go_wp2_with fail
    refine hpl.mono ?_
    rintro e w1 ⟨rfl, hb1⟩
    have HB1 : Hid (Below w.heap.size w w1) := hb1
    have HF1 : Hid (Fams B w1 (.slice base l.length c) l) := HF.out.below HB1.out (Nat.le_refl _)
    clear hb1 hpl
    go_wp2_with fail
    refine (HDE _ HF1.out).mono ?_
    rintro e w2 ⟨v', rfl, hf2, hb2⟩
    have HF2 : Hid (Fams B w2 v' (dropP l n)) := by rw [← HD.out]; exact hf2
    have HB2 : Hid (Below B w w2) := (HB1.out.mono hB).trans hb2
    clear hf2 hb2
    go_wp2_with fail
    go_ret
    exact ⟨v', rfl, HF2.out, HB2.out⟩
  | false =>
    have HD : Hid (l = dropP l n) := drop_none (rank_none hr (there_no htb))
    rw [htb] at hpl
    clear htb
    generalize rank l n = R at *
    go_enter Tryz.func63, Tryz.ntmps63
    go_wp2_with fail
    refine hpl.mono ?_
    rintro e w1 ⟨rfl, hb1⟩
    have HB1 : Hid (Below w.heap.size w w1) := hb1
    have HF1 : Hid (Fams B w1 (.slice base l.length c) l) := HF.out.below HB1.out (Nat.le_refl _)
    clear hb1 hpl
    go_wp2_with fail
    go_ret
    refine ⟨_, rfl, ?_, HB1.out.mono hB⟩
    rw [← HD.out]
    exact HF1.out
end Go.Proofs.YtlailakofhenkabGreatDoor
