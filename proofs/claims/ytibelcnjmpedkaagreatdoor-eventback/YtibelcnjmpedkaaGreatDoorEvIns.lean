/-
  A family put in between others.
-/
import Derived.Test.YtibelcnjmpedkaaGreatDoorEvSl3
import Derived.Shelf.Spec.SlicesInsertGrow
import Derived.Shelf.RegionOpenPlain
namespace Go.Proofs.YtibelcnjmpedkaaGreatDoor
open Go Go.RowKit Ev
theorem sizeFT (w : World) : (Go.sizeOf 38).run Tryz.prog w = .ok 9 w := by
  obtain ⟨i0, hi, _, hz1, _⟩ := info_fam
  simp [sizeOf, typeInfo, hi, hz1]
theorem sizeFT2 : (Tryz.prog.info? 38).map (·.size) = some 9 := by kernel_rfl
theorem mixedF : Tryz.prog.follows .mixedOrders = true := by kernel_rfl
set_option maxRecDepth 100000 in
set_option maxHeartbeats 8000000 in
theorem insert_room {B : Nat} {W : World} {g c i n : Nat} {cs : List Value} (hr : RowK 9 B W g c n cs) (hn : n ≤ 1000) (hi : i < n) (hroom : n + 1 ≤ c) (us : List Value) (hul : us.length = 9) (h1u : ∀ u ∈ us, u.oneCell' = true) (vb : Nat) (hvb : vb ≠ g)
    (hvs : ∀ j v, us[j]? = some v → W.cell? ⟨vb, j, none⟩ = some v) (tA : TypeId) (kA : Nat) (hsa : W.shape? vb = some (tA, kA)) (hfa : ∀ j, W.frozen? ⟨vb, j, none⟩ = false) :
    Calls Tryz.prog 105 #[.slice (some ⟨g, 0, none⟩) n c, .int .i64 (i : Nat), .slice (some ⟨vb, 0, none⟩) 1 1] W fun e w' =>
      e = .returned (.slice (some ⟨g, 0, none⟩) (n + 1) c) ∧ w' = (W.drew.setCells g ((i + 1) * 9) (cs.drop (i * 9))).setCells g (i * 9) us := by
  have mixed := mixedF
  have e1 : (i + 1) * 9 = i * 9 + 9 := Nat.succ_mul i 9
  have e2 : i * 9 ≤ n * 9 := Nat.mul_le_mul_right 9 (Nat.le_of_lt hi)
  have e3 : (n + 1) * 9 ≤ c * 9 := Nat.mul_le_mul_right 9 hroom
  have hlen := hr.len
  have hc63 : c ≤ 9223372036854775807 := hr.max
  obtain ⟨u0, hu0⟩ := Option.isSome_iff_exists.1 (hr.there 0 (by omega)).1
  obtain ⟨tB, kB, hsb, hkB, _⟩ := World.shape?_of_cell? hu0
  have hov : ∀ lb cb, (callFunc 148 #[.slice (some ⟨vb, 0, none⟩) 1 1, .slice (some ⟨g, (i + 1) * 9, none⟩) lb cb]).run Tryz.prog W = .ok (.value (.bool false)) W := fun lb cb => by
    rw [run_callFunc_extern Tryz.func148 (by kernel_rfl) (by kernel_rfl) (by kernel_rfl) (e := Extern.SlicesOverlaps.overlaps #[55, 55] #[4]) (by kernel_rfl),
      Lib.run_overlaps_apart W 55 4 38 Tryz.underlying55 9 sizeFT ⟨vb, 0, none⟩ ⟨g, (i + 1) * 9, none⟩ 1 1 lb cb hvb tA tB kA kB hsa hsb (by simp at hkB; omega) (hfa 0) (hfa kA)]
    rfl
  have hdl : (cs.drop (i * 9)).length = (n - i) * 9 := by rw [List.length_drop, hlen, Nat.sub_mul]
  have hdl2 : (cs.drop (i * 9)).length = n * 9 - i * 9 := by rw [List.length_drop, hlen]
  have hcp1 : ∀ ty dc sc, (Builtin.copy_ #[55, 55] ty #[.slice (some ⟨g, (i + 1) * 9, none⟩) (n - i) dc, .slice (some ⟨g, i * 9, none⟩) (n + 1 - i) sc]).run Tryz.prog W.drew = .ok (goInt (Nat.min (n + 1 - i) (n - i))) (W.drew.setCells g ((i + 1) * 9) (cs.drop (i * 9))) := fun ty dc sc =>
    run_copy_cellsK W.drew _ _ ty 38 9 g ((i + 1) * 9) (n - i) dc ⟨g, i * 9, none⟩ (n + 1 - i) sc (cs.drop (i * 9)) Tryz.underlying55 sizeFT2 (by rw [hdl]; congr 1; simp only [Nat.min_def]; split <;> omega)
      (fun j v hj => by rw [Addr.add_lit]; exact hr.holds _ v (by rwa [List.getElem?_drop] at hj))
      (fun j hj => (hr.there _ (by rw [hdl2] at hj; omega)).1) (fun j hj => (hr.there _ (by rw [hdl2] at hj; omega)).2) (fun v hv => hr.one v (List.mem_of_mem_drop hv))
  have hthere : ∀ j, j < (n + 1) * 9 → (W.cell? ⟨g, j, none⟩).isSome = true ∧ W.frozen? ⟨g, j, none⟩ = false := fun j hj => hr.there j (by omega)
  obtain ⟨W1, hW1⟩ : ∃ W1, W1 = W.drew.setCells g ((i + 1) * 9) (cs.drop (i * 9)) := ⟨_, rfl⟩
  have hsp1 : ∀ k, k < (n + 1) * 9 → (W1.cell? ⟨g, k, none⟩).isSome = true := fun k hk => by
    rw [hW1]
    exact isSome_setCells g (cs.drop (i * 9)) ((i + 1) * 9) W.drew (fun j hj => (hthere ((i + 1) * 9 + j) (by rw [hdl2] at hj; omega)).1) k (hthere k hk).1
  have hcp2 : ∀ (V : World), (∀ x, V.cell? x = W1.cell? x) → (∀ x, V.frozen? x = W1.frozen? x) → ∀ ty dc, (Builtin.copy_ #[55, 55] ty #[.slice (some ⟨g, i * 9, none⟩) (n + 1 - i) dc, .slice (some ⟨vb, 0, none⟩) 1 1]).run Tryz.prog V = .ok (goInt (Nat.min 1 (n + 1 - i))) (V.setCells g (i * 9) us) := fun V hVc hVf ty dc =>
    run_copy_cellsK V _ _ ty 38 9 g (i * 9) (n + 1 - i) dc ⟨vb, 0, none⟩ 1 1 us Tryz.underlying55 sizeFT2 (by rw [hul]; simp only [Nat.min_def]; split <;> omega)
      (fun j v hj => by
        rw [Addr.add_lit, Nat.zero_add, hVc, hW1, World.cell?_setCells_out g _ _ _ _ (fun h _ => absurd h hvb)]
        exact hvs j v hj)
      (fun j hj => by rw [hVc]; exact hsp1 _ (by omega)) (fun j hj => by rw [hVf, hW1, World.frozen?_setCells]; exact (hthere _ (by omega)).2) h1u
  rw [← hW1] at hcp1
  have hz2 : ¬ ((i : Int) = (n : Int)) := by omega
  have hb1 : (0 : Int) ≤ (i : Int) + 1 := by omega
  have hw1 : IntKind.i64.wrap ((i : Int) + 1) = (i : Int) + 1 := by rw [IntKind.wrap_i64]; omega
  have hin : i ≤ n := by omega
  have hb2 : ¬ (c = i + 1) := by omega
  have hb3 : (i : Int) ≤ (n : Int) + 1 := by omega
  have hb4 : ¬ (c = i) := by omega
  have HW1 : Hid (W1 = W.drew.setCells g ((i + 1) * 9) (cs.drop (i * 9))) := hW1
  clear hW1 hthere hsp1 hr hvs hfa hsa hsb hu0 hlen hdl hdl2 e1 e2 e3
  go_enter Tryz.func105, Tryz.ntmps105
  go_wp2_with (simp only [hov])
  go_region_law_o (refine step_copy_runI rfl _ _ 55 55 rfl _ _ (by simp [Act.eval, Act.put]) (by simp [Act.eval, Act.put]) (hcp1 _ _ _) ?_)
  go_wp2_with (at_builtin; refine wpList_copy_runI _ rfl _ _ 55 55 rfl _ _ rfl rfl (hcp2 _ (fun _ => rfl) (fun _ => rfl) _ _) ?_)
  go_ret
  first | exact ⟨rfl, by rw [HW1.out]⟩ | exact ⟨rfl, by rw [← HW1.out]⟩ | (refine ⟨rfl, ?_⟩; done)
set_option maxRecDepth 100000 in
set_option maxHeartbeats 8000000 in
theorem insert_grow {B : Nat} {W : World} {g c i n : Nat} {cs : List Value} (hr : RowK 9 B W g c n cs) (hn : n ≤ 1000) (hi : i < n) (hroom : c < n + 1) (us : List Value) (hul : us.length = 9) (h1u : ∀ u ∈ us, u.oneCell' = true) (vb : Nat) (hvw : vb < W.heap.size)
    (hvs : ∀ j v, us[j]? = some v → W.cell? ⟨vb, j, none⟩ = some v) :
    Calls Tryz.prog 105 #[.slice (some ⟨g, 0, none⟩) n c, .int .i64 (i : Nat), .slice (some ⟨vb, 0, none⟩) 1 1] W fun e w' =>
      e = .returned (.slice (some ⟨W.heap.size, 0, none⟩) (n + 1) (grownCap W (n + 1) c 38)) ∧
      w' = (((W.alloc (.cells ((cs.take (i * 9)).toArray ++ Builtin.zeroCells (famV zeroF).cells (n + 1 - i) ++ Builtin.zeroCells (famV zeroF).cells (grownCap W (n + 1) c 38 - (n + 1))) 38)).drew.setCells W.heap.size (i * 9) us).drew).setCells W.heap.size ((i + 1) * 9) (cs.drop (i * 9)) := by
  have mixed := mixedF
  obtain ⟨i0, hi0, hz0, hz1, hz2⟩ := info_fam
  have e1 : (i + 1) * 9 = i * 9 + 9 := Nat.succ_mul i 9
  have e2 : i * 9 ≤ n * 9 := Nat.mul_le_mul_right 9 (Nat.le_of_lt hi)
  have hlen := hr.len
  have hbw := hr.lt
  have hnc := hr.le
  have hbN : g ≠ W.heap.size := by omega
  have ht : (cs.take (i * 9)).length = i * 9 := by rw [List.length_take]; omega
  have hdl2 : (cs.drop (i * 9)).length = n * 9 - i * 9 := by rw [List.length_drop, hlen]
  have hdl : (cs.drop (i * 9)).length = (n - i) * 9 := by rw [hdl2, Nat.sub_mul]
  have hik : i + (n + 1 - i) = n + 1 := by omega
  have hold : (Builtin.firstCells i0.size i (.slice (some ⟨g, 0, none⟩) i c)).run Tryz.prog W.drew = .ok (cs.take (i * 9)).toArray W.drew := by
    rw [hz1]
    exact run_firstCells_some W.drew 9 i ⟨g, 0, none⟩ i c (cs.take (i * 9)) ht (fun j v hj => by
      rw [Addr.add_lit, Nat.zero_add]
      rw [List.getElem?_take] at hj
      split at hj
      · exact hr.holds j v hj
      · cases hj)
  have hkk : (n : Int) + 1 - (i : Int) = ((n + 1 - i : Nat) : Int) := by omega
  have hrz : ∀ ty, (Builtin.append_ #[55, 3] ty #[.slice (some ⟨g, 0, none⟩) i c, .int .i64 ((n : Int) + 1 - (i : Int))]).run Tryz.prog W =
      .ok (.slice (some ⟨W.heap.size, 0, none⟩) (n + 1) (grownCap W (n + 1) c 38)) (W.drew.alloc (.cells ((cs.take (i * 9)).toArray ++ Builtin.zeroCells (famV zeroF).cells (n + 1 - i) ++ Builtin.zeroCells (famV zeroF).cells (grownCap W (n + 1) c 38 - (n + 1))) 38)) := fun ty => by
    have h := Lib.run_append_grow_zeros W 55 3 ty 38 i0 _ .i64 .i64 Tryz.underlying55 Tryz.underlying3 hi0 hz0 (some ⟨g, 0, none⟩) i c (cs.take (i * 9)) hold (n + 1 - i) (by omega) (by omega) (by omega) (by omega) (by have : (n + 1 - i) * i0.bytes ≤ 1001 * 1000 := Nat.mul_le_mul (by omega) hz2; omega) (growslice_fits (by omega) (by have : (i + (n + 1 - i)) * i0.bytes ≤ 1001 * 1000 := Nat.mul_le_mul (by omega) hz2; omega))
    rw [hik] at h
    rw [hkk]
    exact h
  obtain ⟨G, hG⟩ : ∃ G, G = grownCap W (n + 1) c 38 := ⟨_, rfl⟩
  obtain ⟨ROW, hROW⟩ : ∃ ROW : Array Value, ROW = (cs.take (i * 9)).toArray ++ Builtin.zeroCells (famV zeroF).cells (n + 1 - i) ++ Builtin.zeroCells (famV zeroF).cells (G - (n + 1)) := ⟨_, rfl⟩
  rw [← hG] at hrz ⊢
  rw [← hROW] at hrz ⊢
  have hGn : n + 1 ≤ G := by rw [hG]; exact grownCap_ge W _ _ _
  have hG63 : G ≤ 9223372036854775807 := by
    have := grownCap_le_maxLen W (n + 1) c 38 (by unfold maxLen; omega)
    rw [← hG] at this
    unfold maxLen at this
    omega
  have hRl : (n + 1) * 9 ≤ ROW.size := by
    rw [hROW, Array.size_append, Array.size_append, size_zeroCells, size_zeroCells, List.size_toArray, ht, zero_cells]
    omega
  obtain ⟨W1, hW1⟩ : ∃ W1, W1 = W.drew.alloc (.cells ROW 38) := ⟨_, rfl⟩
  rw [← hW1] at hrz
  have hN : ∀ j, j < (n + 1) * 9 → (W1.cell? ⟨W.heap.size, j, none⟩).isSome = true := fun j hj => by
    rw [hW1, World.cell?_alloc_at (w := W.drew) ROW _ W.heap.size j rfl, Array.getElem?_eq_getElem (by omega)]; rfl
  have hNf : ∀ j, W1.frozen? ⟨W.heap.size, j, none⟩ = false := fun j => by rw [hW1]; exact World.frozen?_alloc_at (w := W.drew) ROW _ W.heap.size j rfl
  have hOb : ∀ j v, W.cell? ⟨g, j, none⟩ = some v → W1.cell? ⟨g, j, none⟩ = some v := fun j v h => by rw [hW1, World.cell?_alloc_past (w := W.drew) _ g j hbw]; exact h
  have hOv : ∀ j v, W.cell? ⟨vb, j, none⟩ = some v → W1.cell? ⟨vb, j, none⟩ = some v := fun j v h => by rw [hW1, World.cell?_alloc_past (w := W.drew) _ vb j hvw]; exact h
  have hcpA : ∀ (V : World), (∀ x, V.cell? x = W1.cell? x) → (∀ x, V.frozen? x = W1.frozen? x) → ∀ ty dc, (Builtin.copy_ #[55, 55] ty #[.slice (some ⟨W.heap.size, i * 9, none⟩) (n + 1 - i) dc, .slice (some ⟨vb, 0, none⟩) 1 1]).run Tryz.prog V = .ok (goInt (Nat.min 1 (n + 1 - i))) (V.setCells W.heap.size (i * 9) us) := fun V hVc hVf ty dc =>
    run_copy_cellsK V _ _ ty 38 9 W.heap.size (i * 9) (n + 1 - i) dc ⟨vb, 0, none⟩ 1 1 us Tryz.underlying55 sizeFT2 (by rw [hul]; simp only [Nat.min_def]; split <;> omega)
      (fun j v hj => by rw [Addr.add_lit, Nat.zero_add, hVc]; exact hOv _ v (hvs j v hj))
      (fun j hj => by rw [hVc]; exact hN _ (by omega)) (fun j hj => by rw [hVf]; exact hNf _) h1u
  have hcpB : ∀ (V : World), (∀ x, V.cell? x = (W1.setCells W.heap.size (i * 9) us).cell? x) → (∀ x, V.frozen? x = (W1.setCells W.heap.size (i * 9) us).frozen? x) → ∀ ty dc sc, (Builtin.copy_ #[55, 55] ty #[.slice (some ⟨W.heap.size, (i + 1) * 9, none⟩) (n - i) dc, .slice (some ⟨g, i * 9, none⟩) (n - i) sc]).run Tryz.prog V = .ok (goInt (Nat.min (n - i) (n - i))) (V.setCells W.heap.size ((i + 1) * 9) (cs.drop (i * 9))) := fun V hVc hVf ty dc sc =>
    run_copy_cellsK V _ _ ty 38 9 W.heap.size ((i + 1) * 9) (n - i) dc ⟨g, i * 9, none⟩ (n - i) sc (cs.drop (i * 9)) Tryz.underlying55 sizeFT2 (by rw [hdl]; congr 1; simp only [Nat.min_def]; split <;> omega)
      (fun j v hj => by
        rw [Addr.add_lit, hVc, World.cell?_setCells_out _ _ _ _ _ (fun h _ => absurd h hbN)]
        exact hOb _ v (hr.holds _ v (by rwa [List.getElem?_drop] at hj)))
      (fun j hj => by rw [hVc]; exact isSome_setCells _ _ _ _ (fun t ht => hN _ (by omega)) _ (hN _ (by rw [hdl2] at hj; omega)))
      (fun j hj => by rw [hVf, World.frozen?_setCells]; exact hNf _) (fun v hv => hr.one v (List.mem_of_mem_drop hv))
  subst hW1
  have hE1 : ∀ x, ((W.alloc (.cells ROW 38)).drew).cell? x = (W.drew.alloc (.cells ROW 38)).cell? x := fun x => rfl
  have hE2 : ∀ x, ((W.alloc (.cells ROW 38)).drew).frozen? x = (W.drew.alloc (.cells ROW 38)).frozen? x := fun x => rfl
  have hF1 : ∀ x, (((W.alloc (.cells ROW 38)).drew.setCells W.heap.size (i * 9) us).drew).cell? x = ((W.drew.alloc (.cells ROW 38)).setCells W.heap.size (i * 9) us).cell? x := fun x => rfl
  have hF2 : ∀ x, (((W.alloc (.cells ROW 38)).drew.setCells W.heap.size (i * 9) us).drew).frozen? x = ((W.drew.alloc (.cells ROW 38)).setCells W.heap.size (i * 9) us).frozen? x := fun x => rfl
  have hq1 : ¬ ((i : Int) = (n : Int)) := by omega
  have hq2 : (c : Int) < (n : Int) + 1 := by omega
  have hb1 : (0 : Int) ≤ (i : Int) + 1 := by omega
  have hin : i ≤ n := by omega
  have hb3 : (i : Int) ≤ (n : Int) := by omega
  have hGi : ¬ (G = i) := by omega
  have hGim : ¬ (G = i + 1) := by omega
  have hci : ¬ (c = i) := by omega
  have hw1 : IntKind.i64.wrap ((i : Int) + 1) = (i : Int) + 1 := by rw [IntKind.wrap_i64]; omega
  clear hkk hik hold hROW hG hRl hr hvs hN hNf hOb hOv hlen ht hdl hdl2 e1 e2 hi0 hz0 hz1
  go_enter Tryz.func105, Tryz.ntmps105
  go_wp2_with (first
    | (at_builtin; refine Lib.wpList_append_run _ rfl _ _ _ _ rfl _ _ rfl rfl _ _ (hrz _) ?_)
    | (at_builtin; refine wpList_copy_runI _ rfl _ _ 55 55 rfl _ _ rfl rfl (hcpA _ hE1 hE2 _ _) ?_)
    | (at_builtin; refine wpList_copy_runI _ rfl _ _ 55 55 rfl _ _ rfl rfl (hcpB _ (fun _ => rfl) (fun _ => rfl) _ _ _) ?_))
  go_region_law_o (refine step_copy_runI rfl _ _ 55 55 rfl (.slice (some ⟨W.heap.size, (i + 1) * 9, none⟩) (n - i) (G - (i + 1))) (.slice (some ⟨g, i * 9, none⟩) (n - i) (c - i)) (by simp [Act.eval, Act.put]) (by simp [Act.eval, Act.put]) (hcpB _ hF1 hF2 3 (G - (i + 1)) (c - i)) ?_)
  go_wp2
  go_ret
  exact ⟨rfl, rfl⟩
end Go.Proofs.YtibelcnjmpedkaaGreatDoor
