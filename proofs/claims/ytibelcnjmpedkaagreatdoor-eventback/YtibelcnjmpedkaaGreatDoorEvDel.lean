/-
  A family taken out from between others.
-/
import Derived.Test.YtibelcnjmpedkaaGreatDoorEvPut
import Derived.Deep.RegionLaw
namespace Go.Proofs.YtibelcnjmpedkaaGreatDoor
open Go Go.RowKit Ev
theorem zeroFT (w : World) : (zeroValue 38).run Tryz.prog w = .ok (famV zeroF) w := by
  obtain ⟨i0, hi, hz0, _⟩ := info_fam
  simp [zeroValue, typeInfo, hi, hz0]
theorem run_clear_z (w : World) (ty : TypeId) (z : Value) (us : List Value) (hz : ∀ w, (zeroValue 38).run Tryz.prog w = .ok z w) (hu : (Builtin.zeroCells z.cells 1).toList = us) (hul : us.length = 9) (h1 : ∀ u ∈ us, u.oneCell' = true) (b o c : Nat) (hc : ∀ j, j < 9 → (w.cell? ⟨b, o + j, none⟩).isSome = true) (hf : ∀ j, j < 9 → w.frozen? ⟨b, o + j, none⟩ = false) :
    (Builtin.clear_ #[55] ty #[.slice (some ⟨b, o, none⟩) 1 c]).run Tryz.prog w = .ok (.tuple #[]) (w.setCells b o us) := by
  have hst := run_storeCells_cells (P := Tryz.prog) b o us 0 w (by simpa [hul] using hc) (by simpa [hul] using hf) h1
  simp only [Nat.add_zero] at hst
  simp [Builtin.clear_, run_underlying Tryz.underlying55, hz, hu, hst]
theorem zeroCs : (Builtin.zeroCells (famV zeroF).cells 1).toList = famCs zeroF := by
  unfold Builtin.zeroCells famV famCs
  simp [Value.cells]
  rfl
theorem run_clear_one (w : World) (ty : TypeId) (b o c : Nat) (hc : ∀ j, j < 9 → (w.cell? ⟨b, o + j, none⟩).isSome = true) (hf : ∀ j, j < 9 → w.frozen? ⟨b, o + j, none⟩ = false) :
    (Builtin.clear_ #[55] ty #[.slice (some ⟨b, o, none⟩) 1 c]).run Tryz.prog w = .ok (.tuple #[]) (w.setCells b o (famCs zeroF)) :=
  run_clear_z w ty (famV zeroF) (famCs zeroF) zeroFT zeroCs rfl (famCs_one zeroF) b o c hc hf
set_option maxRecDepth 100000 in
set_option maxHeartbeats 8000000 in
theorem delete_run {B : Nat} {w : World} {g c i r : Nat} {cs : List Value} (hr : RowK 9 B w g c (i + 1 + r) cs) (hn : i + 1 + r ≤ 1000) :
    Calls Tryz.prog 106 #[.slice (some ⟨g, 0, none⟩) (i + 1 + r) c, .int .i64 (i : Nat), .int .i64 ((i : Int) + 1)] w fun e w' =>
      e = .returned (.slice (some ⟨g, 0, none⟩) (i + r) c) ∧ w' = (w.drew.setCells g (i * 9) (cs.drop ((i + 1) * 9))).setCells g ((i + r) * 9) (famCs zeroF) := by
  have mixed := mixedF
  obtain ⟨i0, hi0, hz0, hz1, hz2⟩ := info_fam
  have hlen := hr.len
  have hle := hr.le
  have hmax : c ≤ 9223372036854775807 := hr.max
  have hk : (i + 1 + r) * 9 ≤ c * 9 := Nat.mul_le_mul_right 9 hle
  have hdl : (cs.drop ((i + 1) * 9)).length = r * 9 := by rw [List.length_drop, hlen]; omega
  obtain ⟨A, hA, hsrc⟩ : ∃ A : Addr, (if c = i + 1 then (some ⟨g, 0, none⟩ : Option Addr) else some ⟨g, (i + 1) * 9, none⟩) = some A ∧ Hid (∀ t u, (cs.drop ((i + 1) * 9))[t]? = some u → w.drew.cell? (A.add t) = some u) := by
    by_cases h : c = i + 1
    · refine ⟨⟨g, 0, none⟩, by simp [h], fun t u hu => ?_⟩
      have hr0 : r = 0 := by omega
      have h0 : (cs.drop ((i + 1) * 9)).length = 0 := by rw [hdl, hr0]
      rw [List.length_eq_zero_iff.1 h0] at hu
      simp at hu
    · refine ⟨⟨g, (i + 1) * 9, none⟩, by simp [h], fun t u hu => ?_⟩
      rw [Addr.add_lit]
      exact hr.holds _ u (by rwa [List.getElem?_drop] at hu)
  have s1 : Hid ((cs.drop ((i + 1) * 9)).length = r * 9) := hdl
  have s2 : Hid (∀ u ∈ cs.drop ((i + 1) * 9), u.oneCell' = true) := fun u hu => hr.one u (List.mem_of_mem_drop hu)
  have s3 : Hid (∀ t, t < (cs.drop ((i + 1) * 9)).length → (w.drew.cell? ⟨g, 0 + i * 9 + t, none⟩).isSome = true ∧ w.drew.frozen? ⟨g, 0 + i * 9 + t, none⟩ = false) := by
    intro t ht
    rw [hdl] at ht
    rw [Nat.zero_add]
    exact hr.there _ (by omega)
  obtain ⟨W1, hW1⟩ : ∃ W1, W1 = w.drew.setCells g (0 + i * 9) (cs.drop ((i + 1) * 9)) := ⟨_, rfl⟩
  have hcl : ∀ ty cc, (Builtin.clear_ #[55] ty #[.slice (some ⟨g, (i + r) * 9, none⟩) 1 cc]).run Tryz.prog W1 = .ok (.tuple #[]) (W1.setCells g ((i + r) * 9) (famCs zeroF)) := fun ty cc =>
    run_clear_one W1 ty g ((i + r) * 9) cc (fun t ht => by
      rw [hW1]
      exact isSome_setCells g (cs.drop ((i + 1) * 9)) (0 + i * 9) w.drew (fun j hj => by rw [Nat.zero_add]; exact (hr.there _ (by rw [hdl] at hj; omega)).1) _ (hr.there _ (by omega)).1)
      (fun t ht => by rw [hW1, World.frozen?_setCells]; exact (hr.there _ (by omega)).2)
  have hW : Hid (W1 = w.drew.setCells g (0 + i * 9) (cs.drop ((i + 1) * 9))) := hW1
  have hic : i ≤ c := by omega
  have hjc : i + 1 ≤ c := by omega
  have hx : i + 1 + r - (i + r) = 1 := by omega
  have hx2 : i + 1 + r - (i + 1) = r := by omega
  have hcn : ¬ c = i + r := by omega
  have hcn2 : ¬ c = i := by omega
  have hI1 : (i : Int) + 1 ≤ (i : Int) + 1 + (r : Int) := by omega
  have hI0 : (0 : Int) ≤ (i : Int) + 1 := by omega
  have hIw : IntKind.i64.wrap ((i : Int) + 1) = (i : Int) + 1 := by rw [IntKind.wrap_i64]; omega
  clear hW1 hr hlen hdl
  go_enter Tryz.func106, Tryz.ntmps106
  go_wp2_with fail
  go_region_law_o (refine step_append_room rfl (.tmp 22) (.tmp 25) 55 rfl 38 i0 9 Tryz.underlying55 hi0 hz1 g 0 i c (by simp [Act.eval, Act.put]) A r (c - (i + 1)) (cs.drop ((i + 1) * 9)) (by simp [Act.eval, Act.put]) s1.out hsrc.out s2.out (by omega) s3.out ?_; rw [← hW.out])
  go_wp2_with fail
  go_ret
  exact ⟨rfl, by rw [hW.out, Nat.zero_add]⟩
theorem delete_is {B : Nat} {w : World} {v : Value} {l : List Fam} (h : Fams B w v l) (hn : l.length ≤ 1000) (i : Nat) (hi : i < l.length) :
    Calls Tryz.prog 106 #[v, .int .i64 (i : Nat), .int .i64 ((i : Int) + 1)] w fun e w' => ∃ v', e = .returned v' ∧ Fams B w' v' (l.take i ++ l.drop (i + 1)) ∧ Below B w w' := by
  obtain ⟨r, hr'⟩ : ∃ r, l.length = i + 1 + r := ⟨l.length - (i + 1), by omega⟩
  have hlen : (l.take i ++ l.drop (i + 1)).length = i + r := by rw [List.length_append, List.length_take, List.length_drop]; omega
  have hcs : famsCs (l.take i ++ l.drop (i + 1)) = (famsCs l).take (i * 9) ++ (famsCs l).drop ((i + 1) * 9) := by
    rw [famsCs_app, famsCs_take l i (by omega), famsCs_drop l (i + 1) (by omega)]
  rcases h with ⟨rfl, h0, _⟩ | ⟨g, c, rfl, hr⟩
  · omega
  · rw [hr'] at hr ⊢
    refine (delete_run hr (by omega)).mono ?_
    rintro e w' ⟨rfl, rfl⟩
    have hrD : RowK 9 B w.drew g c (i + 1 + r) (famsCs l) := hr.block (Nat.le_refl _) rfl
    have hcut := hrD.cut i (by omega) (famCs zeroF) rfl
    rw [show i + 1 + r - 1 = i + r by omega] at hcut
    refine ⟨_, rfl, .inr ⟨g, c, by rw [hlen], ?_⟩, (((Below.refl B w).drew).trans (below_setCellsW hr.new _ _ _)).trans (below_setCellsW hr.new _ _ _)⟩
    rw [hlen, hcs]
    exact hcut
end Go.Proofs.YtibelcnjmpedkaaGreatDoor
