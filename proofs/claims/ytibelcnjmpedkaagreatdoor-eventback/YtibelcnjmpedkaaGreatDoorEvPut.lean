/-
  A family put in, or taken out, of a list.
-/
import Derived.Test.YtibelcnjmpedkaaGreatDoorEvIns
namespace Go.Proofs.YtibelcnjmpedkaaGreatDoor
open Go Go.RowKit Ev
theorem famsCs_ins (l : List Fam) (i : Nat) (hi : i ≤ l.length) (f : Fam) : famsCs (l.take i ++ f :: l.drop i) = (famsCs l).take (i * 9) ++ famCs f ++ (famsCs l).drop (i * 9) := by
  rw [famsCs_app, famsCs_cons, famsCs_take l i hi, famsCs_drop l i hi, List.append_assoc]
theorem insert_is' {B : Nat} {w : World} {v : Value} {l : List Fam} (h : Fams B w v l) (hn : l.length ≤ 1000) (hB : B ≤ w.heap.size) (i : Nat) (hi : i ≤ l.length) (f : Fam) (t : TypeId) :
    Calls Tryz.prog 105 #[v, .int .i64 (i : Nat), .slice (some ⟨w.heap.size, 0, none⟩) 1 1] (w.alloc (.cells (famCs f).toArray t)) fun e w' => ∃ v', e = .returned v' ∧ Fams B w' v' (l.take i ++ f :: l.drop i) ∧ Below B w w' := by
  by_cases hil : i = l.length
  · subst hil
    rw [List.take_of_length_le (Nat.le_refl _), List.drop_of_length_le (Nat.le_refl _)]
    exact insert_end h hn hB f t
  · have hlt : i < l.length := by omega
    have hbW : Below B w (w.alloc (.cells (famCs f).toArray t)) := (Below.refl _ _).alloc hB _
    have hvs : ∀ j u, (famCs f)[j]? = some u → (w.alloc (.cells (famCs f).toArray t)).cell? ⟨w.heap.size, j, none⟩ = some u := fun j u hj => by
      rw [World.cell?_alloc_at _ _ _ _ rfl]
      simpa using hj
    have hlen : (l.take i ++ f :: l.drop i).length = l.length + 1 := ins_len l i hi f
    rcases h with ⟨rfl, h0, _⟩ | ⟨g, c, rfl, hr⟩
    · omega
    · have hrW : RowK 9 B (w.alloc (.cells (famCs f).toArray t)) g c l.length (famsCs l) := hr.below ((Below.refl w.heap.size w).alloc (Nat.le_refl _) _) hr.lt
      by_cases hroom : l.length + 1 ≤ c
      · refine (insert_room hrW hn hlt hroom (famCs f) rfl (famCs_one f) w.heap.size (by have := hr.lt; omega) hvs t 9 ?_ (fun j => World.frozen?_alloc_at _ _ _ _ rfl)).mono ?_
        · unfold World.shape?
          rw [show (w.alloc (.cells (famCs f).toArray t)).heap[w.heap.size]? = some (.cells (famCs f).toArray t) from Array.getElem?_push_size]
          rfl
        · rintro e w' ⟨rfl, rfl⟩
          have hrD : RowK 9 B (w.alloc (.cells (famCs f).toArray t)).drew g c l.length (famsCs l) := hrW.block (Nat.le_refl _) rfl
          refine ⟨_, rfl, .inr ⟨g, c, by rw [hlen], ?_⟩, (hbW.drew.trans (below_setCellsW hr.new _ _ _)).trans (below_setCellsW hr.new _ _ _)⟩
          rw [hlen, famsCs_ins l i hi f]
          exact hrD.shift i hi hroom (famCs f) rfl (famCs_one f)
      · refine (insert_grow hrW hn hlt (by omega) (famCs f) rfl (famCs_one f) w.heap.size (by simp) hvs).mono ?_
        rintro e w' ⟨rfl, rfl⟩
        generalize w.alloc (.cells (famCs f).toArray t) = W at *
        have hBW : B ≤ W.heap.size := Nat.le_trans hB hbW.size
        refine ⟨_, rfl, .inr ⟨_, _, by rw [hlen], ?_⟩, (((hbW.alloc hBW _).drew.trans (below_setCellsW hBW _ _ _)).drew).trans (below_setCellsW hBW _ _ _)⟩
        rw [hlen, famsCs_ins l i hi f]
        exact hrW.grown hBW i hi (famCs f) rfl (famCs_one f) _ zero_cells _ _ (grownCap_le_maxLen W _ _ _ (by unfold maxLen; omega)) (grownCap_ge W _ _ _)
end Go.Proofs.YtibelcnjmpedkaaGreatDoor
