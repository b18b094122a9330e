/-
  Families sorted by their numbers: sort.Slice as the document's answer calls it.
-/
import Derived.Test.YtibelcnjmpedkaaEvApply
import Derived.Test.YtibelcnjmpedkaaShelf
import Derived.Shelf.SlSortFuncK.WholeK
import Derived.Lib.OwnBridge
namespace Go.Proofs.Ytibelcnjmpedkaa
open Go Go.RowKit Ev
def ltF (a b : Fam) : Bool := decide (a.id < b.id)
theorem swoF : Go.Sort.SWO ltF := ⟨fun x => by simp [ltF], fun x y z h1 h2 => by simp [ltF] at *; omega, fun x y z h1 h2 => by simp [ltF] at *; omega⟩
theorem infoFS : ∃ i, Try.prog.info? 31 = some i ∧ i.desc = .slice 36 := by
  have h : (Try.prog.info? 31).map (·.desc) = some (.slice 36) := by kernel_rfl
  cases hi : Try.prog.info? 31 with
  | none => rw [hi] at h; cases h
  | some i =>
    rw [hi] at h
    exact ⟨i, rfl, by simpa using h⟩
theorem infoFTs : ∃ i, Try.prog.info? 36 = some i ∧ i.size = 9 ∧ i.hasPointers = true ∧ i.bytes = 104 := by
  have h : (Try.prog.info? 36).map (fun i => (i.size, i.hasPointers, i.bytes)) = some (9, true, 104) := by kernel_rfl
  cases hi : Try.prog.info? 36 with
  | none => rw [hi] at h; cases h
  | some i =>
    rw [hi] at h
    simp only [Option.map_some, Option.some.injEq, Prod.mk.injEq] at h
    exact ⟨i, rfl, h.1, h.2.1, h.2.2⟩
set_option maxHeartbeats 2000000 in
theorem lessF (g c Bs size : Nat) (W : World) (G : Nat → Int) (hs : W.cell? ⟨Bs, 0, none⟩ = some (.slice (some ⟨g, 0, none⟩) size c))
    (hc : ∀ t, t < size → W.cell? ⟨g, t * 9, none⟩ = some (.int .i64 (G t))) (i j : Nat) (hi : i < size) (hj : j < size) :
    Calls Try.prog 24 #[.int .i64 i, .int .i64 j, .pointer (some ⟨Bs, 0, none⟩)] W fun e w' => e = .returned (.bool (decide (G i < G j))) ∧ ∃ q, w' = W.drewN q := by
  have ci := hc i hi
  have cj := hc j hj
  have mixed := mixedF
  have hiI : (i : Int) < (size : Int) := by omega
  have hjI : (j : Int) < (size : Int) := by omega
  clear hc
  go_enter Try.func24, Try.ntmps24
  go_wp2_with fail
  go_region
  go_wp2_with fail
  go_ret
  exact ⟨rfl, 1, rfl⟩
/-- In order of their numbers. -/
def Asc (d : List Fam) : Prop := d.Pairwise (fun a b => ¬ b.id < a.id)
theorem swapK (n : Nat) (ie : TypeInfo) (h1 : ie.hasPointers = true) (h2 : ie.bytes = 104) : Lib.swapperK n ie 25 = if n = 0 then 1 else if n = 1 then 2 else 9 := by
  unfold Lib.swapperK
  rw [h1, h2]
  by_cases h0 : n = 0
  · simp [h0]
  · by_cases h1 : n = 1
    · simp [h1]
    · simp [h0, h1]
theorem famsCs_get (l : List Fam) (j : Nat) (hj : j < l.length * 9) : (famsCs l)[j]? = (famCs (l[j / 9]'(by omega)))[j % 9]? := by
  have := famsCs_at l (j / 9) (j % 9) (by omega) (Nat.mod_lt _ (by omega))
  rw [show j / 9 * 9 + j % 9 = j by omega] at this
  exact this
theorem swapExt : ∀ args W, (callFunc 64 args).run Try.prog W = ((Extern.ReflectliteSwapper.swap false args).run Try.prog W).andThen fun v w' => .ok (.value v) w' :=
  fun args W => run_callFunc_extern Try.func64 (by kernel_rfl) (by kernel_rfl) (by kernel_rfl) (e := Extern.ReflectliteSwapper.swap false) (by kernel_rfl) args W
set_option maxRecDepth 100000 in
set_option maxHeartbeats 2000000 in
theorem sort_fams {B : Nat} {w : World} {g c Bs : Nat} {l : List Fam} (hr : RowK 9 B w g c l.length (famsCs l)) (hn : l.length ≤ 100000) (hs : w.cell? ⟨Bs, 0, none⟩ = some (.slice (some ⟨g, 0, none⟩) l.length c)) (hg : Bs ≠ g) :
    Calls Try.prog 23 #[.iface 31 (.slice (some ⟨g, 0, none⟩) l.length c), .func (.func 24) #[] #[.pointer (some ⟨Bs, 0, none⟩)]] w fun e w' => e = .returned (.tuple #[]) ∧ ∃ d : List Fam, d.Perm l ∧ Asc d ∧ RowK 9 B w' g c d.length (famsCs d) ∧ Below B w w' := by
  haveI : Inhabited Fam := ⟨zeroF⟩
  obtain ⟨i1, hi1, hd1⟩ := infoFS
  obtain ⟨ie, hie, hs1, hp, hby⟩ := infoFTs
  have hBg : B ≤ w.heap.size := Nat.le_trans hr.new (Nat.le_of_lt hr.lt)
  by_cases h2 : 2 ≤ l.length
  · have hBs : Bs < w.heap.size := World.block_lt_of_cell? _ _ hs
    have hsz : l.toArray.size = l.length := by simp
    have hget : ∀ (m : List Fam) (t : Nat) (ht : t < m.length), m.toArray[t]! = m[t] := fun m t ht => by
      rw [getElem!_pos m.toArray t (by simpa using ht)]
      simp
    have hH : Go.Sort.HoldsK famCs 9 w g 0 l.toArray := by
      intro j hj
      rw [Go.Sort.size_flatK, hsz] at hj
      have hk : (l.length) * 9 ≤ c * 9 := Nat.mul_le_mul_right 9 hr.le
      refine ⟨?_, (hr.there (0 + j) (by omega)).2⟩
      rw [Nat.zero_add]
      refine hr.holds j _ ?_
      rw [famsCs_get l j hj]
      show _ = some (Go.Sort.flatK famCs 9 l.toArray)[j]!
      rw [Go.Sort.get_flatK famCs 9 l.toArray j (by rw [hsz]; exact hj), hget l (j / 9) (by omega)]
      rw [getElem!_pos (famCs _) (j % 9) (by rw [famCs_len]; omega), List.getElem?_eq_getElem (by rw [famCs_len]; omega)]
    have hless : LessReadsK Try.prog 24 #[.pointer (some ⟨Bs, 0, none⟩)] famCs 9 ltF g 0 l.toArray.size w := by
      intro m os dk hdk i j hi hj
      have e : sortWorldK famCs 9 w g 0 m dk os = Go.Sort.putRowK famCs 9 (Sort.grow (Sort.ahead w m) os) g 0 dk := by
        unfold sortWorldK
        rw [Go.Sort.putRowK_grow famCs 9 (Sort.ahead w m) os g 0 dk hr.lt]
      have hHg : Go.Sort.HoldsK famCs 9 (Sort.grow (Sort.ahead w m) os) g 0 l.toArray := Go.Sort.holdsK_grow famCs 9 _ _ g 0 _ hr.lt (Go.Sort.holdsK_ahead famCs 9 _ _ _ _ _ hH)
      refine lessF g c Bs l.length _ (fun t => dk[t]!.id) ?_ (fun t ht => ?_) i j (by rw [hsz] at hi; exact hi) (by rw [hsz] at hj; exact hj)
      · rw [e, Go.Sort.cell?_putRowK_other famCs 9 _ g 0 dk _ (by exact hg), Sort.cell?_grow _ _ _ (by exact hBs)]
        exact hs
      · rw [e]
        have := ((Go.Sort.holdsK_putRowK famCs 9 _ g 0 _ dk hHg hdk).cell (i := t) (c := 0) (by rw [hdk, hsz]; exact ht) (by omega)).1
        rw [show 0 + t * 9 + 0 = t * 9 by omega] at this
        exact this
    have key := Any.sort_Slice_cells_sorted Try.laysGg6 31 36 i1 ie hi1 hd1 (by kernel_rfl) hie 25 (fun _ => by kernel_rfl) famCs 9 famCs_len hs1 (fun _ => by kernel_rfl) famCs_one ltF swoF 24 #[.pointer (some ⟨Bs, 0, none⟩)]
      (enters_of Try.func24 (by kernel_rfl) rfl) g 0 c l.toArray (by rw [hsz]; exact h2) (by rw [hsz]; omega) 64 (by rw [hsz, swapK _ ie hp hby, if_neg (by omega), if_neg (by omega)]; kernel_rfl) false swapExt w hless hH hr.lt
    rw [hsz] at key
    refine key.mono ?_
    rintro e w' ⟨rfl, d', n, os, hperm, hsort, rfl⟩
    have hd : d'.size = l.length := by rw [hperm.1, hsz]
    have hHd : Go.Sort.HoldsK famCs 9 (Sort.grow (Go.Sort.putRowK famCs 9 (Sort.ahead w n) g 0 d') os) g 0 d' := Go.Sort.holdsK_grow famCs 9 _ _ g 0 _ (by show g < (Go.Sort.putRowK famCs 9 (Sort.ahead w n) g 0 d').heap.size; unfold Go.Sort.putRowK; rw [Go.Sort.size_putRow]; exact hr.lt) (Go.Sort.holdsK_putRowK famCs 9 _ g 0 _ d' (Go.Sort.holdsK_ahead famCs 9 _ _ _ _ _ hH) (by rw [hd, hsz]))
    refine ⟨rfl, d'.toList, ?_, ?_, ?_, ?_⟩
    · have := hperm.2.2
      rw [Array.extract_eq_self_of_le (by omega), Array.extract_eq_self_of_le (by rw [hsz]; exact Nat.le_refl _)] at this
      simpa using this
    · unfold Asc
      rw [List.pairwise_iff_getElem]
      intro i j hi hj hij
      have := hsort i j (Nat.zero_le _) hij (by rw [← hd]; simpa using hj)
      rw [getElem!_pos d' i (by simpa using hi), getElem!_pos d' j (by simpa using hj)] at this
      simpa [ltF] using this
    · have hdl : d'.toList.length = l.length := by simpa using hd
      rw [hdl]
      have hgw : g < (Go.Sort.putRowK famCs 9 (Sort.ahead w n) g 0 d').heap.size := by unfold Go.Sort.putRowK; rw [Go.Sort.size_putRow]; exact hr.lt
      have hfl : (Go.Sort.flatK famCs 9 d').size = l.length * 9 := by rw [Go.Sort.size_flatK, hd]
      have hback : ∀ j, l.length * 9 ≤ j → (Go.Sort.grow (Go.Sort.putRowK famCs 9 (Sort.ahead w n) g 0 d') os).cell? ⟨g, j, none⟩ = w.cell? ⟨g, j, none⟩ := fun j hj => by
        rw [Sort.cell?_grow _ _ _ (by exact hgw)]
        unfold Go.Sort.putRowK
        rw [Go.Sort.cell?_putRow_other id _ g 0 _ ⟨g, j, none⟩ (.inr (.inr (by rw [hfl]; show 0 + l.length * 9 ≤ j; omega)))]
        rfl
      have hfrz : ∀ j, (Go.Sort.grow (Go.Sort.putRowK famCs 9 (Sort.ahead w n) g 0 d') os).frozen? ⟨g, j, none⟩ = w.frozen? ⟨g, j, none⟩ := fun j => by
        rw [Sort.frozen?_grow _ _ _ (by exact hgw)]
        unfold Go.Sort.putRowK
        rw [Go.Sort.frozen?_putRow]
        rfl
      have hin : ∀ j, j < l.length * 9 → (Go.Sort.grow (Go.Sort.putRowK famCs 9 (Sort.ahead w n) g 0 d') os).cell? ⟨g, j, none⟩ = (famsCs d'.toList)[j]? := fun j hj => by
        have := (hHd.cell (i := j / 9) (c := j % 9) (by omega) (by omega)).1
        rw [show 0 + j / 9 * 9 + j % 9 = j by omega] at this
        rw [this, famsCs_get d'.toList j (by rw [hdl]; exact hj)]
        have e : d'[j / 9]! = d'.toList[j / 9]'(by rw [hdl]; omega) := by
          rw [getElem!_pos d' (j / 9) (by omega)]
          simp
        rw [e, getElem!_pos (famCs _) (j % 9) (by rw [famCs_len]; omega), List.getElem?_eq_getElem (by rw [famCs_len]; omega)]
      refine ⟨hr.new, Nat.lt_of_lt_of_le hgw (by simp [Sort.grow]), by rw [famsCs_len, hdl], hr.le, hr.max, famsCs_one _, fun j u hj => ?_, fun j hj => ⟨?_, ?_⟩⟩
      · have hjl := (List.getElem?_eq_some_iff.1 hj).1
        rw [famsCs_len, hdl] at hjl
        rw [hin j hjl, hj]
      · by_cases hjl : j < l.length * 9
        · rw [hin j hjl, List.getElem?_eq_getElem (by rw [famsCs_len, hdl]; exact hjl)]
          rfl
        · rw [hback j (by omega)]
          exact (hr.there j hj).1
      · rw [hfrz j]
        exact (hr.there j hj).2
    · have h1 : Below B w (Go.Sort.putRowK famCs 9 (Sort.ahead w n) g 0 d') := Lib.below_putRow (Below.refl B w) hr.new
      refine h1.trans ⟨rfl, rfl, rfl, by simp [Sort.grow], fun k hk => Sort.heap_grow_old _ _ (Nat.lt_of_lt_of_le (Nat.lt_of_lt_of_le hk hBg) h1.size)⟩
  · have key := Any.sort_Slice_tiny Try.laysGg6 31 36 i1 ie hi1 hd1 (by kernel_rfl) hie 25 (fun _ => by kernel_rfl) (some ⟨g, 0, none⟩) l.length c (by omega)
    have fin : ∀ e w', (e = Ending.returned (.tuple #[]) ∧ ∃ os, w' = Sort.grow w os) → e = .returned (.tuple #[]) ∧ ∃ d : List Fam, d.Perm l ∧ Asc d ∧ RowK 9 B w' g c d.length (famsCs d) ∧ Below B w w' := by
      rintro e w' ⟨rfl, os, rfl⟩
      have hb : Below w.heap.size w (Sort.grow w os) := ⟨rfl, rfl, rfl, by simp [Sort.grow], fun k hk => Sort.heap_grow_old _ _ hk⟩
      refine ⟨rfl, l, .refl _, ?_, hr.below hb hr.lt, hb.mono hBg⟩
      match l, h2 with
      | [], _ => exact .nil
      | [a], _ => exact List.pairwise_singleton _ _
      | a :: b :: r, h2 => simp at h2
    by_cases h0 : l.length = 0
    · exact (key 56 (by rw [swapK _ ie hp hby, if_pos h0]; kernel_rfl) _ _ _ w).mono fin
    · exact (key 57 (by rw [swapK _ ie hp hby, if_neg h0, if_pos (by omega)]; kernel_rfl) _ _ _ w).mono fin
end Go.Proofs.Ytibelcnjmpedkaa
