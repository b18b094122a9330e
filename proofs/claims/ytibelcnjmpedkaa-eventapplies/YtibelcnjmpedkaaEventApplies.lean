/- For every list of events: the law EventApplies (promises 5.2, 5.3) returns true, with no panic, and the list reads as it did (of more than 60 events, and of an event that may not be or whose texts are longer than 300 bytes together, the law itself says nothing). Conditions: none beside the row's own. -/
import Derived.Test.YtibelcnjmpedkaaEvALaw
import Derived.Test.YtibelcnjmpedkaaEvOpen
import Derived.Deep.Slices
import Derived.Deep.Strs
import Derived.ProofKit
import Derived.OpenShut
import Derived.Lib.SmallJoins
import Derived.Deep.DeepHandedRow
import Derived.Deep.DeepWitnessRowRef
import Derived.Lib.LaidTab
import Derived.LaidHandle
import Derived.Stop.LaidErr
import Derived.Shelf.Vars
import Derived.SizedLaws
namespace Go.Proofs.Ytibelcnjmpedkaa.eventAppliesProof
open Go.ChangeShapes Go.WideShapes Go.ChangeAt Go.RowKit Go.Joins
open Go.WideMaps Go.WideElems
open Go.ChangeMaps (open_string shut_string)
open Go.Deep Ev
theorem own : ownKnob Try.prog.godebug = none := by kernel_rfl
def layV (l : List Value) : Obj → Obj
  | .cells _ t frozen => .cells l.toArray t frozen
  | o => o
theorem lenOk {W : World} (hS : W.ShapedOpen Try.prog) : LenOk W := by
  obtain ⟨m, hm⟩ := cell_of_shapedOpen_int (g := 0) (t := 3) (zero := #[.int .i64 0]) (k := .i64) hS (of_decide_eq_true (by kernel_rfl)) (by kernel_rfl) rfl (by kernel_rfl) (by kernel_rfl) Try.underlying3
  exact ⟨m, hm⟩
theorem laidOut : laidOutB Try.prog = true := by kernel_rfl
theorem mem_weightsAll {H : Type} {t : TypeId} {d : DataW H} {n : Nat} : ∀ {l : List (DataW H)}, d ∈ l → n ∈ d.weights Try.prog t → n ∈ DataW.weightsAll Try.prog t l
  | a :: r, h, hn => by
    simp only [DataW.weightsAll, List.mem_append]
    rcases List.mem_cons.1 h with rfl | h
    · exact .inl hn
    · exact .inr (mem_weightsAll h hn)
theorem opened {H : Type} {enc : TypeId × Value → H} {W : World} {fuel : Nat} {ao : Option Addr} {len cap : Nat} {x : DataW H × List MemPlace} (h0 : 0 < W.heap.size)
    (h : DataW.trod enc Try.prog W 0 (fun _ => true) true fuel 30 [.slice ao len cap] = some x) :
    ∃ (es : List E) (g off : Nat), es.length = len ∧ (0 < es.length → ao = some ⟨g, off, none⟩) ∧ g < W.heap.size ∧ EvRow W g off es ∧
      (∀ e ∈ es, ∀ n ∈ (evD (H := H) e).weights Try.prog 38, n ∈ x.1.weights Try.prog 30) := by
  rcases open_slice Try.underlying30 h with ⟨hcs, hx⟩ | ⟨a1, len1, cap1, m, n, D, Pl, hcs, _, hl, hm, hmm, hx, hel⟩
  · simp only [List.cons.injEq, Value.slice.injEq, and_true] at hcs
    obtain ⟨rfl, rfl, rfl⟩ := hcs
    exact ⟨[], 0, 0, rfl, by simp, h0, fun i hi => by simp at hi, by simp⟩
  · simp only [List.cons.injEq, Value.slice.injEq, and_true] at hcs
    obtain ⟨rfl, rfl, rfl⟩ := hcs
    simp only [if_true] at hmm
    have each : ∀ i, i < len → ∃ q : E, (∀ k v, (evCs q)[k]? = some v → W.cell? (a1.add (i * 12 + k)) = some v) ∧ D i = evD q := by
      intro i hi
      obtain ⟨cs', h1, h2⟩ := hel i (by omega)
      rw [cellsET] at h1
      obtain ⟨_, hlen, hcell⟩ := World.cells?_some h1
      obtain ⟨q, hq1, hq2, _⟩ := ev_openT h2
      simp only [Prod.mk.injEq] at hq2
      subst hq1
      refine ⟨q, fun k v hk => ?_, hq2.1⟩
      have hk12 : k < 12 := by
        have := (List.getElem?_eq_some_iff.1 hk).1
        simpa [evCs] using this
      have hc := hcell k hk12
      rw [add_add] at hc
      exact hc.trans hk
    have hne : Inhabited E := ⟨⟨0, zeroF, 0, 0⟩⟩
    obtain ⟨q, hq⟩ := choose_lt each
    obtain ⟨b, off, spot⟩ := a1
    by_cases hz : len = 0
    · subst hz
      exact ⟨[], 0, 0, rfl, by simp, h0, fun i hi => by simp at hi, by simp⟩
    have hc0 : W.cell? ⟨b, off, spot⟩ = some (.int .i64 (q 0).kind) := by simpa [Addr.add] using (hq 0 (by omega)).1 0 _ rfl
    have hspot : spot = none := World.cell?_spot hc0
    subst hspot
    refine ⟨(List.range len).map q, b, off, by simp, fun _ => rfl, World.block_lt_of_cell? _ _ hc0, ?_, ?_⟩
    · intro i hi k v hk
      have hil : i < len := by simpa using hi
      rw [List.getElem_map, List.getElem_range] at hk
      have := (hq i hil).1 k v hk
      rw [add_plain] at this
      simpa [Nat.add_assoc] using this
    · intro e he n' hn'
      obtain ⟨i, hi1, hi2⟩ := List.mem_map.1 he
      have hil : i < len := by simpa using hi1
      subst hi2
      rw [hx]
      simp only [DataW.weights, Try.underlying30]
      refine List.mem_cons_of_mem _ (List.mem_append_left _ (mem_weightsAll (d := D i) (List.mem_map.2 ⟨i, by simpa using hil, rfl⟩) ?_))
      rw [(hq i hil).2]
      exact hn'
theorem longer (ao : Option Addr) (len cap : Nat) (w : World) (h : 60 < len) :
    Calls Try.prog 4 #[.slice ao len cap] w fun e w' => e = .returned (.bool true) ∧ w' = w := by
  have hl : (60 : Int) < (len : Int) := by omega
  go_enter Try.func4, Try.ntmps4
  go_wp2_with fail
  go_ret
  exact ⟨rfl, rfl⟩
set_option maxRecDepth 100000 in
theorem contract (H : Type) (enc : TypeId × Value → H) (W : World) (base : Nat) (args : Array Value) (ds gs : List (DataW H)) (before : List MemPlace)
    (hval : ∀ (j : Nat) t v, Try.f4.params[j]? = some t → args[j]? = some v → Value.okWide Try.prog W .any base t v)
    (hW : DataW.Whole enc Try.prog Try.f4.params.toList Rows.eventAppliesSpec.vars false W args.toList ds gs before) (hsz0 : (DataW.weightsEach Try.prog (Try.f4.params.toList ++ Rows.eventAppliesSpec.plain.varTypes Try.prog) (ds ++ gs)).all (· ≤ reachBytes) = true) (hL : LenOk W) :
    Calls Try.prog 4 args W fun e W' => ∃ v, e = .returned v ∧ Rows.eventAppliesSpec.post enc Try.prog Try.f4 false true false false W args v W' := by
  have hW' := hW
  obtain ⟨p, q, hA0, hV, rfl, hfz, hnd⟩ := hW
  have hA : DataW.TrodAll enc Try.prog W 0 (fun _ => true) true Try.f4.params.toList args.toList ds p := hA0
  have hsz : (DataW.weightsEach Try.prog (Try.f4.params.toList ++ Rows.eventAppliesSpec.plain.varTypes Try.prog) (ds ++ gs)).all (· ≤ reachBytes) = true := hsz0
  rw [Try.params4] at hA hval hsz
  obtain ⟨v0, d0, rfl, rfl, h0⟩ := trodAll_one hA
  obtain ⟨rfl, rfl⟩ := trodVars_none hV
  have h0k := h0
  obtain ⟨fuel, hf⟩ := h0
  clear hA0
  simp only [List.append_nil] at hW'
  have hlt : ∀ x ∈ p, x.block < W.heap.size := fun x hx => by simpa using hW'.lt x hx
  have hargs : ∀ (W' : World), Below W.heap.size W W' → DataW.Trod enc Try.prog W' 0 (fun b => decide (b < W.heap.size)) true 30 v0 d0 p :=
    fun W' hn => Below.trod laidOut (by kernel_rfl) (of_decide_eq_true (by kernel_rfl)) h0k hn hlt
  obtain ⟨ao, len, cap, rfl⟩ := okWide_slice Try.underlying30 (hval 0 30 v0 rfl rfl)
  obtain ⟨_, hm0⟩ := hL
  have hpos : 0 < W.heap.size := Nat.lt_of_le_of_lt (Nat.zero_le _) (World.block_lt_of_cell? _ _ hm0)
  have fin : ∀ W' : World, Below W.heap.size W W' → ∃ v, Ending.returned (.bool true) = .returned v ∧ Rows.eventAppliesSpec.post enc Try.prog Try.f4 false true false false W #[.slice ao len cap] v W' := by
    intro W' hb
    refine ⟨_, rfl, _, _, _, [], p, [], hW', ?_, ?_, ?_, hb.frame _, fun h => by cases h⟩
    · exact trodAll_mk1 (shut_bool Try.underlying4 _)
    · exact trodAll_mk1 (hargs _ hb)
    · rfl
  by_cases h60 : 60 < len
  · refine (longer ao len cap W h60).mono fun e W' ⟨he, hw⟩ => ?_
    subst he; subst hw
    exact fin _ (Below.refl _ _)
  · obtain ⟨es, g, off, rfl, hao, hg, hrow, hwt⟩ := opened hpos hf
    have hall : ∀ n ∈ d0.weights Try.prog 30, n ≤ reachBytes := by
      intro n hn
      rw [List.all_eq_true] at hsz
      have := hsz n (by
        simp only [List.append_nil, List.cons_append, DataW.weightsEach, List.mem_append]
        exact .inl hn)
      simpa using this
    have hs : ∀ e ∈ es, lens e.fam ≤ 10000000000000000 := by
      intro e he
      have h4 := ev_lens (H := H) (e := e) (fun n hn => hall n (hwt e he n hn))
      have hr : 4 * reachBytes ≤ 10000000000000000 := by decide
      exact Nat.le_trans h4 hr
    refine (eventAppliesLaw es ao g off cap W hao hg hrow hs (by omega)).mono fun e W' ⟨he, hb'⟩ => ?_
    subst he
    exact fin _ hb'
def wargs : Array Value := #[.slice none 0 0]
theorem laid_met (os : Os) : laidMetH Try.prog Rows.eventAppliesRow.laid ((World.holding Try.prog os ⟨#[], #[], []⟩).forCall (fun _ _ => 0) ⟨#[], wargs, []⟩).memory := laidMet_of_run' 8 (by kernel_rfl) (by kernel_rfl)
theorem reads (os : Os) {H : Type} (enc : TypeId × Value → H) : ∃ places, DataW.whole enc Try.prog ((World.holding Try.prog os ⟨#[], #[], []⟩).forCall (fun _ _ => 0) ⟨#[], wargs, []⟩).memory Try.f4.params.toList Rows.eventAppliesSpec.vars false wargs.toList 8 = some ([.nil], [], places) :=
  ⟨[], by kernel_rfl⟩
set_option maxRecDepth 100000 in
theorem lifted (os : Os) (started : os.Started) (H : Type) (enc : TypeId × Value → H) (X : Stop.Interp) :
    ReturnsInHanded {} Try.checked os 4 .any ((OpenSpec.ofChange Rows.eventAppliesSpec).preRow enc Try.prog Try.f4 Rows.eventAppliesRow.domain false Rows.eventAppliesRow.laid) (((OpenSpec.ofChange Rows.eventAppliesSpec).at X).post enc Try.prog Try.f4 false true false false) := by
  obtain ⟨places, hx⟩ := reads os enc
  refine returnsInHanded_of_row (C := Try.checked) (s := OpenSpec.ofChange Rows.eventAppliesSpec) own started (by kernel_rfl) Try.func4
    (witness_row_atRef (enc := enc) (C := Try.checked) false (World.holding Try.prog os ⟨#[], #[], []⟩) wargs rfl (by kernel_rfl) (by kernel_rfl) (by kernel_rfl)
      (OpenSpec.preRow_of_cond 8 hx (by kernel_rfl) (fun k hk => by cases hk) (by kernel_rfl) (laid_met os))) ?_
  intro W base args ds gs before hval hW _ _ hsz _ hS _
  exact contract H enc W base args ds gs before hval hW hsz (lenOk hS)
theorem said : Rows.EventAppliesSaid :=
  OpenClaim.holds_of_cond 4 Try.f4 rfl rfl rfl rfl rfl rfl rfl ⟨rfl, rfl, rfl, rfl, rfl⟩ rfl rfl rfl rfl rfl (by kernel_rfl) Try.func4 (by kernel_rfl)
    (of_decide_eq_true (by kernel_rfl)) (by unfold Func.isWrapper; rw [if_neg (of_decide_eq_false (by kernel_rfl))]; exact ⟨rfl, rfl⟩)
    (fun os started H enc _ X => by rw [OpenClaim.pre_eq_preRow]; exact lifted os started H enc X)
end Go.Proofs.Ytibelcnjmpedkaa.eventAppliesProof
