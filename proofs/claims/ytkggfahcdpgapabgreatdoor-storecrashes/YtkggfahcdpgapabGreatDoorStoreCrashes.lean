/- For every list of what is done to a store (Add, Save) and every list of places where the power goes off: the law StoreCrashes (promise 6.3) returns true, with no panic, and both lists read as they did (of a list of more than 60, of more than 30 places, and of an event whose texts are longer than 300 bytes together, the law itself says nothing). Conditions: none beside the row's own (the library's listed variables hold what the program's text lays; the card ties them). -/
import Derived.Test.YtkggfahcdpgapabGreatDoorB26
import Derived.Test.YtkggfahcdpgapabGreatDoorB27
import Derived.Test.YtkggfahcdpgapabGreatDoorCards
import Derived.Test.YtkggfahcdpgapabGreatDoorTie
import Derived.Deep.Slices
import Derived.Deep.Strs
import Derived.ProofKit
import Derived.OpenShut
import Derived.Lib.SmallJoins
import Derived.Deep.DeepHandedRow
import Derived.Deep.DeepWitnessRowRef
import Derived.Lib.LaidTab
import Derived.LaidHandle
import Derived.Stop.LaidErr
import Derived.Shelf.Vars
import Derived.SizedLaws
namespace Go.Proofs.YtkggfahcdpgapabGreatDoor.storeCrashesProof
open Go.ChangeShapes Go.WideShapes Go.ChangeAt Go.RowKit Go.Joins
open Go.WideMaps Go.WideElems
open Go.ChangeMaps (open_string shut_string)
open Go.Deep Ev
theorem own : ownKnob Tryz.prog.godebug = none := by kernel_rfl
def layV (l : List Value) : Obj → Obj
  | .cells _ t frozen => .cells l.toArray t frozen
  | o => o
theorem starES : "*" ++ "errors.errorString" = "*errors.errorString" := by decide
theorem rowES (u : TypeId) (h : Tryz.prog.typeName? 3 u = some "*errors.errorString") : u = 333 :=
  typeName_ptr_named (nm := "errors.errorString") (by rw [starES]; kernel_rfl) (by kernel_rfl) (by decide) u (by rw [starES]; exact h)
def layErr : Obj → Obj
  | .cells _ t frozen => .cells #[.iface 221 (.agg #[.pointer (some ⟨9, 31, none⟩)])] t frozen
  | o => o
def tab_math_bits_deBruijn32tab : List Int := [0, 1, 28, 2, 29, 14, 24, 3, 30, 22, 20, 15, 25, 17, 4, 8, 31, 27, 13, 23, 21, 19, 16, 7, 26, 12, 18, 6, 11, 5, 10, 9]
def tab_math_bits_deBruijn64tab : List Int := [0, 1, 56, 2, 57, 49, 28, 3, 61, 58, 42, 50, 38, 29, 17, 4, 62, 47, 59, 36, 45, 43, 51, 22, 53, 39, 33, 30, 24, 18, 12, 5, 63, 55, 48, 27, 60, 41, 37, 16, 46, 35, 44, 21, 52, 32, 23, 11, 54, 26, 40, 15, 34, 20, 31, 10, 25, 14, 19, 9, 13, 8, 7, 6]
def tab_internal_strconv_uint64pow10 : List Int := [1, 10, 100, 1000, 10000, 100000, 1000000, 10000000, 100000000, 1000000000, 10000000000, 100000000000, 1000000000000, 10000000000000, 100000000000000, 1000000000000000, 10000000000000000, 100000000000000000, 1000000000000000000, 10000000000000000000]
def tab_unicode_utf8_acceptRanges : List Int := [128, 191, 160, 191, 128, 159, 144, 191, 128, 143, 0, 0, 0, 0, 0, 0, 0, 0, 0, 0, 0, 0, 0, 0, 0, 0, 0, 0, 0, 0, 0, 0]
theorem laidParts {W : World} (h : laidMetH Tryz.prog Rows.storeCrashesRow.laid W) : laidMet Tryz.prog [("math/bits.deBruijn32tab", Rows.laid_math_bits_deBruijn32tab), ("math/bits.deBruijn64tab", Rows.laid_math_bits_deBruijn64tab), ("internal/strconv.uint64pow10", Rows.laid_internal_strconv_uint64pow10), ("unicode/utf8.acceptRanges", Rows.laid_unicode_utf8_acceptRanges), ("strconv.ErrRange", Rows.laid_strconv_ErrRange), ("strconv.ErrSyntax", Rows.laid_strconv_ErrSyntax), ("unicode/utf8.first", Rows.laid_unicode_utf8_first)] W ∧ handlesMet Tryz.prog [("errors.errorType", Rows.laid_errors_errorType)] W := h
theorem gL_math_bits_deBruijn32tab : Tryz.prog.globalNamed "math/bits.deBruijn32tab" = some 7 := by kernel_rfl
theorem fact_math_bits_deBruijn32tab {W : World} (h : laidMetH Tryz.prog Rows.storeCrashesRow.laid W) : Lib.TabIs Tryz.prog W "math/bits.deBruijn32tab" .u8 tab_math_bits_deBruijn32tab :=
  Lib.tabIs_of_head (rest := _) gL_math_bits_deBruijn32tab (show (Tryz.prog.globals[7]?).map (·.type) = some 340 by kernel_rfl) Tryz.underlying340 Tryz.underlying5 (by kernel_rfl) (by kernel_rfl) (laidParts h).1
theorem gL_math_bits_deBruijn64tab : Tryz.prog.globalNamed "math/bits.deBruijn64tab" = some 8 := by kernel_rfl
theorem fact_math_bits_deBruijn64tab {W : World} (h : laidMetH Tryz.prog Rows.storeCrashesRow.laid W) : Lib.TabIs Tryz.prog W "math/bits.deBruijn64tab" .u8 tab_math_bits_deBruijn64tab :=
  Lib.tabIs_of_head (rest := _) gL_math_bits_deBruijn64tab (show (Tryz.prog.globals[8]?).map (·.type) = some 341 by kernel_rfl) Tryz.underlying341 Tryz.underlying5 (by kernel_rfl) (by kernel_rfl) (laidMet.tail (laidParts h).1)
theorem gL_internal_strconv_uint64pow10 : Tryz.prog.globalNamed "internal/strconv.uint64pow10" = some 2 := by kernel_rfl
theorem fact_internal_strconv_uint64pow10 {W : World} (h : laidMetH Tryz.prog Rows.storeCrashesRow.laid W) : Lib.TabIs Tryz.prog W "internal/strconv.uint64pow10" .u64 tab_internal_strconv_uint64pow10 :=
  Lib.tabIs_of_head (rest := _) gL_internal_strconv_uint64pow10 (show (Tryz.prog.globals[2]?).map (·.type) = some 296 by kernel_rfl) Tryz.underlying296 Tryz.underlying243 (by kernel_rfl) (by kernel_rfl) (laidMet.tail (laidMet.tail (laidParts h).1))
theorem gL_unicode_utf8_acceptRanges : Tryz.prog.globalNamed "unicode/utf8.acceptRanges" = some 6 := by kernel_rfl
theorem gL_strconv_ErrRange : Tryz.prog.globalNamed "strconv.ErrRange" = some 4 := by kernel_rfl
theorem fact_strconv_ErrRange {W : World} (h : laidMetH Tryz.prog Rows.storeCrashesRow.laid W) : ∃ te pe, W.cell? ⟨4, 0, none⟩ = some (.iface te pe) := by
  obtain ⟨a0, s0, hv0, -, -, -⟩ := laid_sentinel (laidMet.tail (laidMet.tail (laidMet.tail (laidMet.tail (laidParts h).1)))) gL_strconv_ErrRange (show (Tryz.prog.globals[4]?).map (·.type) = some 31 by kernel_rfl) Tryz.underlying31 rowES Tryz.underlying333 Tryz.underlying335 rfl rfl Tryz.underlying9 (by kernel_rfl) (by kernel_rfl)
  have h0 := World.var?_cell gL_strconv_ErrRange hv0 0
  exact ⟨_, _, by simpa using h0⟩
theorem gL_strconv_ErrSyntax : Tryz.prog.globalNamed "strconv.ErrSyntax" = some 3 := by kernel_rfl
theorem fact_strconv_ErrSyntax {W : World} (h : laidMetH Tryz.prog Rows.storeCrashesRow.laid W) : ∃ te pe, W.cell? ⟨3, 0, none⟩ = some (.iface te pe) := by
  obtain ⟨a0, s0, hv0, -, -, -⟩ := laid_sentinel (laidMet.tail (laidMet.tail (laidMet.tail (laidMet.tail (laidMet.tail (laidParts h).1))))) gL_strconv_ErrSyntax (show (Tryz.prog.globals[3]?).map (·.type) = some 31 by kernel_rfl) Tryz.underlying31 rowES Tryz.underlying333 Tryz.underlying335 rfl rfl Tryz.underlying9 (by kernel_rfl) (by kernel_rfl)
  have h0 := World.var?_cell gL_strconv_ErrSyntax hv0 0
  exact ⟨_, _, by simpa using h0⟩
theorem gL_unicode_utf8_first : Tryz.prog.globalNamed "unicode/utf8.first" = some 5 := by kernel_rfl
theorem gErr : Tryz.prog.globalNamed "errors.errorType" = some 0 := by kernel_rfl
theorem rtRow : (Tryz.prog.cutTypes.find? (·.1 == "internal/reflectlite.rtype")).map (·.2) = some 221 := by kernel_rfl
theorem oneRow : ((List.range Tryz.prog.types.size).filter fun t => Tryz.prog.rowNamed t [101, 114, 114, 111, 114]) = [31] := by kernel_rfl
theorem fact_err {W : World} (h : laidMetH Tryz.prog Rows.storeCrashesRow.laid W) : ErrVar W := by
  obtain ⟨name, u, ty, e1, e2, e3, e4, e5⟩ := (laidParts h).2 _ (List.mem_singleton.2 rfl)
  have en : name = [101, 114, 114, 111, 114] := (Option.some.inj e1).symm
  subst en
  obtain rfl := Option.some.inj (rtRow.symm.trans e2)
  have hm : ty ∈ (List.range Tryz.prog.types.size).filter fun t => Tryz.prog.rowNamed t [101, 114, 114, 111, 114] := List.mem_filter.2 ⟨List.mem_range.2 e3, e4⟩
  rw [oneRow] at hm
  obtain rfl := List.mem_singleton.1 hm
  have hh : typeHandle Tryz.prog 31 = .pointer (some ⟨9, 31, none⟩) := by kernel_rfl
  rw [hh] at e5
  have hv := World.var?_cell gErr e5 0
  unfold ErrVar
  simpa using hv
theorem tabPow_is : tab_internal_strconv_uint64pow10 = Lib.pow10Tab := by decide +kernel
theorem libs {W : World} (h : laidMetH Tryz.prog Rows.storeCrashesRow.laid W) (hS : W.ShapedOpen Tryz.prog) : LibsA W := by
  have hP := fact_internal_strconv_uint64pow10 h
  have cP := hP.cell gL_internal_strconv_uint64pow10 0 (by decide)
  rw [tabPow_is] at hP
  obtain ⟨t1, p1, c1⟩ := fact_strconv_ErrSyntax h
  obtain ⟨t2, p2, c2⟩ := fact_strconv_ErrRange h
  obtain ⟨m, hm⟩ := cell_of_shapedOpen_int (g := 1) (t := 3) (zero := #[.int .i64 0]) (k := .i64) hS (of_decide_eq_true (by kernel_rfl)) (by kernel_rfl) rfl (by kernel_rfl) (by kernel_rfl) Tryz.underlying3
  exact ⟨⟨World.block_lt_of_cell? _ _ cP, hP, ⟨m, hm⟩⟩, ⟨_, c1, .inr ⟨_, _, rfl⟩⟩, ⟨_, c2, .inr ⟨_, _, rfl⟩⟩⟩
theorem laidOut : laidOutB Tryz.prog = true := by kernel_rfl
theorem mem_weightsAll {H : Type} {t : TypeId} {d : DataW H} {n : Nat} : ∀ {l : List (DataW H)}, d ∈ l → n ∈ d.weights Tryz.prog t → n ∈ DataW.weightsAll Tryz.prog t l
  | a :: r, h, hn => by
    simp only [DataW.weightsAll, List.mem_append]
    rcases List.mem_cons.1 h with rfl | h
    · exact .inl hn
    · exact .inr (mem_weightsAll h hn)
theorem opened {H : Type} {enc : TypeId × Value → H} {W : World} {fuel : Nat} {ao : Option Addr} {len cap : Nat} {x : DataW H × List MemPlace} (h0 : 0 < W.heap.size)
    (h : DataW.trod enc Tryz.prog W 0 (fun _ => true) true fuel 22 [.slice ao len cap] = some x) :
    ∃ (es : List Do2) (g off : Nat), es.length = len ∧ (0 < es.length → ao = some ⟨g, off, none⟩) ∧ g < W.heap.size ∧ DoRow W g off es ∧
      (∀ e ∈ es, ∀ n ∈ (evD (H := H) e.e).weights Tryz.prog 42, n ∈ x.1.weights Tryz.prog 22) := by
  rcases open_slice Tryz.underlying22 h with ⟨hcs, hx⟩ | ⟨a1, len1, cap1, m, n, D, Pl, hcs, _, hl, hm, hmm, hx, hel⟩
  · simp only [List.cons.injEq, Value.slice.injEq, and_true] at hcs
    obtain ⟨rfl, rfl, rfl⟩ := hcs
    exact ⟨[], 0, 0, rfl, by simp, h0, fun i hi => by simp at hi, by simp⟩
  · simp only [List.cons.injEq, Value.slice.injEq, and_true] at hcs
    obtain ⟨rfl, rfl, rfl⟩ := hcs
    simp only [if_true] at hmm
    have each : ∀ i, i < len → ∃ q : Do2, (∀ k v, (doCs q)[k]? = some v → W.cell? (a1.add (i * 13 + k)) = some v) ∧ D i = doD q := by
      intro i hi
      obtain ⟨cs', h1, h2⟩ := hel i (by omega)
      rw [cellsDO] at h1
      obtain ⟨_, hlen, hcell⟩ := World.cells?_some h1
      obtain ⟨q, hq1, hq2, _⟩ := do_openT h2
      simp only [Prod.mk.injEq] at hq2
      subst hq1
      refine ⟨q, fun k v hk => ?_, hq2.1⟩
      have hk12 : k < 13 := by
        have := (List.getElem?_eq_some_iff.1 hk).1
        simpa [doCs, evCs] using this
      have hc := hcell k hk12
      rw [add_add] at hc
      exact hc.trans hk
    have hne : Inhabited Do2 := ⟨⟨0, zeroE⟩⟩
    obtain ⟨q, hq⟩ := choose_lt each
    obtain ⟨b, off, spot⟩ := a1
    by_cases hz : len = 0
    · subst hz
      exact ⟨[], 0, 0, rfl, by simp, h0, fun i hi => by simp at hi, by simp⟩
    have hc0 : W.cell? ⟨b, off, spot⟩ = some (.int .i64 (q 0).a) := by simpa [Addr.add] using (hq 0 (by omega)).1 0 _ rfl
    have hspot : spot = none := World.cell?_spot hc0
    subst hspot
    refine ⟨(List.range len).map q, b, off, by simp, fun _ => rfl, World.block_lt_of_cell? _ _ hc0, ?_, ?_⟩
    · intro i hi k v hk
      have hil : i < len := by simpa using hi
      rw [List.getElem_map, List.getElem_range] at hk
      have := (hq i hil).1 k v hk
      rw [WideShapes.add_plain] at this
      simpa [Nat.add_assoc] using this
    · intro e he
      obtain ⟨i, hi1, hi2⟩ := List.mem_map.1 he
      have hil : i < len := by simpa using hi1
      subst hi2
      intro n' hn'
      rw [hx]
      simp only [DataW.weights, Tryz.underlying22]
      refine List.mem_cons_of_mem _ (List.mem_append_left _ (mem_weightsAll (d := D i) (List.mem_map.2 ⟨i, by simpa using hil, rfl⟩) ?_))
      rw [(hq i hil).2]
      exact do_weights hn'
theorem openedI {H : Type} {enc : TypeId × Value → H} {W : World} {fuel : Nat} {ao : Option Addr} {len cap : Nat} {x : DataW H × List MemPlace} (h0 : 0 < W.heap.size)
    (h : DataW.trod enc Tryz.prog W 0 (fun _ => true) true fuel 23 [.slice ao len cap] = some x) :
    ∃ (es : List Int) (g off : Nat), es.length = len ∧ (0 < es.length → ao = some ⟨g, off, none⟩) ∧ g < W.heap.size ∧ ∀ (i : Nat) (h : i < es.length), W.cell? ⟨g, off + i, none⟩ = some (.int .i64 es[i]) := by
  rcases open_slice Tryz.underlying23 h with ⟨hcs, hx⟩ | ⟨a1, len1, cap1, m, n, D, Pl, hcs, _, hl, hm, hmm, hx, hel⟩
  · simp only [List.cons.injEq, Value.slice.injEq, and_true] at hcs
    obtain ⟨rfl, rfl, rfl⟩ := hcs
    exact ⟨[], 0, 0, rfl, by simp, h0, fun i hi => by simp at hi⟩
  · simp only [List.cons.injEq, Value.slice.injEq, and_true] at hcs
    obtain ⟨rfl, rfl, rfl⟩ := hcs
    simp only [if_true] at hmm
    have each : ∀ i, i < len → ∃ q : Int, W.cell? (a1.add i) = some (.int .i64 q) := by
      intro i hi
      obtain ⟨cs', h1, h2⟩ := hel i (by omega)
      rw [cellsInt] at h1
      obtain ⟨_, hlen, hcell⟩ := World.cells?_some h1
      obtain ⟨q, hq, _, _⟩ := DataW.trod_int Tryz.underlying3 h2
      subst hq
      have hc := hcell 0 (by simp)
      rw [add_add] at hc
      exact ⟨q, by simpa using hc⟩
    obtain ⟨q, hq⟩ := choose_lt each
    obtain ⟨b, off, spot⟩ := a1
    by_cases hz : len = 0
    · subst hz
      exact ⟨[], 0, 0, rfl, by simp, h0, fun i hi => by simp at hi⟩
    have hc0 : W.cell? ⟨b, off, spot⟩ = some (.int .i64 (q 0)) := by simpa [Addr.add] using hq 0 (by omega)
    have hspot : spot = none := World.cell?_spot hc0
    subst hspot
    refine ⟨(List.range len).map q, b, off, by simp, fun _ => rfl, World.block_lt_of_cell? _ _ hc0, ?_⟩
    intro i hi
    have hil : i < len := by simpa using hi
    rw [List.getElem_map, List.getElem_range]
    have := hq i hil
    rw [WideShapes.add_plain] at this
    exact this
set_option maxRecDepth 100000 in
set_option maxHeartbeats 2000000 in
theorem longer (ao ca : Option Addr) (len cap clen cc : Nat) (w : World) (h : 60 < len ∨ 30 < clen) :
    Calls Tryz.prog 3 #[.slice ao len cap, .slice ca clen cc] w fun e w' => e = .returned (.bool true) ∧ Below w.heap.size w w' := by
  have HB : Hid (Below w.heap.size w (w.alloc (.cells #[.slice ca clen cc] 23))) := (Below.refl _ _).alloc (Nat.le_refl _) _
  by_cases h1 : 60 < len
  · have hl : (60 : Int) < (len : Int) := by omega
    go_enter Tryz.func3, Tryz.ntmps3
    go_wp2_with fail
    go_ret
    exact ⟨rfl, HB.out⟩
  · have hl : ¬ (60 : Int) < (len : Int) := by omega
    have hl2 : (30 : Int) < (clen : Int) := by omega
    go_enter Tryz.func3, Tryz.ntmps3
    go_wp2_with fail
    go_ret
    exact ⟨rfl, HB.out⟩
theorem olds {W : World} (h : laidMetH Tryz.prog Rows.storeCrashesRow.laid W) (hS : W.ShapedOpen Tryz.prog) : Olds W.heap.size := by
  have cP := (fact_internal_strconv_uint64pow10 h).cell gL_internal_strconv_uint64pow10 0 (by decide)
  obtain ⟨t1, p1, c1⟩ := fact_strconv_ErrSyntax h
  obtain ⟨t2, p2, c2⟩ := fact_strconv_ErrRange h
  obtain ⟨m, hm⟩ := (libs h hS).base.len
  exact ⟨World.block_lt_of_cell? _ _ c1, World.block_lt_of_cell? _ _ c2, World.block_lt_of_cell? _ _ cP, World.block_lt_of_cell? _ _ hm⟩
set_option maxRecDepth 100000 in
theorem contract (H : Type) (enc : TypeId × Value → H) (W : World) (base : Nat) (args : Array Value) (ds gs : List (DataW H)) (before : List MemPlace)
    (hval : ∀ (j : Nat) t v, Tryz.f3.params[j]? = some t → args[j]? = some v → Value.okWide Tryz.prog W .any base t v)
    (hW : DataW.Whole enc Tryz.prog Tryz.f3.params.toList Rows.storeCrashesSpec.vars false W args.toList ds gs before) (hsz0 : (DataW.weightsEach Tryz.prog (Tryz.f3.params.toList ++ Rows.storeCrashesSpec.plain.varTypes Tryz.prog) (ds ++ gs)).all (· ≤ reachBytes) = true) (hL : LibsA W) (hE : ErrVar W) (hO : Olds W.heap.size) :
    Calls Tryz.prog 3 args W fun e W' => ∃ v, e = .returned v ∧ Rows.storeCrashesSpec.post enc Tryz.prog Tryz.f3 false true false false W args v W' := by
  have hW' := hW
  obtain ⟨p, q, hA0, hV, rfl, hfz, hnd⟩ := hW
  have hA : DataW.TrodAll enc Tryz.prog W 0 (fun _ => true) true Tryz.f3.params.toList args.toList ds p := hA0
  have hsz : (DataW.weightsEach Tryz.prog (Tryz.f3.params.toList ++ Rows.storeCrashesSpec.plain.varTypes Tryz.prog) (ds ++ gs)).all (· ≤ reachBytes) = true := hsz0
  rw [Tryz.params3] at hA hval hsz
  obtain ⟨v0, vs0, d0, ds0, p0, q0, hargs, rfl, rfl, h0, r0⟩ := trodAll_cons hA
  obtain ⟨v1, vs1, d1, ds1, p1, q1, rfl, rfl, rfl, h1, r1⟩ := trodAll_cons r0
  obtain ⟨rfl, rfl, rfl⟩ := trodAll_nil r1
  obtain rfl : args = #[v0, v1] := by cases args; simp_all
  obtain ⟨rfl, rfl⟩ := trodVars_none hV
  have h0k := h0
  have h1k := h1
  obtain ⟨fuel, hf⟩ := h0
  obtain ⟨fuel1, hf1⟩ := h1
  clear hA0 hA
  simp only [List.append_nil] at hW'
  have hlt : ∀ x ∈ p0 ++ p1, x.block < W.heap.size := fun x hx => hW'.lt x hx
  have hargs0 : ∀ (W' : World), Below W.heap.size W W' → DataW.Trod enc Tryz.prog W' 0 (fun b => decide (b < W.heap.size)) true 22 v0 d0 p0 :=
    fun W' hn => Below.trod laidOut (by kernel_rfl) (of_decide_eq_true (by kernel_rfl)) h0k hn (fun x hx => hlt x (List.mem_append_left _ hx))
  have hargs1 : ∀ (W' : World), Below W.heap.size W W' → DataW.Trod enc Tryz.prog W' 0 (fun b => decide (b < W.heap.size)) true 23 v1 d1 p1 :=
    fun W' hn => Below.trod laidOut (by kernel_rfl) (of_decide_eq_true (by kernel_rfl)) h1k hn (fun x hx => hlt x (List.mem_append_right _ hx))
  obtain ⟨ao, len, cap, rfl⟩ := okWide_slice Tryz.underlying22 (hval 0 22 v0 rfl rfl)
  obtain ⟨ca, clen, cc, rfl⟩ := okWide_slice Tryz.underlying23 (hval 1 23 v1 rfl rfl)
  have hpos : 0 < W.heap.size := Nat.lt_of_le_of_lt (Nat.zero_le _) (World.block_lt_of_cell? _ _ hE)
  have fin : ∀ W' : World, Below W.heap.size W W' → ∃ v, Ending.returned (.bool true) = .returned v ∧ Rows.storeCrashesSpec.post enc Tryz.prog Tryz.f3 false true false false W #[.slice ao len cap, .slice ca clen cc] v W' := by
    intro W' hb
    refine ⟨_, rfl, _, _, _, [], p0 ++ p1, [], hW', ?_, ?_, ?_, hb.frame _, fun h => by cases h⟩
    · exact trodAll_mk1 (shut_bool Tryz.underlying4 _)
    · have hh := trodAll_cons_mk (hargs0 _ hb) (trodAll_cons_mk (hargs1 _ hb) trodAll_mk0)
      rw [List.append_nil] at hh
      exact hh
    · rfl
  by_cases hlong : 60 < len ∨ 30 < clen
  · refine (longer ao ca len cap clen cc W hlong).mono fun e W' ⟨he, hw⟩ => ?_
    subst he
    exact fin _ hw
  · obtain ⟨es, g, off, rfl, hao, hg, hrow, hwt⟩ := opened hpos hf
    obtain ⟨cs, cb, co, rfl, hca, hcb, hcrow⟩ := openedI hpos hf1
    have hall : ∀ n ∈ d0.weights Tryz.prog 22, n ≤ reachBytes := fun n hn => by simpa using List.all_eq_true.1 hsz _ (DataW.weights_mem_each (j := 0) (t := 22) rfl rfl n hn)
    have hs : ∀ x ∈ es, lens x.e.fam ≤ 10000000000000000 := by
      intro e he
      have h4 := ev_lens (H := H) (e := e.e) (fun n hn => hall n (hwt e he n hn))
      have hr : 4 * reachBytes ≤ 10000000000000000 := by decide
      exact Nat.le_trans h4 hr
    refine (storeCrashesLaw es cs ao ca g off cap cb co cc W hao hg hrow hs (by omega) hca hcb hcrow (by omega) hL hE hO).mono fun e W' ⟨he, hb'⟩ => ?_
    subst he
    exact fin _ hb'
def wargs : Array Value := #[.slice none 0 0, .slice none 0 0]
theorem laid_met (os : Os) : laidMetH Tryz.prog Rows.storeCrashesRow.laid (({ World.holding Tryz.prog os ⟨#[.cells #[.string ⟨#[118, 97, 108, 117, 101, 32, 111, 117, 116, 32, 111, 102, 32, 114, 97, 110, 103, 101]⟩] 335, .cells #[.string ⟨#[105, 110, 118, 97, 108, 105, 100, 32, 115, 121, 110, 116, 97, 120]⟩] 335], #[], []⟩ with heap := (((((((((World.holding Tryz.prog os ⟨#[.cells #[.string ⟨#[118, 97, 108, 117, 101, 32, 111, 117, 116, 32, 111, 102, 32, 114, 97, 110, 103, 101]⟩] 335, .cells #[.string ⟨#[105, 110, 118, 97, 108, 105, 100, 32, 115, 121, 110, 116, 97, 120]⟩] 335], #[], []⟩).heap.modify 7 (layV (tab_math_bits_deBruijn32tab.map (Value.int .u8)))).modify 8 (layV (tab_math_bits_deBruijn64tab.map (Value.int .u8)))).modify 2 (layV (tab_internal_strconv_uint64pow10.map (Value.int .u64)))).modify 6 (layV (tab_unicode_utf8_acceptRanges.map (Value.int .u8)))).modify 0 layErr).modify 4 (layV [.iface 333 (.pointer (some ⟨(World.settled Tryz.prog os).heap.size + 0, 0, none⟩))])).modify 3 (layV [.iface 333 (.pointer (some ⟨(World.settled Tryz.prog os).heap.size + 1, 0, none⟩))])).modify 5 (layV (Go.Pinned.utf8FirstZ.map fun (n : Nat) => Value.int .u8 (n : Int)))) } : World).forCall (fun _ _ => 0) ⟨#[], wargs, []⟩).memory := laidMetH_of_parts (laidMet_of_run' 8 (by kernel_rfl) (by kernel_rfl)) (by kernel_rfl)
theorem reads (os : Os) {H : Type} (enc : TypeId × Value → H) : ∃ places, DataW.whole enc Tryz.prog (({ World.holding Tryz.prog os ⟨#[.cells #[.string ⟨#[118, 97, 108, 117, 101, 32, 111, 117, 116, 32, 111, 102, 32, 114, 97, 110, 103, 101]⟩] 335, .cells #[.string ⟨#[105, 110, 118, 97, 108, 105, 100, 32, 115, 121, 110, 116, 97, 120]⟩] 335], #[], []⟩ with heap := (((((((((World.holding Tryz.prog os ⟨#[.cells #[.string ⟨#[118, 97, 108, 117, 101, 32, 111, 117, 116, 32, 111, 102, 32, 114, 97, 110, 103, 101]⟩] 335, .cells #[.string ⟨#[105, 110, 118, 97, 108, 105, 100, 32, 115, 121, 110, 116, 97, 120]⟩] 335], #[], []⟩).heap.modify 7 (layV (tab_math_bits_deBruijn32tab.map (Value.int .u8)))).modify 8 (layV (tab_math_bits_deBruijn64tab.map (Value.int .u8)))).modify 2 (layV (tab_internal_strconv_uint64pow10.map (Value.int .u64)))).modify 6 (layV (tab_unicode_utf8_acceptRanges.map (Value.int .u8)))).modify 0 layErr).modify 4 (layV [.iface 333 (.pointer (some ⟨(World.settled Tryz.prog os).heap.size + 0, 0, none⟩))])).modify 3 (layV [.iface 333 (.pointer (some ⟨(World.settled Tryz.prog os).heap.size + 1, 0, none⟩))])).modify 5 (layV (Go.Pinned.utf8FirstZ.map fun (n : Nat) => Value.int .u8 (n : Int)))) } : World).forCall (fun _ _ => 0) ⟨#[], wargs, []⟩).memory Tryz.f3.params.toList Rows.storeCrashesSpec.vars false wargs.toList 8 = some ([.nil, .nil], [], places) :=
  ⟨[], by kernel_rfl⟩
set_option maxRecDepth 100000 in
theorem lifted (os : Os) (started : os.Started) (H : Type) (enc : TypeId × Value → H) (X : Stop.Interp) :
    ReturnsInHanded {} Tryz.checked os 3 .any ((OpenSpec.ofChange Rows.storeCrashesSpec).preRow enc Tryz.prog Tryz.f3 Rows.storeCrashesRow.domain false Rows.storeCrashesRow.laid) (((OpenSpec.ofChange Rows.storeCrashesSpec).at X).post enc Tryz.prog Tryz.f3 false true false false) := by
  obtain ⟨places, hx⟩ := reads os enc
  refine returnsInHanded_of_row (C := Tryz.checked) (s := OpenSpec.ofChange Rows.storeCrashesSpec) own started (by kernel_rfl) Tryz.func3
    (witness_row_atRef (enc := enc) (C := Tryz.checked) false ({ World.holding Tryz.prog os ⟨#[.cells #[.string ⟨#[118, 97, 108, 117, 101, 32, 111, 117, 116, 32, 111, 102, 32, 114, 97, 110, 103, 101]⟩] 335, .cells #[.string ⟨#[105, 110, 118, 97, 108, 105, 100, 32, 115, 121, 110, 116, 97, 120]⟩] 335], #[], []⟩ with heap := (((((((((World.holding Tryz.prog os ⟨#[.cells #[.string ⟨#[118, 97, 108, 117, 101, 32, 111, 117, 116, 32, 111, 102, 32, 114, 97, 110, 103, 101]⟩] 335, .cells #[.string ⟨#[105, 110, 118, 97, 108, 105, 100, 32, 115, 121, 110, 116, 97, 120]⟩] 335], #[], []⟩).heap.modify 7 (layV (tab_math_bits_deBruijn32tab.map (Value.int .u8)))).modify 8 (layV (tab_math_bits_deBruijn64tab.map (Value.int .u8)))).modify 2 (layV (tab_internal_strconv_uint64pow10.map (Value.int .u64)))).modify 6 (layV (tab_unicode_utf8_acceptRanges.map (Value.int .u8)))).modify 0 layErr).modify 4 (layV [.iface 333 (.pointer (some ⟨(World.settled Tryz.prog os).heap.size + 0, 0, none⟩))])).modify 3 (layV [.iface 333 (.pointer (some ⟨(World.settled Tryz.prog os).heap.size + 1, 0, none⟩))])).modify 5 (layV (Go.Pinned.utf8FirstZ.map fun (n : Nat) => Value.int .u8 (n : Int)))) } : World) wargs rfl (by kernel_rfl) (by kernel_rfl) (by kernel_rfl)
      (OpenSpec.preRow_of_cond 8 hx (by kernel_rfl) (fun k hk => by cases hk) (by kernel_rfl) (laid_met os))) ?_
  intro W base args ds gs before hval hW _ _ hsz hL hS _
  exact contract H enc W base args ds gs before hval hW hsz (libs hL hS) (fact_err hL) (olds hL hS)
theorem said : Rows.StoreCrashesSaid :=
  OpenClaim.holds_of_cond 3 Tryz.f3 rfl rfl rfl rfl rfl rfl rfl ⟨rfl, rfl, rfl, rfl, rfl⟩ rfl rfl rfl rfl rfl (by kernel_rfl) Tryz.func3 (by kernel_rfl)
    (of_decide_eq_true (by kernel_rfl)) (by unfold Func.isWrapper; rw [if_neg (of_decide_eq_false (by kernel_rfl))]; exact ⟨rfl, rfl⟩)
    (fun os started H enc _ X => by rw [OpenClaim.pre_eq_preRow]; exact lifted os started H enc X)
theorem plain (f : FuncId) (fn : Func) (hf : Tryz.pinned.checked.prog.funcNamed "rotor/rotorkeep.StoreCrashes" = some f) (hfn : Tryz.pinned.checked.prog.funcs[f]? = some fn) :
    true = Tryz.pinned.checked.prog.looks [] ∧ ∀ (j : Nat) t, fn.params[j]? = some t → Tryz.pinned.checked.prog.wantsStandIn t = false := by
  obtain rfl : f = 3 := Option.some.inj ((show Tryz.prog.funcNamed "rotor/rotorkeep.StoreCrashes" = some 3 by kernel_rfl).symm.trans hf) |>.symm
  obtain rfl : fn = Tryz.f3 := (Option.some.inj (Tryz.func3.symm.trans hfn)).symm
  refine ⟨by kernel_rfl, fun j t ht => ?_⟩
  rw [Tryz.params3] at ht
  have hm := Array.mem_of_getElem? ht
  simp at hm
  rcases hm with rfl | rfl
  · exact (show Tryz.prog.wantsStandIn 22 = false by kernel_rfl)
  · exact (show Tryz.prog.wantsStandIn 23 = false by kernel_rfl)
theorem card : Rows.StoreCrashesCardSaid :=
  Claim7.holds_tied_plain_at .later [] _ _ _ _ said (fun _ h => by cases h) (by kernel_rfl) (fun _ h => by cases h) storeCrashes_row_tie rfl ⟨rfl, rfl⟩ (by kernel_rfl) rfl plain (by kernel_rfl)
end Go.Proofs.YtkggfahcdpgapabGreatDoor.storeCrashesProof
