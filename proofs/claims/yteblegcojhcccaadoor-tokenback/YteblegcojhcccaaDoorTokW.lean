import Derived.Test.YteblegcojhcccaaDoorTokMath
import Derived.Test.YteblegcojhcccaaDoorMacSame
import Derived.Test.YteblegcojhcccaaDoorRefTags
import Derived.Test.YteblegcojhcccaaDoorErrLaw
import Derived.Lib.QuietBelow
import Derived.Lib.ItoaLen
namespace Go.Proofs.YteblegcojhcccaaDoor
open Go.RowKit Tok
def tokV (t : T) : Value := .agg #[.int .i64 t.k, .int .i64 t.f, .int .i64 t.g, .int .i64 t.e]
theorem below_grown (w : World) (k : Nat) (os : Array Obj) : Below w.heap.size w (Go.Sort.grow (w.drewN k) os) := by
  have h := below_drewN (Below.refl w.heap.size w) k
  have hs : (w.drewN k).heap = w.heap := by simp
  refine ⟨h.os, h.tape, h.output, ?_, fun i hi => ?_⟩
  · show w.heap.size ≤ ((w.drewN k).heap ++ os).size
    rw [hs, Array.size_append]; omega
  · show ((w.drewN k).heap ++ os)[i]? = w.heap[i]?
    rw [hs, Array.getElem?_append_left hi]
theorem tabIs_below {B : Nat} {w w' : World} {name : String} {k : IntKind} {zs : List Int} {g : Nat} (h : Lib.TabIs Tryd.prog w name k zs) (hb : Below B w w') (hg : Tryd.prog.globalNamed name = some g) (hB : g < B) : Lib.TabIs Tryd.prog w' name k zs := by
  unfold Lib.TabIs World.var? at *
  simp only [hg, Option.bind_some] at h ⊢
  rw [hb.block g hB]
  exact h
def Bigs (n : Nat) : Prop := 2 < n ∧ 4 < n ∧ 0 < n
theorem Bigs.le {n m : Nat} (h : Bigs n) (k : n ≤ m) : Bigs m := ⟨Nat.lt_of_lt_of_le h.1 k, Nat.lt_of_lt_of_le h.2.1 k, Nat.lt_of_lt_of_le h.2.2 k⟩
/-- What the library's variables hold, as far as writing a token asks for them. -/
structure Libs (w : World) : Prop where
  big : Bigs w.heap.size
  pow : Lib.TabIs Tryd.prog w "internal/strconv.uint64pow10" .u64 Lib.pow10Tab
  t16 : Tab16 w
  err : ErrVar w
theorem gPow : Tryd.prog.globalNamed "internal/strconv.uint64pow10" = some 2 := by kernel_rfl
theorem Libs.below {B : Nat} {w w' : World} (h : Libs w) (hb : Below B w w') (hB : Bigs B) : Libs w' where
  big := h.big.le hb.size
  pow := tabIs_below h.pow hb gPow hB.1
  t16 := h.t16.below hb hB.2.1
  err := (hb.cell (p := ⟨0, 0, none⟩) hB.2.2).trans h.err
theorem itoa_is (n : Int) (w : World) (h0 : 0 ≤ n) (h1 : n ≤ 9223372036854775807) (hL : Libs w) : Calls Tryd.prog 53 #[.int .i64 n] w fun e w' => e = .returned (.string ⟨(Lib.itoa n).toArray⟩) ∧ Below w.heap.size w w' := by
  refine (Tryd.strconv_Itoa n (by omega) h1 w hL.pow).mono ?_
  rintro e w' ⟨rfl, k, os, rfl⟩
  exact ⟨rfl, below_grown _ _ _⟩
set_option maxHeartbeats 1000000 in
theorem inBounds_is (n : Int) (w : World) : Calls Tryd.prog 54 #[.int .i64 n] w fun e w' => e = .returned (.bool (okB n)) ∧ w' = w := by
  by_cases h0 : 0 ≤ n
  · by_cases h1 : n ≤ 1099511627776
    · have hd : Hid (okB n = true) := okB_t ⟨h0, h1⟩
      go_enter Tryd.func54, Tryd.ntmps54
      go_wp2_with fail
      go_ret
      exact ⟨by rw [hd.out]; rfl, rfl⟩
    · have hd : Hid (okB n = false) := okB_f (fun h => h1 h.2)
      go_enter Tryd.func54, Tryd.ntmps54
      go_wp2_with fail
      go_ret
      exact ⟨by rw [hd.out]; rfl, rfl⟩
  · have hd : Hid (okB n = false) := okB_f (fun h => h0 h.1)
    go_enter Tryd.func54, Tryd.ntmps54
    go_wp2_with fail
    go_ret
    exact ⟨by rw [hd.out]; rfl, rfl⟩
set_option maxHeartbeats 1000000 in
theorem in_is (n : Int) (w : World) : Calls Tryd.prog 37 #[.int .i64 n, .int .i64 0, .int .i64 1099511627776] w fun e w' => e = .returned (.bool (okB n)) ∧ w' = w := by
  by_cases h0 : 0 ≤ n
  · by_cases h1 : n ≤ 1099511627776
    · have hd : Hid (okB n = true) := okB_t ⟨h0, h1⟩
      go_enter Tryd.func37, Tryd.ntmps37
      go_wp2_with fail
      go_ret
      exact ⟨by rw [hd.out]; rfl, rfl⟩
    · have hd : Hid (okB n = false) := okB_f (fun h => h1 h.2)
      go_enter Tryd.func37, Tryd.ntmps37
      go_wp2_with fail
      go_ret
      exact ⟨by rw [hd.out]; rfl, rfl⟩
  · have hd : Hid (okB n = false) := okB_f (fun h => h0 h.1)
    go_enter Tryd.func37, Tryd.ntmps37
    go_wp2_with fail
    go_ret
    exact ⟨by rw [hd.out]; rfl, rfl⟩
set_option maxHeartbeats 2000000 in
theorem mayBe_is (t : T) (w : World) : Calls Tryd.prog 39 #[tokV t] w fun e w' => e = .returned (.bool (mayB t)) ∧ Below w.heap.size w w' := by
  obtain ⟨k, f, g, e⟩ := t
  unfold tokV
  simp only
  go_enter Tryd.func39, Tryd.ntmps39
  go_wp2_with (go_at_call 54; refine (inBounds_is _ _).mono ?_; rintro e w' ⟨rfl, rfl⟩)
  all_goals (go_ret; refine ⟨congrArg Ending.returned (congrArg Value.bool ?_), (Below.refl w.heap.size w).alloc (Nat.le_refl _) _⟩)
  all_goals simp_all [mayB]
theorem bstr {x : ByteArray} {l : List UInt8} (h : x.data.toList = l) : x = ⟨l.toArray⟩ := by
  apply ByteArray.ext
  apply Array.toList_inj.1
  simpa using h
theorem quiet_itoa {W : World} (n : Int) (h0 : 0 ≤ n) (h1 : n ≤ 9223372036854775807) (hL : Libs W) : ∀ d os, Calls Tryd.prog 53 #[.int .i64 n] (Go.Sort.grow (redrawn W d) os) fun e w'' => e = .returned (.string ⟨(Lib.itoa n).toArray⟩) ∧ ∃ p : Regrown, w'' = Go.Sort.grow (redrawn W p.d) p.os :=
  fun d os => Calls.regrown_of (itoa_is n _ h0 h1 (hL.below (below_regrown W d os) hL.big))
theorem mixed : Tryd.prog.follows .mixedOrders = true := by kernel_rfl
set_option maxRecDepth 100000 in
set_option maxHeartbeats 4000000 in
theorem bodyP_is (t : T) (w : World) (h : may t) (hL : Libs w) : Calls Tryd.prog 40 #[tokV t] w fun e w' => e = .returned (.string ⟨(body t).toArray⟩) ∧ Below w.heap.size w w' := by
  obtain ⟨k, f, g, e⟩ := t
  obtain ⟨hk, hf, hg⟩ := h
  unfold okN at hf hg
  simp only at hk hf hg
  have hB : Below w.heap.size w (w.alloc (.cells #[.int .i64 k, .int .i64 f, .int .i64 g, .int .i64 e] 46)) := (Below.refl _ _).alloc (Nat.le_refl _) _
  have hL2 := hL.below hB hL.big
  have c0 : (w.alloc (.cells #[.int .i64 k, .int .i64 f, .int .i64 g, .int .i64 e] 46)).cell? ⟨w.heap.size, 0, none⟩ = some (.int .i64 k) := by simp
  have c1 : (w.alloc (.cells #[.int .i64 k, .int .i64 f, .int .i64 g, .int .i64 e] 46)).cell? ⟨w.heap.size, 1, none⟩ = some (.int .i64 f) := by simp
  have c2 : (w.alloc (.cells #[.int .i64 k, .int .i64 f, .int .i64 g, .int .i64 e] 46)).cell? ⟨w.heap.size, 2, none⟩ = some (.int .i64 g) := by simp
  have c3 : (w.alloc (.cells #[.int .i64 k, .int .i64 f, .int .i64 g, .int .i64 e] 46)).cell? ⟨w.heap.size, 3, none⟩ = some (.int .i64 e) := by simp
  have hlt : w.heap.size < (w.alloc (.cells #[.int .i64 k, .int .i64 f, .int .i64 g, .int .i64 e] 46)).heap.size := by simp
  have hlf := Lib.itoa_length_le f (by omega) (by omega)
  have hlg := Lib.itoa_length_le g (by omega) (by omega)
  have n1 : ¬ 9223372036854775807 < 1 + (Lib.itoa f).length := by omega
  have n2 : ¬ 9223372036854775807 < 1 + (Lib.itoa f).length + 1 := by omega
  have n3 : ¬ 9223372036854775807 < 1 + (Lib.itoa f).length + 1 + (Lib.itoa g).length := by omega
  have cf := quiet_itoa f hf.1 (by omega) hL2
  have cg := quiet_itoa g hg.1 (by omega) hL2
  have k1 := cell_regrown c1
  have k2 := cell_regrown c2
  unfold tokV
  simp only
  go_enter Tryd.func40, Tryd.ntmps40
  go_wp2_with fail
  generalize w.alloc (.cells #[.int .i64 k, .int .i64 f, .int .i64 g, .int .i64 e] 46) = W at *
  have HL : Hid (Libs W) := hL2
  have HB : Hid (Below w.heap.size w W) := hB
  have HLT : Hid (w.heap.size < W.heap.size) := hlt
  have hsz : Hid (w.heap.size ≤ W.heap.size) := hB.size
  clear hL hL2 hB hlt
  generalize hbb : w.heap.size = b at *
  have HBb : Hid (w.heap.size = b) := hbb
  clear hbb
  refine wp_region_quiet_below mixed (by kernel_rfl) ?_
  repeat (quiet_step (first | exact cf _ _ | exact cg _ _))
  refine wpQuiet_nil ?_
  intro W2 hw'
  obtain ⟨⟨dq, osq⟩, hw''⟩ := hw'
  have HB2 : Below W.heap.size W W2 := by rw [hw'']; exact below_regrown W dq osq
  have HL2 := HL.out.below HB2 HL.out.big
  have e0 := (HB2.cell (p := ⟨b, 0, none⟩) HLT.out).trans c0
  have e3 := (HB2.cell (p := ⟨b, 3, none⟩) HLT.out).trans c3
  clear hw'' cf cg k1 k2
  rcases hk with ⟨rfl, rfl⟩ | ⟨rfl, he⟩
  · go_wp2_with fail
    go_ret
    exact ⟨congrArg Ending.returned (congrArg Value.string (bstr (by simp [body]))), by rw [HBb.out]; exact HB.out.trans (HB2.mono hsz.out)⟩
  · unfold okN at he
    have hle := Lib.itoa_length_le e (by omega) (by omega)
    have hi : Hid (0 ≤ e ∧ e ≤ 1099511627776) := he
    clear he
    go_wp2_with fail
    refine (itoa_is e _ hi.out.1 (by have := hi.out.2; omega) HL2).mono ?_
    rintro e1 w3 ⟨rfl, hb3⟩
    go_wp2_with fail
    go_ret
    exact ⟨congrArg Ending.returned (congrArg Value.string (bstr (by simp [body]))), by rw [HBb.out]; exact (HB.out.trans (HB2.mono hsz.out)).trans (hb3.mono (Nat.le_trans hsz.out HB2.size))⟩
set_option maxRecDepth 100000 in
set_option maxHeartbeats 4000000 in
theorem bodyR_is (t : T) (w : World) (h : may t) (hL : Libs w) : Calls Tryd.prog 38 #[tokV t] w fun e w' => e = .returned (.string ⟨(body t).toArray⟩) ∧ Below w.heap.size w w' := by
  obtain ⟨k, f, g, e⟩ := t
  obtain ⟨hk, hf, hg⟩ := h
  unfold okN at hf hg
  simp only at hk hf hg
  have hB : Below w.heap.size w (w.alloc (.cells #[.int .i64 k, .int .i64 f, .int .i64 g, .int .i64 e] 49)) := (Below.refl _ _).alloc (Nat.le_refl _) _
  have hL2 := hL.below hB hL.big
  have c0 : (w.alloc (.cells #[.int .i64 k, .int .i64 f, .int .i64 g, .int .i64 e] 49)).cell? ⟨w.heap.size, 0, none⟩ = some (.int .i64 k) := by simp
  have c1 : (w.alloc (.cells #[.int .i64 k, .int .i64 f, .int .i64 g, .int .i64 e] 49)).cell? ⟨w.heap.size, 1, none⟩ = some (.int .i64 f) := by simp
  have c2 : (w.alloc (.cells #[.int .i64 k, .int .i64 f, .int .i64 g, .int .i64 e] 49)).cell? ⟨w.heap.size, 2, none⟩ = some (.int .i64 g) := by simp
  have c3 : (w.alloc (.cells #[.int .i64 k, .int .i64 f, .int .i64 g, .int .i64 e] 49)).cell? ⟨w.heap.size, 3, none⟩ = some (.int .i64 e) := by simp
  have hlf := Lib.itoa_length_le f (by omega) (by omega)
  have hlg := Lib.itoa_length_le g (by omega) (by omega)
  have n1 : ¬ 9223372036854775807 < 2 + (Lib.itoa f).length := by omega
  have n2 : ¬ 9223372036854775807 < 2 + (Lib.itoa f).length + 1 := by omega
  have n3 : ¬ 9223372036854775807 < 2 + (Lib.itoa f).length + 1 + (Lib.itoa g).length := by omega
  have n4 : ¬ 9223372036854775807 < 2 + (Lib.itoa f).length + 1 + (Lib.itoa g).length + 1 := by omega
  have cf := quiet_itoa f hf.1 (by omega) hL2
  have cg := quiet_itoa g hg.1 (by omega) hL2
  have k1 := cell_regrown c1
  have k2 := cell_regrown c2
  rcases hk with ⟨rfl, rfl⟩ | ⟨rfl, he⟩
  · unfold tokV
    simp only
    go_enter Tryd.func38, Tryd.ntmps38
    go_wp2_with fail
    refine wp_region_quiet_below mixed (by kernel_rfl) ?_
    repeat (quiet_step (first | exact cf _ _ | exact cg _ _))
    refine wpQuiet_nil ?_
    intro W2 hw'
    obtain ⟨⟨dq, osq⟩, hw''⟩ := hw'
    have HB2 := below_regrown (w.alloc (.cells #[.int .i64 1, .int .i64 f, .int .i64 g, .int .i64 0] 49)) dq osq
    rw [← hw''] at HB2
    clear hw'' cf cg k1 k2
    go_wp2_with fail
    go_ret
    exact ⟨congrArg Ending.returned (congrArg Value.string (bstr (by simp [body]))), hB.trans (HB2.mono hB.size)⟩
  · unfold okN at he
    have hle := Lib.itoa_length_le e (by omega) (by omega)
    have n5 : ¬ 9223372036854775807 < 2 + (Lib.itoa f).length + 1 + (Lib.itoa g).length + 1 + (Lib.itoa e).length := by omega
    have ce := quiet_itoa e he.1 (by omega) hL2
    have k3 := cell_regrown c3
    unfold tokV
    simp only
    go_enter Tryd.func38, Tryd.ntmps38
    go_wp2_with fail
    refine wp_region_quiet_below mixed (by kernel_rfl) ?_
    repeat (quiet_step (first | exact cf _ _ | exact cg _ _ | exact ce _ _))
    refine wpQuiet_nil ?_
    intro W2 hw'
    obtain ⟨⟨dq, osq⟩, hw''⟩ := hw'
    have HB2 := below_regrown (w.alloc (.cells #[.int .i64 2, .int .i64 f, .int .i64 g, .int .i64 e] 49)) dq osq
    rw [← hw''] at HB2
    clear hw'' cf cg ce k1 k2 k3
    go_wp2_with fail
    go_ret
    exact ⟨congrArg Ending.returned (congrArg Value.string (bstr (by simp [body]))), hB.trans (HB2.mono hB.size)⟩
end Go.Proofs.YteblegcojhcccaaDoor
