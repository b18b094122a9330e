/-
  Own texts put together: TokW, TokW2, TokR1.
-/
import Derived.Test.YtlailakofhenkabGreatDoorB2
import Derived.Test.YtlailakofhenkabGreatDoorB14
import Derived.Test.YtlailakofhenkabGreatDoorB26
import Derived.Test.YtlailakofhenkabGreatDoorB12
import Derived.Lib.QuietBelow
import Derived.Lib.ItoaLen
import Derived.Lib.SmallJoins
namespace Go.Proofs.YtlailakofhenkabGreatDoor
open Go.RowKit Tok
def tokV (t : T) : Value := .agg #[.int .i64 t.k, .int .i64 t.f, .int .i64 t.g, .int .i64 t.e]
theorem below_grown (w : World) (k : Nat) (os : Array Obj) : Below w.heap.size w (Go.Sort.grow (w.drewN k) os) := by
  have h := below_drewN (Below.refl w.heap.size w) k
  have hs : (w.drewN k).heap = w.heap := by simp
  refine ⟨h.os, h.tape, h.output, ?_, fun i hi => ?_⟩
  · show w.heap.size ≤ ((w.drewN k).heap ++ os).size
    rw [hs, Array.size_append]; omega
  · show ((w.drewN k).heap ++ os)[i]? = w.heap[i]?
    rw [hs, Array.getElem?_append_left hi]
theorem tabIs_below {B : Nat} {w w' : World} {name : String} {k : IntKind} {zs : List Int} {g : Nat} (h : Lib.TabIs Tryz.prog w name k zs) (hb : Below B w w') (hg : Tryz.prog.globalNamed name = some g) (hB : g < B) : Lib.TabIs Tryz.prog w' name k zs := by
  unfold Lib.TabIs World.var? at *
  simp only [hg, Option.bind_some] at h ⊢
  rw [hb.block g hB]
  exact h
def Bigs (n : Nat) : Prop := 3 < n ∧ 9 < n ∧ 0 < n
theorem Bigs.le {n m : Nat} (h : Bigs n) (k : n ≤ m) : Bigs m := ⟨Nat.lt_of_lt_of_le h.1 k, Nat.lt_of_lt_of_le h.2.1 k, Nat.lt_of_lt_of_le h.2.2 k⟩
/-- What the library's variables hold, as far as writing a token asks for them. -/
structure Libs (w : World) : Prop where
  big : Bigs w.heap.size
  pow : Lib.TabIs Tryz.prog w "internal/strconv.uint64pow10" .u64 Lib.pow10Tab
  t16 : Tab16 w
  err : ErrVar w
theorem gPow : Tryz.prog.globalNamed "internal/strconv.uint64pow10" = some 3 := by kernel_rfl
theorem Libs.below {B : Nat} {w w' : World} (h : Libs w) (hb : Below B w w') (hB : Bigs B) : Libs w' where
  big := h.big.le hb.size
  pow := tabIs_below h.pow hb gPow hB.1
  t16 := h.t16.below hb hB.2.1
  err := (hb.cell (p := ⟨0, 0, none⟩) hB.2.2).trans h.err
theorem itoa_is (n : Int) (w : World) (h0 : 0 ≤ n) (h1 : n ≤ 9223372036854775807) (hL : Libs w) : Calls Tryz.prog 57 #[.int .i64 n] w fun e w' => e = .returned (.string ⟨(Lib.itoa n).toArray⟩) ∧ Below w.heap.size w w' := by
  refine (Tryz.strconv_Itoa n (by omega) h1 w hL.pow).mono ?_
  rintro e w' ⟨rfl, k, os, rfl⟩
  exact ⟨rfl, below_grown _ _ _⟩
set_option maxHeartbeats 1000000 in
theorem inBounds_is (n : Int) (w : World) : Calls Tryz.prog 215 #[.int .i64 n] w fun e w' => e = .returned (.bool (okB n)) ∧ w' = w := by
  by_cases h0 : 0 ≤ n
  · by_cases h1 : n ≤ 1099511627776
    · have hd : Hid (okB n = true) := okB_t ⟨h0, h1⟩
      go_enter Tryz.func215, Tryz.ntmps215
      go_wp2_with fail
      go_ret
      exact ⟨by rw [hd.out]; rfl, rfl⟩
    · have hd : Hid (okB n = false) := okB_f (fun h => h1 h.2)
      go_enter Tryz.func215, Tryz.ntmps215
      go_wp2_with fail
      go_ret
      exact ⟨by rw [hd.out]; rfl, rfl⟩
  · have hd : Hid (okB n = false) := okB_f (fun h => h0 h.1)
    go_enter Tryz.func215, Tryz.ntmps215
    go_wp2_with fail
    go_ret
    exact ⟨by rw [hd.out]; rfl, rfl⟩
set_option maxHeartbeats 1000000 in
theorem in_is (n : Int) (w : World) : Calls Tryz.prog 66 #[.int .i64 n, .int .i64 0, .int .i64 1099511627776] w fun e w' => e = .returned (.bool (okB n)) ∧ w' = w := by
  by_cases h0 : 0 ≤ n
  · by_cases h1 : n ≤ 1099511627776
    · have hd : Hid (okB n = true) := okB_t ⟨h0, h1⟩
      go_enter Tryz.func66, Tryz.ntmps66
      go_wp2_with fail
      go_ret
      exact ⟨by rw [hd.out]; rfl, rfl⟩
    · have hd : Hid (okB n = false) := okB_f (fun h => h1 h.2)
      go_enter Tryz.func66, Tryz.ntmps66
      go_wp2_with fail
      go_ret
      exact ⟨by rw [hd.out]; rfl, rfl⟩
  · have hd : Hid (okB n = false) := okB_f (fun h => h0 h.1)
    go_enter Tryz.func66, Tryz.ntmps66
    go_wp2_with fail
    go_ret
    exact ⟨by rw [hd.out]; rfl, rfl⟩
set_option maxHeartbeats 2000000 in
theorem mayBe_is (t : T) (w : World) : Calls Tryz.prog 135 #[tokV t] w fun e w' => e = .returned (.bool (mayB t)) ∧ Below w.heap.size w w' := by
  obtain ⟨k, f, g, e⟩ := t
  unfold tokV
  simp only
  go_enter Tryz.func135, Tryz.ntmps135
  go_wp2_with (go_at_call 215; refine (inBounds_is _ _).mono ?_; rintro e w' ⟨rfl, rfl⟩)
  all_goals (go_ret; refine ⟨congrArg Ending.returned (congrArg Value.bool ?_), (Below.refl w.heap.size w).alloc (Nat.le_refl _) _⟩)
  all_goals simp_all [mayB]
theorem bstr {x : ByteArray} {l : List UInt8} (h : x.data.toList = l) : x = ⟨l.toArray⟩ := by
  apply ByteArray.ext
  apply Array.toList_inj.1
  simpa using h
theorem quiet_itoa {W : World} (n : Int) (h0 : 0 ≤ n) (h1 : n ≤ 9223372036854775807) (hL : Libs W) : ∀ d os, Calls Tryz.prog 57 #[.int .i64 n] (Go.Sort.grow (redrawn W d) os) fun e w'' => e = .returned (.string ⟨(Lib.itoa n).toArray⟩) ∧ ∃ p : Regrown, w'' = Go.Sort.grow (redrawn W p.d) p.os :=
  fun d os => Calls.regrown_of (itoa_is n _ h0 h1 (hL.below (below_regrown W d os) hL.big))
theorem mixed : Tryz.prog.follows .mixedOrders = true := by kernel_rfl
set_option maxRecDepth 100000 in
set_option maxHeartbeats 4000000 in
theorem bodyP_is (t : T) (w : World) (h : may t) (hL : Libs w) : Calls Tryz.prog 136 #[tokV t] w fun e w' => e = .returned (.string ⟨(body t).toArray⟩) ∧ Below w.heap.size w w' := by
  obtain ⟨k, f, g, e⟩ := t
  obtain ⟨hk, hf, hg⟩ := h
  unfold okN at hf hg
  simp only at hk hf hg
  have hB : Below w.heap.size w (w.alloc (.cells #[.int .i64 k, .int .i64 f, .int .i64 g, .int .i64 e] 142)) := (Below.refl _ _).alloc (Nat.le_refl _) _
  have hL2 := hL.below hB hL.big
  have c0 : (w.alloc (.cells #[.int .i64 k, .int .i64 f, .int .i64 g, .int .i64 e] 142)).cell? ⟨w.heap.size, 0, none⟩ = some (.int .i64 k) := by simp
  have c1 : (w.alloc (.cells #[.int .i64 k, .int .i64 f, .int .i64 g, .int .i64 e] 142)).cell? ⟨w.heap.size, 1, none⟩ = some (.int .i64 f) := by simp
  have c2 : (w.alloc (.cells #[.int .i64 k, .int .i64 f, .int .i64 g, .int .i64 e] 142)).cell? ⟨w.heap.size, 2, none⟩ = some (.int .i64 g) := by simp
  have c3 : (w.alloc (.cells #[.int .i64 k, .int .i64 f, .int .i64 g, .int .i64 e] 142)).cell? ⟨w.heap.size, 3, none⟩ = some (.int .i64 e) := by simp
  have hlt : w.heap.size < (w.alloc (.cells #[.int .i64 k, .int .i64 f, .int .i64 g, .int .i64 e] 142)).heap.size := by simp
  have hlf := Lib.itoa_length_le f (by omega) (by omega)
  have hlg := Lib.itoa_length_le g (by omega) (by omega)
  have n1 : ¬ 9223372036854775807 < 1 + (Lib.itoa f).length := by omega
  have n2 : ¬ 9223372036854775807 < 1 + (Lib.itoa f).length + 1 := by omega
  have n3 : ¬ 9223372036854775807 < 1 + (Lib.itoa f).length + 1 + (Lib.itoa g).length := by omega
  have cf := quiet_itoa f hf.1 (by omega) hL2
  have cg := quiet_itoa g hg.1 (by omega) hL2
  have k1 := cell_regrown c1
  have k2 := cell_regrown c2
  unfold tokV
  simp only
  go_enter Tryz.func136, Tryz.ntmps136
  go_wp2_with fail
  generalize w.alloc (.cells #[.int .i64 k, .int .i64 f, .int .i64 g, .int .i64 e] 142) = W at *
  have HL : Hid (Libs W) := hL2
  have HB : Hid (Below w.heap.size w W) := hB
  have HLT : Hid (w.heap.size < W.heap.size) := hlt
  have hsz : Hid (w.heap.size ≤ W.heap.size) := hB.size
  clear hL hL2 hB hlt
  generalize hbb : w.heap.size = b at *
  have HBb : Hid (w.heap.size = b) := hbb
  clear hbb
  refine wp_region_quiet_below mixed (by kernel_rfl) ?_
  repeat (quiet_step (first | exact cf _ _ | exact cg _ _))
  refine wpQuiet_nil ?_
  intro W2 hw'
  obtain ⟨⟨dq, osq⟩, hw''⟩ := hw'
  have HB2 : Below W.heap.size W W2 := by rw [hw'']; exact below_regrown W dq osq
  have HL2 := HL.out.below HB2 HL.out.big
  have e0 := (HB2.cell (p := ⟨b, 0, none⟩) HLT.out).trans c0
  have e3 := (HB2.cell (p := ⟨b, 3, none⟩) HLT.out).trans c3
  clear hw'' cf cg k1 k2
  rcases hk with ⟨rfl, rfl⟩ | ⟨rfl, he⟩
  · go_wp2_with fail
    go_ret
    exact ⟨congrArg Ending.returned (congrArg Value.string (bstr (by simp [body]))), by rw [HBb.out]; exact HB.out.trans (HB2.mono hsz.out)⟩
  · unfold okN at he
    have hle := Lib.itoa_length_le e (by omega) (by omega)
    have hi : Hid (0 ≤ e ∧ e ≤ 1099511627776) := he
    clear he
    go_wp2_with fail
    refine (itoa_is e _ hi.out.1 (by have := hi.out.2; omega) HL2).mono ?_
    rintro e1 w3 ⟨rfl, hb3⟩
    go_wp2_with fail
    go_ret
    exact ⟨congrArg Ending.returned (congrArg Value.string (bstr (by simp [body]))), by rw [HBb.out]; exact (HB.out.trans (HB2.mono hsz.out)).trans (hb3.mono (Nat.le_trans hsz.out HB2.size))⟩
set_option maxRecDepth 100000 in
set_option maxHeartbeats 4000000 in
theorem bodyR_is (t : T) (w : World) (h : may t) (hL : Libs w) : Calls Tryz.prog 133 #[tokV t] w fun e w' => e = .returned (.string ⟨(body t).toArray⟩) ∧ Below w.heap.size w w' := by
  obtain ⟨k, f, g, e⟩ := t
  obtain ⟨hk, hf, hg⟩ := h
  unfold okN at hf hg
  simp only at hk hf hg
  have hB : Below w.heap.size w (w.alloc (.cells #[.int .i64 k, .int .i64 f, .int .i64 g, .int .i64 e] 137)) := (Below.refl _ _).alloc (Nat.le_refl _) _
  have hL2 := hL.below hB hL.big
  have c0 : (w.alloc (.cells #[.int .i64 k, .int .i64 f, .int .i64 g, .int .i64 e] 137)).cell? ⟨w.heap.size, 0, none⟩ = some (.int .i64 k) := by simp
  have c1 : (w.alloc (.cells #[.int .i64 k, .int .i64 f, .int .i64 g, .int .i64 e] 137)).cell? ⟨w.heap.size, 1, none⟩ = some (.int .i64 f) := by simp
  have c2 : (w.alloc (.cells #[.int .i64 k, .int .i64 f, .int .i64 g, .int .i64 e] 137)).cell? ⟨w.heap.size, 2, none⟩ = some (.int .i64 g) := by simp
  have c3 : (w.alloc (.cells #[.int .i64 k, .int .i64 f, .int .i64 g, .int .i64 e] 137)).cell? ⟨w.heap.size, 3, none⟩ = some (.int .i64 e) := by simp
  have hlf := Lib.itoa_length_le f (by omega) (by omega)
  have hlg := Lib.itoa_length_le g (by omega) (by omega)
  have n1 : ¬ 9223372036854775807 < 2 + (Lib.itoa f).length := by omega
  have n2 : ¬ 9223372036854775807 < 2 + (Lib.itoa f).length + 1 := by omega
  have n3 : ¬ 9223372036854775807 < 2 + (Lib.itoa f).length + 1 + (Lib.itoa g).length := by omega
  have n4 : ¬ 9223372036854775807 < 2 + (Lib.itoa f).length + 1 + (Lib.itoa g).length + 1 := by omega
  have cf := quiet_itoa f hf.1 (by omega) hL2
  have cg := quiet_itoa g hg.1 (by omega) hL2
  have k1 := cell_regrown c1
  have k2 := cell_regrown c2
  rcases hk with ⟨rfl, rfl⟩ | ⟨rfl, he⟩
  · unfold tokV
    simp only
    go_enter Tryz.func133, Tryz.ntmps133
    go_wp2_with fail
    refine wp_region_quiet_below mixed (by kernel_rfl) ?_
    repeat (quiet_step (first | exact cf _ _ | exact cg _ _))
    refine wpQuiet_nil ?_
    intro W2 hw'
    obtain ⟨⟨dq, osq⟩, hw''⟩ := hw'
    have HB2 := below_regrown (w.alloc (.cells #[.int .i64 1, .int .i64 f, .int .i64 g, .int .i64 0] 137)) dq osq
    rw [← hw''] at HB2
    clear hw'' cf cg k1 k2
    go_wp2_with fail
    go_ret
    exact ⟨congrArg Ending.returned (congrArg Value.string (bstr (by simp [body]))), hB.trans (HB2.mono hB.size)⟩
  · unfold okN at he
    have hle := Lib.itoa_length_le e (by omega) (by omega)
    have n5 : ¬ 9223372036854775807 < 2 + (Lib.itoa f).length + 1 + (Lib.itoa g).length + 1 + (Lib.itoa e).length := by omega
    have ce := quiet_itoa e he.1 (by omega) hL2
    have k3 := cell_regrown c3
    unfold tokV
    simp only
    go_enter Tryz.func133, Tryz.ntmps133
    go_wp2_with fail
    refine wp_region_quiet_below mixed (by kernel_rfl) ?_
    repeat (quiet_step (first | exact cf _ _ | exact cg _ _ | exact ce _ _))
    refine wpQuiet_nil ?_
    intro W2 hw'
    obtain ⟨⟨dq, osq⟩, hw''⟩ := hw'
    have HB2 := below_regrown (w.alloc (.cells #[.int .i64 2, .int .i64 f, .int .i64 g, .int .i64 e] 137)) dq osq
    rw [← hw''] at HB2
    clear hw'' cf cg ce k1 k2 k3
    go_wp2_with fail
    go_ret
    exact ⟨congrArg Ending.returned (congrArg Value.string (bstr (by simp [body]))), hB.trans (HB2.mono hB.size)⟩
end Go.Proofs.YtlailakofhenkabGreatDoor

namespace Go.Proofs.YtlailakofhenkabGreatDoor
open Go.RowKit Tok
theorem body_len {t : T} (h : may t) : (body t).length ≤ 70 := by
  obtain ⟨k, f, g, e⟩ := t
  obtain ⟨hk, hf, hg⟩ := h
  unfold okN at *
  simp only at hk hf hg
  have hlf := Lib.itoa_length_le f (by omega) (by omega)
  have hlg := Lib.itoa_length_le g (by omega) (by omega)
  unfold body
  simp only
  rcases hk with ⟨rfl, rfl⟩ | ⟨rfl, he⟩
  · rw [if_pos rfl]; simp; omega
  · have hle := Lib.itoa_length_le e (by omega) (by omega)
    rw [if_neg (by decide)]; simp; omega
def textOf (key : Int) (t : T) : List UInt8 := body t ++ 46 :: tag key (body t)
theorem macTag_list (key : Int) (l : List UInt8) (w : World) (hl : l.length ≤ 9223372036854775807) : Calls Tryz.prog 137 #[.int .i64 key, .string ⟨l.toArray⟩] w fun e w' => e = .returned (.string ⟨(tag key l).toArray⟩) ∧ Below w.heap.size w w' := by
  have h := macTag_any key ⟨l.toArray⟩ w (by simpa [ByteArray.size] using hl)
  simpa using h
theorem refTag_list (key : Int) (l : List UInt8) (w : World) (hl : l.length ≤ 1000000) (hL : Libs w) : Calls Tryz.prog 134 #[.int .i64 key, .string ⟨l.toArray⟩] w fun e w' => e = .returned (.string ⟨(tag key l).toArray⟩) ∧ Below w.heap.size w w' := by
  have h := refTag_any key ⟨l.toArray⟩ w (by simpa [ByteArray.size] using hl) hL.t16 hL.big.2.1
  simpa using h
theorem tag_len (key : Int) (l : List UInt8) : (tag key l).length = 16 := Hex.hexsN_length _ _
set_option maxRecDepth 100000 in
set_option maxHeartbeats 4000000 in
theorem writeP_yes (key : Int) (t : T) (w : World) (h : may t) (hL : Libs w) : Calls Tryz.prog 81 #[.int .i64 key, tokV t] w fun e w' => e = .returned (.tuple #[.string ⟨(textOf key t).toArray⟩, .nilIface]) ∧ Below w.heap.size w w' := by
  have hd : mayB t = true := mayB_t h
  have hl := body_len h
  have hlt := tag_len key (body t)
  have HH : Hid (may t) := h
  have HL : Hid (Libs w) := hL
  have HX : Hid (textOf key t = body t ++ 46 :: tag key (body t)) := rfl
  clear h hL
  obtain ⟨k, f, g, e⟩ := t
  unfold tokV
  simp only
  go_enter Tryz.func81, Tryz.ntmps81
  go_wp2_with fail
  refine (mayBe_is ⟨k, f, g, e⟩ _).mono ?_
  rintro e1 w1 ⟨rfl, hb1⟩
  rw [hd]
  have hB0 : Below w.heap.size w (w.alloc (.cells #[.int .i64 k, .int .i64 f, .int .i64 g, .int .i64 e] 142)) := (Below.refl _ _).alloc (Nat.le_refl _) _
  have c0 := (hb1.cell (p := ⟨w.heap.size, 0, none⟩) (by simp)).trans (World.cell?_alloc_at _ _ _ _ rfl)
  have c1 := (hb1.cell (p := ⟨w.heap.size, 1, none⟩) (by simp)).trans (World.cell?_alloc_at _ _ _ _ rfl)
  have c2 := (hb1.cell (p := ⟨w.heap.size, 2, none⟩) (by simp)).trans (World.cell?_alloc_at _ _ _ _ rfl)
  have c3 := (hb1.cell (p := ⟨w.heap.size, 3, none⟩) (by simp)).trans (World.cell?_alloc_at _ _ _ _ rfl)
  simp at c0 c1 c2 c3
  have HB1 : Hid (Below w.heap.size w w1) := hB0.trans (hb1.mono hB0.size)
  have HL1 := HL.out.below HB1.out HL.out.big
  clear hb1 hB0
  go_wp2_with fail
  refine (bodyP_is ⟨k, f, g, e⟩ _ HH.out HL1).mono ?_
  rintro e2 w2 ⟨rfl, hb2⟩
  have HB2 : Hid (Below w.heap.size w w2) := HB1.out.trans (hb2.mono HB1.out.size)
  clear hb2 c0 c1 c2 c3
  generalize body ⟨k, f, g, e⟩ = B at *
  go_wp2_with fail
  refine (macTag_list key B _ (by omega)).mono ?_
  rintro e3 w3 ⟨rfl, hb3⟩
  have HB3 : Hid (Below w.heap.size w w3) := HB2.out.trans (hb3.mono HB2.out.size)
  clear hb3
  generalize tag key B = G at *
  go_wp2_with fail
  go_ret2
  refine ⟨?_, HB3.out⟩
  rw [HX.out]
  refine congrArg Ending.returned (congrArg Value.tuple ?_)
  rw [show (⟨B.toArray⟩ ++ ⟨#[46]⟩ ++ ⟨G.toArray⟩ : ByteArray) = ⟨(B ++ 46 :: G).toArray⟩ from bstr (by simp)]
  rfl
set_option maxRecDepth 100000 in
set_option maxHeartbeats 4000000 in
theorem writeP_no (key : Int) (t : T) (w : World) (h : ¬ may t) : Calls Tryz.prog 81 #[.int .i64 key, tokV t] w fun e w' => e = .returned (.tuple #[.string ByteArray.empty, .iface 47 (.int .i64 1)]) ∧ Below w.heap.size w w' := by
  have hd : mayB t = false := mayB_f h
  clear h
  obtain ⟨k, f, g, e⟩ := t
  unfold tokV
  simp only
  go_enter Tryz.func81, Tryz.ntmps81
  go_wp2_with fail
  refine (mayBe_is ⟨k, f, g, e⟩ _).mono ?_
  rintro e1 w1 ⟨rfl, hb1⟩
  rw [hd]
  have hB0 : Below w.heap.size w (w.alloc (.cells #[.int .i64 k, .int .i64 f, .int .i64 g, .int .i64 e] 142)) := (Below.refl _ _).alloc (Nat.le_refl _) _
  have HB1 : Hid (Below w.heap.size w w1) := hB0.trans (hb1.mono hB0.size)
  clear hb1 hB0
  go_wp2_with fail
  go_ret2
  exact ⟨rfl, HB1.out⟩
set_option maxRecDepth 100000 in
set_option maxHeartbeats 4000000 in
theorem writeR_no (key : Int) (t : T) (w : World) (h : ¬ may t) : Calls Tryz.prog 79 #[.int .i64 key, tokV t] w fun e w' => e = .returned (.tuple #[.string ByteArray.empty, .int .i64 1]) ∧ Below w.heap.size w w' := by
  have HH : Hid (¬ may t) := h
  clear h
  obtain ⟨k, f, g, e⟩ := t
  unfold tokV
  simp only
  go_enter Tryz.func79, Tryz.ntmps79
  go_wp2_with (go_at_call 66; refine (in_is _ _).mono ?_; rintro e w' ⟨rfl, rfl⟩)
  all_goals first
    | (refine absurd ?_ HH.out; simp_all [may, ← okB_iff]; done)
    | (go_ret2; exact ⟨rfl, (Below.refl _ _).alloc (Nat.le_refl _) _⟩)
set_option maxRecDepth 100000 in
set_option maxHeartbeats 4000000 in
theorem writeR_yes (key : Int) (t : T) (w : World) (h : may t) (hL : Libs w) : Calls Tryz.prog 79 #[.int .i64 key, tokV t] w fun e w' => e = .returned (.tuple #[.string ⟨(textOf key t).toArray⟩, .int .i64 0]) ∧ Below w.heap.size w w' := by
  have hl := body_len h
  have hlt := tag_len key (body t)
  have HX : Hid (textOf key t = body t ++ 46 :: tag key (body t)) := rfl
  have HL0 : Hid (Libs w) := hL
  obtain ⟨k, f, g, e⟩ := t
  have hB : Below w.heap.size w (w.alloc (.cells #[.int .i64 k, .int .i64 f, .int .i64 g, .int .i64 e] 137)) := (Below.refl _ _).alloc (Nat.le_refl _) _
  have hL2 := hL.below hB hL.big
  have k0 := cell_regrown (show (w.alloc (.cells #[.int .i64 k, .int .i64 f, .int .i64 g, .int .i64 e] 137)).cell? ⟨w.heap.size, 0, none⟩ = some (.int .i64 k) by simp)
  have k1 := cell_regrown (show (w.alloc (.cells #[.int .i64 k, .int .i64 f, .int .i64 g, .int .i64 e] 137)).cell? ⟨w.heap.size, 1, none⟩ = some (.int .i64 f) by simp)
  have k2 := cell_regrown (show (w.alloc (.cells #[.int .i64 k, .int .i64 f, .int .i64 g, .int .i64 e] 137)).cell? ⟨w.heap.size, 2, none⟩ = some (.int .i64 g) by simp)
  have k3 := cell_regrown (show (w.alloc (.cells #[.int .i64 k, .int .i64 f, .int .i64 g, .int .i64 e] 137)).cell? ⟨w.heap.size, 3, none⟩ = some (.int .i64 e) by simp)
  have cB : ∀ d os, Calls Tryz.prog 133 #[.agg #[.int .i64 k, .int .i64 f, .int .i64 g, .int .i64 e]] (Go.Sort.grow (redrawn (w.alloc (.cells #[.int .i64 k, .int .i64 f, .int .i64 g, .int .i64 e] 137)) d) os) fun e' w'' => e' = .returned (.string ⟨(body ⟨k, f, g, e⟩).toArray⟩) ∧ ∃ p : Regrown, w'' = Go.Sort.grow (redrawn (w.alloc (.cells #[.int .i64 k, .int .i64 f, .int .i64 g, .int .i64 e] 137)) p.d) p.os :=
    fun d os => Calls.regrown_of (bodyR_is ⟨k, f, g, e⟩ _ h (hL2.below (below_regrown _ d os) hL2.big))
  have cT : ∀ d os, Calls Tryz.prog 134 #[.int .i64 key, .string ⟨(body ⟨k, f, g, e⟩).toArray⟩] (Go.Sort.grow (redrawn (w.alloc (.cells #[.int .i64 k, .int .i64 f, .int .i64 g, .int .i64 e] 137)) d) os) fun e' w'' => e' = .returned (.string ⟨(tag key (body ⟨k, f, g, e⟩)).toArray⟩) ∧ ∃ p : Regrown, w'' = Go.Sort.grow (redrawn (w.alloc (.cells #[.int .i64 k, .int .i64 f, .int .i64 g, .int .i64 e] 137)) p.d) p.os :=
    fun d os => Calls.regrown_of (refTag_list key _ _ (by omega) (hL2.below (below_regrown _ d os) hL2.big))
  have HB : Hid _ := hB
  clear hB hL hL2
  obtain ⟨hk, hf, hg⟩ := h
  simp only at hk hf hg
  have n1 : ¬ 9223372036854775807 < (body ⟨k, f, g, e⟩).length + 1 := by omega
  have n2 : ¬ 9223372036854775807 < (body ⟨k, f, g, e⟩).length + 1 + (tag key (body ⟨k, f, g, e⟩)).length := by omega
  clear hl hlt
  generalize hb : body ⟨k, f, g, e⟩ = B at *
  generalize tag key B = G at *
  clear hb
  have hdf : okB f = true := okB_t hf
  have hdg : okB g = true := okB_t hg
  rcases hk with ⟨rfl, rfl⟩ | ⟨rfl, he⟩
  · unfold tokV
    simp only
    go_enter Tryz.func79, Tryz.ntmps79
    go_wp2_with (go_at_call 66; refine (in_is _ _).mono ?_; rintro e w' ⟨rfl, rfl⟩)
    refine wp_region_quiet_below mixed (by kernel_rfl) ?_
    repeat (quiet_step (first | exact cB _ _ | exact cT _ _))
    refine wpQuiet_nil ?_
    intro W2 hw'
    obtain ⟨⟨dq, osq⟩, hw''⟩ := hw'
    have HB2 := below_regrown (w.alloc (.cells #[.int .i64 1, .int .i64 f, .int .i64 g, .int .i64 0] 137)) dq osq
    rw [← hw''] at HB2
    have HB3 : Hid (Below w.heap.size w W2) := HB.out.trans (HB2.mono HB.out.size)
    clear hw'' HB2 cB cT k0 k1 k2 k3
    go_wp2_with fail
    go_ret2
    refine ⟨?_, HB3.out⟩
    rw [HX.out]
    refine congrArg Ending.returned (congrArg Value.tuple ?_)
    rw [show (⟨B.toArray⟩ ++ ⟨#[46]⟩ ++ ⟨G.toArray⟩ : ByteArray) = ⟨(B ++ 46 :: G).toArray⟩ from bstr (by simp)]
    rfl
  · have hde : okB e = true := okB_t he
    unfold tokV
    simp only
    go_enter Tryz.func79, Tryz.ntmps79
    go_wp2_with (go_at_call 66; refine (in_is _ _).mono ?_; rintro e w' ⟨rfl, rfl⟩)
    refine wp_region_quiet_below mixed (by kernel_rfl) ?_
    repeat (quiet_step (first | exact cB _ _ | exact cT _ _))
    refine wpQuiet_nil ?_
    intro W2 hw'
    obtain ⟨⟨dq, osq⟩, hw''⟩ := hw'
    have HB2 := below_regrown (w.alloc (.cells #[.int .i64 2, .int .i64 f, .int .i64 g, .int .i64 e] 137)) dq osq
    rw [← hw''] at HB2
    have HB3 : Hid (Below w.heap.size w W2) := HB.out.trans (HB2.mono HB.out.size)
    clear hw'' HB2 cB cT k0 k1 k2 k3
    go_wp2_with fail
    go_ret2
    refine ⟨?_, HB3.out⟩
    rw [HX.out]
    refine congrArg Ending.returned (congrArg Value.tuple ?_)
    rw [show (⟨B.toArray⟩ ++ ⟨#[46]⟩ ++ ⟨G.toArray⟩ : ByteArray) = ⟨(B ++ 46 :: G).toArray⟩ from bstr (by simp)]
    rfl
end Go.Proofs.YtlailakofhenkabGreatDoor

namespace Go.Proofs.YtlailakofhenkabGreatDoor
open Go.RowKit Tok
def BigsR (n : Nat) : Prop := 2 < n ∧ 4 < n ∧ 5 < n
theorem BigsR.le {n m : Nat} (h : BigsR n) (k : n ≤ m) : BigsR m := ⟨Nat.lt_of_lt_of_le h.1 k, Nat.lt_of_lt_of_le h.2.1 k, Nat.lt_of_lt_of_le h.2.2 k⟩
/-- What the library's variables hold, as far as reading a token asks for them. -/
structure LibsR (w : World) : Prop where
  base : Libs w
  big : BigsR w.heap.size
  len : ∃ m, w.cell? ⟨2, 0, none⟩ = some (.int .i64 m)
  syn : ∃ ev, w.cell? ⟨4, 0, none⟩ = some ev ∧ (ev = .nilIface ∨ ∃ te pe, ev = .iface te pe)
  rng : ∃ ev, w.cell? ⟨5, 0, none⟩ = some ev ∧ (ev = .nilIface ∨ ∃ te pe, ev = .iface te pe)
theorem LibsR.below {B : Nat} {w w' : World} (h : LibsR w) (hb : Below B w w') (hB : w.heap.size = B) : LibsR w' where
  base := h.base.below hb (hB ▸ h.base.big)
  big := h.big.le hb.size
  len := by
    obtain ⟨m, hm⟩ := h.len
    exact ⟨m, (hb.cell (p := ⟨2, 0, none⟩) (hB ▸ h.big.1)).trans hm⟩
  syn := by
    obtain ⟨m, hm, k⟩ := h.syn
    exact ⟨m, (hb.cell (p := ⟨4, 0, none⟩) (hB ▸ h.big.2.1)).trans hm, k⟩
  rng := by
    obtain ⟨m, hm, k⟩ := h.rng
    exact ⟨m, (hb.cell (p := ⟨5, 0, none⟩) (hB ▸ h.big.2.2)).trans hm, k⟩
theorem atoi_yes (s : ByteArray) (v : Int) (w : World) (hs : s.size ≤ 10000) (h : Lib.atoiAll s.data.toList = .ok v) : Calls Tryz.prog 181 #[.string s] w fun e w' => e = .returned (.tuple #[.int .i64 v, .nilIface]) ∧ Below w.heap.size w w' := by
  refine (Tryz.strconv_Atoi_ok s (by omega) v h w).mono ?_
  rintro e w' ⟨rfl, rfl | ⟨t, rfl⟩⟩
  · exact ⟨rfl, Below.refl _ _⟩
  · exact ⟨rfl, Joins.below_bytesWorld _ _ _ _ (Nat.le_refl _)⟩
theorem atoi_no (s : ByteArray) (w : World) (hs : s.size ≤ 10000) (hL : LibsR w) (h : ∀ v, Lib.atoiAll s.data.toList ≠ .ok v) : Calls Tryz.prog 181 #[.string s] w fun e w' => ∃ v te pe, e = .returned (.tuple #[.int .i64 v, .iface te pe]) ∧ Below w.heap.size w w' := by
  cases hc : Lib.atoiAll s.data.toList with
  | ok v => exact absurd hc (h v)
  | range =>
    obtain ⟨ev, h1, h2⟩ := hL.rng
    refine (Tryz.strconv_Atoi_range s (by omega) hc ev w h1 h2).mono ?_
    rintro e w' ⟨N, rfl, _, _, hb⟩
    exact ⟨_, _, _, rfl, hb⟩
  | _ =>
    obtain ⟨ev, h1, h2⟩ := hL.syn
    refine (Tryz.strconv_Atoi_syntax s (by omega) hc ev w h1 h2).mono ?_
    rintro e w' ⟨N, rfl, _, _, hb⟩
    exact ⟨_, _, _, rfl, hb⟩
theorem split_len (c : UInt8) (k : Nat) (l : List UInt8) : ∀ x ∈ Lib.splitK [c] 0 k l, x.length ≤ l.length := by
  induction k generalizing l with
  | zero => intro x hx; simp [Lib.splitK] at hx; subst hx; exact Nat.le_refl _
  | succ k ih =>
    rcases nilOr c l with h | ⟨a, b, rfl, h⟩
    · rw [splitK_no h]; intro x hx; simp at hx; subst hx; exact Nat.le_refl _
    · rw [splitK_at b h]
      intro x hx
      simp only [List.mem_cons] at hx
      rcases hx with rfl | hx
      · simp
      · have := ih b x hx
        simp; omega
set_option maxHeartbeats 1000000 in
theorem isHex_is (c : UInt8) (w : World) : Calls Tryz.prog 224 #[.int .u8 (c.toNat : Int)] w fun e w' => e = .returned (.bool (isHexB c)) ∧ w' = w := by
  have HD : Hid (isHexB c = (decide (48 ≤ c.toNat ∧ c.toNat ≤ 57) || decide (97 ≤ c.toNat ∧ c.toNat ≤ 102))) := rfl
  generalize c.toNat = n at *
  go_enter Tryz.func224, Tryz.ntmps224
  go_wp2_with fail
  all_goals (go_ret; refine ⟨congrArg Ending.returned (congrArg Value.bool ?_), rfl⟩; rw [HD.out, Bool.eq_iff_iff]; simp; try omega)
set_option maxRecDepth 100000 in
set_option maxHeartbeats 4000000 in
theorem readNumbers_is (s : ByteArray) (w : World) (hs : s.size ≤ 5000) (hL : LibsR w) : Calls Tryz.prog 223 #[.string s] w fun e w' => Below w.heap.size w w' ∧
    ((∃ (ns : List Int) (g cap : Nat), e = .returned (.tuple #[.slice (some ⟨g, 0, none⟩) ns.length cap, .bool true]) ∧ Lib.splitK [46] 0 2 s.data.toList = ns.map Lib.itoa ∧ (∀ n ∈ ns, okN n) ∧ RowAt w.heap.size w' g cap ns.length (ns.map (Value.int .i64))) ∨
     (e = .returned (.tuple #[.slice none 0 0, .bool false]) ∧ ¬ ∃ ns : List Int, Lib.splitK [46] 0 2 s.data.toList = ns.map Lib.itoa ∧ ∀ n ∈ ns, okN n)) := by
  obtain ⟨m, hm⟩ := hL.len
  have HL : Hid (LibsR w) := hL
  have hps := Lib.splitB_data ⟨#[46]⟩ 0 (min 3 (s.size + 1) - 1) s
  have e3 : Lib.splitK [46] 0 (min 3 (s.size + 1) - 1) s.data.toList = Lib.splitK [46] 0 2 s.data.toList := by
    have := splitK_three 46 s.data.toList
    rwa [show s.data.toList.length = s.size from Array.length_toList] at this
  rw [show (⟨#[46]⟩ : ByteArray).data.toList = [46] from rfl, e3] at hps
  have hlenN := Lib.splitB_length_le ⟨#[46]⟩ 0 (min 3 (s.size + 1) - 1) s
  have hsp := Tryz.strings_SplitN s ⟨#[46]⟩ 3 m w (by omega) hm (by decide) (by decide) (by decide)
  generalize hP : Lib.splitB ⟨#[46]⟩ 0 (min 3 (s.size + 1) - 1) s = ps at *
  have HP : Hid (ps.map (·.data.toList) = Lib.splitK [46] 0 2 s.data.toList) := hps
  have hN : ps.length ≤ min 3 (s.size + 1) := by omega
  have hN3 : ps.length ≤ 3 := by omega
  generalize min 3 (s.size + 1) = N at *
  have hmk := run_make_row' (P := Tryz.prog) 23 3 (.int .i64 0) 8 Tryz.underlying23 (by kernel_rfl) rfl .i64 .i64 ps.length (by omega) (by omega)
  clear hps e3 hP hL
  go_enter Tryz.func223, Tryz.ntmps223
  go_wp2_with fail
  refine hsp.mono ?_
  rintro e w1 ⟨rfl, rfl⟩
  clear hsp
  go_wp2_with fail
  have hw0 : Below w.heap.size w ((w.alloc (.cells (Lib.cellsOf ps N) 9)).alloc (.cells (madeCells #[.int .i64 0] ps.length) 3)) := by
    repeat (first | exact Below.refl _ _ | refine Below.alloc ?_ (by simp) _)
  have hcl : ∀ i x, ps[i]? = some x → ((w.alloc (.cells (Lib.cellsOf ps N) 9)).alloc (.cells (madeCells #[.int .i64 0] ps.length) 3)).cell? ⟨w.heap.size, i, none⟩ = some (.string x) := by
    intro i x hx
    have hi := (List.getElem?_eq_some_iff.1 hx).1
    rw [World.cell?_alloc_lt _ _ _ (by simp), World.cell?_alloc_new]
    unfold Lib.cellsOf
    rw [List.getElem?_toArray, List.getElem?_append_left (by simpa using hi), List.getElem?_map, hx]
    rfl
  have hrow0 : RowAt w.heap.size ((w.alloc (.cells (Lib.cellsOf ps N) 9)).alloc (.cells (madeCells #[.int .i64 0] ps.length) 3)) (w.heap.size + 1) ps.length ps.length ((List.replicate ps.length (0 : Int)).map (Value.int .i64)) := by
    have hmc : (madeCells #[.int .i64 0] ps.length).toList = List.replicate ps.length (.int .i64 0) := toList_madeCells_one _ _
    have hcell : ∀ j, j < ps.length → ((w.alloc (.cells (Lib.cellsOf ps N) 9)).alloc (.cells (madeCells #[.int .i64 0] ps.length) 3)).cell? ⟨w.heap.size + 1, j, none⟩ = some (.int .i64 0) := by
      intro j hj
      rw [World.cell?_alloc_at _ _ _ _ (by simp)]
      rw [← Array.getElem?_toList, hmc, List.getElem?_replicate, if_pos hj]
    refine ⟨by omega, by simp, by simp, Nat.le_refl _, by unfold maxLen; omega, fun j u hj => ?_, fun j hj => ⟨by rw [hcell j hj]; rfl, World.frozen?_alloc_at _ _ _ _ (by simp)⟩⟩
    have hjl := (List.getElem?_eq_some_iff.1 hj).1
    simp only [List.map_replicate, List.length_replicate] at hjl
    rw [List.map_replicate, List.getElem?_replicate, if_pos hjl] at hj
    rw [hcell j hjl]; exact hj
  have hsz0 : w.heap.size + 1 < ((w.alloc (.cells (Lib.cellsOf ps N) 9)).alloc (.cells (madeCells #[.int .i64 0] ps.length) 3)).heap.size := by simp
  generalize ((w.alloc (.cells (Lib.cellsOf ps N) 9)).alloc (.cells (madeCells #[.int .i64 0] ps.length) 3)) = W at *
  clear hmk
  go_loopg [17] ps.length (fun gk iv wr => ∃ (j : Nat) (ns : List Int), j + gk = ps.length ∧ iv = .int .i64 j ∧ ns.length = j ∧ (ps.take j).map (·.data.toList) = ns.map Lib.itoa ∧ (∀ n ∈ ns, okN n) ∧ Below w.heap.size w wr ∧
    (∀ i x, ps[i]? = some x → wr.cell? ⟨w.heap.size, i, none⟩ = some (.string x)) ∧ w.heap.size + 1 < wr.heap.size ∧ RowAt w.heap.size wr (w.heap.size + 1) ps.length ps.length ((ns ++ List.replicate gk 0).map (Value.int .i64)))
  case atStart => exact ⟨0, [], by omega, rfl, rfl, by simp, by simp, hw0, hcl, hsz0, by simpa using hrow0⟩
  case round =>
    obtain ⟨j, ns, hk, rfl, hns, hit, hok, hb, hcl, hsz, hrow⟩ := hrel
    have HK : Hid (j + gk = ps.length) := hk
    have HNS : Hid (ns.length = j) := hns
    have HIT : Hid ((ps.take j).map (·.data.toList) = ns.map Lib.itoa) := hit
    have HOK : Hid (∀ n ∈ ns, okN n) := hok
    have HB : Hid (Below w.heap.size w wr) := hb
    have HCL : Hid (∀ i x, ps[i]? = some x → wr.cell? ⟨w.heap.size, i, none⟩ = some (.string x)) := hcl
    have HSZ : Hid (w.heap.size + 1 < wr.heap.size) := hsz
    have HROW : Hid (RowAt w.heap.size wr (w.heap.size + 1) ps.length ps.length ((ns ++ List.replicate gk 0).map (Value.int .i64))) := hrow
    have hjle : j ≤ ps.length := by omega
    clear hk hns hit hok hb hcl hsz hrow hw0 hrow0 hsz0
    by_cases hj : j < ps.length
    · obtain ⟨x, hx⟩ : ∃ x, ps[j]? = some x := ⟨_, List.getElem?_eq_getElem hj⟩
      have HX : Hid (ps[j]? = some x) := hx
      have hc := HCL.out j x hx
      have hxs : x.size ≤ 5000 := by
        have hmem : x.data.toList ∈ Lib.splitK [46] 0 2 s.data.toList := by
          rw [← HP.out]
          exact List.mem_map.2 ⟨x, List.mem_of_getElem? hx, rfl⟩
        have := split_len 46 2 s.data.toList _ hmem
        have e1 : x.data.toList.length = x.size := Array.length_toList
        have e2 : s.data.toList.length = s.size := Array.length_toList
        omega
      clear hx
      have hjI : (j : Int) < (ps.length : Int) := by omega
      have HLr := HL.out.below HB.out rfl
      by_cases hgood : ∃ n, okN n ∧ Lib.itoa n = x.data.toList
      · obtain ⟨n, hn, hnx⟩ := hgood
        have hat : Lib.atoiAll x.data.toList = .ok n := by rw [← hnx]; exact atoi_itoa hn.1 (by have := hn.2; omega)
        obtain rfl : x = ⟨(Lib.itoa n).toArray⟩ := bstr hnx.symm
        have hd : okB n = true := okB_t hn
        have HN : Hid (okN n) := hn
        clear hnx hn
        go_wp2_with fail
        refine (atoi_yes _ n _ (by omega) hat).mono ?_
        rintro e w2 ⟨rfl, hb2⟩
        have HB2 : Hid (Below w.heap.size w w2) := HB.out.trans (hb2.mono HB.out.size)
        have HBr2 : Hid (Below wr.heap.size wr w2) := hb2
        clear hb2 hat
        go_wp2_with fail
        refine (inBounds_is n _).mono ?_
        rintro e w3 ⟨rfl, rfl⟩
        rw [hd]
        go_wp2_with fail
        refine (itoa_is n _ HN.out.1 (by have := HN.out.2; omega) (HL.out.below HB2.out rfl).base).mono ?_
        rintro e w3 ⟨rfl, hb3⟩
        have HB3 : Hid (Below w.heap.size w w3) := HB2.out.trans (hb3.mono HB2.out.size)
        have HBr3 : Hid (Below wr.heap.size wr w3) := HBr2.out.trans (hb3.mono HBr2.out.size)
        clear hb3
        have HROW3 : Hid (RowAt w.heap.size w3 (w.heap.size + 1) ps.length ps.length ((ns ++ List.replicate gk 0).map (Value.int .i64))) := HROW.out.below HBr3.out HSZ.out
        have hthere := HROW3.out.there j hj
        obtain ⟨old, hold⟩ := Option.isSome_iff_exists.1 hthere.1
        have hfz := hthere.2
        clear hthere
        go_wp2_with fail
        go_roundg (gk - 1)
        case measure => have := HK.out; omega
        case rel =>
          have hk := HK.out
          have hns := HNS.out
          obtain ⟨g', rfl⟩ : ∃ g', gk = g' + 1 := ⟨gk - 1, by omega⟩
          refine ⟨j + 1, ns ++ [n], by omega, by go_num, by simp [hns], ?_, ?_, ?_, ?_, ?_, ?_⟩
          · rw [List.take_add_one, HX.out, List.map_append, HIT.out]; simp
          · intro y hy
            simp only [List.mem_append, List.mem_singleton] at hy
            rcases hy with hy | rfl
            · exact HOK.out y hy
            · exact HN.out
          · exact HB3.out.setCell (p := ⟨w.heap.size + 1, j, none⟩) (by simp) _
          · intro i x hx
            refine (((Below.refl (w.heap.size + 1) w3).setCell (p := ⟨w.heap.size + 1, j, none⟩) (Nat.le_refl _) _).cell (p := ⟨w.heap.size, i, none⟩) (by simp)).trans ?_
            exact (HBr3.out.cell (p := ⟨w.heap.size, i, none⟩) (by have := HSZ.out; simp; omega)).trans (HCL.out i x hx)
          · have h1 := HSZ.out
            have h2 := HBr3.out.size
            simp [World.setCell]; omega
          · have h := HROW3.out.store hj (.int .i64 n)
            have e1 : ((ns ++ List.replicate (g' + 1) 0).map (Value.int .i64)).set j (.int .i64 n) = ((ns ++ [n] ++ List.replicate g' 0).map (Value.int .i64)) := by
              rw [List.map_append, List.set_append_right _ _ (by simp [hns])]
              simp [hns, List.replicate_succ]
            rw [e1] at h
            exact h
      · have HBAD : Hid (¬ ∃ ns : List Int, Lib.splitK [46] 0 2 s.data.toList = ns.map Lib.itoa ∧ ∀ n ∈ ns, okN n) := by
          rintro ⟨ms, h1, h2⟩
          rw [← HP.out] at h1
          have h3 : (ps.map (·.data.toList))[j]? = (ms.map Lib.itoa)[j]? := by rw [h1]
          rw [List.getElem?_map, List.getElem?_map, HX.out] at h3
          cases hm2 : ms[j]? with
          | none => rw [hm2] at h3; cases h3
          | some y =>
            rw [hm2] at h3
            exact hgood ⟨y, h2 y (List.mem_of_getElem? hm2), (Option.some.inj h3).symm⟩
        by_cases hat : ∃ v, Lib.atoiAll x.data.toList = .ok v
        · obtain ⟨v, hat⟩ := hat
          go_wp2_with fail
          refine (atoi_yes _ v _ (by omega) hat).mono ?_
          rintro e w2 ⟨rfl, hb2⟩
          have HB2 : Hid (Below w.heap.size w w2) := HB.out.trans (hb2.mono HB.out.size)
          obtain ⟨hv0, hv1⟩ := Lib.atoiAll_bounds hat
          have HV : Hid (0 ≤ v → v ≤ 9223372036854775807) := fun _ => hv1
          clear hb2 hat hv0 hv1
          by_cases hv : okN v
          · have hd : okB v = true := okB_t hv
            have hne : (Lib.itoa v == x.toList) = false := by
              rw [beq_eq_false_iff_ne, ByteArray.toList_eq]
              intro he
              exact hgood ⟨v, hv, he⟩
            have HN : Hid (okN v) := hv
            clear hv hgood
            go_wp2_with fail
            refine (inBounds_is v _).mono ?_
            rintro e w3 ⟨rfl, rfl⟩
            rw [hd]
            go_wp2_with fail
            refine (itoa_is v _ HN.out.1 (HV.out HN.out.1) (HL.out.below HB2.out rfl).base).mono ?_
            rintro e w3 ⟨rfl, hb3⟩
            have HB3 : Hid (Below w.heap.size w w3) := HB2.out.trans (hb3.mono HB2.out.size)
            clear hb3
            go_wp2_with fail
            go_ret2
            exact ⟨HB3.out, .inr ⟨rfl, HBAD.out⟩⟩
          · have hd : okB v = false := okB_f hv
            clear hv hgood
            go_wp2_with fail
            refine (inBounds_is v _).mono ?_
            rintro e w3 ⟨rfl, rfl⟩
            rw [hd]
            go_wp2_with fail
            go_ret2
            exact ⟨HB2.out, .inr ⟨rfl, HBAD.out⟩⟩
        · have hat' : ∀ v, Lib.atoiAll x.data.toList ≠ .ok v := fun v h => hat ⟨v, h⟩
          clear hgood hat
          go_wp2_with fail
          refine (atoi_no _ _ (by omega) HLr hat').mono ?_
          rintro e w2 ⟨v, te, pe, rfl, hb2⟩
          have HB2 : Hid (Below w.heap.size w w2) := HB.out.trans (hb2.mono HB.out.size)
          clear hb2 hat'
          go_wp2_with fail
          go_ret2
          exact ⟨HB2.out, .inr ⟨rfl, HBAD.out⟩⟩
    · obtain rfl : j = ps.length := by omega
      go_wp2_with fail
      go_ret2
      refine ⟨HB.out, .inl ⟨ns, w.heap.size + 1, ps.length, ?_, ?_, HOK.out, ?_⟩⟩
      · rw [HNS.out]; rfl
      · rw [← HP.out, ← HIT.out, List.take_of_length_le (Nat.le_refl _)]
      · have h := HROW.out
        have e0 : gk = 0 := by have := HK.out; omega
        rw [e0, List.replicate_zero, List.append_nil] at h
        rw [HNS.out]
        exact h
end Go.Proofs.YtlailakofhenkabGreatDoor
