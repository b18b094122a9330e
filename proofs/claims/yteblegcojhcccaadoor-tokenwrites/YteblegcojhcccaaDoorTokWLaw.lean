import Derived.Test.YteblegcojhcccaaDoorTokW2
namespace Go.Proofs.YteblegcojhcccaaDoor
open Go.RowKit Tok
set_option maxHeartbeats 1000000 in
theorem given_is (t : T) (w : World) : Calls Tryd.prog 18 #[tokV t] w fun e w' => e = .returned (tokV t) ∧ Below w.heap.size w w' := by
  obtain ⟨k, f, g, e⟩ := t
  unfold tokV
  simp only
  go_enter Tryd.func18, Tryd.ntmps18
  go_wp2_with fail
  refine bodyPost_ret (v := .agg #[.int .i64 k, .int .i64 f, .int .i64 g, .int .i64 e]) ?_ rfl ⟨rfl, ?_⟩
  · simp [results, Tryd.results18, go_sem]
  repeat (first | exact Below.refl _ _ | refine Below.alloc ?_ (by simp) _)
set_option maxRecDepth 100000 in
set_option maxHeartbeats 4000000 in
theorem tokenWritesLaw (key : Int) (t : T) (w : World) (hL : Libs w) : Calls Tryd.prog 5 #[.int .i64 key, tokV t] w fun e w' => e = .returned (.bool true) ∧ Below w.heap.size w w' := by
  have HL : Hid (Libs w) := hL
  clear hL
  obtain ⟨k, f, g, e⟩ := t
  have hB0 : Below w.heap.size w (w.alloc (.cells #[.int .i64 k, .int .i64 f, .int .i64 g, .int .i64 e] 46)) := (Below.refl _ _).alloc (Nat.le_refl _) _
  have HB0 : Hid (Below w.heap.size w (w.alloc (.cells #[.int .i64 k, .int .i64 f, .int .i64 g, .int .i64 e] 46))) := hB0
  clear hB0
  unfold tokV
  simp only
  go_enter Tryd.func5, Tryd.ntmps5
  go_wp2_with fail
  refine (given_is ⟨k, f, g, e⟩ _).mono ?_
  rintro e1 w1 ⟨rfl, hb1⟩
  unfold tokV
  simp only
  have c0 := (hb1.cell (p := ⟨w.heap.size, 0, none⟩) (by simp)).trans (World.cell?_alloc_at _ _ _ _ rfl)
  have c1 := (hb1.cell (p := ⟨w.heap.size, 1, none⟩) (by simp)).trans (World.cell?_alloc_at _ _ _ _ rfl)
  have c2 := (hb1.cell (p := ⟨w.heap.size, 2, none⟩) (by simp)).trans (World.cell?_alloc_at _ _ _ _ rfl)
  have c3 := (hb1.cell (p := ⟨w.heap.size, 3, none⟩) (by simp)).trans (World.cell?_alloc_at _ _ _ _ rfl)
  simp at c0 c1 c2 c3
  have hlt1 : w.heap.size < w1.heap.size := Nat.lt_of_lt_of_le (by simp) hb1.size
  have HB1 : Hid (Below w.heap.size w w1) := HB0.out.trans (hb1.mono HB0.out.size)
  clear hb1 HB0
  by_cases hm : may ⟨k, f, g, e⟩
  · go_wp2_with fail
    refine (writeR_yes key ⟨k, f, g, e⟩ _ hm (HL.out.below HB1.out HL.out.big)).mono ?_
    rintro e2 w2 ⟨rfl, hb2⟩
    have d0 := (hb2.cell (p := ⟨w.heap.size, 0, none⟩) hlt1).trans c0
    have d1 := (hb2.cell (p := ⟨w.heap.size, 1, none⟩) hlt1).trans c1
    have d2 := (hb2.cell (p := ⟨w.heap.size, 2, none⟩) hlt1).trans c2
    have d3 := (hb2.cell (p := ⟨w.heap.size, 3, none⟩) hlt1).trans c3
    have HB2 : Hid (Below w.heap.size w w2) := HB1.out.trans (hb2.mono HB1.out.size)
    clear hb2 c0 c1 c2 c3
    go_wp2_with fail
    refine (writeP_yes key ⟨k, f, g, e⟩ _ hm (HL.out.below HB2.out HL.out.big)).mono ?_
    rintro e3 w3 ⟨rfl, hb3⟩
    have HB3 : Hid (Below w.heap.size w w3) := HB2.out.trans (hb3.mono HB2.out.size)
    clear hb3 d0 d1 d2 d3
    go_wp2_with fail
    refine (lawBare_nil _ _).mono ?_
    rintro e4 w4 ⟨rfl, rfl⟩
    go_wp2_with fail
    go_ret
    exact ⟨rfl, HB3.out⟩
  · go_wp2_with fail
    refine (writeR_no key ⟨k, f, g, e⟩ _ hm).mono ?_
    rintro e2 w2 ⟨rfl, hb2⟩
    have d0 := (hb2.cell (p := ⟨w.heap.size, 0, none⟩) hlt1).trans c0
    have d1 := (hb2.cell (p := ⟨w.heap.size, 1, none⟩) hlt1).trans c1
    have d2 := (hb2.cell (p := ⟨w.heap.size, 2, none⟩) hlt1).trans c2
    have d3 := (hb2.cell (p := ⟨w.heap.size, 3, none⟩) hlt1).trans c3
    have HB2 : Hid (Below w.heap.size w w2) := HB1.out.trans (hb2.mono HB1.out.size)
    clear hb2 c0 c1 c2 c3
    go_wp2_with fail
    refine (writeP_no key ⟨k, f, g, e⟩ _ hm).mono ?_
    rintro e3 w3 ⟨rfl, hb3⟩
    have HB3 : Hid (Below w.heap.size w w3) := HB2.out.trans (hb3.mono HB2.out.size)
    clear hb3 d0 d1 d2 d3
    go_wp2_with fail
    refine (lawBare_err 1 1 _ (HL.out.below HB3.out HL.out.big).err).mono ?_
    rintro e4 w4 ⟨rfl, hb4⟩
    have HB4 : Hid (Below w.heap.size w w4) := HB3.out.trans (hb4.mono HB3.out.size)
    clear hb4
    go_wp2_with fail
    go_ret
    exact ⟨rfl, HB4.out⟩
end Go.Proofs.YteblegcojhcccaaDoor
