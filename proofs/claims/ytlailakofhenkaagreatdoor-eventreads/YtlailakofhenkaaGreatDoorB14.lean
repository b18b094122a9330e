/-
  Own texts put together: EvRefRead2.
-/
import Derived.Test.YtlailakofhenkaaGreatDoorB13
import Derived.Deep.CutBlock
/-
  A line as the document's answer reads it: the walk.
-/

namespace Go.Proofs.YtlailakofhenkaaGreatDoor
open Go Go.RowKit Tok Sc Ev
theorem words_all (s : ByteArray) (hs : s.size ≤ 5000) :
    (Lib.splitB ⟨#[32]⟩ 0 (Lib.countB s ⟨#[32]⟩) s).map (·.data.toList) = parts 32 s.data.toList ∧
    (Lib.splitB ⟨#[32]⟩ 0 (Lib.countB s ⟨#[32]⟩) s).length = Lib.countB s ⟨#[32]⟩ + 1 ∧ Lib.countB s ⟨#[32]⟩ ≤ 5000 ∧
    ∀ x ∈ Lib.splitB ⟨#[32]⟩ 0 (Lib.countB s ⟨#[32]⟩) s, x.size ≤ 5000 := by
  have h1 := parts_split 32 s
  refine ⟨h1, Lib.splitB_all ⟨#[32]⟩ (by decide) 0 _ s rfl, Nat.le_trans (Lib.countB_le ⟨#[32]⟩ (by decide) _ s (Nat.le_refl _)) (by omega), fun x hx => ?_⟩
  have hm : x.data.toList ∈ parts 32 s.data.toList := by rw [← h1]; exact List.mem_map.2 ⟨x, hx, rfl⟩
  have h2 := splitK_len 32 _ s.data.toList _ hm
  have h3 : x.data.toList.length = x.size := Array.length_toList
  have h4 : s.data.toList.length = s.size := Array.length_toList
  omega
def ReadAsR (s : ByteArray) (r : Ending) : Prop := (∃ e, Ev.may e ∧ s = bs8 (line e) ∧ r = .returned (.tuple #[evV e, .int .i64 0])) ∨ ((∀ e, Ev.may e → s ≠ bs8 (line e)) ∧ r = .returned (.tuple #[evV zeroE, .int .i64 3]))
theorem rs_res {w0 : World} {b0 q b g c : Nat} {ws : List ByteArray} {w : World} (h : RS w0 b0 q b g c ws w) (vs : List Value) : EvAt (w.setCells b 0 vs) b0 zeroE ∧ ∀ i, (w.setCells b 0 vs).frozen? ⟨b0, i, none⟩ = false := by
  have hb := below_setCellsW (B := 0) (Nat.zero_le b) vs 0 w
  have ho : ∀ j, (w.setCells b 0 vs).cell? ⟨b0, j, none⟩ = w.cell? ⟨b0, j, none⟩ := fun j => World.cell?_setCells_out b vs 0 w ⟨b0, j, none⟩ (fun hx _ => absurd hx h.b0b)
  have r := h.res
  refine ⟨⟨Nat.lt_of_lt_of_le r.lt hb.size, (ho _).trans r.c0, ?_, (ho _).trans r.c10, (ho _).trans r.c11⟩, fun i => by rw [World.frozen?_setCells]; exact h.free i⟩
  constructor
  · exact (ho _).trans r.fam.c0
  · exact (ho _).trans r.fam.c1
  · exact (ho _).trans r.fam.c2
  · exact (ho _).trans r.fam.c3
  · exact (ho _).trans r.fam.c4
  · exact (ho _).trans r.fam.c5
  · exact (ho _).trans r.fam.c6
  · exact (ho _).trans r.fam.c7
  · exact (ho _).trans r.fam.c8
theorem rs_made (w : World) (ps : List ByteArray) (N : Nat) (hN : ps.length = N + 1) (hL : LibsA w) : RS w w.heap.size (w.heap.size + 1 + 1) (w.heap.size + 1 + 1 + 1) (w.heap.size + 1) (N + 1) ps ((((w.alloc (.cells #[.int .i64 0, .int .i64 0, .string ⟨#[]⟩, .string ⟨#[]⟩, .string ⟨#[]⟩, .int .i64 0, .int .i64 0, .int .i64 0, .string ⟨#[]⟩, .bool false, .int .i64 0, .int .i64 0] 44)).alloc (.cells (List.map Value.string ps).toArray 9)).alloc (.cells #[.slice (some ⟨w.heap.size + 1, 0, none⟩) (N + 1) (N + 1)] 23)).alloc (.cells #[.int .i64 0, .int .i64 0, .string ⟨#[]⟩, .string ⟨#[]⟩, .string ⟨#[]⟩, .int .i64 0, .int .i64 0, .int .i64 0, .string ⟨#[]⟩, .bool false, .int .i64 0, .int .i64 0] 44)) := by
  have h1 : Below w.heap.size w (w.alloc (.cells #[.int .i64 0, .int .i64 0, .string ⟨#[]⟩, .string ⟨#[]⟩, .string ⟨#[]⟩, .int .i64 0, .int .i64 0, .int .i64 0, .string ⟨#[]⟩, .bool false, .int .i64 0, .int .i64 0] 44)) := (Below.refl _ _).alloc (Nat.le_refl _) _
  have hw := wordsAt_new (w.alloc (.cells #[.int .i64 0, .int .i64 0, .string ⟨#[]⟩, .string ⟨#[]⟩, .string ⟨#[]⟩, .int .i64 0, .int .i64 0, .int .i64 0, .string ⟨#[]⟩, .bool false, .int .i64 0, .int .i64 0] 44)) ps 9
  rw [show ((w.alloc (.cells #[.int .i64 0, .int .i64 0, .string ⟨#[]⟩, .string ⟨#[]⟩, .string ⟨#[]⟩, .int .i64 0, .int .i64 0, .int .i64 0, .string ⟨#[]⟩, .bool false, .int .i64 0, .int .i64 0] 44)) : World).heap.size = w.heap.size + 1 by simp] at hw
  have h2 : Below w.heap.size w (((w.alloc (.cells #[.int .i64 0, .int .i64 0, .string ⟨#[]⟩, .string ⟨#[]⟩, .string ⟨#[]⟩, .int .i64 0, .int .i64 0, .int .i64 0, .string ⟨#[]⟩, .bool false, .int .i64 0, .int .i64 0] 44)).alloc (.cells (List.map Value.string ps).toArray 9)).alloc (.cells #[.slice (some ⟨w.heap.size + 1, 0, none⟩) (N + 1) (N + 1)] 23)) := (h1.alloc (by simp) _).alloc (by simp; omega) _
  have hw2 : WordsAt (((w.alloc (.cells #[.int .i64 0, .int .i64 0, .string ⟨#[]⟩, .string ⟨#[]⟩, .string ⟨#[]⟩, .int .i64 0, .int .i64 0, .int .i64 0, .string ⟨#[]⟩, .bool false, .int .i64 0, .int .i64 0] 44)).alloc (.cells (List.map Value.string ps).toArray 9)).alloc (.cells #[.slice (some ⟨w.heap.size + 1, 0, none⟩) (N + 1) (N + 1)] 23)) (w.heap.size + 1) ps := ⟨by simp, fun j x hj => Lib.cell?_alloc_some _ (hw.2 j x hj)⟩
  have hos := os_made _ (w.heap.size + 1) ps #[.int .i64 0, .int .i64 0, .string ⟨#[]⟩, .string ⟨#[]⟩, .string ⟨#[]⟩, .int .i64 0, .int .i64 0, .int .i64 0, .string ⟨#[]⟩, .bool false, .int .i64 0, .int .i64 0] 44 rfl (hL.below h2) hw2
  rw [show (((w.alloc (.cells #[.int .i64 0, .int .i64 0, .string ⟨#[]⟩, .string ⟨#[]⟩, .string ⟨#[]⟩, .int .i64 0, .int .i64 0, .int .i64 0, .string ⟨#[]⟩, .bool false, .int .i64 0, .int .i64 0] 44)).alloc (.cells (List.map Value.string ps).toArray 9)).alloc (.cells #[.slice (some ⟨w.heap.size + 1, 0, none⟩) (N + 1) (N + 1)] 23)).heap.size = w.heap.size + 1 + 1 + 1 by simp] at hos
  have h4 : Below w.heap.size w ((((w.alloc (.cells #[.int .i64 0, .int .i64 0, .string ⟨#[]⟩, .string ⟨#[]⟩, .string ⟨#[]⟩, .int .i64 0, .int .i64 0, .int .i64 0, .string ⟨#[]⟩, .bool false, .int .i64 0, .int .i64 0] 44)).alloc (.cells (List.map Value.string ps).toArray 9)).alloc (.cells #[.slice (some ⟨w.heap.size + 1, 0, none⟩) (N + 1) (N + 1)] 23)).alloc (.cells #[.int .i64 0, .int .i64 0, .string ⟨#[]⟩, .string ⟨#[]⟩, .string ⟨#[]⟩, .int .i64 0, .int .i64 0, .int .i64 0, .string ⟨#[]⟩, .bool false, .int .i64 0, .int .i64 0] 44)) := h2.alloc (by simp; omega) _
  refine ⟨⟨hos.libs, hos.words, hos.lt, by omega, hos.ne, hos.there, hos.free, h4, olds_of hL⟩, ?_, by simp, by omega, ?_, fun i => ?_, by omega⟩
  · rw [World.cell?_alloc_lt _ _ _ (by simp), World.cell?_alloc_at _ _ _ _ (by simp), hN]
    rfl
  · have he := evAt_made w zeroE 44 _ rfl
    refine EvAt.on (w := (w.alloc (.cells #[.int .i64 0, .int .i64 0, .string ⟨#[]⟩, .string ⟨#[]⟩, .string ⟨#[]⟩, .int .i64 0, .int .i64 0, .int .i64 0, .string ⟨#[]⟩, .bool false, .int .i64 0, .int .i64 0] 44))) he ?_
    show Below _ _ _
    repeat (first | exact Below.refl _ _ | refine Below.alloc ?_ (by simp; try omega) _)
  · rw [World.frozen?_alloc_past _ _ _ (by simp; omega), World.frozen?_alloc_past _ _ _ (by simp; omega), World.frozen?_alloc_past _ _ _ (by simp), World.frozen?_alloc_at _ _ _ _ rfl]
/-- What the switch leaves. -/
structure Made (w0 : World) (b0 b : Nat) (ps : List ByteArray) (wx : World) : Prop where
  ev : ∃ e, EvAt wx b e ∧ ToldW ps e ∧ Small 5000 e.fam
  res : EvAt wx b0 zeroE
  free : ∀ i, wx.frozen? ⟨b0, i, none⟩ = false
  below : Below w0.heap.size w0 wx
theorem evAt_cells {w : World} {b : Nat} {e : E} (hl : b < w.heap.size) (c0 : w.cell? ⟨b, 0, none⟩ = some (.int .i64 e.kind)) (c1 : w.cell? ⟨b, 1, none⟩ = some (.int .i64 e.fam.id)) (c2 : w.cell? ⟨b, 2, none⟩ = some (.string e.fam.client)) (c3 : w.cell? ⟨b, 3, none⟩ = some (.string e.fam.subject)) (c4 : w.cell? ⟨b, 4, none⟩ = some (.string e.fam.scope)) (c5 : w.cell? ⟨b, 5, none⟩ = some (.int .i64 e.fam.gen)) (c6 : w.cell? ⟨b, 6, none⟩ = some (.int .i64 e.fam.made)) (c7 : w.cell? ⟨b, 7, none⟩ = some (.int .i64 e.fam.used)) (c8 : w.cell? ⟨b, 8, none⟩ = some (.string e.fam.request)) (c9 : w.cell? ⟨b, 9, none⟩ = some (.bool e.fam.dead)) (c10 : w.cell? ⟨b, 10, none⟩ = some (.int .i64 e.id)) (c11 : w.cell? ⟨b, 11, none⟩ = some (.int .i64 e.time)) : EvAt w b e :=
  ⟨hl, c0, ⟨c1, c2, c3, c4, c5, c6, c7, c8, c9⟩, c10, c11⟩
set_option maxRecDepth 100000 in
set_option maxHeartbeats 32000000 in
theorem refRead_is (s : ByteArray) (w : World) (hs : s.size ≤ 5000) (hL : LibsA w) : Calls Tryz.prog 19 #[.string s] w fun r w' => ReadAsR s r ∧ Below w.heap.size w w' := by
  obtain ⟨m, hm⟩ := hL.base.len
  have HL : Hid (LibsA w) := hL
  obtain ⟨hp1, hp2, hp3, hp4⟩ := words_all s hs
  have hm1 := Lib.cell?_alloc_some (.cells #[.int .i64 0, .int .i64 0, .string ⟨#[]⟩, .string ⟨#[]⟩, .string ⟨#[]⟩, .int .i64 0, .int .i64 0, .int .i64 0, .string ⟨#[]⟩, .bool false, .int .i64 0, .int .i64 0] 44) hm
  have hsp := Tryz.strings_Split s ⟨#[32]⟩ m _ (by omega) hm1 (by decide)
  generalize hP : Lib.splitB ⟨#[32]⟩ 0 (Lib.countB s ⟨#[32]⟩) s = ps at *
  have HP : Hid (ps.map (·.data.toList) = parts 32 s.data.toList) := hp1
  generalize Lib.countB s ⟨#[32]⟩ = N at *
  have HS : Hid (s.size ≤ 5000) := hs
  have HN : Hid (ps.length = N + 1 ∧ N ≤ 5000 ∧ ∀ x ∈ ps, x.size ≤ 5000) := ⟨hp2, hp3, hp4⟩
  have HRS : Hid (RS w w.heap.size (w.heap.size + 1 + 1) (w.heap.size + 1 + 1 + 1) (w.heap.size + 1) (N + 1) ps ((((w.alloc (.cells #[.int .i64 0, .int .i64 0, .string ⟨#[]⟩, .string ⟨#[]⟩, .string ⟨#[]⟩, .int .i64 0, .int .i64 0, .int .i64 0, .string ⟨#[]⟩, .bool false, .int .i64 0, .int .i64 0] 44)).alloc (.cells (List.map Value.string ps).toArray 9)).alloc (.cells #[.slice (some ⟨w.heap.size + 1, 0, none⟩) (N + 1) (N + 1)] 23)).alloc (.cells #[.int .i64 0, .int .i64 0, .string ⟨#[]⟩, .string ⟨#[]⟩, .string ⟨#[]⟩, .int .i64 0, .int .i64 0, .int .i64 0, .string ⟨#[]⟩, .bool false, .int .i64 0, .int .i64 0] 44))) := rs_made w ps N hp2 hL
  clear hp1 hP hL hp2 hp3 hp4 hs
  go_enter Tryz.func19, Tryz.ntmps19
  go_wp2_with fail
  refine hsp.mono ?_
  rintro e w1 ⟨rfl, rfl⟩
  clear hsp hm1 hm
  go_upto_block 0 with fail
  have HEZ : Hid (EvAt ((((w.alloc (.cells #[.int .i64 0, .int .i64 0, .string ⟨#[]⟩, .string ⟨#[]⟩, .string ⟨#[]⟩, .int .i64 0, .int .i64 0, .int .i64 0, .string ⟨#[]⟩, .bool false, .int .i64 0, .int .i64 0] 44)).alloc (.cells (List.map Value.string ps).toArray 9)).alloc (.cells #[.slice (some ⟨w.heap.size + 1, 0, none⟩) (N + 1) (N + 1)] 23)).alloc (.cells #[.int .i64 0, .int .i64 0, .string ⟨#[]⟩, .string ⟨#[]⟩, .string ⟨#[]⟩, .int .i64 0, .int .i64 0, .int .i64 0, .string ⟨#[]⟩, .bool false, .int .i64 0, .int .i64 0] 44)) (w.heap.size + 1 + 1 + 1) zeroE) := evAt_made _ zeroE 44 _ (by simp)
  generalize ((((w.alloc (.cells #[.int .i64 0, .int .i64 0, .string ⟨#[]⟩, .string ⟨#[]⟩, .string ⟨#[]⟩, .int .i64 0, .int .i64 0, .int .i64 0, .string ⟨#[]⟩, .bool false, .int .i64 0, .int .i64 0] 44)).alloc (.cells (List.map Value.string ps).toArray 9)).alloc (.cells #[.slice (some ⟨w.heap.size + 1, 0, none⟩) (N + 1) (N + 1)] 23)).alloc (.cells #[.int .i64 0, .int .i64 0, .string ⟨#[]⟩, .string ⟨#[]⟩, .string ⟨#[]⟩, .int .i64 0, .int .i64 0, .int .i64 0, .string ⟨#[]⟩, .bool false, .int .i64 0, .int .i64 0] 44)) = W4 at *
  have HBB : ∀ {W : World} (h : RS w w.heap.size (w.heap.size + 1 + 1) (w.heap.size + 1 + 1 + 1) (w.heap.size + 1) (N + 1) ps W) (vs : List Value), Below w.heap.size w (W.setCells (w.heap.size + 1 + 1 + 1) 0 vs) := fun h vs => h.os.below.trans (below_setCellsW h.os.new vs 0 _)
  go_cut [] from 14 to 62 (fun wx => Hid (Made w w.heap.size (w.heap.size + 1 + 1 + 1) ps wx))
  case first =>
    obtain ⟨hN1, hN2, hN3⟩ := HN.out
    have hNI : (N : Int) ≤ 5000 := by omega
    clear hN2
    by_cases h10 : N = 9
    · subst h10
      obtain ⟨x0, x1, x2, x3, x4, x5, x6, x7, x8, x9, rfl⟩ := ten_of hN1
      have HSZ : Hid (∀ x ∈ [x0, x1, x2, x3, x4, x5, x6, x7, x8, x9], x.size ≤ 5000) := hN3
      have bq := HRS.out.box
      clear hN3 hN1 hNI
      have s1 := HSZ.out x1 (by simp)
      have s5 := HSZ.out x5 (by simp)
      have s6 := HSZ.out x6 (by simp)
      have s7 := HSZ.out x7 (by simp)
      have i1 := fun (W : World) (h : RS w w.heap.size (w.heap.size + 1 + 1) (w.heap.size + 1 + 1 + 1) (w.heap.size + 1) (9 + 1) [x0, x1, x2, x3, x4, x5, x6, x7, x8, x9] W) => num_is 1 1 rfl x1 _ (w.heap.size + 1) 10 (9 + 1) W h.box (h.os.words.2 1 x1 rfl) (by omega) s1 h.os.libs
      have i5 := fun (W : World) (h : RS w w.heap.size (w.heap.size + 1 + 1) (w.heap.size + 1 + 1 + 1) (w.heap.size + 1) (9 + 1) [x0, x1, x2, x3, x4, x5, x6, x7, x8, x9] W) => num_is 5 5 rfl x5 _ (w.heap.size + 1) 10 (9 + 1) W h.box (h.os.words.2 5 x5 rfl) (by omega) s5 h.os.libs
      have i6 := fun (W : World) (h : RS w w.heap.size (w.heap.size + 1 + 1) (w.heap.size + 1 + 1 + 1) (w.heap.size + 1) (9 + 1) [x0, x1, x2, x3, x4, x5, x6, x7, x8, x9] W) => num_is 6 6 rfl x6 _ (w.heap.size + 1) 10 (9 + 1) W h.box (h.os.words.2 6 x6 rfl) (by omega) s6 h.os.libs
      have i7 := fun (W : World) (h : RS w w.heap.size (w.heap.size + 1 + 1) (w.heap.size + 1 + 1 + 1) (w.heap.size + 1) (9 + 1) [x0, x1, x2, x3, x4, x5, x6, x7, x8, x9] W) => num_is 7 7 rfl x7 _ (w.heap.size + 1) 10 (9 + 1) W h.box (h.os.words.2 7 x7 rfl) (by omega) s7 h.os.libs
      have i4 := fun (W : World) (h : RS w w.heap.size (w.heap.size + 1 + 1) (w.heap.size + 1 + 1 + 1) (w.heap.size + 1) (9 + 1) [x0, x1, x2, x3, x4, x5, x6, x7, x8, x9] W) => text_is 4 4 rfl x4 _ (w.heap.size + 1) 10 (9 + 1) W h.box (h.os.words.2 4 x4 rfl) (by omega)
      have i8 := fun (W : World) (h : RS w w.heap.size (w.heap.size + 1 + 1) (w.heap.size + 1 + 1 + 1) (w.heap.size + 1) (9 + 1) [x0, x1, x2, x3, x4, x5, x6, x7, x8, x9] W) => text_is 8 8 rfl x8 _ (w.heap.size + 1) 10 (9 + 1) W h.box (h.os.words.2 8 x8 rfl) (by omega)
      clear s1 s5 s6 s7
      have hrs := HRS.out
      have hg1 : w.heap.size + 1 < w.heap.size + 1 + 1 := by omega
      go_upto_region 6 with fail
      clear bq
      have HBB2 : Hid (∀ {W : World} (h : RS w w.heap.size (w.heap.size + 1 + 1) (w.heap.size + 1 + 1 + 1) (w.heap.size + 1) (9 + 1) [x0, x1, x2, x3, x4, x5, x6, x7, x8, x9] W) (vs : List Value), Below w.heap.size w (W.setCells (w.heap.size + 1 + 1 + 1) 0 vs)) := HBB
      clear HBB
      generalize hb0 : w.heap.size = b0 at *
      generalize hg : b0 + 1 = g at *
      generalize hq : g + 1 = q at *
      generalize hb : q + 1 = b at *
      have HBQ : Hid (w.heap.size = b0) := hb0
      clear hb hq hg hb0 hg1
      go_region_held3 (fun w' => (w'.cell? ⟨g, 0, none⟩ = some (.string x0) ∧ w'.cell? ⟨g, 1, none⟩ = some (.string x1) ∧ w'.cell? ⟨g, 2, none⟩ = some (.string x2) ∧ w'.cell? ⟨g, 3, none⟩ = some (.string x3) ∧ w'.cell? ⟨g, 4, none⟩ = some (.string x4) ∧ w'.cell? ⟨g, 5, none⟩ = some (.string x5) ∧ w'.cell? ⟨g, 6, none⟩ = some (.string x6) ∧ w'.cell? ⟨g, 7, none⟩ = some (.string x7) ∧ w'.cell? ⟨g, 8, none⟩ = some (.string x8) ∧ w'.cell? ⟨g, 9, none⟩ = some (.string x9) ∧ w'.cell? ⟨b, 0, none⟩ = some (peek w' b 0) ∧ w'.cell? ⟨b, 1, none⟩ = some (peek w' b 1) ∧ w'.cell? ⟨b, 2, none⟩ = some (peek w' b 2) ∧ w'.cell? ⟨b, 3, none⟩ = some (peek w' b 3) ∧ w'.cell? ⟨b, 4, none⟩ = some (peek w' b 4) ∧ w'.cell? ⟨b, 5, none⟩ = some (peek w' b 5) ∧ w'.cell? ⟨b, 6, none⟩ = some (peek w' b 6) ∧ w'.cell? ⟨b, 7, none⟩ = some (peek w' b 7) ∧ w'.cell? ⟨b, 8, none⟩ = some (peek w' b 8) ∧ w'.cell? ⟨b, 9, none⟩ = some (peek w' b 9) ∧ w'.cell? ⟨b, 10, none⟩ = some (peek w' b 10) ∧ w'.cell? ⟨b, 11, none⟩ = some (peek w' b 11) ∧ w'.cell? ⟨q, 0, none⟩ = some (.slice (some ⟨g, 0, none⟩) 10 (9 + 1)) ∧ (∀ i, w'.frozen? ⟨b, i, none⟩ = false) ∧ RS w b0 q b g (9 + 1) [x0, x1, x2, x3, x4, x5, x6, x7, x8, x9] w'))
        (first | (refine rs_set ?_; (repeat refine RS.set ?_ _ _); exact rs_of (by assumption)) | exact rs_drew hrs | exact rs_keep (by assumption) (by assumption) | assumption)
        (first
          | (go_at_call_of 61 (Value.int IntKind.i64 1); refine (i1 _ (rs_of (by assumption))).mono ?_; rintro e w1 ⟨n1, rfl, hb1, hv1⟩)
          | (go_at_call_of 62 (Value.int IntKind.i64 4); refine (i4 _ (rs_of (by assumption))).mono ?_; rintro e w4 ⟨t4, rfl, rfl, hv4⟩; have hb4 := Below.refl w4.heap.size w4)
          | (go_at_call_of 61 (Value.int IntKind.i64 5); refine (i5 _ (rs_of (by assumption))).mono ?_; rintro e w5 ⟨n5, rfl, hb5, hv5⟩)
          | (go_at_call_of 61 (Value.int IntKind.i64 6); refine (i6 _ (rs_of (by assumption))).mono ?_; rintro e w6 ⟨n6, rfl, hb6, hv6⟩)
          | (go_at_call_of 61 (Value.int IntKind.i64 7); refine (i7 _ (rs_of (by assumption))).mono ?_; rintro e w7 ⟨n7, rfl, hb7, hv7⟩)
          | (go_at_call_of 62 (Value.int IntKind.i64 8); refine (i8 _ (rs_of (by assumption))).mono ?_; rintro e w8 ⟨t8, rfl, rfl, hv8⟩; have hb8 := Below.refl w8.heap.size w8; have hos8 := (rs_of (w0 := w) (b0 := b0) (q := q) (b := b) (g := g) (by assumption))))
      have hth : ∀ j, j < ([.int .i64 1, .int .i64 n1, .string x2, .string x3, .string t4, .int .i64 n5, .int .i64 n6, .int .i64 n7, .string t8, .bool (x9.toList == [49]), .int .i64 0, .int .i64 0] : List Value).length → (w8.cell? ⟨b, 0 + j, none⟩).isSome = true := fun j hj => by rw [Nat.zero_add]; exact hos8.os.there j hj
      have HBF : Hid (Below _ w (w8.setCells (b) 0 [.int .i64 1, .int .i64 n1, .string x2, .string x3, .string t4, .int .i64 n5, .int .i64 n6, .int .i64 n7, .string t8, .bool (x9.toList == [49]), .int .i64 0, .int .i64 0])) := HBB2.out hos8 [.int .i64 1, .int .i64 n1, .string x2, .string x3, .string t4, .int .i64 n5, .int .i64 n6, .int .i64 n7, .string t8, .bool (x9.toList == [49]), .int .i64 0, .int .i64 0]
      have HRF : Hid (∀ W, W = w8.setCells (b) 0 [.int .i64 1, .int .i64 n1, .string x2, .string x3, .string t4, .int .i64 n5, .int .i64 n6, .int .i64 n7, .string t8, .bool (x9.toList == [49]), .int .i64 0, .int .i64 0] → EvAt W _ zeroE ∧ ∀ i, W.frozen? ⟨_, i, none⟩ = false) := fun W hW => by rw [hW]; exact rs_res hos8 [.int .i64 1, .int .i64 n1, .string x2, .string x3, .string t4, .int .i64 n5, .int .i64 n6, .int .i64 n7, .string t8, .bool (x9.toList == [49]), .int .i64 0, .int .i64 0]
      have q0 := World.cell?_setCells_in (b) [.int .i64 1, .int .i64 n1, .string x2, .string x3, .string t4, .int .i64 n5, .int .i64 n6, .int .i64 n7, .string t8, .bool (x9.toList == [49]), .int .i64 0, .int .i64 0] 0 w8 hth 0 (by simp)
      have q1 := World.cell?_setCells_in (b) [.int .i64 1, .int .i64 n1, .string x2, .string x3, .string t4, .int .i64 n5, .int .i64 n6, .int .i64 n7, .string t8, .bool (x9.toList == [49]), .int .i64 0, .int .i64 0] 0 w8 hth 1 (by simp)
      have q2 := World.cell?_setCells_in (b) [.int .i64 1, .int .i64 n1, .string x2, .string x3, .string t4, .int .i64 n5, .int .i64 n6, .int .i64 n7, .string t8, .bool (x9.toList == [49]), .int .i64 0, .int .i64 0] 0 w8 hth 2 (by simp)
      have q3 := World.cell?_setCells_in (b) [.int .i64 1, .int .i64 n1, .string x2, .string x3, .string t4, .int .i64 n5, .int .i64 n6, .int .i64 n7, .string t8, .bool (x9.toList == [49]), .int .i64 0, .int .i64 0] 0 w8 hth 3 (by simp)
      have q4 := World.cell?_setCells_in (b) [.int .i64 1, .int .i64 n1, .string x2, .string x3, .string t4, .int .i64 n5, .int .i64 n6, .int .i64 n7, .string t8, .bool (x9.toList == [49]), .int .i64 0, .int .i64 0] 0 w8 hth 4 (by simp)
      have q5 := World.cell?_setCells_in (b) [.int .i64 1, .int .i64 n1, .string x2, .string x3, .string t4, .int .i64 n5, .int .i64 n6, .int .i64 n7, .string t8, .bool (x9.toList == [49]), .int .i64 0, .int .i64 0] 0 w8 hth 5 (by simp)
      have q6 := World.cell?_setCells_in (b) [.int .i64 1, .int .i64 n1, .string x2, .string x3, .string t4, .int .i64 n5, .int .i64 n6, .int .i64 n7, .string t8, .bool (x9.toList == [49]), .int .i64 0, .int .i64 0] 0 w8 hth 6 (by simp)
      have q7 := World.cell?_setCells_in (b) [.int .i64 1, .int .i64 n1, .string x2, .string x3, .string t4, .int .i64 n5, .int .i64 n6, .int .i64 n7, .string t8, .bool (x9.toList == [49]), .int .i64 0, .int .i64 0] 0 w8 hth 7 (by simp)
      have q8 := World.cell?_setCells_in (b) [.int .i64 1, .int .i64 n1, .string x2, .string x3, .string t4, .int .i64 n5, .int .i64 n6, .int .i64 n7, .string t8, .bool (x9.toList == [49]), .int .i64 0, .int .i64 0] 0 w8 hth 8 (by simp)
      have q9 := World.cell?_setCells_in (b) [.int .i64 1, .int .i64 n1, .string x2, .string x3, .string t4, .int .i64 n5, .int .i64 n6, .int .i64 n7, .string t8, .bool (x9.toList == [49]), .int .i64 0, .int .i64 0] 0 w8 hth 9 (by simp)
      have q10 := World.cell?_setCells_in (b) [.int .i64 1, .int .i64 n1, .string x2, .string x3, .string t4, .int .i64 n5, .int .i64 n6, .int .i64 n7, .string t8, .bool (x9.toList == [49]), .int .i64 0, .int .i64 0] 0 w8 hth 10 (by simp)
      have q11 := World.cell?_setCells_in (b) [.int .i64 1, .int .i64 n1, .string x2, .string x3, .string t4, .int .i64 n5, .int .i64 n6, .int .i64 n7, .string t8, .bool (x9.toList == [49]), .int .i64 0, .int .i64 0] 0 w8 hth 11 (by simp)
      generalize hWW : World.setCell _ ⟨b, 11, none⟩ _ = WW
      have hW2 : w8.setCells (b) 0 [.int .i64 1, .int .i64 n1, .string x2, .string x3, .string t4, .int .i64 n5, .int .i64 n6, .int .i64 n7, .string t8, .bool (x9.toList == [49]), .int .i64 0, .int .i64 0] = WW := hWW
      have HB2 : Hid (Below b0 w WW) := by rw [← hW2]; exact HBF.out
      have HR2 := HRF.out WW hW2.symm
      have hlt : b < WW.heap.size := by rw [← hW2]; exact Nat.lt_of_lt_of_le hos8.os.lt (below_setCellsW (B := 0) (Nat.zero_le _) _ 0 _).size
      rw [hW2] at q0 q1 q2 q3 q4 q5 q6 q7 q8 q9 q10 q11
      simp only [Nat.zero_add, List.getElem_cons_zero, List.getElem_cons_succ] at q0 q1 q2 q3 q4 q5 q6 q7 q8 q9 q10 q11
      have HMD : Hid (Made w _ (b) [x0, x1, x2, x3, x4, x5, x6, x7, x8, x9] WW) := ⟨⟨⟨1, ⟨n1, x2, x3, t4, n5, n6, n7, t8, x9.toList == [49]⟩, 0, 0⟩, evAt_cells hlt q0 q1 q2 q3 q4 q5 q6 q7 q8 q9 q10 q11, toldR_put hv1 hv5 hv6 hv7 hv4 hv8, ⟨HSZ.out x2 (by simp), HSZ.out x3 (by simp), Nat.le_trans hv4.1 (HSZ.out x4 (by simp)), Nat.le_trans hv8.1 (HSZ.out x8 (by simp))⟩⟩, HR2.1, HR2.2, by rw [HBQ.out]; exact HB2.out⟩
      clear hW2 hWW hth HBF HRF q0 q1 q2 q3 q4 q5 q6 q7 q8 q9 q10 q11 HR2 hlt
      clear hos8
      go_wp2_with fail
      go_meet
      case rel => exact HMD
    by_cases h2 : N = 1
    · subst h2
      obtain ⟨x0, x1, rfl⟩ := two_of hN1
      have s1 := hN3 x1 (by simp)
      have bq := HRS.out.box
      have d0 := HRS.out.os.words.2 0 x0 rfl
      have hnm := fun (W : World) (h : RS w w.heap.size (w.heap.size + 1 + 1) (w.heap.size + 1 + 1 + 1) (w.heap.size + 1) (1 + 1) [x0, x1] W) => num_is 1 1 rfl x1 _ (w.heap.size + 1) (1 + 1) (1 + 1) W h.box (by have := h.os.words.2 1 x1 rfl; exact this) (by omega) s1 h.os.libs
      clear hN3 hN1 hNI s1
      by_cases hd : x0 = ⟨#[100]⟩
      · subst hd
        go_wp2_with fail
        refine (hnm _ HRS.out).mono ?_
        rintro e w1 ⟨n1, rfl, hb1, hv1⟩
        have hos8 := HRS.out.on hb1
        have HO8 : Hid _ := hos8
        have c0 := peek_is (hos8.os.there 0 (by omega))
        have c1 := peek_is (hos8.os.there 1 (by omega))
        have c2 := peek_is (hos8.os.there 2 (by omega))
        have c3 := peek_is (hos8.os.there 3 (by omega))
        have c4 := peek_is (hos8.os.there 4 (by omega))
        have c5 := peek_is (hos8.os.there 5 (by omega))
        have c6 := peek_is (hos8.os.there 6 (by omega))
        have c7 := peek_is (hos8.os.there 7 (by omega))
        have c8 := peek_is (hos8.os.there 8 (by omega))
        have c9 := peek_is (hos8.os.there 9 (by omega))
        have c10 := peek_is (hos8.os.there 10 (by omega))
        have c11 := peek_is (hos8.os.there 11 (by omega))
        have fz := hos8.os.free
        have HV : Hid _ := hv1
        clear hb1 hv1 hnm hos8 bq d0
        go_wp2_with fail
        have hos8 := HO8.out
        have hv1 := HV.out
        have hth : ∀ j, j < ([.int .i64 2, .int .i64 0, .string ⟨#[]⟩, .string ⟨#[]⟩, .string ⟨#[]⟩, .int .i64 0, .int .i64 0, .int .i64 0, .string ⟨#[]⟩, .bool false, .int .i64 n1, .int .i64 0] : List Value).length → (w1.cell? ⟨w.heap.size + 1 + 1 + 1, 0 + j, none⟩).isSome = true := fun j hj => by rw [Nat.zero_add]; exact hos8.os.there j hj
        have HBF : Hid (Below _ w (w1.setCells (w.heap.size + 1 + 1 + 1) 0 [.int .i64 2, .int .i64 0, .string ⟨#[]⟩, .string ⟨#[]⟩, .string ⟨#[]⟩, .int .i64 0, .int .i64 0, .int .i64 0, .string ⟨#[]⟩, .bool false, .int .i64 n1, .int .i64 0])) := HBB hos8 [.int .i64 2, .int .i64 0, .string ⟨#[]⟩, .string ⟨#[]⟩, .string ⟨#[]⟩, .int .i64 0, .int .i64 0, .int .i64 0, .string ⟨#[]⟩, .bool false, .int .i64 n1, .int .i64 0]
        have HRF : Hid (∀ W, W = w1.setCells (w.heap.size + 1 + 1 + 1) 0 [.int .i64 2, .int .i64 0, .string ⟨#[]⟩, .string ⟨#[]⟩, .string ⟨#[]⟩, .int .i64 0, .int .i64 0, .int .i64 0, .string ⟨#[]⟩, .bool false, .int .i64 n1, .int .i64 0] → EvAt W _ zeroE ∧ ∀ i, W.frozen? ⟨_, i, none⟩ = false) := fun W hW => by rw [hW]; exact rs_res hos8 [.int .i64 2, .int .i64 0, .string ⟨#[]⟩, .string ⟨#[]⟩, .string ⟨#[]⟩, .int .i64 0, .int .i64 0, .int .i64 0, .string ⟨#[]⟩, .bool false, .int .i64 n1, .int .i64 0]
        have q0 := World.cell?_setCells_in (w.heap.size + 1 + 1 + 1) [.int .i64 2, .int .i64 0, .string ⟨#[]⟩, .string ⟨#[]⟩, .string ⟨#[]⟩, .int .i64 0, .int .i64 0, .int .i64 0, .string ⟨#[]⟩, .bool false, .int .i64 n1, .int .i64 0] 0 w1 hth 0 (by simp)
        have q1 := World.cell?_setCells_in (w.heap.size + 1 + 1 + 1) [.int .i64 2, .int .i64 0, .string ⟨#[]⟩, .string ⟨#[]⟩, .string ⟨#[]⟩, .int .i64 0, .int .i64 0, .int .i64 0, .string ⟨#[]⟩, .bool false, .int .i64 n1, .int .i64 0] 0 w1 hth 1 (by simp)
        have q2 := World.cell?_setCells_in (w.heap.size + 1 + 1 + 1) [.int .i64 2, .int .i64 0, .string ⟨#[]⟩, .string ⟨#[]⟩, .string ⟨#[]⟩, .int .i64 0, .int .i64 0, .int .i64 0, .string ⟨#[]⟩, .bool false, .int .i64 n1, .int .i64 0] 0 w1 hth 2 (by simp)
        have q3 := World.cell?_setCells_in (w.heap.size + 1 + 1 + 1) [.int .i64 2, .int .i64 0, .string ⟨#[]⟩, .string ⟨#[]⟩, .string ⟨#[]⟩, .int .i64 0, .int .i64 0, .int .i64 0, .string ⟨#[]⟩, .bool false, .int .i64 n1, .int .i64 0] 0 w1 hth 3 (by simp)
        have q4 := World.cell?_setCells_in (w.heap.size + 1 + 1 + 1) [.int .i64 2, .int .i64 0, .string ⟨#[]⟩, .string ⟨#[]⟩, .string ⟨#[]⟩, .int .i64 0, .int .i64 0, .int .i64 0, .string ⟨#[]⟩, .bool false, .int .i64 n1, .int .i64 0] 0 w1 hth 4 (by simp)
        have q5 := World.cell?_setCells_in (w.heap.size + 1 + 1 + 1) [.int .i64 2, .int .i64 0, .string ⟨#[]⟩, .string ⟨#[]⟩, .string ⟨#[]⟩, .int .i64 0, .int .i64 0, .int .i64 0, .string ⟨#[]⟩, .bool false, .int .i64 n1, .int .i64 0] 0 w1 hth 5 (by simp)
        have q6 := World.cell?_setCells_in (w.heap.size + 1 + 1 + 1) [.int .i64 2, .int .i64 0, .string ⟨#[]⟩, .string ⟨#[]⟩, .string ⟨#[]⟩, .int .i64 0, .int .i64 0, .int .i64 0, .string ⟨#[]⟩, .bool false, .int .i64 n1, .int .i64 0] 0 w1 hth 6 (by simp)
        have q7 := World.cell?_setCells_in (w.heap.size + 1 + 1 + 1) [.int .i64 2, .int .i64 0, .string ⟨#[]⟩, .string ⟨#[]⟩, .string ⟨#[]⟩, .int .i64 0, .int .i64 0, .int .i64 0, .string ⟨#[]⟩, .bool false, .int .i64 n1, .int .i64 0] 0 w1 hth 7 (by simp)
        have q8 := World.cell?_setCells_in (w.heap.size + 1 + 1 + 1) [.int .i64 2, .int .i64 0, .string ⟨#[]⟩, .string ⟨#[]⟩, .string ⟨#[]⟩, .int .i64 0, .int .i64 0, .int .i64 0, .string ⟨#[]⟩, .bool false, .int .i64 n1, .int .i64 0] 0 w1 hth 8 (by simp)
        have q9 := World.cell?_setCells_in (w.heap.size + 1 + 1 + 1) [.int .i64 2, .int .i64 0, .string ⟨#[]⟩, .string ⟨#[]⟩, .string ⟨#[]⟩, .int .i64 0, .int .i64 0, .int .i64 0, .string ⟨#[]⟩, .bool false, .int .i64 n1, .int .i64 0] 0 w1 hth 9 (by simp)
        have q10 := World.cell?_setCells_in (w.heap.size + 1 + 1 + 1) [.int .i64 2, .int .i64 0, .string ⟨#[]⟩, .string ⟨#[]⟩, .string ⟨#[]⟩, .int .i64 0, .int .i64 0, .int .i64 0, .string ⟨#[]⟩, .bool false, .int .i64 n1, .int .i64 0] 0 w1 hth 10 (by simp)
        have q11 := World.cell?_setCells_in (w.heap.size + 1 + 1 + 1) [.int .i64 2, .int .i64 0, .string ⟨#[]⟩, .string ⟨#[]⟩, .string ⟨#[]⟩, .int .i64 0, .int .i64 0, .int .i64 0, .string ⟨#[]⟩, .bool false, .int .i64 n1, .int .i64 0] 0 w1 hth 11 (by simp)
        generalize hWW : World.setCell _ ⟨w.heap.size + 1 + 1 + 1, 11, none⟩ _ = WW
        have hW2 : w1.setCells (w.heap.size + 1 + 1 + 1) 0 [.int .i64 2, .int .i64 0, .string ⟨#[]⟩, .string ⟨#[]⟩, .string ⟨#[]⟩, .int .i64 0, .int .i64 0, .int .i64 0, .string ⟨#[]⟩, .bool false, .int .i64 n1, .int .i64 0] = WW := hWW
        have HB2 : Hid (Below w.heap.size w WW) := by rw [← hW2]; exact HBF.out
        have HR2 := HRF.out WW hW2.symm
        have hlt : w.heap.size + 1 + 1 + 1 < WW.heap.size := by rw [← hW2]; exact Nat.lt_of_lt_of_le hos8.os.lt (below_setCellsW (B := 0) (Nat.zero_le _) _ 0 _).size
        rw [hW2] at q0 q1 q2 q3 q4 q5 q6 q7 q8 q9 q10 q11
        simp only [Nat.zero_add, List.getElem_cons_zero, List.getElem_cons_succ] at q0 q1 q2 q3 q4 q5 q6 q7 q8 q9 q10 q11
        have HMD : Hid (Made w _ (w.heap.size + 1 + 1 + 1) [⟨#[100]⟩, x1] WW) := ⟨⟨⟨2, zeroF, n1, 0⟩, evAt_cells hlt q0 q1 q2 q3 q4 q5 q6 q7 q8 q9 q10 q11, toldW_drop rfl hv1, ⟨Nat.zero_le _, Nat.zero_le _, Nat.zero_le _, Nat.zero_le _⟩⟩, HR2.1, HR2.2, HB2.out⟩
        clear hW2 hWW hth HBF HRF q0 q1 q2 q3 q4 q5 q6 q7 q8 q9 q10 q11 HR2 hlt
        clear hos8 c0 c1 c2 c3 c4 c5 c6 c7 c8 c9 c10 c11 fz hv1
        go_meet
        case rel => exact HMD
      · have hne : (x0.toList == [100]) = false := by
          rw [beq_eq_false_iff_ne, ByteArray.toList_eq]
          intro he
          exact hd (bytes_eq he)
        have HD : Hid (x0.data.toList ≠ [100]) := fun he => hd (bytes_eq he)
        clear hd
        go_wp2_with fail
        refine (hnm _ HRS.out).mono ?_
        rintro e w1 ⟨n1, rfl, hb1, hv1⟩
        have hos8 := HRS.out.on hb1
        have HO8 : Hid _ := hos8
        have c0 := peek_is (hos8.os.there 0 (by omega))
        have c1 := peek_is (hos8.os.there 1 (by omega))
        have c2 := peek_is (hos8.os.there 2 (by omega))
        have c3 := peek_is (hos8.os.there 3 (by omega))
        have c4 := peek_is (hos8.os.there 4 (by omega))
        have c5 := peek_is (hos8.os.there 5 (by omega))
        have c6 := peek_is (hos8.os.there 6 (by omega))
        have c7 := peek_is (hos8.os.there 7 (by omega))
        have c8 := peek_is (hos8.os.there 8 (by omega))
        have c9 := peek_is (hos8.os.there 9 (by omega))
        have c10 := peek_is (hos8.os.there 10 (by omega))
        have c11 := peek_is (hos8.os.there 11 (by omega))
        have fz := hos8.os.free
        have HV : Hid _ := hv1
        clear hb1 hv1 hnm hos8 bq d0
        go_wp2_with fail
        have hos8 := HO8.out
        have hv1 := HV.out
        have hth : ∀ j, j < ([.int .i64 3, .int .i64 0, .string ⟨#[]⟩, .string ⟨#[]⟩, .string ⟨#[]⟩, .int .i64 0, .int .i64 0, .int .i64 0, .string ⟨#[]⟩, .bool false, .int .i64 0, .int .i64 n1] : List Value).length → (w1.cell? ⟨w.heap.size + 1 + 1 + 1, 0 + j, none⟩).isSome = true := fun j hj => by rw [Nat.zero_add]; exact hos8.os.there j hj
        have HBF : Hid (Below _ w (w1.setCells (w.heap.size + 1 + 1 + 1) 0 [.int .i64 3, .int .i64 0, .string ⟨#[]⟩, .string ⟨#[]⟩, .string ⟨#[]⟩, .int .i64 0, .int .i64 0, .int .i64 0, .string ⟨#[]⟩, .bool false, .int .i64 0, .int .i64 n1])) := HBB hos8 [.int .i64 3, .int .i64 0, .string ⟨#[]⟩, .string ⟨#[]⟩, .string ⟨#[]⟩, .int .i64 0, .int .i64 0, .int .i64 0, .string ⟨#[]⟩, .bool false, .int .i64 0, .int .i64 n1]
        have HRF : Hid (∀ W, W = w1.setCells (w.heap.size + 1 + 1 + 1) 0 [.int .i64 3, .int .i64 0, .string ⟨#[]⟩, .string ⟨#[]⟩, .string ⟨#[]⟩, .int .i64 0, .int .i64 0, .int .i64 0, .string ⟨#[]⟩, .bool false, .int .i64 0, .int .i64 n1] → EvAt W _ zeroE ∧ ∀ i, W.frozen? ⟨_, i, none⟩ = false) := fun W hW => by rw [hW]; exact rs_res hos8 [.int .i64 3, .int .i64 0, .string ⟨#[]⟩, .string ⟨#[]⟩, .string ⟨#[]⟩, .int .i64 0, .int .i64 0, .int .i64 0, .string ⟨#[]⟩, .bool false, .int .i64 0, .int .i64 n1]
        have q0 := World.cell?_setCells_in (w.heap.size + 1 + 1 + 1) [.int .i64 3, .int .i64 0, .string ⟨#[]⟩, .string ⟨#[]⟩, .string ⟨#[]⟩, .int .i64 0, .int .i64 0, .int .i64 0, .string ⟨#[]⟩, .bool false, .int .i64 0, .int .i64 n1] 0 w1 hth 0 (by simp)
        have q1 := World.cell?_setCells_in (w.heap.size + 1 + 1 + 1) [.int .i64 3, .int .i64 0, .string ⟨#[]⟩, .string ⟨#[]⟩, .string ⟨#[]⟩, .int .i64 0, .int .i64 0, .int .i64 0, .string ⟨#[]⟩, .bool false, .int .i64 0, .int .i64 n1] 0 w1 hth 1 (by simp)
        have q2 := World.cell?_setCells_in (w.heap.size + 1 + 1 + 1) [.int .i64 3, .int .i64 0, .string ⟨#[]⟩, .string ⟨#[]⟩, .string ⟨#[]⟩, .int .i64 0, .int .i64 0, .int .i64 0, .string ⟨#[]⟩, .bool false, .int .i64 0, .int .i64 n1] 0 w1 hth 2 (by simp)
        have q3 := World.cell?_setCells_in (w.heap.size + 1 + 1 + 1) [.int .i64 3, .int .i64 0, .string ⟨#[]⟩, .string ⟨#[]⟩, .string ⟨#[]⟩, .int .i64 0, .int .i64 0, .int .i64 0, .string ⟨#[]⟩, .bool false, .int .i64 0, .int .i64 n1] 0 w1 hth 3 (by simp)
        have q4 := World.cell?_setCells_in (w.heap.size + 1 + 1 + 1) [.int .i64 3, .int .i64 0, .string ⟨#[]⟩, .string ⟨#[]⟩, .string ⟨#[]⟩, .int .i64 0, .int .i64 0, .int .i64 0, .string ⟨#[]⟩, .bool false, .int .i64 0, .int .i64 n1] 0 w1 hth 4 (by simp)
        have q5 := World.cell?_setCells_in (w.heap.size + 1 + 1 + 1) [.int .i64 3, .int .i64 0, .string ⟨#[]⟩, .string ⟨#[]⟩, .string ⟨#[]⟩, .int .i64 0, .int .i64 0, .int .i64 0, .string ⟨#[]⟩, .bool false, .int .i64 0, .int .i64 n1] 0 w1 hth 5 (by simp)
        have q6 := World.cell?_setCells_in (w.heap.size + 1 + 1 + 1) [.int .i64 3, .int .i64 0, .string ⟨#[]⟩, .string ⟨#[]⟩, .string ⟨#[]⟩, .int .i64 0, .int .i64 0, .int .i64 0, .string ⟨#[]⟩, .bool false, .int .i64 0, .int .i64 n1] 0 w1 hth 6 (by simp)
        have q7 := World.cell?_setCells_in (w.heap.size + 1 + 1 + 1) [.int .i64 3, .int .i64 0, .string ⟨#[]⟩, .string ⟨#[]⟩, .string ⟨#[]⟩, .int .i64 0, .int .i64 0, .int .i64 0, .string ⟨#[]⟩, .bool false, .int .i64 0, .int .i64 n1] 0 w1 hth 7 (by simp)
        have q8 := World.cell?_setCells_in (w.heap.size + 1 + 1 + 1) [.int .i64 3, .int .i64 0, .string ⟨#[]⟩, .string ⟨#[]⟩, .string ⟨#[]⟩, .int .i64 0, .int .i64 0, .int .i64 0, .string ⟨#[]⟩, .bool false, .int .i64 0, .int .i64 n1] 0 w1 hth 8 (by simp)
        have q9 := World.cell?_setCells_in (w.heap.size + 1 + 1 + 1) [.int .i64 3, .int .i64 0, .string ⟨#[]⟩, .string ⟨#[]⟩, .string ⟨#[]⟩, .int .i64 0, .int .i64 0, .int .i64 0, .string ⟨#[]⟩, .bool false, .int .i64 0, .int .i64 n1] 0 w1 hth 9 (by simp)
        have q10 := World.cell?_setCells_in (w.heap.size + 1 + 1 + 1) [.int .i64 3, .int .i64 0, .string ⟨#[]⟩, .string ⟨#[]⟩, .string ⟨#[]⟩, .int .i64 0, .int .i64 0, .int .i64 0, .string ⟨#[]⟩, .bool false, .int .i64 0, .int .i64 n1] 0 w1 hth 10 (by simp)
        have q11 := World.cell?_setCells_in (w.heap.size + 1 + 1 + 1) [.int .i64 3, .int .i64 0, .string ⟨#[]⟩, .string ⟨#[]⟩, .string ⟨#[]⟩, .int .i64 0, .int .i64 0, .int .i64 0, .string ⟨#[]⟩, .bool false, .int .i64 0, .int .i64 n1] 0 w1 hth 11 (by simp)
        generalize hWW : World.setCell _ ⟨w.heap.size + 1 + 1 + 1, 11, none⟩ _ = WW
        have hW2 : w1.setCells (w.heap.size + 1 + 1 + 1) 0 [.int .i64 3, .int .i64 0, .string ⟨#[]⟩, .string ⟨#[]⟩, .string ⟨#[]⟩, .int .i64 0, .int .i64 0, .int .i64 0, .string ⟨#[]⟩, .bool false, .int .i64 0, .int .i64 n1] = WW := hWW
        have HB2 : Hid (Below w.heap.size w WW) := by rw [← hW2]; exact HBF.out
        have HR2 := HRF.out WW hW2.symm
        have hlt : w.heap.size + 1 + 1 + 1 < WW.heap.size := by rw [← hW2]; exact Nat.lt_of_lt_of_le hos8.os.lt (below_setCellsW (B := 0) (Nat.zero_le _) _ 0 _).size
        rw [hW2] at q0 q1 q2 q3 q4 q5 q6 q7 q8 q9 q10 q11
        simp only [Nat.zero_add, List.getElem_cons_zero, List.getElem_cons_succ] at q0 q1 q2 q3 q4 q5 q6 q7 q8 q9 q10 q11
        have HMD : Hid (Made w _ (w.heap.size + 1 + 1 + 1) [x0, x1] WW) := ⟨⟨⟨3, zeroF, 0, n1⟩, evAt_cells hlt q0 q1 q2 q3 q4 q5 q6 q7 q8 q9 q10 q11, toldR_clock HD.out hv1, ⟨Nat.zero_le _, Nat.zero_le _, Nat.zero_le _, Nat.zero_le _⟩⟩, HR2.1, HR2.2, HB2.out⟩
        clear hW2 hWW hth HBF HRF q0 q1 q2 q3 q4 q5 q6 q7 q8 q9 q10 q11 HR2 hlt
        clear hos8 c0 c1 c2 c3 c4 c5 c6 c7 c8 c9 c10 c11 fz hv1
        go_meet
        case rel => exact HMD
    · have HMD : Hid (Made w w.heap.size (w.heap.size + 1 + 1 + 1) ps W4) := ⟨⟨zeroE, HEZ.out, toldR_no (by omega) (by omega) _, ⟨Nat.zero_le _, Nat.zero_le _, Nat.zero_le _, Nat.zero_le _⟩⟩, HRS.out.res, HRS.out.free, HRS.out.os.below⟩
      have bq := HRS.out.box
      rw [hN1] at bq
      have hx1 : ((N : Int) + 1 == 10) = false := by rw [beq_eq_false_iff_ne]; omega
      have hx2 : ((N : Int) + 1 == 2) = false := by rw [beq_eq_false_iff_ne]; omega
      clear hN1 hN3 hNI h10 h2 HBB
      go_wp2_with fail
      go_meet
      case rel => exact HMD
  case rest =>
    obtain ⟨e, he, ht, hsm⟩ := hcut.out.ev
    have HZ : Hid (EvAt wc w.heap.size zeroE) := hcut.out.res
    have HF : Hid (∀ i, wc.frozen? ⟨w.heap.size, i, none⟩ = false) := hcut.out.free
    have HBC : Hid (Below w.heap.size w wc) := hcut.out.below
    have HE : Hid (EvAt wc (w.heap.size + 1 + 1 + 1) e) := he
    have HT : Hid (ToldW ps e) := ht
    have k0 := he.c0; have k1 := he.fam.c0; have k2 := he.fam.c1; have k3 := he.fam.c2; have k4 := he.fam.c3; have k5 := he.fam.c4; have k6 := he.fam.c5; have k7 := he.fam.c6; have k8 := he.fam.c7; have k9 := he.fam.c8; have k10 := he.c10; have k11 := he.c11
    clear he ht HBB HRS HEZ hcut
    have HTHf : Hid (∀ (W : World), EvAt W w.heap.size zeroE → ∀ j, j < 12 → (W.cell? ⟨w.heap.size, 0 + j, none⟩).isSome = true) := by
      show ∀ (W : World), _
      intro W hz j hj
      have c0 := hz.c0; have c1 := hz.fam.c0; have c2 := hz.fam.c1; have c3 := hz.fam.c2; have c4 := hz.fam.c3; have c5 := hz.fam.c4; have c6 := hz.fam.c5; have c7 := hz.fam.c6; have c8 := hz.fam.c7; have c9 := hz.fam.c8; have c10 := hz.c10; have c11 := hz.c11
      rw [Nat.zero_add]
      match j, hj with
      | 0, _ => rw [c0]; rfl
      | 1, _ => rw [c1]; rfl
      | 2, _ => rw [c2]; rfl
      | 3, _ => rw [c3]; rfl
      | 4, _ => rw [c4]; rfl
      | 5, _ => rw [c5]; rfl
      | 6, _ => rw [c6]; rfl
      | 7, _ => rw [c7]; rfl
      | 8, _ => rw [c8]; rfl
      | 9, _ => rw [c9]; rfl
      | 10, _ => rw [c10]; rfl
      | 11, _ => rw [c11]; rfl
    have HNO : Hid (∀ e', Ev.may e' → s = bs8 (line e') → e = e') := fun e' he hs => HT.out e' he (by
      rw [HP.out, hs]
      exact parts_line he)
    by_cases hm : Ev.may e
    · have hwr := refWriteE_yes e wc hm hsm (HL.out.below HBC.out).base
      have HM : Hid (Ev.may e) := hm
      clear hm hsm
      obtain ⟨k, ⟨f1, f2, f3, f4, f5, f6, f7, f8, f9⟩, i, t⟩ := e
      unfold evV evCs at hwr
      simp only at hwr k0 k1 k2 k3 k4 k5 k6 k7 k8 k9 k10 k11
      have HX : Hid (bs8 (line ⟨k, ⟨f1, f2, f3, f4, f5, f6, f7, f8, f9⟩, i, t⟩) = bs8 (line ⟨k, ⟨f1, f2, f3, f4, f5, f6, f7, f8, f9⟩, i, t⟩)) := rfl
      generalize hx : bs8 (line ⟨k, ⟨f1, f2, f3, f4, f5, f6, f7, f8, f9⟩, i, t⟩) = x at *
      have HXX : Hid (bs8 (line ⟨k, ⟨f1, f2, f3, f4, f5, f6, f7, f8, f9⟩, i, t⟩) = x) := hx
      clear hx HX
      go_wp2_with fail
      refine hwr.mono ?_
      rintro e4 w4 ⟨rfl, hb4⟩
      have HE4 : Hid (EvAt w4 (w.heap.size + 1 + 1 + 1) ⟨k, ⟨f1, f2, f3, f4, f5, f6, f7, f8, f9⟩, i, t⟩) := HE.out.on hb4
      have HB4 : Hid (Below w.heap.size w w4) := HBC.out.trans (hb4.mono HBC.out.size)
      have hz4 := HZ.out.on hb4
      have fz : ∀ i, w4.frozen? ⟨w.heap.size, i, none⟩ = false := fun i => (hb4.frozen (p := ⟨w.heap.size, i, none⟩) HZ.out.lt).trans (HF.out i)
      have HTH : Hid (∀ j, j < 12 → (w4.cell? ⟨w.heap.size, 0 + j, none⟩).isSome = true) := HTHf.out w4 hz4
      have c0 := hz4.c0; have c1 := hz4.fam.c0; have c2 := hz4.fam.c1; have c3 := hz4.fam.c2; have c4 := hz4.fam.c3; have c5 := hz4.fam.c4; have c6 := hz4.fam.c5; have c7 := hz4.fam.c6; have c8 := hz4.fam.c7; have c9 := hz4.fam.c8; have c10 := hz4.c10; have c11 := hz4.c11
      have d0 := HE4.out.c0; have d1 := HE4.out.fam.c0; have d2 := HE4.out.fam.c1; have d3 := HE4.out.fam.c2; have d4 := HE4.out.fam.c3; have d5 := HE4.out.fam.c4; have d6 := HE4.out.fam.c5; have d7 := HE4.out.fam.c6; have d8 := HE4.out.fam.c7; have d9 := HE4.out.fam.c8; have d10 := HE4.out.c10; have d11 := HE4.out.c11
      simp only at d0 d1 d2 d3 d4 d5 d6 d7 d8 d9 d10 d11
      simp only [zeroE, zeroF] at c0 c1 c2 c3 c4 c5 c6 c7 c8 c9 c10 c11
      clear hz4 hb4 hwr k0 k1 k2 k3 k4 k5 k6 k7 k8 k9 k10 k11
      by_cases hxs : x = s
      · subst hxs
        go_wp2_with fail
        have hth : ∀ j, j < ([.int .i64 k, .int .i64 f1, .string f2, .string f3, .string f4, .int .i64 f5, .int .i64 f6, .int .i64 f7, .string f8, .bool f9, .int .i64 i, .int .i64 t] : List Value).length → (w4.cell? ⟨w.heap.size, 0 + j, none⟩).isSome = true := HTH.out
        have HBF : Hid (Below w.heap.size w (w4.setCells w.heap.size 0 [.int .i64 k, .int .i64 f1, .string f2, .string f3, .string f4, .int .i64 f5, .int .i64 f6, .int .i64 f7, .string f8, .bool f9, .int .i64 i, .int .i64 t])) := HB4.out.trans (below_setCellsW (Nat.le_refl _) _ 0 w4)
        have q0 := World.cell?_setCells_in w.heap.size [.int .i64 k, .int .i64 f1, .string f2, .string f3, .string f4, .int .i64 f5, .int .i64 f6, .int .i64 f7, .string f8, .bool f9, .int .i64 i, .int .i64 t] 0 w4 hth 0 (by simp)
        have q1 := World.cell?_setCells_in w.heap.size [.int .i64 k, .int .i64 f1, .string f2, .string f3, .string f4, .int .i64 f5, .int .i64 f6, .int .i64 f7, .string f8, .bool f9, .int .i64 i, .int .i64 t] 0 w4 hth 1 (by simp)
        have q2 := World.cell?_setCells_in w.heap.size [.int .i64 k, .int .i64 f1, .string f2, .string f3, .string f4, .int .i64 f5, .int .i64 f6, .int .i64 f7, .string f8, .bool f9, .int .i64 i, .int .i64 t] 0 w4 hth 2 (by simp)
        have q3 := World.cell?_setCells_in w.heap.size [.int .i64 k, .int .i64 f1, .string f2, .string f3, .string f4, .int .i64 f5, .int .i64 f6, .int .i64 f7, .string f8, .bool f9, .int .i64 i, .int .i64 t] 0 w4 hth 3 (by simp)
        have q4 := World.cell?_setCells_in w.heap.size [.int .i64 k, .int .i64 f1, .string f2, .string f3, .string f4, .int .i64 f5, .int .i64 f6, .int .i64 f7, .string f8, .bool f9, .int .i64 i, .int .i64 t] 0 w4 hth 4 (by simp)
        have q5 := World.cell?_setCells_in w.heap.size [.int .i64 k, .int .i64 f1, .string f2, .string f3, .string f4, .int .i64 f5, .int .i64 f6, .int .i64 f7, .string f8, .bool f9, .int .i64 i, .int .i64 t] 0 w4 hth 5 (by simp)
        have q6 := World.cell?_setCells_in w.heap.size [.int .i64 k, .int .i64 f1, .string f2, .string f3, .string f4, .int .i64 f5, .int .i64 f6, .int .i64 f7, .string f8, .bool f9, .int .i64 i, .int .i64 t] 0 w4 hth 6 (by simp)
        have q7 := World.cell?_setCells_in w.heap.size [.int .i64 k, .int .i64 f1, .string f2, .string f3, .string f4, .int .i64 f5, .int .i64 f6, .int .i64 f7, .string f8, .bool f9, .int .i64 i, .int .i64 t] 0 w4 hth 7 (by simp)
        have q8 := World.cell?_setCells_in w.heap.size [.int .i64 k, .int .i64 f1, .string f2, .string f3, .string f4, .int .i64 f5, .int .i64 f6, .int .i64 f7, .string f8, .bool f9, .int .i64 i, .int .i64 t] 0 w4 hth 8 (by simp)
        have q9 := World.cell?_setCells_in w.heap.size [.int .i64 k, .int .i64 f1, .string f2, .string f3, .string f4, .int .i64 f5, .int .i64 f6, .int .i64 f7, .string f8, .bool f9, .int .i64 i, .int .i64 t] 0 w4 hth 9 (by simp)
        have q10 := World.cell?_setCells_in w.heap.size [.int .i64 k, .int .i64 f1, .string f2, .string f3, .string f4, .int .i64 f5, .int .i64 f6, .int .i64 f7, .string f8, .bool f9, .int .i64 i, .int .i64 t] 0 w4 hth 10 (by simp)
        have q11 := World.cell?_setCells_in w.heap.size [.int .i64 k, .int .i64 f1, .string f2, .string f3, .string f4, .int .i64 f5, .int .i64 f6, .int .i64 f7, .string f8, .bool f9, .int .i64 i, .int .i64 t] 0 w4 hth 11 (by simp)
        generalize hWW : World.setCell _ ⟨w.heap.size, 11, none⟩ _ = WW
        have hW2 : w4.setCells w.heap.size 0 [.int .i64 k, .int .i64 f1, .string f2, .string f3, .string f4, .int .i64 f5, .int .i64 f6, .int .i64 f7, .string f8, .bool f9, .int .i64 i, .int .i64 t] = WW := hWW
        have HB5 : Hid (Below w.heap.size w WW) := by rw [← hW2]; exact HBF.out
        rw [hW2] at q0 q1 q2 q3 q4 q5 q6 q7 q8 q9 q10 q11
        simp only [Nat.zero_add, List.getElem_cons_zero, List.getElem_cons_succ] at q0 q1 q2 q3 q4 q5 q6 q7 q8 q9 q10 q11
        exact bodyPost_ret (v := .tuple #[.agg #[.int .i64 k, .int .i64 f1, .string f2, .string f3, .string f4, .int .i64 f5, .int .i64 f6, .int .i64 f7, .string f8, .bool f9, .int .i64 i, .int .i64 t], .int .i64 0]) (by simp [results, Tryz.results19, go_sem, q0, q1, q2, q3, q4, q5, q6, q7, q8, q9, q10, q11]) rfl ⟨.inl ⟨_, HM.out, HXX.out.symm, rfl⟩, HB5.out⟩
      · have HNS : Hid (∀ e', Ev.may e' → s ≠ bs8 (line e')) := fun e' he hs => by
          have h2 := HNO.out e' he hs
          exact hxs (by rw [← HXX.out, h2, hs])
        have hxb : (x.toList == s.toList) = false := by
          rw [beq_eq_false_iff_ne]
          intro h
          exact hxs (bytes_eq (by rwa [ByteArray.toList_eq, ByteArray.toList_eq] at h))
        clear hxs
        go_wp2_with fail
        have hth : ∀ j, j < ([.int .i64 0, .int .i64 0, .string ⟨#[]⟩, .string ⟨#[]⟩, .string ⟨#[]⟩, .int .i64 0, .int .i64 0, .int .i64 0, .string ⟨#[]⟩, .bool false, .int .i64 0, .int .i64 0] : List Value).length → (w4.cell? ⟨w.heap.size, 0 + j, none⟩).isSome = true := HTH.out
        have HBF : Hid (Below w.heap.size w (w4.setCells w.heap.size 0 [.int .i64 0, .int .i64 0, .string ⟨#[]⟩, .string ⟨#[]⟩, .string ⟨#[]⟩, .int .i64 0, .int .i64 0, .int .i64 0, .string ⟨#[]⟩, .bool false, .int .i64 0, .int .i64 0])) := HB4.out.trans (below_setCellsW (Nat.le_refl _) _ 0 w4)
        have q0 := World.cell?_setCells_in w.heap.size [.int .i64 0, .int .i64 0, .string ⟨#[]⟩, .string ⟨#[]⟩, .string ⟨#[]⟩, .int .i64 0, .int .i64 0, .int .i64 0, .string ⟨#[]⟩, .bool false, .int .i64 0, .int .i64 0] 0 w4 hth 0 (by simp)
        have q1 := World.cell?_setCells_in w.heap.size [.int .i64 0, .int .i64 0, .string ⟨#[]⟩, .string ⟨#[]⟩, .string ⟨#[]⟩, .int .i64 0, .int .i64 0, .int .i64 0, .string ⟨#[]⟩, .bool false, .int .i64 0, .int .i64 0] 0 w4 hth 1 (by simp)
        have q2 := World.cell?_setCells_in w.heap.size [.int .i64 0, .int .i64 0, .string ⟨#[]⟩, .string ⟨#[]⟩, .string ⟨#[]⟩, .int .i64 0, .int .i64 0, .int .i64 0, .string ⟨#[]⟩, .bool false, .int .i64 0, .int .i64 0] 0 w4 hth 2 (by simp)
        have q3 := World.cell?_setCells_in w.heap.size [.int .i64 0, .int .i64 0, .string ⟨#[]⟩, .string ⟨#[]⟩, .string ⟨#[]⟩, .int .i64 0, .int .i64 0, .int .i64 0, .string ⟨#[]⟩, .bool false, .int .i64 0, .int .i64 0] 0 w4 hth 3 (by simp)
        have q4 := World.cell?_setCells_in w.heap.size [.int .i64 0, .int .i64 0, .string ⟨#[]⟩, .string ⟨#[]⟩, .string ⟨#[]⟩, .int .i64 0, .int .i64 0, .int .i64 0, .string ⟨#[]⟩, .bool false, .int .i64 0, .int .i64 0] 0 w4 hth 4 (by simp)
        have q5 := World.cell?_setCells_in w.heap.size [.int .i64 0, .int .i64 0, .string ⟨#[]⟩, .string ⟨#[]⟩, .string ⟨#[]⟩, .int .i64 0, .int .i64 0, .int .i64 0, .string ⟨#[]⟩, .bool false, .int .i64 0, .int .i64 0] 0 w4 hth 5 (by simp)
        have q6 := World.cell?_setCells_in w.heap.size [.int .i64 0, .int .i64 0, .string ⟨#[]⟩, .string ⟨#[]⟩, .string ⟨#[]⟩, .int .i64 0, .int .i64 0, .int .i64 0, .string ⟨#[]⟩, .bool false, .int .i64 0, .int .i64 0] 0 w4 hth 6 (by simp)
        have q7 := World.cell?_setCells_in w.heap.size [.int .i64 0, .int .i64 0, .string ⟨#[]⟩, .string ⟨#[]⟩, .string ⟨#[]⟩, .int .i64 0, .int .i64 0, .int .i64 0, .string ⟨#[]⟩, .bool false, .int .i64 0, .int .i64 0] 0 w4 hth 7 (by simp)
        have q8 := World.cell?_setCells_in w.heap.size [.int .i64 0, .int .i64 0, .string ⟨#[]⟩, .string ⟨#[]⟩, .string ⟨#[]⟩, .int .i64 0, .int .i64 0, .int .i64 0, .string ⟨#[]⟩, .bool false, .int .i64 0, .int .i64 0] 0 w4 hth 8 (by simp)
        have q9 := World.cell?_setCells_in w.heap.size [.int .i64 0, .int .i64 0, .string ⟨#[]⟩, .string ⟨#[]⟩, .string ⟨#[]⟩, .int .i64 0, .int .i64 0, .int .i64 0, .string ⟨#[]⟩, .bool false, .int .i64 0, .int .i64 0] 0 w4 hth 9 (by simp)
        have q10 := World.cell?_setCells_in w.heap.size [.int .i64 0, .int .i64 0, .string ⟨#[]⟩, .string ⟨#[]⟩, .string ⟨#[]⟩, .int .i64 0, .int .i64 0, .int .i64 0, .string ⟨#[]⟩, .bool false, .int .i64 0, .int .i64 0] 0 w4 hth 10 (by simp)
        have q11 := World.cell?_setCells_in w.heap.size [.int .i64 0, .int .i64 0, .string ⟨#[]⟩, .string ⟨#[]⟩, .string ⟨#[]⟩, .int .i64 0, .int .i64 0, .int .i64 0, .string ⟨#[]⟩, .bool false, .int .i64 0, .int .i64 0] 0 w4 hth 11 (by simp)
        generalize hWW : World.setCell _ ⟨w.heap.size, 11, none⟩ _ = WW
        have hW2 : w4.setCells w.heap.size 0 [.int .i64 0, .int .i64 0, .string ⟨#[]⟩, .string ⟨#[]⟩, .string ⟨#[]⟩, .int .i64 0, .int .i64 0, .int .i64 0, .string ⟨#[]⟩, .bool false, .int .i64 0, .int .i64 0] = WW := hWW
        have HB5 : Hid (Below w.heap.size w WW) := by rw [← hW2]; exact HBF.out
        rw [hW2] at q0 q1 q2 q3 q4 q5 q6 q7 q8 q9 q10 q11
        simp only [Nat.zero_add, List.getElem_cons_zero, List.getElem_cons_succ] at q0 q1 q2 q3 q4 q5 q6 q7 q8 q9 q10 q11
        exact bodyPost_ret (v := .tuple #[.agg #[.int .i64 0, .int .i64 0, .string ⟨#[]⟩, .string ⟨#[]⟩, .string ⟨#[]⟩, .int .i64 0, .int .i64 0, .int .i64 0, .string ⟨#[]⟩, .bool false, .int .i64 0, .int .i64 0], .int .i64 3]) (by simp [results, Tryz.results19, go_sem, q0, q1, q2, q3, q4, q5, q6, q7, q8, q9, q10, q11]) rfl ⟨.inr ⟨HNS.out, rfl⟩, HB5.out⟩
    · have hwr := refWrite_no e wc hm hsm
      have HNS : Hid (∀ e', Ev.may e' → s ≠ bs8 (line e')) := fun e' he hs => hm (by rw [HNO.out e' he hs]; exact he)
      clear hm hsm
      obtain ⟨k, ⟨f1, f2, f3, f4, f5, f6, f7, f8, f9⟩, i, t⟩ := e
      unfold evV evCs at hwr
      simp only at hwr k0 k1 k2 k3 k4 k5 k6 k7 k8 k9 k10 k11
      go_wp2_with fail
      refine hwr.mono ?_
      rintro e4 w4 ⟨rfl, hb4⟩
      have HE4 : Hid (EvAt w4 (w.heap.size + 1 + 1 + 1) ⟨k, ⟨f1, f2, f3, f4, f5, f6, f7, f8, f9⟩, i, t⟩) := HE.out.on hb4
      have HB4 : Hid (Below w.heap.size w w4) := HBC.out.trans (hb4.mono HBC.out.size)
      have hz4 := HZ.out.on hb4
      have fz : ∀ i, w4.frozen? ⟨w.heap.size, i, none⟩ = false := fun i => (hb4.frozen (p := ⟨w.heap.size, i, none⟩) HZ.out.lt).trans (HF.out i)
      have HTH : Hid (∀ j, j < 12 → (w4.cell? ⟨w.heap.size, 0 + j, none⟩).isSome = true) := HTHf.out w4 hz4
      have c0 := hz4.c0; have c1 := hz4.fam.c0; have c2 := hz4.fam.c1; have c3 := hz4.fam.c2; have c4 := hz4.fam.c3; have c5 := hz4.fam.c4; have c6 := hz4.fam.c5; have c7 := hz4.fam.c6; have c8 := hz4.fam.c7; have c9 := hz4.fam.c8; have c10 := hz4.c10; have c11 := hz4.c11
      have d0 := HE4.out.c0; have d1 := HE4.out.fam.c0; have d2 := HE4.out.fam.c1; have d3 := HE4.out.fam.c2; have d4 := HE4.out.fam.c3; have d5 := HE4.out.fam.c4; have d6 := HE4.out.fam.c5; have d7 := HE4.out.fam.c6; have d8 := HE4.out.fam.c7; have d9 := HE4.out.fam.c8; have d10 := HE4.out.c10; have d11 := HE4.out.c11
      simp only at d0 d1 d2 d3 d4 d5 d6 d7 d8 d9 d10 d11
      simp only [zeroE, zeroF] at c0 c1 c2 c3 c4 c5 c6 c7 c8 c9 c10 c11
      clear hz4 hb4 hwr k0 k1 k2 k3 k4 k5 k6 k7 k8 k9 k10 k11
      go_wp2_with fail
      have hth : ∀ j, j < ([.int .i64 0, .int .i64 0, .string ⟨#[]⟩, .string ⟨#[]⟩, .string ⟨#[]⟩, .int .i64 0, .int .i64 0, .int .i64 0, .string ⟨#[]⟩, .bool false, .int .i64 0, .int .i64 0] : List Value).length → (w4.cell? ⟨w.heap.size, 0 + j, none⟩).isSome = true := HTH.out
      have HBF : Hid (Below w.heap.size w (w4.setCells w.heap.size 0 [.int .i64 0, .int .i64 0, .string ⟨#[]⟩, .string ⟨#[]⟩, .string ⟨#[]⟩, .int .i64 0, .int .i64 0, .int .i64 0, .string ⟨#[]⟩, .bool false, .int .i64 0, .int .i64 0])) := HB4.out.trans (below_setCellsW (Nat.le_refl _) _ 0 w4)
      have q0 := World.cell?_setCells_in w.heap.size [.int .i64 0, .int .i64 0, .string ⟨#[]⟩, .string ⟨#[]⟩, .string ⟨#[]⟩, .int .i64 0, .int .i64 0, .int .i64 0, .string ⟨#[]⟩, .bool false, .int .i64 0, .int .i64 0] 0 w4 hth 0 (by simp)
      have q1 := World.cell?_setCells_in w.heap.size [.int .i64 0, .int .i64 0, .string ⟨#[]⟩, .string ⟨#[]⟩, .string ⟨#[]⟩, .int .i64 0, .int .i64 0, .int .i64 0, .string ⟨#[]⟩, .bool false, .int .i64 0, .int .i64 0] 0 w4 hth 1 (by simp)
      have q2 := World.cell?_setCells_in w.heap.size [.int .i64 0, .int .i64 0, .string ⟨#[]⟩, .string ⟨#[]⟩, .string ⟨#[]⟩, .int .i64 0, .int .i64 0, .int .i64 0, .string ⟨#[]⟩, .bool false, .int .i64 0, .int .i64 0] 0 w4 hth 2 (by simp)
      have q3 := World.cell?_setCells_in w.heap.size [.int .i64 0, .int .i64 0, .string ⟨#[]⟩, .string ⟨#[]⟩, .string ⟨#[]⟩, .int .i64 0, .int .i64 0, .int .i64 0, .string ⟨#[]⟩, .bool false, .int .i64 0, .int .i64 0] 0 w4 hth 3 (by simp)
      have q4 := World.cell?_setCells_in w.heap.size [.int .i64 0, .int .i64 0, .string ⟨#[]⟩, .string ⟨#[]⟩, .string ⟨#[]⟩, .int .i64 0, .int .i64 0, .int .i64 0, .string ⟨#[]⟩, .bool false, .int .i64 0, .int .i64 0] 0 w4 hth 4 (by simp)
      have q5 := World.cell?_setCells_in w.heap.size [.int .i64 0, .int .i64 0, .string ⟨#[]⟩, .string ⟨#[]⟩, .string ⟨#[]⟩, .int .i64 0, .int .i64 0, .int .i64 0, .string ⟨#[]⟩, .bool false, .int .i64 0, .int .i64 0] 0 w4 hth 5 (by simp)
      have q6 := World.cell?_setCells_in w.heap.size [.int .i64 0, .int .i64 0, .string ⟨#[]⟩, .string ⟨#[]⟩, .string ⟨#[]⟩, .int .i64 0, .int .i64 0, .int .i64 0, .string ⟨#[]⟩, .bool false, .int .i64 0, .int .i64 0] 0 w4 hth 6 (by simp)
      have q7 := World.cell?_setCells_in w.heap.size [.int .i64 0, .int .i64 0, .string ⟨#[]⟩, .string ⟨#[]⟩, .string ⟨#[]⟩, .int .i64 0, .int .i64 0, .int .i64 0, .string ⟨#[]⟩, .bool false, .int .i64 0, .int .i64 0] 0 w4 hth 7 (by simp)
      have q8 := World.cell?_setCells_in w.heap.size [.int .i64 0, .int .i64 0, .string ⟨#[]⟩, .string ⟨#[]⟩, .string ⟨#[]⟩, .int .i64 0, .int .i64 0, .int .i64 0, .string ⟨#[]⟩, .bool false, .int .i64 0, .int .i64 0] 0 w4 hth 8 (by simp)
      have q9 := World.cell?_setCells_in w.heap.size [.int .i64 0, .int .i64 0, .string ⟨#[]⟩, .string ⟨#[]⟩, .string ⟨#[]⟩, .int .i64 0, .int .i64 0, .int .i64 0, .string ⟨#[]⟩, .bool false, .int .i64 0, .int .i64 0] 0 w4 hth 9 (by simp)
      have q10 := World.cell?_setCells_in w.heap.size [.int .i64 0, .int .i64 0, .string ⟨#[]⟩, .string ⟨#[]⟩, .string ⟨#[]⟩, .int .i64 0, .int .i64 0, .int .i64 0, .string ⟨#[]⟩, .bool false, .int .i64 0, .int .i64 0] 0 w4 hth 10 (by simp)
      have q11 := World.cell?_setCells_in w.heap.size [.int .i64 0, .int .i64 0, .string ⟨#[]⟩, .string ⟨#[]⟩, .string ⟨#[]⟩, .int .i64 0, .int .i64 0, .int .i64 0, .string ⟨#[]⟩, .bool false, .int .i64 0, .int .i64 0] 0 w4 hth 11 (by simp)
      generalize hWW : World.setCell _ ⟨w.heap.size, 11, none⟩ _ = WW
      have hW2 : w4.setCells w.heap.size 0 [.int .i64 0, .int .i64 0, .string ⟨#[]⟩, .string ⟨#[]⟩, .string ⟨#[]⟩, .int .i64 0, .int .i64 0, .int .i64 0, .string ⟨#[]⟩, .bool false, .int .i64 0, .int .i64 0] = WW := hWW
      have HB5 : Hid (Below w.heap.size w WW) := by rw [← hW2]; exact HBF.out
      rw [hW2] at q0 q1 q2 q3 q4 q5 q6 q7 q8 q9 q10 q11
      simp only [Nat.zero_add, List.getElem_cons_zero, List.getElem_cons_succ] at q0 q1 q2 q3 q4 q5 q6 q7 q8 q9 q10 q11
      exact bodyPost_ret (v := .tuple #[.agg #[.int .i64 0, .int .i64 0, .string ⟨#[]⟩, .string ⟨#[]⟩, .string ⟨#[]⟩, .int .i64 0, .int .i64 0, .int .i64 0, .string ⟨#[]⟩, .bool false, .int .i64 0, .int .i64 0], .int .i64 3]) (by simp [results, Tryz.results19, go_sem, q0, q1, q2, q3, q4, q5, q6, q7, q8, q9, q10, q11]) rfl ⟨.inr ⟨HNS.out, rfl⟩, HB5.out⟩
end Go.Proofs.YtlailakofhenkaaGreatDoor
