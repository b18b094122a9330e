/-
  Own texts put together: StEnc, RowApp, ScRow, ScIns, ScWalk, EvLibs.
-/
import Derived.Test.YtlailakofhenkabGreatDoorB2
import Derived.Test.YtlailakofhenkabGreatDoorB1
import Derived.WalkKit
import Derived.WalkSpells
import Derived.Lib.ConvBytes
import Derived.BigQuiet
import Derived.Laws.IdiomCopy
import Derived.Test.YtlailakofhenkabGreatDoorShelf
import Derived.Deep.LoopGhost
import Derived.Lib.QuietBelow
import Derived.Lib.SmallJoins
namespace Go.Proofs.YtlailakofhenkabGreatDoor.Ev
open Go.Lib Tok Sc
structure TagOk (τ : List UInt8 → List UInt8) : Prop where
  len : ∀ l, (τ l).length = 16
  no : ∀ l, (32 : UInt8) ∉ τ l
def sealL (τ : List UInt8 → List UInt8) (t : List UInt8) : List UInt8 := τ t ++ 32 :: t
def evL (s : Nat) (e : E) : List UInt8 := itoa s ++ 32 :: line e
def hdWs (s : Nat) (c nx : Int) (n : Nat) : List Word := [itoa s, itoa c, itoa nx, itoa n]
def hdL (s : Nat) (c nx : Int) (n : Nat) : List UInt8 := join (hdWs s c nx n) [32]
def txtE : Option (Nat × E) → List UInt8
  | none => []
  | some (s, e) => evL s e
def txtH : Option (Nat × Int × Int × Nat) → List UInt8
  | none => []
  | some (s, c, nx, n) => hdL s c nx n
def inBlock (τ : List UInt8 → List UInt8) (t : List UInt8) : List UInt8 := if t = [] then [] else sealL τ t
def txtAt (A : AD) (k : Nat) : List UInt8 := if k = 16 then txtH (A.head 0) else if k = 37 then txtH (A.head 1) else txtE (A.blk k)
def EncF (τ : List UInt8 → List UInt8) (F : Int → ByteArray) (A : AD) : Prop := ∀ k : Nat, k < 90 → F k = (⟨(inBlock τ (txtAt A k)).toArray⟩ : ByteArray)
theorem evL_ne (s : Nat) (e : E) : evL s e ≠ [] := by unfold evL; simp
theorem hdL_ne (s : Nat) (c nx : Int) (n : Nat) : hdL s c nx n ≠ [] := by
  unfold hdL hdWs
  rw [glue_two]; simp
theorem hdL_is (s : Nat) (c nx : Int) (n : Nat) : hdL s c nx n = itoa s ++ 32 :: (itoa c ++ 32 :: (itoa nx ++ 32 :: itoa n)) := by
  unfold hdL hdWs
  rw [glue_two, glue_two, glue_two]
  simp [join]
theorem txtAt_head {A : AD} {sl : Nat} (hs : sl < 2) : txtAt A (16 + 21 * sl) = txtH (A.head sl) := by
  unfold txtAt
  rcases (show sl = 0 ∨ sl = 1 by omega) with rfl | rfl <;> simp
theorem enc_empty (τ : List UInt8 → List UInt8) : EncF τ (fun _ => ⟨#[]⟩) emptyD := fun k _ => by
  have : txtAt emptyD k = [] := by unfold txtAt emptyD; simp [txtH, txtE]
  rw [this]; unfold inBlock; rw [if_pos rfl]
theorem enc_blk {τ : List UInt8 → List UInt8} {F F' : Int → ByteArray} {A : AD} (h : EncF τ F A) (k : Nat) (hk : k ≠ 16 ∧ k ≠ 37) (s : Nat) (e : E) (h1 : F' k = (⟨(sealL τ (evL s e)).toArray⟩ : ByteArray)) (h2 : ∀ j : Int, j ≠ k → F' j = F j) : EncF τ F' ⟨updN A.blk k (some (s, e)), A.head⟩ := fun j hj => by
  by_cases hjk : j = k
  · subst hjk
    rw [h1]
    have : txtAt ⟨updN A.blk j (some (s, e)), A.head⟩ j = evL s e := by unfold txtAt updN; rw [if_neg hk.1, if_neg hk.2]; simp [txtE]
    rw [this]; unfold inBlock; rw [if_neg (evL_ne s e)]
  · rw [h2 j (by omega), h j hj]
    have : txtAt ⟨updN A.blk k (some (s, e)), A.head⟩ j = txtAt A j := by unfold txtAt updN; simp only [if_neg hjk]
    rw [this]
theorem enc_head {τ : List UInt8 → List UInt8} {F F' : Int → ByteArray} {A : AD} (h : EncF τ F A) (sl : Nat) (hs : sl < 2) (s : Nat) (c nx : Int) (n : Nat) (h1 : F' ((16 + 21 * sl : Nat) : Int) = (⟨(sealL τ (hdL s c nx n)).toArray⟩ : ByteArray)) (h2 : ∀ j : Int, j ≠ ((16 + 21 * sl : Nat) : Int) → F' j = F j) : EncF τ F' ⟨A.blk, updN A.head sl (some (s, c, nx, n))⟩ := fun j hj => by
  by_cases hjk : j = 16 + 21 * sl
  · subst hjk
    rw [h1]
    have : txtAt ⟨A.blk, updN A.head sl (some (s, c, nx, n))⟩ (16 + 21 * sl) = hdL s c nx n := by rw [txtAt_head hs]; unfold updN; simp [txtH]
    rw [this]; unfold inBlock; rw [if_neg (hdL_ne s c nx n)]
  · rw [h2 j (by omega), h j hj]
    have : txtAt ⟨A.blk, updN A.head sl (some (s, c, nx, n))⟩ j = txtAt A j := by
      unfold txtAt updN
      rcases (show sl = 0 ∨ sl = 1 by omega) with rfl | rfl
      · have h16 : j ≠ 16 := by omega
        simp [h16]
      · have h37 : j ≠ 37 := by omega
        simp [h37]
    rw [this]
theorem seal_len {τ : List UInt8 → List UInt8} (h : TagOk τ) (t : List UInt8) : (sealL τ t).length = t.length + 17 := by
  unfold sealL
  rw [List.length_append, h.len, List.length_cons]; omega
theorem cut_seal {τ : List UInt8 → List UInt8} (h : TagOk τ) (t : List UInt8) : cut (sealL τ t) [32] = (τ t, t, true) := cut_at t (h.no t)
theorem cut_ev {s : Nat} (hs : okN s) (e : E) : cut (evL s e) [32] = (itoa s, line e, true) := cut_at (line e) (itoa_no hs (by decide))
theorem evL_len {s : Nat} (hs : okN s) {e : E} (he : Ev.may e) : (evL s e).length ≤ 194 := by
  have h1 := digits13 hs
  have h2 := line_len he
  unfold evL
  rw [List.length_append, List.length_cons]; omega
theorem hd_no {s : Nat} {c nx : Int} {n : Nat} (h1 : 0 ≤ c) (h2 : 0 ≤ nx) : ∀ y ∈ hdWs s c nx n, (32 : UInt8) ∉ y := by
  have hz : ∀ {m : Int}, 0 ≤ m → (32 : UInt8) ∉ itoa m := fun {m} hm hx => by
    rw [itoa_pos hm] at hx
    have := dec_digits _ _ hx
    simp at this
  intro y hy
  unfold hdWs at hy
  simp only [List.mem_cons, List.not_mem_nil, or_false] at hy
  rcases hy with rfl | rfl | rfl | rfl
  · exact hz (by omega)
  · exact hz h1
  · exact hz h2
  · exact hz (by omega)
theorem parts_hd {s : Nat} {c nx : Int} {n : Nat} (h1 : 0 ≤ c) (h2 : 0 ≤ nx) : parts 32 (hdL s c nx n) = hdWs s c nx n := parts_glue _ _ (hd_no h1 h2)
theorem hdL_len {s : Nat} {c nx : Int} {n : Nat} (h0 : okN s) (h1 : okN c) (h2 : okN (nx - 1)) (h3 : n ≤ 20) : (hdL s c nx n).length ≤ 55 := by
  have d1 := digits13 h0
  have d2 := digits13 h1
  have d3 := digits13 (n := (n : Int)) ⟨by omega, by omega⟩
  have d4 : (itoa nx).length ≤ 13 := by
    by_cases hx : nx ≤ 1099511627776
    · exact digits13 ⟨by have := h2.1; omega, hx⟩
    · obtain rfl : nx = 1099511627777 := by have := h2.2; omega
      decide +kernel
  rw [hdL_is]
  simp only [List.length_append, List.length_cons]
  omega
end Go.Proofs.YtlailakofhenkabGreatDoor.Ev

namespace Go.Proofs.YtlailakofhenkabGreatDoor
open Go Go.RowKit
structure RowAt (B : Nat) (w : World) (g c n : Nat) (cs : List Value) : Prop where
  new : B ≤ g
  lt : g < w.heap.size
  len : cs.length = n
  le : n ≤ c
  max : c ≤ maxLen
  holds : ∀ j u, cs[j]? = some u → w.cell? ⟨g, j, none⟩ = some u
  there : ∀ j, j < c → (w.cell? ⟨g, j, none⟩).isSome = true ∧ w.frozen? ⟨g, j, none⟩ = false
theorem RowAt.block {B : Nat} {w w' : World} {g c n : Nat} {cs : List Value} (h : RowAt B w g c n cs) (hs : w.heap.size ≤ w'.heap.size) (hb : w'.heap[g]? = w.heap[g]?) : RowAt B w' g c n cs :=
  ⟨h.new, Nat.lt_of_lt_of_le h.lt hs, h.len, h.le, h.max, fun j u hj => (World.cell?_of_block (a := ⟨g, j, none⟩) hb).trans (h.holds j u hj),
    fun j hj => ⟨by rw [World.cell?_of_block (a := ⟨g, j, none⟩) hb]; exact (h.there j hj).1, (World.frozen?_of_block (a := ⟨g, j, none⟩) hb).trans (h.there j hj).2⟩⟩
theorem RowAt.below {B B' : Nat} {w w' : World} {g c n : Nat} {cs : List Value} (h : RowAt B w g c n cs) (hb : Below B' w w') (hg : g < B') : RowAt B w' g c n cs := h.block hb.size (hb.block g hg)
theorem RowAt.alloc {B : Nat} {w : World} {g c n : Nat} {cs : List Value} (h : RowAt B w g c n cs) (o : Obj) : RowAt B (w.alloc o) g c n cs := h.block (by simp) (Below.heap_alloc _ _ _ h.lt)
theorem RowAt.drew {B : Nat} {w : World} {g c n : Nat} {cs : List Value} (h : RowAt B w g c n cs) : RowAt B w.drew g c n cs := h.block (Nat.le_refl _) rfl
theorem RowAt.drewN {B : Nat} {w : World} {g c n : Nat} {cs : List Value} (h : RowAt B w g c n cs) (k : Nat) : RowAt B (w.drewN k) g c n cs := h.block (Nat.le_refl _) rfl
theorem RowAt.setCell {B : Nat} {w : World} {g c n : Nat} {cs : List Value} (h : RowAt B w g c n cs) {a : Addr} (ha : a.block ≠ g) (u : Value) : RowAt B (w.setCell a u) g c n cs :=
  h.block (by simp [World.setCell]) (Below.heap_setCell _ _ _ _ (Ne.symm ha))
end Go.Proofs.YtlailakofhenkabGreatDoor

namespace Go.Proofs.YtlailakofhenkabGreatDoor
open Go Go.RowKit
def Words (B : Nat) (w : World) (v : Value) (xs : List ByteArray) : Prop :=
  (v = .slice none 0 0 ∧ xs = []) ∨ ∃ g c, v = .slice (some ⟨g, 0, none⟩) xs.length c ∧ RowAt B w g c xs.length (xs.map Value.string)
theorem Words.below {B B' : Nat} {w w' : World} {v : Value} {xs : List ByteArray} (h : Words B w v xs) (hb : Below B' w w') (hB : w.heap.size ≤ B') : Words B w' v xs := by
  rcases h with ⟨rfl, rfl⟩ | ⟨g, c, rfl, hr⟩
  · exact .inl ⟨rfl, rfl⟩
  · exact .inr ⟨g, c, rfl, hr.below hb (Nat.lt_of_lt_of_le hr.lt hB)⟩
theorem Words.mono {B B' : Nat} {w : World} {v : Value} {xs : List ByteArray} (h : Words B w v xs) (hB : B' ≤ B) : Words B' w v xs := by
  rcases h with ⟨rfl, rfl⟩ | ⟨g, c, rfl, hr⟩
  · exact .inl ⟨rfl, rfl⟩
  · exact .inr ⟨g, c, rfl, ⟨Nat.le_trans hB hr.new, hr.lt, hr.len, hr.le, hr.max, hr.holds, hr.there⟩⟩
theorem ins_get {α : Type} (cs : List α) (i : Nat) (hi : i ≤ cs.length) (u : α) (j : Nat) : (cs.take i ++ u :: cs.drop i)[j]? = if j < i then cs[j]? else if j = i then some u else cs[j - 1]? := by
  have hl : (cs.take i).length = i := by rw [List.length_take]; omega
  by_cases h1 : j < i
  · rw [if_pos h1, List.getElem?_append_left (by omega), List.getElem?_take, if_pos h1]
  · rw [if_neg h1, List.getElem?_append_right (by omega), hl]
    by_cases h2 : j = i
    · subst h2; simp
    · rw [if_neg h2]
      obtain ⟨d, rfl⟩ : ∃ d, j = i + (d + 1) := ⟨j - i - 1, by omega⟩
      rw [show i + (d + 1) - i = d + 1 by omega, List.getElem?_cons_succ, List.getElem?_drop]
      congr 1
theorem ins_len {α : Type} (cs : List α) (i : Nat) (hi : i ≤ cs.length) (u : α) : (cs.take i ++ u :: cs.drop i).length = cs.length + 1 := by
  rw [List.length_append, List.length_take, List.length_cons, List.length_drop]; omega
theorem below_setCellsW {B g : Nat} (hg : B ≤ g) : ∀ (vs : List Value) (o : Nat) (w : World), Below B w (w.setCells g o vs)
  | [], _, w => Below.refl _ w
  | v :: vs, o, w => ((Below.refl B w).setCell (p := ⟨g, o, none⟩) hg v).trans (below_setCellsW hg vs (o + 1) _)
theorem RowAt.setCells {B : Nat} {w : World} {g c n : Nat} {cs cs' : List Value} (h : RowAt B w g c n cs) (o : Nat) (vs : List Value) (ho : o + vs.length ≤ c) (hc : cs'.length ≤ c)
    (hh : ∀ j u, cs'[j]? = some u → (o ≤ j ∧ j < o + vs.length → vs[j - o]? = some u) ∧ (¬ (o ≤ j ∧ j < o + vs.length) → w.cell? ⟨g, j, none⟩ = some u)) : RowAt B (w.setCells g o vs) g c cs'.length cs' := by
  have hthere : ∀ j, j < vs.length → (w.cell? ⟨g, o + j, none⟩).isSome = true := fun j hj => (h.there (o + j) (by omega)).1
  refine ⟨h.new, ?_, rfl, hc, h.max, fun j u hj => ?_, fun j hj => ⟨?_, ?_⟩⟩
  · have hb := below_setCellsW (B := 0) (Nat.zero_le g) vs o w
    exact Nat.lt_of_lt_of_le h.lt hb.size
  · by_cases hin : o ≤ j ∧ j < o + vs.length
    · obtain ⟨d, rfl⟩ : ∃ d, j = o + d := ⟨j - o, by omega⟩
      have hv := (hh _ u hj).1 hin
      rw [show o + d - o = d by omega] at hv
      have hd : d < vs.length := (List.getElem?_eq_some_iff.1 hv).1
      rw [World.cell?_setCells_in g vs o w hthere d hd, ← hv, List.getElem?_eq_getElem hd]
    · rw [World.cell?_setCells_out g vs o w ⟨g, j, none⟩ (fun _ _ => by show j < o ∨ o + vs.length ≤ j; omega)]
      exact (hh _ u hj).2 hin
  · by_cases hin : o ≤ j ∧ j < o + vs.length
    · obtain ⟨d, rfl⟩ : ∃ d, j = o + d := ⟨j - o, by omega⟩
      rw [World.cell?_setCells_in g vs o w hthere d (by omega)]
      rfl
    · rw [World.cell?_setCells_out g vs o w ⟨g, j, none⟩ (fun _ _ => by show j < o ∨ o + vs.length ≤ j; omega)]
      exact (h.there j hj).1
  · rw [World.frozen?_setCells]
    exact (h.there j hj).2
theorem rowAt_new {B : Nat} {w : World} (hB : B ≤ w.heap.size) (cs : List Value) (n : Nat) (hn : cs.length = n) (z : Value) (G : Nat) (t : TypeId) (hm : G ≤ maxLen) (hl : n ≤ G) : RowAt B (w.alloc (.cells (cs.toArray ++ Builtin.zeroCells #[z] (G - n)) t)) w.heap.size G n cs := by
  have hs : (cs.toArray ++ Builtin.zeroCells #[z] (G - n)).size = G := by rw [Array.size_append, size_zeroCells]; simp; omega
  refine ⟨hB, by simp, hn, by omega, hm, fun j u hj => ?_, fun j hj => ⟨?_, World.frozen?_alloc_at _ _ _ _ (by simp)⟩⟩
  · have hl := (List.getElem?_eq_some_iff.1 hj).1
    rw [World.cell?_alloc_at _ _ _ _ (by simp), Array.getElem?_append_left (by simpa using hl)]
    simpa using hj
  · rw [World.cell?_alloc_at _ _ _ _ (by simp), Array.getElem?_eq_getElem (by rw [hs]; exact hj)]
    rfl
end Go.Proofs.YtlailakofhenkabGreatDoor

namespace Go.Proofs.YtlailakofhenkabGreatDoor
open Go Go.RowKit
theorem insert_is {B : Nat} {w : World} {v : Value} {xs : List ByteArray} (h : Words B w v xs) (i : Nat) (hi : i ≤ xs.length) (hn : xs.length ≤ 5000) (hB : B ≤ w.heap.size) (x : ByteArray) (t : TypeId) :
    Calls Tryz.prog 277 #[v, .int .i64 i, .slice (some ⟨w.heap.size, 0, none⟩) 1 1] (w.alloc (.cells #[.string x] t)) fun e w' => ∃ v', e = .returned v' ∧ Words B w' v' (xs.take i ++ x :: xs.drop i) ∧ Below B w w' := by
  have hbW : Below B w (w.alloc (.cells #[.string x] t)) := (Below.refl _ _).alloc hB _
  have hvs : ∀ j u, [Value.string x][j]? = some u → (w.alloc (.cells #[.string x] t)).cell? ⟨w.heap.size, 0 + j, none⟩ = some u := by
    intro j u hj
    match j, hj with
    | 0, hj => simp at hj; subst hj; simp
    | j + 1, hj => simp at hj
  have h1v : ∀ v ∈ [Value.string x], v.oneCell' = true := by intro v hv; simp at hv; subst hv; rfl
  have h1c : ∀ v ∈ xs.map Value.string, v.oneCell' = true := by
    intro v hv
    obtain ⟨y, _, rfl⟩ := List.mem_map.1 hv
    rfl
  have hmap : (xs.take i ++ x :: xs.drop i).map Value.string = (xs.map Value.string).take i ++ .string x :: (xs.map Value.string).drop i := by simp
  have hxl : (xs.take i ++ x :: xs.drop i).length = xs.length + 1 := ins_len xs i hi x
  have hcl : (xs.map Value.string).length = xs.length := by simp
  have hmaxW : xs.length + 1 ≤ maxLen := by unfold maxLen; omega
  rcases h with ⟨rfl, rfl⟩ | ⟨g, c, rfl, hr⟩
  · obtain rfl : i = 0 := by simpa using hi
    refine (Any2.slices_Insert_string_end_grow Tryz.laysNm222 none 0 0 w.heap.size 0 1 1 [] [.string x] _ (by omega) (by omega) (by omega) (by omega) rfl rfl (fun _ => rfl) (fun a ha => by cases ha) hvs h1v).mono ?_
    rintro e w' ⟨rfl, rfl⟩
    refine ⟨_, rfl, .inr ⟨_, _, rfl, ?_⟩, (hbW.drew).alloc (by simp; omega) _⟩
    have hg := grownCap_le_maxLen (w.alloc (.cells #[.string x] t)) (0 + 1) 0 9 (by unfold maxLen; omega)
    have hg1 := grownCap_ge (w.alloc (.cells #[.string x] t)) (0 + 1) 0 9
    exact rowAt_new (B := B) (w := (w.alloc (.cells #[.string x] t)).drew) (by simp; omega) [.string x] 1 rfl (.string ⟨#[]⟩) _ 9 hg hg1
  · have hrW : RowAt B (w.alloc (.cells #[.string x] t)) g c xs.length (xs.map Value.string) := hr.alloc _
    have hgw : w.heap.size ≠ g := by have := hr.lt; omega
    have hc63 : c ≤ 9223372036854775807 := hr.max
    have hcs : ∀ j v, (xs.map Value.string)[j]? = some v → (w.alloc (.cells #[.string x] t)).cell? ⟨g, 0 + j, none⟩ = some v := fun j v hj => by rw [Nat.zero_add]; exact hrW.holds j v hj
    have hg := grownCap_le_maxLen (w.alloc (.cells #[.string x] t)) (xs.length + 1) c 9 hmaxW
    have hg1 := grownCap_ge (w.alloc (.cells #[.string x] t)) (xs.length + 1) c 9
    by_cases hin : i = xs.length
    · subst hin
      by_cases hroom : xs.length + 1 ≤ c
      · refine (Any2.slices_Insert_string_end_room Tryz.laysNm222 g 0 xs.length c w.heap.size 0 1 1 [.string x] _ (by omega) hroom hc63 rfl (fun j hj => by rw [Nat.zero_add]; exact (hrW.there _ (by omega)).1) (fun j hj => by rw [Nat.zero_add]; exact (hrW.there _ (by omega)).2) hvs h1v).mono ?_
        rintro e w' ⟨rfl, rfl⟩
        refine ⟨_, rfl, .inr ⟨g, c, by rw [hxl], ?_⟩, hbW.trans (below_setCellsW hr.new _ _ _)⟩
        rw [show (xs.take xs.length ++ x :: xs.drop xs.length).length = ((xs.take xs.length ++ x :: xs.drop xs.length).map Value.string).length by simp]
        refine hrW.setCells _ _ (by simp; omega) (by rw [List.length_map, hxl]; omega) (fun j u hj => ?_)
        rw [hmap, ins_get _ _ (by rw [hcl]; omega)] at hj
        refine ⟨fun hh => ?_, fun hh => ?_⟩
        · have : j = xs.length := by simp at hh; omega
          subst this
          rw [if_neg (by omega), if_pos rfl] at hj
          simpa using hj
        · simp only [Nat.zero_add, List.length_singleton] at hh
          by_cases hj1 : j < xs.length
          · rw [if_pos hj1] at hj
            exact hrW.holds j u hj
          · rw [if_neg hj1, if_neg (by omega)] at hj
            have := (List.getElem?_eq_some_iff.1 hj).1
            simp at this
            omega
      · refine (Any2.slices_Insert_string_end_grow Tryz.laysNm222 (some ⟨g, 0, none⟩) xs.length c w.heap.size 0 1 1 (xs.map Value.string) [.string x] _ (by omega) hr.le (by omega) (by omega) hcl rfl (fun h => by cases h) (fun a ha j u hj => by
          cases ha
          rw [Addr.add_lit]
          exact hcs j u hj) hvs h1v).mono ?_
        rintro e w' ⟨rfl, rfl⟩
        refine ⟨_, rfl, .inr ⟨_, _, by rw [hxl], ?_⟩, (hbW.drew).alloc (by simp; omega) _⟩
        rw [hmap, hxl, show List.take xs.length (xs.map Value.string) ++ Value.string x :: List.drop xs.length (xs.map Value.string) = xs.map Value.string ++ [.string x] by
          rw [List.take_of_length_le (by simp), List.drop_of_length_le (by simp)]]
        exact rowAt_new (B := B) (w := (w.alloc (.cells #[.string x] t)).drew) (by simp; omega) (xs.map Value.string ++ [.string x]) (xs.length + 1) (by simp) (.string ⟨#[]⟩) _ 9 hg hg1
    · have hlt : i < xs.length := by omega
      by_cases hroom : xs.length + 1 ≤ c
      · obtain ⟨u0, hu0⟩ := Option.isSome_iff_exists.1 (hrW.there 0 (by omega)).1
        obtain ⟨tB, kB, hsb, hkB, _⟩ := World.shape?_of_cell? hu0
        have hsa : (w.alloc (.cells #[.string x] t)).shape? w.heap.size = some (t, 1) := by unfold World.shape?; rw [show (w.alloc (.cells #[.string x] t)).heap[w.heap.size]? = some (.cells #[.string x] t) from Array.getElem?_push_size]; rfl
        refine (Any2.slices_Insert_string_shift Tryz.laysNm222 g 0 xs.length c i w.heap.size 0 1 1 (xs.map Value.string) [.string x] _ hlt (by omega) hroom hc63 hgw hcl rfl hcs (fun j hj => by rw [Nat.zero_add]; exact (hrW.there j (by omega)).1) (fun j hj => by rw [Nat.zero_add]; exact (hrW.there j (by omega)).2) hvs h1c h1v t tB 1 kB hsa hsb (by simp at hkB; omega) (World.frozen?_alloc_at _ _ _ _ rfl) (World.frozen?_alloc_at _ _ _ _ rfl)).mono ?_
        rintro e w' ⟨rfl, rfl⟩
        refine ⟨_, rfl, .inr ⟨g, c, by rw [hxl], ?_⟩, (hbW.drew.trans (below_setCellsW hr.new _ _ _)).trans (below_setCellsW hr.new _ _ _)⟩
        rw [show (xs.take i ++ x :: xs.drop i).length = ((xs.take i ++ x :: xs.drop i).map Value.string).length by simp]
        have hmid : RowAt B ((w.alloc (.cells #[.string x] t)).drew.setCells g (0 + (i + 1)) ((xs.map Value.string).drop i)) g c (((xs.map Value.string).take (i + 1)) ++ (xs.map Value.string).drop i).length (((xs.map Value.string).take (i + 1)) ++ (xs.map Value.string).drop i) := by
          have hl1 : ((xs.map Value.string).take (i + 1)).length = i + 1 := by rw [List.length_take, hcl]; omega
          refine hrW.drew.setCells _ _ (by rw [List.length_drop, hcl]; omega) (by rw [List.length_append, hl1, List.length_drop, hcl]; omega) (fun j u hj => ⟨fun hh => ?_, fun hh => ?_⟩)
          · rw [List.getElem?_append_right (by omega), hl1] at hj
            rw [show j - (0 + (i + 1)) = j - (i + 1) by omega]
            exact hj
          · by_cases hj1 : j < i + 1
            · rw [List.getElem?_append_left (by omega), List.getElem?_take, if_pos hj1] at hj
              exact hrW.drew.holds j u hj
            · exfalso
              have := (List.getElem?_eq_some_iff.1 hj).1
              rw [List.length_append, hl1] at this
              omega
        refine hmid.setCells _ _ (by simp; omega) (by rw [List.length_map, hxl]; omega) (fun j u hj => ?_)
        rw [hmap, ins_get _ _ (by rw [hcl]; omega)] at hj
        have hl1 : ((xs.map Value.string).take (i + 1)).length = i + 1 := by rw [List.length_take, hcl]; omega
        refine ⟨fun hh => ?_, fun hh => ?_⟩
        · have : j = i := by simp at hh; omega
          subst this
          rw [if_neg (by omega), if_pos rfl] at hj
          simpa using hj
        · simp only [Nat.zero_add, List.length_singleton] at hh
          by_cases hj1 : j < i
          · rw [if_pos hj1] at hj
            refine hmid.holds j u ?_
            rw [List.getElem?_append_left (by omega), List.getElem?_take, if_pos (by omega)]
            exact hj
          · rw [if_neg hj1, if_neg (by omega)] at hj
            refine hmid.holds j u ?_
            rw [List.getElem?_append_right (by omega), hl1, List.getElem?_drop, show i + (j - (i + 1)) = j - 1 by omega]
            exact hj
      · refine (Any2.slices_Insert_string_grow Tryz.laysNm222 g 0 xs.length c i w.heap.size 0 1 1 (xs.map Value.string) [.string x] _ hlt (by omega) hr.le (by omega) (by omega) hcl rfl hcs hvs h1c h1v).mono ?_
        rintro e w' ⟨rfl, rfl⟩
        generalize hW : w.alloc (.cells #[.string x] t) = W at *
        have hBW : B ≤ W.heap.size := Nat.le_trans hB hbW.size
        refine ⟨_, rfl, .inr ⟨_, _, by rw [hxl], ?_⟩, (((hbW.alloc hBW _).drew.trans (below_setCellsW hBW _ _ _)).drew).trans (below_setCellsW hBW _ _ _)⟩
        rw [show (xs.take i ++ x :: xs.drop i).length = ((xs.take i ++ x :: xs.drop i).map Value.string).length by simp]
        have hti : ((xs.map Value.string).take i).length = i := by rw [List.length_take, hcl]; omega
        have h0 : RowAt B (W.alloc (.cells (((xs.map Value.string).take i).toArray ++ Builtin.zeroCells (Value.string ⟨#[]⟩).cells (xs.length + 1 - i) ++ Builtin.zeroCells (Value.string ⟨#[]⟩).cells (grownCap W (xs.length + 1) c 9 - (xs.length + 1))) 9)) W.heap.size (grownCap W (xs.length + 1) c 9) i ((xs.map Value.string).take i) := by
          have hs : (((xs.map Value.string).take i).toArray ++ Builtin.zeroCells (Value.string ⟨#[]⟩).cells (xs.length + 1 - i) ++ Builtin.zeroCells (Value.string ⟨#[]⟩).cells (grownCap W (xs.length + 1) c 9 - (xs.length + 1))).size = grownCap W (xs.length + 1) c 9 := by
            rw [Array.size_append, Array.size_append, size_zeroCells, size_zeroCells]
            simp [Value.cells, hti]
            omega
          refine ⟨hBW, by simp, hti, by omega, hg, fun j u hj => ?_, fun j hj => ⟨?_, World.frozen?_alloc_at _ _ _ _ (by simp)⟩⟩
          · have hl := (List.getElem?_eq_some_iff.1 hj).1
            rw [World.cell?_alloc_at _ _ _ _ (by simp), Array.append_assoc, Array.getElem?_append_left (by simpa using hl)]
            simpa using hj
          · rw [World.cell?_alloc_at _ _ _ _ (by simp), Array.getElem?_eq_getElem (by rw [hs]; exact hj)]
            rfl
        have hmid : RowAt B ((W.alloc (.cells (((xs.map Value.string).take i).toArray ++ Builtin.zeroCells (Value.string ⟨#[]⟩).cells (xs.length + 1 - i) ++ Builtin.zeroCells (Value.string ⟨#[]⟩).cells (grownCap W (xs.length + 1) c 9 - (xs.length + 1))) 9)).drew.setCells W.heap.size i [.string x]).drew W.heap.size (grownCap W (xs.length + 1) c 9) ((xs.map Value.string).take i ++ [Value.string x]).length ((xs.map Value.string).take i ++ [Value.string x]) := by
          refine (h0.drew.setCells _ _ (by simp; omega) (by rw [List.length_append, hti]; simp; omega) (fun j u hj => ⟨fun hh => ?_, fun hh => ?_⟩)).drew
          · have : j = i := by simp at hh; omega
            subst this
            rw [List.getElem?_append_right (by omega), hti] at hj
            exact hj
          · simp only [List.length_singleton] at hh
            by_cases hj1 : j < i
            · rw [List.getElem?_append_left (by omega)] at hj
              exact h0.drew.holds j u hj
            · exfalso
              have := (List.getElem?_eq_some_iff.1 hj).1
              rw [List.length_append, hti] at this
              simp at this
              omega
        refine hmid.setCells _ _ (by rw [List.length_drop, hcl]; omega) (by rw [List.length_map, hxl]; omega) (fun j u hj => ?_)
        rw [hmap, ins_get _ _ (by rw [hcl]; omega)] at hj
        refine ⟨fun hh => ?_, fun hh => ?_⟩
        · rw [if_neg (by omega), if_neg (by omega)] at hj
          rw [List.getElem?_drop, show i + (j - (i + 1)) = j - 1 by omega]
          exact hj
        · rw [List.length_drop, hcl] at hh
          by_cases hj1 : j < i
          · rw [if_pos hj1] at hj
            refine hmid.holds j u ?_
            rw [List.getElem?_append_left (by omega), List.getElem?_take, if_pos (by omega)]
            exact hj
          · rw [if_neg hj1] at hj
            by_cases hj2 : j = i
            · subst hj2
              rw [if_pos rfl] at hj
              refine hmid.holds j u ?_
              rw [List.getElem?_append_right (by omega), hti]
              simpa using hj
            · exfalso
              rw [if_neg hj2] at hj
              have := (List.getElem?_eq_some_iff.1 hj).1
              rw [hcl] at this
              omega
end Go.Proofs.YtlailakofhenkabGreatDoor

namespace Go.Proofs.YtlailakofhenkabGreatDoor
open Go Go.RowKit Sc
def LenOk (w : World) : Prop := ∃ m, w.cell? ⟨2, 0, none⟩ = some (.int .i64 m)
theorem LenOk.below {w w' : World} (h : LenOk w) (hb : Below w.heap.size w w') : LenOk w' := by
  obtain ⟨m, hm⟩ := h
  exact ⟨m, (hb.cell (p := ⟨2, 0, none⟩) (World.block_lt_of_cell? _ _ hm)).trans hm⟩
theorem LenOk.belowB {B : Nat} {w w' : World} (h : LenOk w) (hb : Below B w w') (hB : w.heap.size = B) : LenOk w' := h.below (hB ▸ hb)
theorem all_take (s : ByteArray) (k : Nat) (h : k < s.size) : (s.data.toList.take (k + 1)).all lowB = ((s.data.toList.take k).all lowB && lowB s[k]) := by
  rw [List.take_succ_eq_append_getElem (by simpa using h), List.all_append]
  simp
  rfl
theorem all_bad {s : ByteArray} {k : Nat} (h : k < s.size) (hb : lowB s[k] = false) : wordB s.data.toList = false := by
  cases hw : wordB s.data.toList with
  | false => rfl
  | true =>
    have := (wordB_iff.1 hw).2 s[k] (by
      show s.data[k] ∈ s.data.toList
      exact Array.mem_toList_iff.2 (Array.getElem_mem h))
    rw [hb] at this
    cases this
theorem word_full {s : ByteArray} (h : (s.data.toList.take s.size).all lowB = true) : wordB s.data.toList = !s.data.toList.isEmpty := by
  rw [List.take_of_length_le (by simp)] at h
  unfold wordB
  rw [h]
  cases s.data.toList <;> rfl
set_option maxRecDepth 100000 in
set_option maxHeartbeats 2000000 in
theorem isWord_is (s : ByteArray) (w : World) (hs : s.size ≤ 10000) : Calls Tryz.prog 275 #[.string s] w fun e w' => e = .returned (.bool (wordB s.data.toList)) ∧ w' = w := by
  have HBAD : Hid (∀ k (h : k < s.size), lowB s[k] = false → wordB s.data.toList = false) := fun k h => all_bad h
  have HT : Hid (∀ k (h : k < s.size), (s.data.toList.take (k + 1)).all lowB = ((s.data.toList.take k).all lowB && lowB s[k])) := all_take s
  have HF : Hid ((s.data.toList.take s.size).all lowB = true → wordB s.data.toList = !s.data.toList.isEmpty) := word_full
  go_enter Tryz.func275, Tryz.ntmps275
  go_wp2_with fail
  go_loopg [6] s.size (fun gk i wr => ∃ k : Nat, k + gk = s.size ∧ i = .int .i64 k ∧ Hid ((s.data.toList.take k).all lowB = true) ∧ wr = w)
  case atStart => exact ⟨0, by omega, rfl, by simp [Hid], rfl⟩
  case round =>
    obtain ⟨k, hk, rfl, HA, rfl⟩ := hrel
    have HK : Hid (k + gk = s.size) := hk
    have hks : k ≤ s.size := by omega
    clear hk
    by_cases hlt : k < s.size
    · have hltI : (k : Int) < (s.size : Int) := by omega
      by_cases h1 : 97 ≤ s[k].toNat
      · by_cases h2 : s[k].toNat ≤ 122
        · have HL : Hid (lowB s[k] = true) := lowB_t h1 h2
          go_wp2_with fail
          go_roundg (gk - 1)
          case measure => have := HK.out; omega
          case rel => exact ⟨k + 1, by have := HK.out; omega, by go_num, by show _ = true; rw [HT.out k hlt, HA.out, HL.out]; rfl, rfl⟩
        · have HW : Hid (wordB s.data.toList = false) := HBAD.out k hlt (lowB_f (by omega))
          go_wp2_with fail
          go_ret
          exact ⟨by rw [HW.out]; rfl, rfl⟩
      · have HW : Hid (wordB s.data.toList = false) := HBAD.out k hlt (lowB_f (by omega))
        go_wp2_with fail
        go_ret
        exact ⟨by rw [HW.out]; rfl, rfl⟩
    · obtain rfl : k = s.size := by omega
      have HW : Hid (wordB s.data.toList = !s.data.toList.isEmpty) := HF.out HA.out
      go_wp2_with fail
      go_ret
      exact ⟨by rw [HW.out, ← ByteArray.toList_eq]; rfl, rfl⟩
theorem formed_left {s : List UInt8} (h : s ≠ []) : formedB s = (left true s).all wordB := by
  unfold formedB
  rw [words_ne h]
  rfl
theorem blist (l : List UInt8) : (⟨l.toArray⟩ : ByteArray).data.toList = l := rfl
theorem bsize (l : List UInt8) : (⟨l.toArray⟩ : ByteArray).size = l.length := by simp [ByteArray.size]
theorem bne_list {s : ByteArray} (h : s ≠ ⟨#[]⟩) : s.data.toList ≠ [] := fun e => h (by
  apply ByteArray.ext
  exact Array.toList_inj.1 e)
set_option maxRecDepth 100000 in
set_option maxHeartbeats 2000000 in
theorem isScope_is (s : ByteArray) (w : World) (hs : s.size ≤ 5000) (hL : LenOk w) : Calls Tryz.prog 204 #[.string s] w fun e w' => e = .returned (.bool (formedB s.data.toList)) ∧ ∃ n, w' = w.drewN n := by
  have HL : Hid (LenOk w) := hL
  clear hL
  by_cases h0 : s = ⟨#[]⟩
  · subst h0
    go_enter Tryz.func204, Tryz.ntmps204
    go_wp2_with fail
    go_ret
    exact ⟨rfl, 0, rfl⟩
  · have HS : Hid (formedB s.data.toList = (left true s.data.toList).all wordB) := formed_left (bne_list h0)
    have hne : s.toList.isEmpty = false := by
      rw [ByteArray.toList_eq, List.isEmpty_eq_false_iff]
      exact bne_list h0
    clear h0
    go_enter Tryz.func204, Tryz.ntmps204
    go_wp2_with fail
    go_loopg [0, 3] (s.size + 1) (fun gk sv mv wr => ∃ (l : List UInt8) (more : Bool) (n : Nat), sv = .string ⟨l.toArray⟩ ∧ mv = .bool more ∧ Hid (if more then l.length < gk else True) ∧ l.length ≤ 5000 ∧ Hid (formedB s.data.toList = (left more l).all wordB) ∧ wr = w.drewN n)
    case atStart => exact ⟨s.data.toList, true, 0, rfl, rfl, by show s.data.toList.length < s.size + 1; simp, by simpa using hs, HS.out, rfl⟩
    case round =>
      obtain ⟨l, more, n, rfl, rfl, HG, hl, HFm, rfl⟩ := hrel
      cases more with
      | false =>
        have HF2 : Hid (formedB s.data.toList = true) := HFm.out
        go_wp2_with fail
        go_ret
        exact ⟨by rw [HF2.out]; rfl, n, rfl⟩
      | true =>
        have HFm2 : Hid (formedB s.data.toList = (left true l).all wordB) := HFm.out
        have hlt : l.length < gk := HG.out
        have HLT : Hid (l.length < gk) := hlt
        obtain ⟨m, hm⟩ := HL.out
        have hcut := Tryz.strings_Cut ⟨l.toArray⟩ ⟨#[43]⟩ m (w.drewN n) (by rw [bsize]; omega) hm
        rw [blist, show (⟨#[43]⟩ : ByteArray).data.toList = [43] from rfl] at hcut
        have hst := left_step l
        have hln := left_len l
        generalize (Lib.cut l [43]).1 = a at *
        generalize (Lib.cut l [43]).2.1 = b at *
        generalize (Lib.cut l [43]).2.2 = f at *
        have HST : Hid (left true l = a :: left f b) := hst
        have HLN : Hid (f = true → b.length + 1 ≤ l.length) := hln.2.2
        have hal : a.length ≤ 5000 := by have := hln.1; omega
        have hbl : b.length ≤ 5000 := by have := hln.2.1; omega
        clear hst hln HG HFm hlt hm
        go_wp2_with fail
        refine hcut.mono ?_
        rintro e w1 ⟨rfl, d1, rfl⟩
        clear hcut
        go_wp2_with fail
        refine (isWord_is ⟨a.toArray⟩ _ (by rw [bsize]; omega)).mono ?_
        rintro e w2 ⟨rfl, rfl⟩
        rw [blist]
        cases hw : wordB a with
        | false =>
          have HF2 : Hid (formedB s.data.toList = false) := by show _ = _; rw [HFm2.out, HST.out, List.all_cons, hw]; rfl
          clear hw
          go_wp2_with fail
          go_ret
          exact ⟨by rw [HF2.out]; rfl, n + d1, rfl⟩
        | true =>
          have HF2 : Hid (formedB s.data.toList = (left f b).all wordB) := by show _ = _; rw [HFm2.out, HST.out, List.all_cons, hw]; rfl
          clear hw
          go_wp2_with fail
          go_roundg (gk - 1)
          case measure => have := HLT.out; omega
          case rel =>
            refine ⟨b, f, n + d1, rfl, rfl, ?_, hbl, HF2, rfl⟩
            show if f then _ else _
            cases f with
            | false => exact trivial
            | true => have := HLT.out; have := HLN.out rfl; show b.length < gk - 1; omega
set_option maxHeartbeats 1000000 in
theorem tooLong_is (x : ByteArray) (w : World) : Calls Tryz.prog 206 #[.string x] w fun e w' => e = .returned (.bool (decide (8 < x.size))) ∧ ∃ q, w' = w.drewN q := by
  go_enter Tryz.func206, Tryz.ntmps206
  go_wp2_with fail
  go_ret
  exact ⟨by congr 2; simp; omega, 0, rfl⟩
end Go.Proofs.YtlailakofhenkabGreatDoor

namespace Go.Proofs.YtlailakofhenkabGreatDoor
open Go Go.RowKit Tok
theorem belowGrownE (w : World) (k : Nat) (os : Array Obj) : Below w.heap.size w (Go.Sort.grow (w.drewN k) os) := by
  have h := below_drewN (Below.refl w.heap.size w) k
  have hs : (w.drewN k).heap = w.heap := by simp
  refine ⟨h.os, h.tape, h.output, ?_, fun i hi => ?_⟩
  · show w.heap.size ≤ ((w.drewN k).heap ++ os).size
    rw [hs, Array.size_append]; omega
  · show ((w.drewN k).heap ++ os)[i]? = w.heap[i]?
    rw [hs, Array.getElem?_append_left hi]
theorem tabIsBelowE {B : Nat} {w w' : World} {name : String} {k : IntKind} {zs : List Int} {g : Nat} (h : Lib.TabIs Tryz.prog w name k zs) (hb : Below B w w') (hg : Tryz.prog.globalNamed name = some g) (hB : g < B) : Lib.TabIs Tryz.prog w' name k zs := by
  unfold Lib.TabIs World.var? at *
  simp only [hg, Option.bind_some] at h ⊢
  rw [hb.block g hB]
  exact h
theorem gPowE : Tryz.prog.globalNamed "internal/strconv.uint64pow10" = some 3 := by kernel_rfl
structure LibsE (w : World) : Prop where
  big : 3 < w.heap.size
  pow : Lib.TabIs Tryz.prog w "internal/strconv.uint64pow10" .u64 Lib.pow10Tab
  len : LenOk w
theorem LibsE.below {w w' : World} (h : LibsE w) (hb : Below w.heap.size w w') : LibsE w' :=
  ⟨Nat.lt_of_lt_of_le h.big hb.size, tabIsBelowE h.pow hb gPowE h.big, h.len.below hb⟩
theorem itoaE_is (n : Int) (w : World) (h0 : 0 ≤ n) (h1 : n ≤ 9223372036854775807) (hL : LibsE w) : Calls Tryz.prog 57 #[.int .i64 n] w fun e w' => e = .returned (.string ⟨(Lib.itoa n).toArray⟩) ∧ Below w.heap.size w w' := by
  refine (Tryz.strconv_Itoa n (by omega) h1 w hL.pow).mono ?_
  rintro e w' ⟨rfl, k, os, rfl⟩
  exact ⟨rfl, belowGrownE _ _ _⟩
structure LibsA (w : World) : Prop where
  base : LibsE w
  syn : ∃ ev, w.cell? ⟨4, 0, none⟩ = some ev ∧ (ev = .nilIface ∨ ∃ te pe, ev = .iface te pe)
  rng : ∃ ev, w.cell? ⟨5, 0, none⟩ = some ev ∧ (ev = .nilIface ∨ ∃ te pe, ev = .iface te pe)
theorem LibsA.below {w w' : World} (h : LibsA w) (hb : Below w.heap.size w w') : LibsA w' where
  base := h.base.below hb
  syn := by
    obtain ⟨m, hm, k⟩ := h.syn
    exact ⟨m, (hb.cell (p := ⟨4, 0, none⟩) (World.block_lt_of_cell? _ _ hm)).trans hm, k⟩
  rng := by
    obtain ⟨m, hm, k⟩ := h.rng
    exact ⟨m, (hb.cell (p := ⟨5, 0, none⟩) (World.block_lt_of_cell? _ _ hm)).trans hm, k⟩
theorem atoiE_any (s : ByteArray) (w : World) (hs : s.size ≤ 10000) (hL : LibsA w) : Calls Tryz.prog 181 #[.string s] w fun e w' => ∃ v err, e = .returned (.tuple #[.int .i64 v, err]) ∧ Below w.heap.size w w' ∧ ∀ m, okN m → s.data.toList = Lib.itoa m → v = m := by
  cases hc : Lib.atoiAll s.data.toList with
  | ok v =>
    refine (Tryz.strconv_Atoi_ok s (by omega) v hc w).mono ?_
    rintro e w' ⟨rfl, hw⟩
    refine ⟨v, _, rfl, ?_, fun m hm he => ?_⟩
    · rcases hw with rfl | ⟨t, rfl⟩
      · exact Below.refl _ _
      · exact Joins.below_bytesWorld _ _ _ _ (Nat.le_refl _)
    · rw [he, atoi_itoa hm.1 (by have := hm.2; omega)] at hc
      injection hc with hc
      exact hc.symm
  | range =>
    obtain ⟨ev, h1, h2⟩ := hL.rng
    refine (Tryz.strconv_Atoi_range s (by omega) hc ev w h1 h2).mono ?_
    rintro e w' ⟨N, rfl, _, _, hb⟩
    refine ⟨_, _, rfl, hb, fun m hm he => ?_⟩
    rw [he, atoi_itoa hm.1 (by have := hm.2; omega)] at hc
    cases hc
  | _ =>
    obtain ⟨ev, h1, h2⟩ := hL.syn
    refine (Tryz.strconv_Atoi_syntax s (by omega) hc ev w h1 h2).mono ?_
    rintro e w' ⟨N, rfl, _, _, hb⟩
    refine ⟨_, _, rfl, hb, fun m hm he => ?_⟩
    rw [he, atoi_itoa hm.1 (by have := hm.2; omega)] at hc
    cases hc
end Go.Proofs.YtlailakofhenkabGreatDoor
