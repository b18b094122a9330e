/-
  Own texts put together: StLog.
-/
import Derived.Test.YtlailakofhenkabGreatDoorB15
namespace Go.Proofs.YtlailakofhenkabGreatDoor
open Go Go.RowKit Tok Sc Ev
theorem LibsA.belowB {w w' : World} {B : Nat} (h : LibsA w) (hb : Below B w w') (ho : Olds B) : LibsA w' := by
  obtain ⟨o1, o2, o3, o4⟩ := ho
  refine ⟨⟨Nat.lt_of_lt_of_le h.base.big hb.size, tabIsBelowE h.base.pow hb gPowE o3, ?_⟩, ?_, ?_⟩
  · obtain ⟨m, hm⟩ := h.base.len
    exact ⟨m, (hb.cell (p := ⟨2, 0, none⟩) o4).trans hm⟩
  · obtain ⟨m, hm, k⟩ := h.syn
    exact ⟨m, (hb.cell (p := ⟨4, 0, none⟩) o1).trans hm, k⟩
  · obtain ⟨m, hm, k⟩ := h.rng
    exact ⟨m, (hb.cell (p := ⟨5, 0, none⟩) o2).trans hm, k⟩
theorem Olds.mono {a b : Nat} (h : Olds a) (hab : a ≤ b) : Olds b := ⟨Nat.lt_of_lt_of_le h.1 hab, Nat.lt_of_lt_of_le h.2.1 hab, Nat.lt_of_lt_of_le h.2.2.1 hab, Nat.lt_of_lt_of_le h.2.2.2 hab⟩
structure StoreAt (w : World) (gs gd : Nat) (dn : Bool) (sv lg : Nat) (st : St) (v : Value) : Prop where
  p0 : w.cell? ⟨gs, 0, none⟩ = some (.pointer (some ⟨gd, 0, none⟩))
  p1 : w.cell? ⟨gs, 1, none⟩ = some (.bool dn)
  p2 : w.cell? ⟨gs, 2, none⟩ = some (.int .i64 sv)
  p3 : w.cell? ⟨gs, 3, none⟩ = some (.int .i64 lg)
  p4 : w.cell? ⟨gs, 4, none⟩ = some (.int .i64 st.clock)
  p5 : w.cell? ⟨gs, 5, none⟩ = some (.int .i64 st.next)
  p6 : w.cell? ⟨gs, 6, none⟩ = some v
  pf : ∀ i, w.frozen? ⟨gs, i, none⟩ = false
  fam : Fams (gs + 1) w v st.fams
  lt : gs < w.heap.size
theorem StoreAt.on {w w' : World} {gs gd : Nat} {dn : Bool} {sv lg : Nat} {st : St} {v : Value} (h : StoreAt w gs gd dn sv lg st v) (hb : Below w.heap.size w w') : StoreAt w' gs gd dn sv lg st v := by
  have hc : ∀ i, w'.cell? ⟨gs, i, none⟩ = w.cell? ⟨gs, i, none⟩ := fun i => hb.cell (p := ⟨gs, i, none⟩) h.lt
  exact ⟨(hc 0).trans h.p0, (hc 1).trans h.p1, (hc 2).trans h.p2, (hc 3).trans h.p3, (hc 4).trans h.p4, (hc 5).trans h.p5, (hc 6).trans h.p6, fun i => (hb.frozen (p := ⟨gs, i, none⟩) h.lt).trans (h.pf i), RowsK.below h.fam hb (Nat.le_refl _), Nat.lt_of_lt_of_le h.lt hb.size⟩
theorem setO {w : World} {b i j : Nat} {v x : Value} (h : w.cell? ⟨b, j, none⟩ = some x) (hij : i ≠ j) : (w.setCell ⟨b, i, none⟩ v).cell? ⟨b, j, none⟩ = some x :=
  (World.cell?_setCell_other _ _ _ _ (by intro e; exact hij (congrArg Addr.off e))).trans h
theorem StoreAt.putState {w : World} {gs gd : Nat} {dn : Bool} {sv lg : Nat} {st st' : St} {v v' : Value} (h : StoreAt w gs gd dn sv lg st v) (hf : Fams (gs + 1) w v' st'.fams) : StoreAt (((w.setCell ⟨gs, 4, none⟩ (.int .i64 st'.clock)).setCell ⟨gs, 5, none⟩ (.int .i64 st'.next)).setCell ⟨gs, 6, none⟩ v') gs gd dn sv lg st' v' := by
  refine ⟨setO (setO (setO h.p0 (by decide)) (by decide)) (by decide), setO (setO (setO h.p1 (by decide)) (by decide)) (by decide), setO (setO (setO h.p2 (by decide)) (by decide)) (by decide), setO (setO (setO h.p3 (by decide)) (by decide)) (by decide), setO (setO (World.cell?_setCell_same _ _ _ h.p4) (by decide)) (by decide), setO (World.cell?_setCell_same _ _ _ (setO h.p5 (by decide))) (by decide), World.cell?_setCell_same _ _ _ (setO (setO h.p6 (by decide)) (by decide)), fun i => by simp only [World.frozen?_setCell]; exact h.pf i, ?_, by simpa using h.lt⟩
  exact ((hf.other (a := ⟨gs, 4, none⟩) (Nat.lt_succ_self _) _).other (a := ⟨gs, 5, none⟩) (Nat.lt_succ_self _) _).other (a := ⟨gs, 6, none⟩) (Nat.lt_succ_self _) _
theorem StoreAt.putLog {w : World} {gs gd : Nat} {dn : Bool} {sv lg lg' : Nat} {st : St} {v : Value} (h : StoreAt w gs gd dn sv lg st v) : StoreAt (w.setCell ⟨gs, 3, none⟩ (.int .i64 lg')) gs gd dn sv lg' st v := by
  exact ⟨setO h.p0 (by decide), setO h.p1 (by decide), setO h.p2 (by decide), World.cell?_setCell_same _ _ _ h.p3, setO h.p4 (by decide), setO h.p5 (by decide), setO h.p6 (by decide), fun i => by simp only [World.frozen?_setCell]; exact h.pf i, h.fam.other (a := ⟨gs, 3, none⟩) (Nat.lt_succ_self _) _, by simpa using h.lt⟩
theorem StoreAt.putSaves {w : World} {gs gd : Nat} {dn : Bool} {sv sv' lg : Nat} {st : St} {v : Value} (h : StoreAt w gs gd dn sv lg st v) : StoreAt (w.setCell ⟨gs, 2, none⟩ (.int .i64 sv')) gs gd dn sv' lg st v := by
  exact ⟨setO h.p0 (by decide), setO h.p1 (by decide), World.cell?_setCell_same _ _ _ h.p2, setO h.p3 (by decide), setO h.p4 (by decide), setO h.p5 (by decide), setO h.p6 (by decide), fun i => by simp only [World.frozen?_setCell]; exact h.pf i, h.fam.other (a := ⟨gs, 2, none⟩) (Nat.lt_succ_self _) _, by simpa using h.lt⟩
theorem StoreAt.putDown {w : World} {gs gd : Nat} {dn dn' : Bool} {sv lg : Nat} {st : St} {v : Value} (h : StoreAt w gs gd dn sv lg st v) : StoreAt (w.setCell ⟨gs, 1, none⟩ (.bool dn')) gs gd dn' sv lg st v := by
  exact ⟨setO h.p0 (by decide), World.cell?_setCell_same _ _ _ h.p1, setO h.p2 (by decide), setO h.p3 (by decide), setO h.p4 (by decide), setO h.p5 (by decide), setO h.p6 (by decide), fun i => by simp only [World.frozen?_setCell]; exact h.pf i, h.fam.other (a := ⟨gs, 1, none⟩) (Nat.lt_succ_self _) _, by simpa using h.lt⟩
structure LW (w0 : World) (gs gd : Nat) (A : AD) (dn : Bool) (sv lg : Nat) (st : St) (v : Value) (w : World) : Prop where
  disk : DiskIs w gd A
  libs : LibsA w
  store : StoreAt w gs gd dn sv lg st v
  ord : gd < gs
  olds : Olds gs
  below : Below gs w0 w
theorem LW.on {w0 : World} {gs gd : Nat} {A : AD} {dn : Bool} {sv lg : Nat} {st : St} {v : Value} {w w' : World} (h : LW w0 gs gd A dn sv lg st v w) (hb : Below w.heap.size w w') : LW w0 gs gd A dn sv lg st v w' :=
  ⟨h.disk.on hb, h.libs.below hb, h.store.on hb, h.ord, h.olds, h.below.trans (hb.mono (Nat.le_of_lt h.store.lt))⟩
theorem LW.over {w0 : World} {gs gd : Nat} {A : AD} {dn dn' : Bool} {sv sv' lg lg' : Nat} {st st' : St} {v v' : Value} {w w' : World} (h : LW w0 gs gd A dn sv lg st v w) (hb : Below gs w w') (hs : StoreAt w' gs gd dn' sv' lg' st' v') : LW w0 gs gd A dn' sv' lg' st' v' w' :=
  ⟨h.disk.below hb h.ord, h.libs.belowB hb h.olds, hs, h.ord, h.olds, h.below.trans hb⟩
theorem below3 (gs i j k : Nat) (a b c : Value) (w : World) : Below gs w (((w.setCell ⟨gs, i, none⟩ a).setCell ⟨gs, j, none⟩ b).setCell ⟨gs, k, none⟩ c) :=
  (((Below.refl gs w).setCell (p := ⟨gs, i, none⟩) (Nat.le_refl _) _).setCell (p := ⟨gs, j, none⟩) (Nat.le_refl _) _).setCell (p := ⟨gs, k, none⟩) (Nat.le_refl _) _
theorem below1 (gs i : Nat) (a : Value) (w : World) : Below gs w (w.setCell ⟨gs, i, none⟩ a) := (Below.refl gs w).setCell (p := ⟨gs, i, none⟩) (Nat.le_refl _) _
theorem fresh12 {W W' w' : World} (hw : W'.heap = W.heap.push (.cells #[.int .i64 0, .int .i64 0, .string ⟨#[]⟩, .string ⟨#[]⟩, .string ⟨#[]⟩, .int .i64 0, .int .i64 0, .int .i64 0, .string ⟨#[]⟩, .bool false, .int .i64 0, .int .i64 0] 42)) (hb : Below W'.heap.size W' w') : EvAt w' W.heap.size zeroE ∧ ∀ i, w'.frozen? ⟨W.heap.size, i, none⟩ = false := by
  have hlt : W.heap.size < W'.heap.size := by rw [hw]; simp
  have hbl : W'.heap[W.heap.size]? = (W.alloc (.cells #[.int .i64 0, .int .i64 0, .string ⟨#[]⟩, .string ⟨#[]⟩, .string ⟨#[]⟩, .int .i64 0, .int .i64 0, .int .i64 0, .string ⟨#[]⟩, .bool false, .int .i64 0, .int .i64 0] 42)).heap[W.heap.size]? := by rw [hw]; rfl
  have hbb := (hb.block _ hlt).trans hbl
  have he := evAt_made W zeroE 42 _ rfl
  have hc : ∀ i, w'.cell? ⟨W.heap.size, i, none⟩ = (W.alloc (.cells #[.int .i64 0, .int .i64 0, .string ⟨#[]⟩, .string ⟨#[]⟩, .string ⟨#[]⟩, .int .i64 0, .int .i64 0, .int .i64 0, .string ⟨#[]⟩, .bool false, .int .i64 0, .int .i64 0] 42)).cell? ⟨W.heap.size, i, none⟩ := fun i => World.cell?_of_block (a := ⟨W.heap.size, i, none⟩) hbb
  refine ⟨⟨Nat.lt_of_lt_of_le hlt hb.size, (hc _).trans he.c0, ?_, (hc _).trans he.c10, (hc _).trans he.c11⟩, fun i => (World.frozen?_of_block (a := ⟨W.heap.size, i, none⟩) hbb).trans (World.frozen?_alloc_at _ _ _ _ rfl)⟩
  constructor
  · exact (hc _).trans he.fam.c0
  · exact (hc _).trans he.fam.c1
  · exact (hc _).trans he.fam.c2
  · exact (hc _).trans he.fam.c3
  · exact (hc _).trans he.fam.c4
  · exact (hc _).trans he.fam.c5
  · exact (hc _).trans he.fam.c6
  · exact (hc _).trans he.fam.c7
  · exact (hc _).trans he.fam.c8
theorem evAt_of {w : World} {b : Nat} {e : E} (hl : b < w.heap.size) (c0 : w.cell? ⟨b, 0, none⟩ = some (.int .i64 e.kind)) (c1 : w.cell? ⟨b, 1, none⟩ = some (.int .i64 e.fam.id)) (c2 : w.cell? ⟨b, 2, none⟩ = some (.string e.fam.client)) (c3 : w.cell? ⟨b, 3, none⟩ = some (.string e.fam.subject)) (c4 : w.cell? ⟨b, 4, none⟩ = some (.string e.fam.scope)) (c5 : w.cell? ⟨b, 5, none⟩ = some (.int .i64 e.fam.gen)) (c6 : w.cell? ⟨b, 6, none⟩ = some (.int .i64 e.fam.made)) (c7 : w.cell? ⟨b, 7, none⟩ = some (.int .i64 e.fam.used)) (c8 : w.cell? ⟨b, 8, none⟩ = some (.string e.fam.request)) (c9 : w.cell? ⟨b, 9, none⟩ = some (.bool e.fam.dead)) (c10 : w.cell? ⟨b, 10, none⟩ = some (.int .i64 e.id)) (c11 : w.cell? ⟨b, 11, none⟩ = some (.int .i64 e.time)) : EvAt w b e :=
  ⟨hl, c0, ⟨c1, c2, c3, c4, c5, c6, c7, c8, c9⟩, c10, c11⟩
theorem fin1 {w0 : World} {gs gd : Nat} {A : AD} {dn : Bool} {sv lg : Nat} {st : St} {v : Value} {wr W' w6 : World} (e : E) (hl : LW w0 gs gd A dn sv lg st v wr) (hW : Below wr.heap.size wr W') (hw : W'.heap = wr.heap.push (.cells #[.int .i64 0, .int .i64 0, .string ⟨#[]⟩, .string ⟨#[]⟩, .string ⟨#[]⟩, .int .i64 0, .int .i64 0, .int .i64 0, .string ⟨#[]⟩, .bool false, .int .i64 0, .int .i64 0] 42)) (hb : Below W'.heap.size W' w6) :
    LW w0 gs gd A dn sv lg st v (w6.setCells wr.heap.size 0 (evCs e)) ∧ EvAt (w6.setCells wr.heap.size 0 (evCs e)) wr.heap.size e := by
  have hf := fresh12 (W := wr) hw hb
  have hth : ∀ j, j < (evCs e).length → (w6.cell? ⟨wr.heap.size, 0 + j, none⟩).isSome = true := there12 hf.1
  have hq := fun (j : Nat) (hj : j < (evCs e).length) => World.cell?_setCells_in wr.heap.size (evCs e) 0 w6 hth j hj
  have hlt : wr.heap.size < (w6.setCells wr.heap.size 0 (evCs e)).heap.size := Nat.lt_of_lt_of_le hf.1.lt (below_setCellsW (B := 0) (Nat.zero_le _) _ 0 _).size
  have hc : ∀ (j : Nat) (u : Value), (evCs e)[j]? = some u → (w6.setCells wr.heap.size 0 (evCs e)).cell? ⟨wr.heap.size, j, none⟩ = some u := fun j u hj => by
    obtain ⟨h1, h2⟩ := List.getElem?_eq_some_iff.1 hj
    have := hq j h1
    rw [Nat.zero_add, h2] at this
    exact this
  exact ⟨hl.on ((hW.trans (hb.mono hW.size)).trans (below_setCellsW (Nat.le_refl _) _ 0 _)), evAt_of hlt (hc 0 _ rfl) (hc 1 _ rfl) (hc 2 _ rfl) (hc 3 _ rfl) (hc 4 _ rfl) (hc 5 _ rfl) (hc 6 _ rfl) (hc 7 _ rfl) (hc 8 _ rfl) (hc 9 _ rfl) (hc 10 _ rfl) (hc 11 _ rfl)⟩
theorem fin2 {w0 : World} {gs gd : Nat} {A : AD} {dn : Bool} {sv lg : Nat} {st : St} {v : Value} {wr W' w6 : World} (e : E) (hl : LW w0 gs gd A dn sv lg st v wr) (hW : Below wr.heap.size wr W') (hb : Below W'.heap.size W' w6) (t : TypeId) :
    LW w0 gs gd A dn sv lg st v (w6.alloc (.cells (evCs e).toArray t)) ∧ EvAt (w6.alloc (.cells (evCs e).toArray t)) w6.heap.size e :=
  ⟨hl.on ((hW.trans (hb.mono hW.size)).alloc (Nat.le_trans hW.size hb.size) _), evAt_made w6 e t _ rfl⟩
theorem wpAnyD_two {P : Program} {Q : Exit → Act → World → Prop} {md : Region.Mode} {S : World → Prop} {d : Nat} {l : List Oper} (i j : Nat) {oi oj : Oper} {fuel : Nat} {listed : Array Bool} {a : Act} {w : World} (hoi : l[i]? = some oi) (hoj : l[j]? = some oj) (hr : Region.ready md l.toArray listed = [i, j])
    (h1 : ∀ K' : Act → World → Prop, Shut (∀ a w, S w → (S w → RegD.wpAnyD P md l.toArray Q S d fuel (listed.setIfInBounds i true) a w) → K' a w) → if Region.wanted oi (yielded l.toArray a.tmps) = true then Oper.wp P oi a w K' Q else K' (a.put oi.dst undef) w)
    (h2 : ∀ K' : Act → World → Prop, Shut (∀ a w, S w → (S w → RegD.wpAnyD P md l.toArray Q S d fuel (listed.setIfInBounds j true) a w) → K' a w) → if Region.wanted oj (yielded l.toArray a.tmps) = true then Oper.wp P oj a w K' Q else K' (a.put oj.dst undef) w) : RegD.wpAnyD P md l.toArray Q S d (fuel + 1) listed a w :=
  ⟨fun h0 => absurd (hr ▸ h0) (by simp), fun x hx => by
    rw [hr] at hx
    rcases (show x = i ∨ x = j by simpa using hx) with rfl | rfl
    · exact wpOp_step (RegD.at_list hoi) (fun K' hK => h1 K' (fun a w hS hW => hK a w ⟨fun _ => hS, hW hS⟩))
    · exact wpOp_step (RegD.at_list hoj) (fun K' hK => h2 K' (fun a w hS hW => hK a w ⟨fun _ => hS, hW hS⟩))⟩
theorem logStep (A : AD) (sv k r : Nat) (st : St) : (∃ e, A.blk k = some (sv, e) ∧ logGo A sv k (r + 1) st = logGo A sv (k + 1) r (applyP st e)) ∨ (evOf (A.blk k) sv = (zeroE, false) ∧ logGo A sv k (r + 1) st = (st, k)) := by
  cases h : A.blk k with
  | none => exact .inr ⟨rfl, by rw [logGo, h]⟩
  | some p =>
    obtain ⟨s', e⟩ := p
    by_cases hs : s' = sv
    · subst hs
      exact .inl ⟨e, rfl, by rw [logGo, h]; simp⟩
    · exact .inr ⟨by unfold evOf; simp only [if_neg hs], by rw [logGo, h]; simp only [if_neg hs]⟩
set_option maxRecDepth 100000 in
set_option maxHeartbeats 16000000 in
theorem readLog_is (gs gd : Nat) (A : AD) (dn : Bool) (sv : Nat) (st : St) (v : Value) (w : World) (hsv : okN sv) (hr : Rising st.fams) (hn : st.fams.length ≤ 20) (h : LW w gs gd A dn sv 0 st v w) :
    Calls Tryz.prog 53 #[.pointer (some ⟨gs, 0, none⟩)] w fun r w' => r = .returned (.tuple #[]) ∧ ∃ v', LW w gs gd A dn sv (logGo A sv 0 16 st).2 (logGo A sv 0 16 st).1 v' w' := by
  have H0 : Hid (LW w gs gd A dn sv 0 st v w) := h
  have HSV : Hid (okN sv) := hsv
  have HR0 : Hid (Rising st.fams ∧ st.fams.length ≤ 20) := ⟨hr, hn⟩
  clear h hsv hr hn
  go_enter Tryz.func53, Tryz.ntmps53
  go_wp2_with fail
  go_loopg [5] 16 (fun gk iv wr => ∃ (k : Nat) (s1 : St) (v1 : Value), k + gk = 16 ∧ iv = .int .i64 k ∧ Hid (logGo A sv 0 16 st = logGo A sv k gk s1) ∧ Hid (Rising s1.fams ∧ s1.fams.length ≤ 20 + k) ∧ Hid (LW w gs gd A dn sv k s1 v1 wr))
  case atStart => exact ⟨0, st, v, rfl, rfl, rfl, HR0.out, H0⟩
  case round =>
    obtain ⟨k, s1, v1, hj, rfl, HGO, HRI, HLW⟩ := hrel
    have HJ : Hid (k + gk = 16) := hj
    clear hj H0
    by_cases hlt : k < 16
    · have hltI : (k : Int) < 16 := by omega
      obtain ⟨r, hr⟩ : ∃ r, gk = r + 1 := ⟨gk - 1, by have := HJ.out; omega⟩
      have HR : Hid (gk = r + 1) := hr
      clear hr
      have hre := fun (W : World) (hw : LW w gs gd A dn sv k s1 v1 W) => hw.disk.readEv k sv (by omega) (by omega) (by omega) HSV.out hw.libs
      obtain ⟨ba, ca, rfl⟩ := RowsK.slice HLW.out.store.fam
      obtain ⟨e, o, heo⟩ : ∃ e o, evOf (A.blk k) sv = (e, o) := ⟨_, _, rfl⟩
      have HEO : Hid (evOf (A.blk k) sv = (e, o)) := heo
      rw [heo] at hre
      clear heo
      have hlw := HLW.out
      have HLW2 : Hid (LW w gs gd A dn sv k s1 (.slice ba s1.fams.length ca) wr) := hlw
      have HE : Hid (∀ x : E, x = e → x = e) := fun x h => h
      go_upto_region 3 with fail
      go_cut [3, 4] from 8 to 21 (fun x y wx => ∃ gE, x = .pointer (some ⟨gE, 0, none⟩) ∧ y = .bool o ∧ Hid (LW w gs gd A dn sv k s1 (.slice ba s1.fams.length ca) wx ∧ EvAt wx gE e))
      case first =>
        have p0 := hlw.store.p0
        have p2 := hlw.store.p2
        have m0 := Lib.cell?_alloc_some (.cells #[.int .i64 0, .int .i64 0, .string ⟨#[]⟩, .string ⟨#[]⟩, .string ⟨#[]⟩, .int .i64 0, .int .i64 0, .int .i64 0, .string ⟨#[]⟩, .bool false, .int .i64 0, .int .i64 0] 42) p0
        have m2 := Lib.cell?_alloc_some (.cells #[.int .i64 0, .int .i64 0, .string ⟨#[]⟩, .string ⟨#[]⟩, .string ⟨#[]⟩, .int .i64 0, .int .i64 0, .int .i64 0, .string ⟨#[]⟩, .bool false, .int .i64 0, .int .i64 0] 42) p2
        clear hlw HLW HE
        have HF1 : Hid (∀ (W' w6 : World), Below wr.heap.size wr W' → W'.heap = wr.heap.push (.cells #[.int .i64 0, .int .i64 0, .string ⟨#[]⟩, .string ⟨#[]⟩, .string ⟨#[]⟩, .int .i64 0, .int .i64 0, .int .i64 0, .string ⟨#[]⟩, .bool false, .int .i64 0, .int .i64 0] 42) → Below W'.heap.size W' w6 → LW w gs gd A dn sv k s1 (.slice ba s1.fams.length ca) (w6.setCells wr.heap.size 0 (evCs e)) ∧ EvAt (w6.setCells wr.heap.size 0 (evCs e)) wr.heap.size e) := fun W' w6 h1 h2 h3 => fin1 e HLW2.out h1 h2 h3
        have HF2 : Hid (∀ (W' w6 : World), Below wr.heap.size wr W' → Below W'.heap.size W' w6 → LW w gs gd A dn sv k s1 (.slice ba s1.fams.length ca) (w6.alloc (.cells (evCs e).toArray 42)) ∧ EvAt (w6.alloc (.cells (evCs e).toArray 42)) w6.heap.size e) := fun W' w6 h1 h2 => fin2 e HLW2.out h1 h2 _
        obtain ⟨kk, ⟨f1, f2, f3, f4, f5, f6, f7, f8, f9⟩, ei, et⟩ := e
        unfold evV at hre
        unfold evCs at hre HF1 HF2
        simp only at hre HF1 HF2
        have hS0 : LW w gs gd A dn sv k s1 (.slice ba s1.fams.length ca) wr.drew := HLW2.out.on (Below.refl _ _).drew
        refine RegD.wp_region_D (fun w' => LW w gs gd A dn sv k s1 (.slice ba s1.fams.length ca) w') 15 (by kernel_rfl) hS0 (fun hHeld => ?_)
        clear hS0
        refine RegD.wpAnyD_take 0 (oi := ?oi0) (v := .pointer (some ⟨gs, 0, none⟩)) ?hi0 ?hB0 ?hQ0 ?hy0 hHeld ?rest0
        case hi0 => rfl
        case hB0 => kernel_rfl
        case hQ0 => exact fun _ _ _ h => h
        case hy0 => exact .inl ⟨by rfl, fun W hW => by
          go_simp⟩
        simp only [Act.put, List.setIfInBounds_toArray, List.set_cons_zero, List.set_cons_succ]
        refine RegD.wpAnyD_take 1 (oi := ?oi1) (v := .pointer (some ⟨gs, 0, none⟩)) ?hi1 ?hB1 ?hQ1 ?hy1 hHeld ?rest1
        case hi1 => rfl
        case hB1 => kernel_rfl
        case hQ1 => exact fun _ _ _ h => h
        case hy1 => exact .inl ⟨by rfl, fun W hW => by
          go_simp⟩
        simp only [Act.put, List.setIfInBounds_toArray, List.set_cons_zero, List.set_cons_succ]
        refine RegD.wpAnyD_take 2 (oi := ?oi2) (v := .pointer (some ⟨gs, 0, none⟩)) ?hi2 ?hB2 ?hQ2 ?hy2 hHeld ?rest2
        case hi2 => rfl
        case hB2 => kernel_rfl
        case hQ2 => exact fun _ _ _ h => h
        case hy2 => exact .inl ⟨by rfl, fun W hW => by
          go_simp⟩
        simp only [Act.put, List.setIfInBounds_toArray, List.set_cons_zero, List.set_cons_succ]
        refine RegD.wpAnyD_take 3 (oi := ?oi3) (v := .pointer (some ⟨gd, 0, none⟩)) ?hi3 ?hB3 ?hQ3 ?hy3 hHeld ?rest3
        case hi3 => rfl
        case hB3 => kernel_rfl
        case hQ3 => exact fun _ _ _ h => h
        case hy3 => exact .inl ⟨by rfl, fun W hW => by
          have a0 := hW.store.p0
          go_simp⟩
        simp only [Act.put, List.setIfInBounds_toArray, List.set_cons_zero, List.set_cons_succ]
        refine RegD.wpAnyD_take 4 (oi := ?oi4) (v := .int .i64 k) ?hi4 ?hB4 ?hQ4 ?hy4 hHeld ?rest4
        case hi4 => rfl
        case hB4 => kernel_rfl
        case hQ4 => exact fun _ _ _ h => h
        case hy4 => exact .inl ⟨by rfl, fun W hW => by
          go_simp⟩
        simp only [Act.put, List.setIfInBounds_toArray, List.set_cons_zero, List.set_cons_succ]
        refine RegD.wpAnyD_take 5 (oi := ?oi5) (v := .pointer (some ⟨gs, 0, none⟩)) ?hi5 ?hB5 ?hQ5 ?hy5 hHeld ?rest5
        case hi5 => rfl
        case hB5 => kernel_rfl
        case hQ5 => exact fun _ _ _ h => h
        case hy5 => exact .inl ⟨by rfl, fun W hW => by
          go_simp⟩
        simp only [Act.put, List.setIfInBounds_toArray, List.set_cons_zero, List.set_cons_succ]
        refine RegD.wpAnyD_take 6 (oi := ?oi6) (v := .pointer (some ⟨gs, 0, none⟩)) ?hi6 ?hB6 ?hQ6 ?hy6 hHeld ?rest6
        case hi6 => rfl
        case hB6 => kernel_rfl
        case hQ6 => exact fun _ _ _ h => h
        case hy6 => exact .inl ⟨by rfl, fun W hW => by
          go_simp⟩
        simp only [Act.put, List.setIfInBounds_toArray, List.set_cons_zero, List.set_cons_succ]
        refine RegD.wpAnyD_take 7 (oi := ?oi7) (v := .pointer (some ⟨gs, 2, none⟩)) ?hi7 ?hB7 ?hQ7 ?hy7 hHeld ?rest7
        case hi7 => rfl
        case hB7 => kernel_rfl
        case hQ7 => exact fun _ _ _ h => h
        case hy7 => exact .inl ⟨by rfl, fun W hW => by
          go_simp⟩
        simp only [Act.put, List.setIfInBounds_toArray, List.set_cons_zero, List.set_cons_succ]
        refine RegD.wpAnyD_take 8 (oi := ?oi8) (v := .int .i64 sv) ?hi8 ?hB8 ?hQ8 ?hy8 hHeld ?rest8
        case hi8 => rfl
        case hB8 => kernel_rfl
        case hQ8 => exact fun _ _ _ h => h
        case hy8 => exact .inl ⟨by rfl, fun W hW => by
          have a0 := hW.store.p2
          go_simp⟩
        simp only [Act.put, List.setIfInBounds_toArray, List.set_cons_zero, List.set_cons_succ]
        refine wpAnyD_two 9 13 (oi := ?oi9) (oj := ?oi13) ?ha9 ?ha13 ?hr2 ?h9 ?h13
        case ha9 => rfl
        case ha13 => rfl
        case hr2 => kernel_rfl
        case h9 =>
          intro K hK
          go_simp
          go_at_call 112
          refine (hre _ hHeld).mono ?_
          rintro e6 w6 ⟨rfl, hb6⟩
          go_wp2_with fail
          have hS9 : LW w gs gd A dn sv k s1 (.slice ba s1.fams.length ca) w6 := hHeld.on hb6
          refine hK.out _ _ hS9 ?_
          clear hK hHeld
          intro hHeld
          clear hS9 K
          refine RegD.wpAnyD_take 10 (oi := ?oi10a) (v := (.tuple #[(.agg #[.int .i64 kk, .int .i64 f1, .string f2, .string f3, .string f4, .int .i64 f5, .int .i64 f6, .int .i64 f7, .string f8, .bool f9, .int .i64 ei, .int .i64 et]), .bool o])) ?hi10a ?hB10a ?hQ10a ?hy10a hHeld ?rest10a
          case hi10a => rfl
          case hB10a => kernel_rfl
          case hQ10a => exact fun _ _ _ h => h
          case hy10a => exact .inl ⟨by rfl, fun W hW => by
            go_simp⟩
          simp only [Act.put, List.setIfInBounds_toArray, List.set_cons_zero, List.set_cons_succ]
          refine RegD.wpAnyD_take 11 (oi := ?oi11a) (v := (.agg #[.int .i64 kk, .int .i64 f1, .string f2, .string f3, .string f4, .int .i64 f5, .int .i64 f6, .int .i64 f7, .string f8, .bool f9, .int .i64 ei, .int .i64 et])) ?hi11a ?hB11a ?hQ11a ?hy11a hHeld ?rest11a
          case hi11a => rfl
          case hB11a => kernel_rfl
          case hQ11a => exact fun _ _ _ h => h
          case hy11a => exact .inl ⟨by rfl, fun W hW => by
            go_simp⟩
          simp only [Act.put, List.setIfInBounds_toArray, List.set_cons_zero, List.set_cons_succ]
          refine RegD.wpAnyD_take 12 (oi := ?oi12a) (v := (.bool o)) ?hi12a ?hB12a ?hQ12a ?hy12a hHeld ?rest12a
          case hi12a => rfl
          case hB12a => kernel_rfl
          case hQ12a => exact fun _ _ _ h => h
          case hy12a => exact .inl ⟨by rfl, fun W hW => by
            go_simp⟩
          simp only [Act.put, List.setIfInBounds_toArray, List.set_cons_zero, List.set_cons_succ]
          refine RegD.wpAnyD_one 13 (o := ?o13a) ?ho13a ?hr13a ?h13a
          case ho13a => rfl
          case hr13a => kernel_rfl
          intro K hK
          go_simp
          have hS13 : LW w gs gd A dn sv k s1 (.slice ba s1.fams.length ca) (w6.alloc (.cells #[.int .i64 0, .int .i64 0, .string ⟨#[]⟩, .string ⟨#[]⟩, .string ⟨#[]⟩, .int .i64 0, .int .i64 0, .int .i64 0, .string ⟨#[]⟩, .bool false, .int .i64 0, .int .i64 0] 42)) := hHeld.on ((Below.refl _ _).alloc (Nat.le_refl _) _)
          refine hK.out _ _ hS13 ?_
          clear hK hHeld
          intro hHeld
          clear hS13 K
          have hfin := HF2.out _ _ ((Below.refl _ _).drew) hb6
          refine RegD.wpAnyD_one 14 (o := ?o14a) ?ho14a ?hr14a ?h14a
          case ho14a => rfl
          case hr14a => kernel_rfl
          intro K hK
          go_simp
          refine hK.out _ _ hfin.1 ?_
          clear hK hHeld
          intro hHeld
          clear K
          refine RegD.wpAnyD_late 15 (o := ?o15a) ?ho15a ?hr15a ?hd15a ?h15a
          case ho15a => rfl
          case hr15a => kernel_rfl
          case hd15a => kernel_rfl
          intro K hK
          go_simp
          refine hK.out _ _ ?_
          clear hK K
          refine RegD.wpAnyD_done (by kernel_rfl) ?_ _
          go_wp2_with fail
          go_meet
          case rel => exact ⟨_, rfl, rfl, hfin⟩
        case h13 =>
          intro K hK
          go_simp
          have hS13 : LW w gs gd A dn sv k s1 (.slice ba s1.fams.length ca) (wr.drew.alloc (.cells #[.int .i64 0, .int .i64 0, .string ⟨#[]⟩, .string ⟨#[]⟩, .string ⟨#[]⟩, .int .i64 0, .int .i64 0, .int .i64 0, .string ⟨#[]⟩, .bool false, .int .i64 0, .int .i64 0] 42)) := hHeld.on ((Below.refl _ _).alloc (Nat.le_refl _) _)
          refine hK.out _ _ hS13 ?_
          clear hK hHeld
          intro hHeld
          clear hS13 K
          refine RegD.wpAnyD_one 9 (o := ?o9b) ?ho9b ?hr9b ?h9b
          case ho9b => rfl
          case hr9b => kernel_rfl
          intro K hK
          go_simp
          go_at_call 112
          refine (hre _ hHeld).mono ?_
          rintro e6 w6 ⟨rfl, hb6⟩
          go_wp2_with fail
          have hS9 : LW w gs gd A dn sv k s1 (.slice ba s1.fams.length ca) w6 := hHeld.on hb6
          refine hK.out _ _ hS9 ?_
          clear hK hHeld
          intro hHeld
          clear hS9 K
          refine RegD.wpAnyD_take 10 (oi := ?oi10b) (v := (.tuple #[(.agg #[.int .i64 kk, .int .i64 f1, .string f2, .string f3, .string f4, .int .i64 f5, .int .i64 f6, .int .i64 f7, .string f8, .bool f9, .int .i64 ei, .int .i64 et]), .bool o])) ?hi10b ?hB10b ?hQ10b ?hy10b hHeld ?rest10b
          case hi10b => rfl
          case hB10b => kernel_rfl
          case hQ10b => exact fun _ _ _ h => h
          case hy10b => exact .inl ⟨by rfl, fun W hW => by
            go_simp⟩
          simp only [Act.put, List.setIfInBounds_toArray, List.set_cons_zero, List.set_cons_succ]
          refine RegD.wpAnyD_take 11 (oi := ?oi11b) (v := (.agg #[.int .i64 kk, .int .i64 f1, .string f2, .string f3, .string f4, .int .i64 f5, .int .i64 f6, .int .i64 f7, .string f8, .bool f9, .int .i64 ei, .int .i64 et])) ?hi11b ?hB11b ?hQ11b ?hy11b hHeld ?rest11b
          case hi11b => rfl
          case hB11b => kernel_rfl
          case hQ11b => exact fun _ _ _ h => h
          case hy11b => exact .inl ⟨by rfl, fun W hW => by
            go_simp⟩
          simp only [Act.put, List.setIfInBounds_toArray, List.set_cons_zero, List.set_cons_succ]
          refine RegD.wpAnyD_take 12 (oi := ?oi12b) (v := (.bool o)) ?hi12b ?hB12b ?hQ12b ?hy12b hHeld ?rest12b
          case hi12b => rfl
          case hB12b => kernel_rfl
          case hQ12b => exact fun _ _ _ h => h
          case hy12b => exact .inl ⟨by rfl, fun W hW => by
            go_simp⟩
          simp only [Act.put, List.setIfInBounds_toArray, List.set_cons_zero, List.set_cons_succ]
          have hfr := fresh12 (W := wr) rfl hb6
          have fz := hfr.2
          have x0 := hfr.1.c0; have x1 := hfr.1.fam.c0; have x2 := hfr.1.fam.c1; have x3 := hfr.1.fam.c2; have x4 := hfr.1.fam.c3; have x5 := hfr.1.fam.c4; have x6 := hfr.1.fam.c5; have x7 := hfr.1.fam.c6; have x8 := hfr.1.fam.c7; have x9 := hfr.1.fam.c8; have x10 := hfr.1.c10; have x11 := hfr.1.c11
          simp only [zeroE, zeroF] at x0 x1 x2 x3 x4 x5 x6 x7 x8 x9 x10 x11
          have hfin := HF1.out _ _ (((Below.refl _ _).drew).alloc (Nat.le_refl _) _) rfl hb6
          refine RegD.wpAnyD_one 14 (o := ?o14b) ?ho14b ?hr14b ?h14b
          case ho14b => rfl
          case hr14b => kernel_rfl
          intro K hK
          go_simp
          refine hK.out _ _ hfin.1 ?_
          clear hK hHeld
          intro hHeld
          clear K
          clear x0 x1 x2 x3 x4 x5 x6 x7 x8 x9 x10 x11 fz hfr
          refine RegD.wpAnyD_late 15 (o := ?o15b) ?ho15b ?hr15b ?hd15b ?h15b
          case ho15b => rfl
          case hr15b => kernel_rfl
          case hd15b => kernel_rfl
          intro K hK
          go_simp
          refine hK.out _ _ ?_
          clear hK K
          refine RegD.wpAnyD_done (by kernel_rfl) ?_ _
          go_wp2_with fail
          go_meet
          case rel => exact ⟨_, rfl, rfl, hfin⟩
      case rest =>
        obtain ⟨gE, rfl, rfl, HCW⟩ := hcut
        rcases logStep A sv k r s1 with ⟨e', h1, h2⟩ | ⟨h1, h2⟩
        · have h3 : evOf (some (sv, e')) sv = (e', true) := by unfold evOf; simp
          have h4 := HEO.out
          rw [h1, h3] at h4
          obtain ⟨rfl, rfl⟩ := Prod.mk.inj h4
          have HM : Hid (Ev.may e') := (HLW2.out.disk.blks _ _ _ h1).1
          have HG2 : Hid (logGo A sv 0 16 st = logGo A sv (k + 1) r (applyP s1 e')) := by show _ = _; rw [HGO.out, HR.out, h2]
          have HAP : Hid (∀ (W : World), Fams (gs + 1) W (.slice ba s1.fams.length ca) s1.fams → Calls Tryz.prog 19 #[stV s1.clock s1.next (.slice ba s1.fams.length ca), evV e'] W fun r w' => ∃ v', r = .returned (stV (applyP s1 e').clock (applyP s1 e').next v') ∧ Fams W.heap.size w' v' (applyP s1 e').fams ∧ Below W.heap.size W w') := fun W hW => apply_is s1 e' HM.out hW HRI.out.1 (by have := HRI.out.2; omega)
          have HR2 : Hid (Rising (applyP s1 e').fams ∧ (applyP s1 e').fams.length ≤ 20 + (k + 1)) := ⟨rising_apply HRI.out.1, Nat.le_trans (apply_len s1 e') (by have := HRI.out.2; omega)⟩
          generalize applyP s1 e' = st' at *
          clear h1 h2 h3 h4 hre hlw HE HEO HGO HLW HLW2
          obtain ⟨kk, ⟨f1, f2, f3, f4, f5, f6, f7, f8, f9⟩, ei, et⟩ := e'
          have HAP2 := HAP.out
          unfold evV evCs stV at HAP2
          simp only at HAP2
          clear HAP
          go_upto_region 5 with fail
          have hS0 : LW w gs gd A dn sv k s1 (.slice ba s1.fams.length ca) wc.drew ∧ EvAt wc.drew gE ⟨kk, ⟨f1, f2, f3, f4, f5, f6, f7, f8, f9⟩, ei, et⟩ := ⟨HCW.out.1.on (Below.refl _ _).drew, HCW.out.2.on (Below.refl _ _).drew⟩
          refine RegD.wp_region_D (fun w' => LW w gs gd A dn sv k s1 (.slice ba s1.fams.length ca) w' ∧ EvAt w' gE ⟨kk, ⟨f1, f2, f3, f4, f5, f6, f7, f8, f9⟩, ei, et⟩) 9 (by kernel_rfl) hS0 (fun hHeld => ?_)
          clear hS0
          refine RegD.wpAnyD_take 0 (oi := ?oi0c) (v := .pointer (some ⟨gs, 0, none⟩)) ?hi0c ?hB0c ?hQ0c ?hy0c hHeld ?rest0c
          case hi0c => rfl
          case hB0c => kernel_rfl
          case hQ0c => exact fun _ _ _ h => h
          case hy0c => exact .inl ⟨by rfl, fun W hW => by
            go_simp⟩
          simp only [Act.put, List.setIfInBounds_toArray, List.set_cons_zero, List.set_cons_succ]
          refine RegD.wpAnyD_take 1 (oi := ?oi1c) (v := .pointer (some ⟨gs, 0, none⟩)) ?hi1c ?hB1c ?hQ1c ?hy1c hHeld ?rest1c
          case hi1c => rfl
          case hB1c => kernel_rfl
          case hQ1c => exact fun _ _ _ h => h
          case hy1c => exact .inl ⟨by rfl, fun W hW => by
            go_simp⟩
          simp only [Act.put, List.setIfInBounds_toArray, List.set_cons_zero, List.set_cons_succ]
          refine RegD.wpAnyD_take 2 (oi := ?oi2c) (v := .pointer (some ⟨gs, 0, none⟩)) ?hi2c ?hB2c ?hQ2c ?hy2c hHeld ?rest2c
          case hi2c => rfl
          case hB2c => kernel_rfl
          case hQ2c => exact fun _ _ _ h => h
          case hy2c => exact .inl ⟨by rfl, fun W hW => by
            go_simp⟩
          simp only [Act.put, List.setIfInBounds_toArray, List.set_cons_zero, List.set_cons_succ]
          refine RegD.wpAnyD_take 3 (oi := ?oi3c) (v := .pointer (some ⟨gs, 4, none⟩)) ?hi3c ?hB3c ?hQ3c ?hy3c hHeld ?rest3c
          case hi3c => rfl
          case hB3c => kernel_rfl
          case hQ3c => exact fun _ _ _ h => h
          case hy3c => exact .inl ⟨by rfl, fun W hW => by
            go_simp⟩
          simp only [Act.put, List.setIfInBounds_toArray, List.set_cons_zero, List.set_cons_succ]
          refine RegD.wpAnyD_take 4 (oi := ?oi4c) (v := (.agg #[.int .i64 s1.clock, .int .i64 s1.next, .slice ba s1.fams.length ca])) ?hi4c ?hB4c ?hQ4c ?hy4c hHeld ?rest4c
          case hi4c => rfl
          case hB4c => kernel_rfl
          case hQ4c => exact fun _ _ _ h => h
          case hy4c => exact .inl ⟨by rfl, fun W hW => by
            have a4 := hW.1.store.p4
            have a5 := hW.1.store.p5
            have a6 := hW.1.store.p6
            go_simp⟩
          simp only [Act.put, List.setIfInBounds_toArray, List.set_cons_zero, List.set_cons_succ]
          refine RegD.wpAnyD_take 5 (oi := ?oi5c) (v := (.agg #[.int .i64 kk, .int .i64 f1, .string f2, .string f3, .string f4, .int .i64 f5, .int .i64 f6, .int .i64 f7, .string f8, .bool f9, .int .i64 ei, .int .i64 et])) ?hi5c ?hB5c ?hQ5c ?hy5c hHeld ?rest5c
          case hi5c => rfl
          case hB5c => kernel_rfl
          case hQ5c => exact fun _ _ _ h => h
          case hy5c => exact .inl ⟨by rfl, fun W hW => by
            have k0 := hW.2.c0
            have k1 := hW.2.fam.c0
            have k2 := hW.2.fam.c1
            have k3 := hW.2.fam.c2
            have k4 := hW.2.fam.c3
            have k5 := hW.2.fam.c4
            have k6 := hW.2.fam.c5
            have k7 := hW.2.fam.c6
            have k8 := hW.2.fam.c7
            have k9 := hW.2.fam.c8
            have k10 := hW.2.c10
            have k11 := hW.2.c11
            simp only at k0 k1 k2 k3 k4 k5 k6 k7 k8 k9 k10 k11
            go_simp⟩
          simp only [Act.put, List.setIfInBounds_toArray, List.set_cons_zero, List.set_cons_succ]
          refine RegD.wpAnyD_one 6 (o := ?o6c) ?ho6c ?hr6c ?h6c
          case ho6c => rfl
          case hr6c => kernel_rfl
          intro K hK
          go_simp
          go_at_call 19
          refine (HAP2 _ hHeld.1.store.fam).mono ?_
          rintro e7 w7 ⟨v7, rfl, hf7, hb7⟩
          obtain ⟨b7, c7, rfl⟩ := RowsK.slice hf7
          go_wp2_with fail
          have hS6 : LW w gs gd A dn sv k s1 (.slice ba s1.fams.length ca) w7 ∧ EvAt w7 gE ⟨kk, ⟨f1, f2, f3, f4, f5, f6, f7, f8, f9⟩, ei, et⟩ := ⟨hHeld.1.on hb7, hHeld.2.on hb7⟩
          have hF7 : Fams (gs + 1) w7 (.slice b7 st'.fams.length c7) st'.fams := RowsK.mono hf7 hHeld.1.store.lt
          refine hK.out _ _ hS6 ?_
          clear hK hHeld
          intro hHeld
          clear hS6 K
          refine RegD.wpAnyD_take 7 (oi := ?oi7c) (v := .pointer (some ⟨gs, 0, none⟩)) ?hi7c ?hB7c ?hQ7c ?hy7c hHeld ?rest7c
          case hi7c => rfl
          case hB7c => kernel_rfl
          case hQ7c => exact fun _ _ _ h => h
          case hy7c => exact .inl ⟨by rfl, fun W hW => by
            go_simp⟩
          simp only [Act.put, List.setIfInBounds_toArray, List.set_cons_zero, List.set_cons_succ]
          refine RegD.wpAnyD_take 8 (oi := ?oi8c) (v := .pointer (some ⟨gs, 4, none⟩)) ?hi8c ?hB8c ?hQ8c ?hy8c hHeld ?rest8c
          case hi8c => rfl
          case hB8c => kernel_rfl
          case hQ8c => exact fun _ _ _ h => h
          case hy8c => exact .inl ⟨by rfl, fun W hW => by
            go_simp⟩
          simp only [Act.put, List.setIfInBounds_toArray, List.set_cons_zero, List.set_cons_succ]
          have hput := hHeld.1.store.putState hF7
          have HNEW : Hid (LW w gs gd A dn sv k st' (.slice b7 st'.fams.length c7) (((w7.setCell ⟨gs, 4, none⟩ (.int .i64 st'.clock)).setCell ⟨gs, 5, none⟩ (.int .i64 st'.next)).setCell ⟨gs, 6, none⟩ (.slice b7 st'.fams.length c7))) := hHeld.1.over (below3 gs 4 5 6 _ _ _ w7) hput
          have a4 := hHeld.1.store.p4
          have a5 := hHeld.1.store.p5
          have a6 := hHeld.1.store.p6
          have fz := hHeld.1.store.pf
          clear hHeld hput hf7 hb7 hF7
          refine RegD.wpAnyD_late 9 (o := ?o9c) ?ho9c ?hr9c ?hd9c ?h9c
          case ho9c => rfl
          case hr9c => kernel_rfl
          case hd9c => kernel_rfl
          intro K hK
          go_simp
          refine hK.out _ _ ?_
          clear hK K
          refine RegD.wpAnyD_done (by kernel_rfl) ?_ _
          clear a4 a5 a6 fz
          generalize World.setCell _ ⟨gs, 6, none⟩ _ = W8 at *
          have p3 := HNEW.out.store.p3
          have fz := HNEW.out.store.pf
          have HNL : Hid (LW w gs gd A dn sv (k + 1) st' (.slice b7 st'.fams.length c7) (W8.setCell ⟨gs, 3, none⟩ (.int .i64 ((k + 1 : Nat) : Int)))) := HNEW.out.over (below1 gs 3 _ W8) HNEW.out.store.putLog
          have HKC : Hid (((k + 1 : Nat) : Int) = (k : Int) + 1) := by show ((k + 1 : Nat) : Int) = (k : Int) + 1; push_cast; rfl
          go_wp2_with fail
          go_roundg r
          case measure => have := HR.out; omega
          case rel => exact ⟨k + 1, st', _, by have := HJ.out; have := HR.out; omega, by go_num, HG2, HR2, HKC.out ▸ HNL⟩
        · have h4 := HEO.out
          rw [h1] at h4
          obtain ⟨rfl, rfl⟩ := Prod.mk.inj h4
          have HMV : Hid (logGo A sv 0 16 st = (s1, k)) := by show _ = _; rw [HGO.out, HR.out, h2]
          clear h1 h2 h4 hre hlw HE
          go_wp2_with fail
          have HMV2 := HMV.out
          exact bodyPost_ret (v := .tuple #[]) (by simp [results, Tryz.results53]) rfl ⟨rfl, _, by rw [HMV2]; exact HCW.out.1⟩
    · obtain rfl : k = 16 := by have := HJ.out; omega
      obtain rfl : gk = 0 := by have := HJ.out; omega
      have HMV : Hid (logGo A sv 0 16 st = (s1, 16)) := by show _ = _; rw [HGO.out]; rfl
      go_wp2_with fail
      have HMV2 := HMV.out
      go_end0
      exact ⟨rfl, _, by rw [HMV2]; exact HLW.out⟩
end Go.Proofs.YtlailakofhenkabGreatDoor
