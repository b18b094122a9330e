/-
  Own texts put together: SvSt1.
-/
import Derived.Test.YtlailakofhenkabGreatDoorB31
import Derived.Test.YtlailakofhenkabGreatDoorB32
namespace Go.Proofs.YtlailakofhenkabGreatDoor
open Go Go.RowKit Tok Sc Ev
set_option maxRecDepth 100000 in
set_option maxHeartbeats 4000000 in
theorem scopeOf_is (n : Int) (w : World) : Calls Tryz.prog 92 #[.int .i64 n] w fun e w' => (∃ x : ByteArray, e = .returned (.string x) ∧ x.size ≤ 20) ∧ Below w.heap.size w w' := by
  go_enter Tryz.func92, Tryz.ntmps92
  go_wp2_with fail
  refine (pickN_is n 6 (by omega) (by omega) _).mono ?_
  rintro e1 w1 ⟨q, hq, -, rfl, rfl⟩
  match q, hq with
  | 0, _ =>
    go_wp2_with fail
    go_ret
    exact ⟨⟨_, rfl, by decide⟩, (Below.refl _ _).alloc (Nat.le_refl _) _⟩
  | 1, _ =>
    go_wp2_with fail
    go_ret
    exact ⟨⟨_, rfl, by decide⟩, (Below.refl _ _).alloc (Nat.le_refl _) _⟩
  | 2, _ =>
    go_wp2_with fail
    go_ret
    exact ⟨⟨_, rfl, by decide⟩, (Below.refl _ _).alloc (Nat.le_refl _) _⟩
  | 3, _ =>
    go_wp2_with fail
    go_ret
    exact ⟨⟨_, rfl, by decide⟩, (Below.refl _ _).alloc (Nat.le_refl _) _⟩
  | 4, _ =>
    go_wp2_with fail
    go_ret
    exact ⟨⟨_, rfl, by decide⟩, (Below.refl _ _).alloc (Nat.le_refl _) _⟩
  | 5, _ =>
    go_wp2_with fail
    go_ret
    exact ⟨⟨_, rfl, by decide⟩, (Below.refl _ _).alloc (Nat.le_refl _) _⟩
def reqQ (n : Int) : ByteArray := if (n % 18446744073709551616) % 3 = 0 then sOne else if (n % 18446744073709551616) % 3 = 1 then sTwo else ⟨#[116, 104, 114, 101, 101]⟩
set_option maxRecDepth 100000 in
set_option maxHeartbeats 4000000 in
theorem requestOf_is (n : Int) (w : World) : Calls Tryz.prog 93 #[.int .i64 n] w fun e w' => e = .returned (.string (reqQ n)) ∧ Below w.heap.size w w' := by
  go_enter Tryz.func93, Tryz.ntmps93
  go_wp2_with fail
  refine (pickN_is n 3 (by omega) (by omega) _).mono ?_
  rintro e1 w1 ⟨q, hq, hqn, rfl, rfl⟩
  match q, hq with
  | 0, _ =>
    have HQ : Hid (reqQ n = sOne) := if_pos (by omega)
    clear hqn
    go_wp2_with fail
    go_ret
    exact ⟨by rw [HQ.out]; rfl, (Below.refl _ _).alloc (Nat.le_refl _) _⟩
  | 1, _ =>
    have HQ : Hid (reqQ n = sTwo) := by unfold reqQ; rw [if_neg (by omega), if_pos (by omega)]; exact rfl
    clear hqn
    go_wp2_with fail
    go_ret
    exact ⟨by rw [HQ.out]; rfl, (Below.refl _ _).alloc (Nat.le_refl _) _⟩
  | 2, _ =>
    have HQ : Hid (reqQ n = ⟨#[116, 104, 114, 101, 101]⟩) := by unfold reqQ; rw [if_neg (by omega), if_neg (by omega)]; exact rfl
    clear hqn
    go_wp2_with fail
    go_ret
    exact ⟨by rw [HQ.out]; rfl, (Below.refl _ _).alloc (Nat.le_refl _) _⟩
theorem reqQ_name (n : Int) : nameB (reqQ n).data.toList = true ∧ (reqQ n).size ≤ 20 := by
  unfold reqQ
  split
  · exact ⟨by decide, by decide⟩
  · split
    · exact ⟨by decide, by decide⟩
    · exact ⟨by decide, by decide⟩
structure NB (w : World) (g : Nat) (s : St) (v : Value) : Prop where
  c1 : w.cell? ⟨g, 1, none⟩ = some (.int .i64 s.next)
  c2 : w.cell? ⟨g, 2, none⟩ = some v
  fam : Fams 0 w v s.fams
  lt : g < w.heap.size
theorem NB.keep {l : List Nat} {w w' : World} {g : Nat} {s : St} {v : Value} (h : NB w g s v) (hk : Keep l w w') (hl : ∀ x ∈ l, x ≠ g ∧ NotIn v x) : NB w' g s v := by
  have hn : g ∉ l := fun hx => (hl g hx).1 rfl
  exact ⟨(hk.cell (p := ⟨g, 1, none⟩) h.lt hn).trans h.c1, (hk.cell (p := ⟨g, 2, none⟩) h.lt hn).trans h.c2, hk.rowsOut h.fam (fun x hx => (hl x hx).2), Nat.lt_of_lt_of_le h.lt hk.size⟩
theorem NB.on {w w' : World} {g : Nat} {s : St} {v : Value} (h : NB w g s v) (hb : Below w.heap.size w w') : NB w' g s v := h.keep (Keep.of [] hb) (by simp)
theorem intLaw : Go.Maps.Keyed Tryz.prog 3 := Go.Maps.int_keyed Tryz.underlying3
theorem strLaw : Go.Maps.Keyed Tryz.prog 9 := Go.Maps.string_keyed Tryz.underlying9
theorem zeroS (w : World) : (zeroValue 9).run Tryz.prog w = .ok (.string ⟨#[]⟩) w := by kernel_rfl
theorem zeroB (w : World) : (zeroValue 4).run Tryz.prog w = .ok (.bool false) w := by kernel_rfl
theorem wf_ok {i : Int} (h : okN i) : (Lit.int .i64 i).wf = true := by
  obtain ⟨h1, h2⟩ := h
  have e1 : IntKind.i64.min = -9223372036854775808 := by decide
  have e2 : IntKind.i64.max = 9223372036854775807 := by decide
  show (decide (IntKind.i64.min ≤ i) && decide (i ≤ IntKind.i64.max)) = true
  rw [e1, e2, Bool.and_eq_true, decide_eq_true_eq, decide_eq_true_eq]
  omega
theorem bsz (x : ByteArray) : x.data.toList.length = x.size := Array.length_toList
theorem lst_size {x : ByteArray} (h : Lst x.data.toList) : x.size ≤ 44 := by rw [← bsz]; exact lst_len h
def putsF (F : Int → Option Value) (l : List Fam) : Int → Option Value := l.foldl (fun F f => putG F f.id (.string f.scope)) F
theorem putsF_snoc (F : Int → Option Value) (l : List Fam) (f : Fam) : putsF F (l ++ [f]) = putG (putsF F l) f.id (.string f.scope) := by
  unfold putsF
  rw [List.foldl_append]
  rfl
theorem putsF_setS : ∀ (l : List Fam) {F : Int → Option Value} {Fn : Int → Option ByteArray}, (∀ i, F i = (Fn i).map Value.string) → ∀ (i : Int), putsF F l i = (setS Fn l i).map Value.string
  | [], _, _, h, i => h i
  | f :: l, F, Fn, h, i => by
    show putsF (putG F f.id (.string f.scope)) l i = (setS (fun i => if i = f.id then some f.scope else Fn i) l i).map Value.string
    refine putsF_setS l (fun j => ?_) i
    unfold putG
    by_cases e : j = f.id
    · simp [e]
    · simp [e, h j]
theorem take_snoc {l : List Fam} {k : Nat} (h : k < l.length) : l.take (k + 1) = l.take k ++ [l[k]] := by
  rw [List.take_add_one, List.getElem?_eq_getElem h]
  rfl
set_option maxRecDepth 100000 in
set_option maxHeartbeats 8000000 in
theorem narrows_is (w0 : World) (n c N gh gv gs gd b1 b2 b3 : Nat) (r : Rul) (p : Pub) (v vt : Value) (toks : List ByteArray) (S F : Int → Option Value) (G : List UInt8 → Option Value) (Fn : Int → Option ByteArray) (s0 : St) (w : World) (h : Held w0 n c N gh gv gs gd b1 b2 b3 r p v vt toks S F G w) (hq : SeenS s0 p.st F Fn) (hc : c ≤ 100000) :
    Calls Tryz.prog 94 #[.pointer (some ⟨gh, 0, none⟩)] w fun e w' => e = .returned (.bool true) ∧ ∃ F' Fn', Held w0 n (c + 20) N gh gv gs gd b1 b2 b3 r p v vt toks S F' G w' ∧ SeenS p.st p.st F' Fn' := by
  have HG : Hid (Ev.Good p.st) := h.sv.sp.ok.good
  have HL : Hid (∀ (j : Nat) (hj : j < p.st.fams.length) (was : ByteArray), setS Fn (p.st.fams.take j) p.st.fams[j].id = some was → Nar p.st.fams[j].scope was ∧ was.size ≤ 44) := fun j hj was hw => ⟨scp_look hq.scp hq.evo HG.out j hj hw, by
    rcases setS_val _ _ _ _ hw with h1 | ⟨f, h1, h2⟩
    · exact hq.len _ _ h1
    · rw [h2]; exact lst_size ((HG.out.may _ (List.mem_of_mem_take h1)).1).2.2.2.2⟩
  have HP : Hid (∀ (j : Nat) (i : Int), putsF F (p.st.fams.take j) i = (setS Fn (p.st.fams.take j) i).map Value.string) := fun j i => putsF_setS _ hq.fn i
  have HE : Hid (SeenS p.st p.st (putsF F p.st.fams) (setS Fn p.st.fams)) := ⟨fun i => putsF_setS _ hq.fn i, scp_next hq.scp hq.evo HG.out, Evo.same HG.out, fun i x hx => by
    rcases setS_val _ _ _ _ hx with h1 | ⟨f, h1, h2⟩
    · exact hq.len _ _ h1
    · rw [h2]; exact lst_size ((HG.out.may _ h1).1).2.2.2.2⟩
  have HH : Hid _ := h
  have HC : Hid (c ≤ 100000) := hc
  have HLN : Hid (p.st.fams.length ≤ 20) := HG.out.len
  have c0 := h.box.c0
  clear h hq hc
  go_enter Tryz.func94, Tryz.ntmps94
  go_wp2_with fail
  refine (svState_is N _ gv gs gd r p v HH.out.sv).mono ?_
  rintro e1 w1 ⟨v1, rfl, hf1, hb1⟩
  obtain ⟨ba, ca, rfl⟩ := RowsK.slice hf1
  unfold stV
  have hb2 : Below w1.heap.size w1 (w1.alloc (.cells #[.int .i64 p.st.clock, .int .i64 p.st.next, .slice ba p.st.fams.length ca] 36)) := (Below.refl _ _).alloc (Nat.le_refl _) _
  have HH1 : Hid (Held w0 n c N gh gv gs gd b1 b2 b3 r p v vt toks S F G (w1.alloc (.cells #[.int .i64 p.st.clock, .int .i64 p.st.next, .slice ba p.st.fams.length ca] 36))) := (HH.out.on hb1).on hb2
  have HN1 : Hid (NB (w1.alloc (.cells #[.int .i64 p.st.clock, .int .i64 p.st.next, .slice ba p.st.fams.length ca] 36)) w1.heap.size p.st (.slice ba p.st.fams.length ca)) := ⟨(World.cell?_alloc_at _ _ _ _ rfl).trans rfl, (World.cell?_alloc_at _ _ _ _ rfl).trans rfl, (RowsK.below hf1 hb2 (Nat.le_refl _)).mono (Nat.zero_le _), by simp⟩
  have HOUT : Hid (b2 ≠ w1.heap.size ∧ NotIn (.slice ba p.st.fams.length ca) b2) := by
    have h1 := HH.out.m2.lt
    have h2 := hb1.size
    exact ⟨by omega, NotIn.above hf1 (by omega)⟩
  clear hf1 hb1 hb2 c0 HH
  go_upto_region 2 with fail
  generalize (w1.alloc (.cells #[.int .i64 p.st.clock, .int .i64 p.st.next, .slice ba p.st.fams.length ca] 36)) = W1 at *
  generalize w1.heap.size = gq at *
  go_wp2_with fail
  go_loopg [4] p.st.fams.length (fun gk iv wr => ∃ k : Nat, k + gk = p.st.fams.length ∧ iv = .int .i64 k ∧ Hid (Held w0 n (c + k) N gh gv gs gd b1 b2 b3 r p v vt toks S (putsF F (p.st.fams.take k)) G wr) ∧ Hid (NB wr gq p.st (.slice ba p.st.fams.length ca)))
  case atStart => exact ⟨0, by omega, rfl, HH1, HN1⟩
  case round =>
    obtain ⟨k, hk, rfl, HHK, HNK⟩ := hrel
    have HK : Hid (k + gk = p.st.fams.length) := hk
    clear hk HH1 HN1
    have n2 := HNK.out.c2
    by_cases hlt : k < p.st.fams.length
    · have hltI : (k : Int) < (p.st.fams.length : Int) := by omega
      obtain ⟨gr, rfl, hgr, hfa⟩ := HNK.out.fam.fam k hlt
      have HMK : Hid (mayF p.st.fams[k]) := (HG.out.may _ (List.getElem_mem hlt)).1
      have HNX : Hid (p.st.fams[k].id < p.st.next) := (HG.out.may _ (List.getElem_mem hlt)).2
      have HSN : Hid (p.st.fams.take (k + 1) = p.st.fams.take k ++ [p.st.fams[k]]) := take_snoc hlt
      have HPV : Hid (∀ j, j + 1 = k → ∃ y, wr.cell? ⟨gr, j * 9, none⟩ = some (.int .i64 y) ∧ y < p.st.fams[k].id) := fun j hj => by
        obtain ⟨gr', e', _, hfb⟩ := HNK.out.fam.fam j (by omega)
        simp only [Option.some.injEq, Addr.mk.injEq, and_true] at e'
        subst e'
        exact ⟨p.st.fams[j].id, hfb.c0, List.pairwise_iff_getElem.1 HG.out.ris j k (by omega) hlt (by omega)⟩
      have HLK : Hid _ := HL.out k hlt
      have HPK : Hid _ := HP.out k p.st.fams[k].id
      have HPS : Hid (∀ f : Fam, p.st.fams[k] = f → putsF F (p.st.fams.take (k + 1)) = putG (putsF F (p.st.fams.take k)) f.id (.string f.scope)) := fun f hf => by rw [HSN.out, putsF_snoc, hf]
      generalize hy : p.st.fams[k] = y at hfa HMK HNX HPV HLK HPK HPS HSN
      have HPS2 : Hid _ := HPS.out y rfl
      clear HSN hy HPS
      generalize setS Fn (p.st.fams.take k) y.id = ow at HLK HPK
      generalize putsF F (p.st.fams.take k) = FK at *
      obtain ⟨y1, y2, y3, y4, y5, y6, y7, y8, y9⟩ := y
      have c0 := hfa.c0; have c1 := hfa.c1; have c2 := hfa.c2; have c3 := hfa.c3; have c4 := hfa.c4; have c5 := hfa.c5; have c6 := hfa.c6; have c7 := hfa.c7; have c8 := hfa.c8
      simp only at c0 c1 c2 c3 c4 c5 c6 c7 c8 HPK HLK HPV HNX HMK HPS2
      have HPS3 : Hid (putsF F (p.st.fams.take (k + 1)) = putG FK y1 (.string y4)) := HPS2.out
      have HOK : Hid (okN y1) := HMK.out.1.1
      have HLS : Hid (y4.size ≤ 44) := lst_size HMK.out.2.2.2.2
      clear hfa HPS2
      have HB5 : Hid (Below wr.heap.size wr (wr.alloc (.cells #[.int .i64 y1, .string y2, .string y3, .string y4, .int .i64 y5, .int .i64 y6, .int .i64 y7, .string y8, .bool y9] 40))) := (Below.refl _ _).alloc (Nat.le_refl _) _
      have HF5 : Hid (FB (wr.alloc (.cells #[.int .i64 y1, .string y2, .string y3, .string y4, .int .i64 y5, .int .i64 y6, .int .i64 y7, .string y8, .bool y9] 40)) wr.heap.size ⟨y1, y2, y3, y4, y5, y6, y7, y8, y9⟩) := FB.made wr ⟨y1, y2, y3, y4, y5, y6, y7, y8, y9⟩ _
      have HH5 : Hid _ := HHK.out.on HB5.out
      have HN5 : Hid _ := HNK.out.on HB5.out
      have HO5 : Hid (b2 ≠ wr.heap.size) := by have := HHK.out.m2.lt; show _ ≠ _; omega
      have HPV5 : Hid (∀ j, j + 1 = k → ∃ y, ∀ W, Below (wr.alloc (.cells #[.int .i64 y1, .string y2, .string y3, .string y4, .int .i64 y5, .int .i64 y6, .int .i64 y7, .string y8, .bool y9] 40)).heap.size (wr.alloc (.cells #[.int .i64 y1, .string y2, .string y3, .string y4, .int .i64 y5, .int .i64 y6, .int .i64 y7, .string y8, .bool y9] 40)) W ∨ Keep [b2] (wr.alloc (.cells #[.int .i64 y1, .string y2, .string y3, .string y4, .int .i64 y5, .int .i64 y6, .int .i64 y7, .string y8, .bool y9] 40)) W → W.cell? ⟨gr, j * 9, none⟩ = some (.int .i64 y) ∧ y < y1) := fun j hj => by
        obtain ⟨y, q1, q2⟩ := HPV.out j hj
        have q3 : (wr.alloc (.cells #[.int .i64 y1, .string y2, .string y3, .string y4, .int .i64 y5, .int .i64 y6, .int .i64 y7, .string y8, .bool y9] 40)).cell? ⟨gr, j * 9, none⟩ = some (.int .i64 y) := (HB5.out.cell (p := ⟨gr, j * 9, none⟩) hgr).trans q1
        have q4 : gr < (wr.alloc (.cells #[.int .i64 y1, .string y2, .string y3, .string y4, .int .i64 y5, .int .i64 y6, .int .i64 y7, .string y8, .bool y9] 40)).heap.size := Nat.lt_of_lt_of_le hgr HB5.out.size
        refine ⟨y, fun W hW => ⟨?_, q2⟩⟩
        rcases hW with hW | hW
        · exact (hW.cell (p := ⟨gr, j * 9, none⟩) q4).trans q3
        · refine (hW.cell (p := ⟨gr, j * 9, none⟩) q4 ?_).trans q3
          have := HOUT.out.2 gr 0 _ ca rfl
          simp; omega
      go_upto_region 6 with fail
      clear c0 c1 c2 c3 c4 c5 c6 c7 c8 n2 HPV HHK HNK
      generalize hW5 : (wr.alloc (.cells #[.int .i64 y1, .string y2, .string y3, .string y4, .int .i64 y5, .int .i64 y6, .int .i64 y7, .string y8, .bool y9] 40)) = W5 at *
      clear hW5
      generalize wr.heap.size = gf at *
      have HLB : Hid (∀ W, HasMap litI Tryz.prog 3 9 W b2 (c + k) FK → (Instr.lookup 93 (.map (some b2)) (.int .i64 y1) true).run Tryz.prog W = .ok (.tuple #[(FK y1).getD (.string ⟨#[]⟩), .bool (FK y1).isSome]) W) := fun W hW => hW.look_ok intLaw Tryz.underlying93 (zeroS W) (plainElem_string Tryz.underlying9 (by decide)) (Go.Maps.keyOf_int_mk Tryz.underlying3 (wf_ok HOK.out))
      have HX5 : Hid (FB W5.drew gf ⟨y1, y2, y3, y4, y5, y6, y7, y8, y9⟩ ∧ Held w0 n (c + k) N gh gv gs gd b1 b2 b3 r p v vt toks S FK G W5.drew ∧ NB W5.drew gq p.st (.slice (some ⟨gr, 0, none⟩) p.st.fams.length ca) ∧ Below W5.heap.size W5 W5.drew) := ⟨HF5.out.on (Below.refl _ _).drew, HH5.out.on (Below.refl _ _).drew, HN5.out.on (Below.refl _ _).drew, (Below.refl _ _).drew⟩
      clear HF5 HH5 HN5
      rw [HPK.out] at HLB
      generalize hvo : (ow.map Value.string).getD (.string ⟨#[]⟩) = vo at HLB
      generalize hbo : (ow.map Value.string).isSome = bo at HLB
      have HVO : Hid ((ow.map Value.string).getD (.string ⟨#[]⟩) = vo) := hvo
      have HBO : Hid ((ow.map Value.string).isSome = bo) := hbo
      clear hvo hbo
      refine RegD.wp_region_D (fun W => FB W gf ⟨y1, y2, y3, y4, y5, y6, y7, y8, y9⟩ ∧ Held w0 n (c + k) N gh gv gs gd b1 b2 b3 r p v vt toks S FK G W) 11 (by kernel_rfl) (⟨HX5.out.1, HX5.out.2.1⟩) (fun hHeld => ?_)
      refine RegD.wpAnyD_take 0 (oi := ?oi0x2) (v := .pointer (some ⟨gh, 0, none⟩)) ?hi0x2 ?hB0x2 ?hQ0x2 ?hy0x2 hHeld ?rest0x2
      case hi0x2 => rfl
      case hB0x2 => kernel_rfl
      case hQ0x2 => exact fun _ _ _ h => h
      case hy0x2 => exact .inl ⟨by rfl, fun W hW => by
        go_simp⟩
      simp only [Act.put, List.setIfInBounds_toArray, List.set_cons_zero, List.set_cons_succ]
      refine RegD.wpAnyD_take 1 (oi := ?oi1x3) (v := .pointer (some ⟨gh, 0, none⟩)) ?hi1x3 ?hB1x3 ?hQ1x3 ?hy1x3 hHeld ?rest1x3
      case hi1x3 => rfl
      case hB1x3 => kernel_rfl
      case hQ1x3 => exact fun _ _ _ h => h
      case hy1x3 => exact .inl ⟨by rfl, fun W hW => by
        go_simp⟩
      simp only [Act.put, List.setIfInBounds_toArray, List.set_cons_zero, List.set_cons_succ]
      refine RegD.wpAnyD_take 2 (oi := ?oi2x4) (v := .pointer (some ⟨gh, 3, none⟩)) ?hi2x4 ?hB2x4 ?hQ2x4 ?hy2x4 hHeld ?rest2x4
      case hi2x4 => rfl
      case hB2x4 => kernel_rfl
      case hQ2x4 => exact fun _ _ _ h => h
      case hy2x4 => exact .inl ⟨by rfl, fun W hW => by
        go_simp⟩
      simp only [Act.put, List.setIfInBounds_toArray, List.set_cons_zero, List.set_cons_succ]
      refine RegD.wpAnyD_take 3 (oi := ?oi3x5) (v := .map (some b2)) ?hi3x5 ?hB3x5 ?hQ3x5 ?hy3x5 hHeld ?rest3x5
      case hi3x5 => rfl
      case hB3x5 => kernel_rfl
      case hQ3x5 => exact fun _ _ _ h => h
      case hy3x5 => exact .inl ⟨by rfl, fun W hW => by
        have a0 := hW.2.box.c3
        go_simp⟩
      simp only [Act.put, List.setIfInBounds_toArray, List.set_cons_zero, List.set_cons_succ]
      refine RegD.wpAnyD_take 4 (oi := ?oi4x6) (v := .pointer (some ⟨gf, 0, none⟩)) ?hi4x6 ?hB4x6 ?hQ4x6 ?hy4x6 hHeld ?rest4x6
      case hi4x6 => rfl
      case hB4x6 => kernel_rfl
      case hQ4x6 => exact fun _ _ _ h => h
      case hy4x6 => exact .inl ⟨by rfl, fun W hW => by
        go_simp⟩
      simp only [Act.put, List.setIfInBounds_toArray, List.set_cons_zero, List.set_cons_succ]
      refine RegD.wpAnyD_take 5 (oi := ?oi5x7) (v := .int .i64 y1) ?hi5x7 ?hB5x7 ?hQ5x7 ?hy5x7 hHeld ?rest5x7
      case hi5x7 => rfl
      case hB5x7 => kernel_rfl
      case hQ5x7 => exact fun _ _ _ h => h
      case hy5x7 => exact .inl ⟨by rfl, fun W hW => by
        have a0 := hW.1.c0
        go_simp⟩
      simp only [Act.put, List.setIfInBounds_toArray, List.set_cons_zero, List.set_cons_succ]
      refine RegD.wpAnyD_take 6 (oi := ?oi6x8) (v := .tuple #[vo, .bool bo]) ?hi6x8 ?hB6x8 ?hQ6x8 ?hy6x8 hHeld ?rest6x8
      case hi6x8 => rfl
      case hB6x8 => kernel_rfl
      case hQ6x8 => exact fun _ _ _ h => h
      case hy6x8 => exact .inl ⟨by rfl, fun W hW => by
        have a0 := HLB.out _ hW.2.m2
        go_simp⟩
      simp only [Act.put, List.setIfInBounds_toArray, List.set_cons_zero, List.set_cons_succ]
      refine RegD.wpAnyD_take 7 (oi := ?oi7x9) (v := .tuple #[vo, .bool bo]) ?hi7x9 ?hB7x9 ?hQ7x9 ?hy7x9 hHeld ?rest7x9
      case hi7x9 => rfl
      case hB7x9 => kernel_rfl
      case hQ7x9 => exact fun _ _ _ h => h
      case hy7x9 => exact .inl ⟨by rfl, fun W hW => by
        go_simp⟩
      simp only [Act.put, List.setIfInBounds_toArray, List.set_cons_zero, List.set_cons_succ]
      refine RegD.wpAnyD_take 8 (oi := ?oi8x10) (v := vo) ?hi8x10 ?hB8x10 ?hQ8x10 ?hy8x10 hHeld ?rest8x10
      case hi8x10 => rfl
      case hB8x10 => kernel_rfl
      case hQ8x10 => exact fun _ _ _ h => h
      case hy8x10 => exact .inl ⟨by rfl, fun W hW => by
        go_simp⟩
      simp only [Act.put, List.setIfInBounds_toArray, List.set_cons_zero, List.set_cons_succ]
      refine RegD.wpAnyD_take 9 (oi := ?oi9x11) (v := .bool bo) ?hi9x11 ?hB9x11 ?hQ9x11 ?hy9x11 hHeld ?rest9x11
      case hi9x11 => rfl
      case hB9x11 => kernel_rfl
      case hQ9x11 => exact fun _ _ _ h => h
      case hy9x11 => exact .inl ⟨by rfl, fun W hW => by
        go_simp⟩
      simp only [Act.put, List.setIfInBounds_toArray, List.set_cons_zero, List.set_cons_succ]
      refine RegD.wpAnyD_take 10 (oi := ?oi10x12) (v := vo) ?hi10x12 ?hB10x12 ?hQ10x12 ?hy10x12 hHeld ?rest10x12
      case hi10x12 => rfl
      case hB10x12 => kernel_rfl
      case hQ10x12 => exact fun _ _ _ h => h
      case hy10x12 => exact .inl ⟨by rfl, fun W hW => by
        go_simp⟩
      simp only [Act.put, List.setIfInBounds_toArray, List.set_cons_zero, List.set_cons_succ]
      clear hHeld
      refine RegD.wpAnyD_late 11 (o := ?o11x13) ?ho11x13 ?hr11x13 ?hd11x13 ?h11x13
      case ho11x13 => rfl
      case hr11x13 => kernel_rfl
      case hd11x13 => kernel_rfl
      intro K hK
      go_simp
      refine hK.out _ _ ?_
      clear hK K
      refine RegD.wpAnyD_done (by kernel_rfl) ?_ _
      go_upto_if 37 with fail
      go_cut [] from 37 to 50 (fun wx => Hid (FB wx gf ⟨y1, y2, y3, y4, y5, y6, y7, y8, y9⟩ ∧ Held w0 n (c + k) N gh gv gs gd b1 b2 b3 r p v vt toks S FK G wx ∧ NB wx gq p.st (.slice (some ⟨gr, 0, none⟩) p.st.fams.length ca) ∧ Below W5.heap.size W5 wx))
      case first =>
        cases ow with
        | none =>
          obtain rfl : false = bo := HBO.out
          go_wp2_with fail
          go_meet
          case rel => exact HX5
        | some was =>
          obtain rfl : true = bo := HBO.out
          obtain rfl : Value.string was = vo := HVO.out
          have HNR : Hid _ := HLK.out was rfl
          have z3 := HX5.out.1.c3
          simp only at z3
          go_wp2_with fail
          refine (within_at y4 was true 0 HNR.out.1 _ (by have := HLS.out; omega) (by have := HNR.out.2; omega) HX5.out.2.1.sv.libs.len).mono ?_
          rintro e6 w6 ⟨rfl, hb6⟩
          have HX6 : Hid (FB w6 gf ⟨y1, y2, y3, y4, y5, y6, y7, y8, y9⟩ ∧ Held w0 n (c + k) N gh gv gs gd b1 b2 b3 r p v vt toks S FK G w6 ∧ NB w6 gq p.st (.slice (some ⟨gr, 0, none⟩) p.st.fams.length ca) ∧ Below W5.heap.size W5 w6) := ⟨HX5.out.1.on hb6, HX5.out.2.1.on hb6, HX5.out.2.2.1.on hb6, HX5.out.2.2.2.trans (hb6.mono HX5.out.2.2.2.size)⟩
          rw [show errQ 0 = .nilIface from rfl]
          clear hb6 z3
          go_wp2_with fail
          go_meet
          case rel => exact HX6
      case rest =>
        have HX6 : Hid _ := hcut
        clear hcut HX5 HLB HLK HPK HVO HBO
        generalize wc = wa at *
        have HF6 : Hid (FB wa.drew gf ⟨y1, y2, y3, y4, y5, y6, y7, y8, y9⟩) := HX6.out.1.on (Below.refl _ _).drew
        have HH6 : Hid (Held w0 n (c + k) N gh gv gs gd b1 b2 b3 r p v vt toks S FK G wa.drew) := HX6.out.2.1.on (Below.refl _ _).drew
        have HN6 : Hid (NB wa.drew gq p.st (.slice (some ⟨gr, 0, none⟩) p.st.fams.length ca)) := HX6.out.2.2.1.on (Below.refl _ _).drew
        have HB6 : Hid (Below W5.heap.size W5 wa.drew) := HX6.out.2.2.2.drew
        clear HX6
        go_upto_region 11 with fail
        refine RegD.wp_region_D (fun W => FB W gf ⟨y1, y2, y3, y4, y5, y6, y7, y8, y9⟩ ∧ Held w0 n (c + k) N gh gv gs gd b1 b2 b3 r p v vt toks S FK G W) 8 (by kernel_rfl) (⟨HF6.out, HH6.out⟩) (fun hHeld => ?_)
        refine RegD.wpAnyD_take 0 (oi := ?oi0x17) (v := .pointer (some ⟨gh, 0, none⟩)) ?hi0x17 ?hB0x17 ?hQ0x17 ?hy0x17 hHeld ?rest0x17
        case hi0x17 => rfl
        case hB0x17 => kernel_rfl
        case hQ0x17 => exact fun _ _ _ h => h
        case hy0x17 => exact .inl ⟨by rfl, fun W hW => by
          go_simp⟩
        simp only [Act.put, List.setIfInBounds_toArray, List.set_cons_zero, List.set_cons_succ]
        refine RegD.wpAnyD_take 1 (oi := ?oi1x18) (v := .pointer (some ⟨gh, 0, none⟩)) ?hi1x18 ?hB1x18 ?hQ1x18 ?hy1x18 hHeld ?rest1x18
        case hi1x18 => rfl
        case hB1x18 => kernel_rfl
        case hQ1x18 => exact fun _ _ _ h => h
        case hy1x18 => exact .inl ⟨by rfl, fun W hW => by
          go_simp⟩
        simp only [Act.put, List.setIfInBounds_toArray, List.set_cons_zero, List.set_cons_succ]
        refine RegD.wpAnyD_take 2 (oi := ?oi2x19) (v := .pointer (some ⟨gh, 3, none⟩)) ?hi2x19 ?hB2x19 ?hQ2x19 ?hy2x19 hHeld ?rest2x19
        case hi2x19 => rfl
        case hB2x19 => kernel_rfl
        case hQ2x19 => exact fun _ _ _ h => h
        case hy2x19 => exact .inl ⟨by rfl, fun W hW => by
          go_simp⟩
        simp only [Act.put, List.setIfInBounds_toArray, List.set_cons_zero, List.set_cons_succ]
        refine RegD.wpAnyD_take 3 (oi := ?oi3x20) (v := .map (some b2)) ?hi3x20 ?hB3x20 ?hQ3x20 ?hy3x20 hHeld ?rest3x20
        case hi3x20 => rfl
        case hB3x20 => kernel_rfl
        case hQ3x20 => exact fun _ _ _ h => h
        case hy3x20 => exact .inl ⟨by rfl, fun W hW => by
          have a0 := hW.2.box.c3
          go_simp⟩
        simp only [Act.put, List.setIfInBounds_toArray, List.set_cons_zero, List.set_cons_succ]
        refine RegD.wpAnyD_take 4 (oi := ?oi4x21) (v := .pointer (some ⟨gf, 0, none⟩)) ?hi4x21 ?hB4x21 ?hQ4x21 ?hy4x21 hHeld ?rest4x21
        case hi4x21 => rfl
        case hB4x21 => kernel_rfl
        case hQ4x21 => exact fun _ _ _ h => h
        case hy4x21 => exact .inl ⟨by rfl, fun W hW => by
          go_simp⟩
        simp only [Act.put, List.setIfInBounds_toArray, List.set_cons_zero, List.set_cons_succ]
        refine RegD.wpAnyD_take 5 (oi := ?oi5x22) (v := .int .i64 y1) ?hi5x22 ?hB5x22 ?hQ5x22 ?hy5x22 hHeld ?rest5x22
        case hi5x22 => rfl
        case hB5x22 => kernel_rfl
        case hQ5x22 => exact fun _ _ _ h => h
        case hy5x22 => exact .inl ⟨by rfl, fun W hW => by
          have a0 := hW.1.c0
          go_simp⟩
        simp only [Act.put, List.setIfInBounds_toArray, List.set_cons_zero, List.set_cons_succ]
        refine RegD.wpAnyD_take 6 (oi := ?oi6x23) (v := .pointer (some ⟨gf, 3, none⟩)) ?hi6x23 ?hB6x23 ?hQ6x23 ?hy6x23 hHeld ?rest6x23
        case hi6x23 => rfl
        case hB6x23 => kernel_rfl
        case hQ6x23 => exact fun _ _ _ h => h
        case hy6x23 => exact .inl ⟨by rfl, fun W hW => by
          go_simp⟩
        simp only [Act.put, List.setIfInBounds_toArray, List.set_cons_zero, List.set_cons_succ]
        refine RegD.wpAnyD_take 7 (oi := ?oi7x24) (v := .string y4) ?hi7x24 ?hB7x24 ?hQ7x24 ?hy7x24 hHeld ?rest7x24
        case hi7x24 => rfl
        case hB7x24 => kernel_rfl
        case hQ7x24 => exact fun _ _ _ h => h
        case hy7x24 => exact .inl ⟨by rfl, fun W hW => by
          have a0 := hW.1.c3
          go_simp⟩
        simp only [Act.put, List.setIfInBounds_toArray, List.set_cons_zero, List.set_cons_succ]
        obtain ⟨w7, hrun, hm7, hg7⟩ := HH6.out.m2.store intLaw litI_inj Tryz.underlying93 (by have h1 := HC.out; have h2 := HLN.out; unfold maxLen; omega) (key := .int .i64 y1) (val := .string y4) (Go.Maps.keyOf_int_mk Tryz.underlying3 (wf_ok HOK.out)) (by exact trivial) (plainElem_string Tryz.underlying9 (by have := HLS.out; unfold maxLen; omega))
        have HM7 : Hid _ := hm7
        have HG7 : Hid _ := hg7
        clear hm7 hg7 hHeld
        refine RegD.wpAnyD_late 8 (o := ?o8x25) ?ho8x25 ?hr8x25 ?hd8x25 ?h8x25
        case ho8x25 => rfl
        case hr8x25 => kernel_rfl
        case hd8x25 => kernel_rfl
        intro K hK
        go_simp
        refine hK.out _ _ ?_
        clear hK K
        refine RegD.wpAnyD_done (by kernel_rfl) ?_ _
        have HK7 : Hid (Keep [b2] wa.drew w7) := Keep.grown HG7.out
        have HH7 : Hid _ := HH6.out.seen y1 y4 HM7.out HG7.out
        have HF7 : Hid (FB w7 gf ⟨y1, y2, y3, y4, y5, y6, y7, y8, y9⟩) := HF6.out.keep HK7.out (by have := HO5.out; simp; omega)
        have HN7 : Hid (NB w7 gq p.st (.slice (some ⟨gr, 0, none⟩) p.st.fams.length ca)) := HN6.out.keep HK7.out (by have := HOUT.out; simp; exact this)
        have HP7 : Hid (∀ j, j + 1 = k → ∃ y, (∀ W, Below w7.heap.size w7 W → W.cell? ⟨gr, j * 9, none⟩ = some (.int .i64 y)) ∧ y < y1) := fun j hj => by
          obtain ⟨y, q1⟩ := HPV5.out j hj
          have q2 : Keep [b2] W5 w7 := (Keep.of [b2] HB6.out).trans HK7.out
          have q3 := q1 w7 (.inr q2)
          have q4 : gr < w7.heap.size := World.block_lt_of_cell? _ _ q3.1
          exact ⟨y, fun W hW => (hW.cell (p := ⟨gr, j * 9, none⟩) q4).trans q3.1, q3.2⟩
        clear HPV5 HB6 HF6 HH6 HN6 HM7 HG7 HK7 hrun HO5
        have hx : ¬ p.st.next ≤ y1 := by have := HNX.out; omega
        go_upto_region 12 with fail
        by_cases hk0 : k = 0
        · have hkI : ¬ (0 : Int) < (k : Int) := by omega
          refine RegD.wp_region_D (fun W => FB W gf ⟨y1, y2, y3, y4, y5, y6, y7, y8, y9⟩ ∧ NB W gq p.st (.slice (some ⟨gr, 0, none⟩) p.st.fams.length ca) ∧ Below w7.heap.size w7 W) 20 (by kernel_rfl) (⟨HF7.out.on (Below.refl _ _).drew, HN7.out.on (Below.refl _ _).drew, (Below.refl _ _).drew⟩) (fun hHeld => ?_)
          refine RegD.wpAnyD_take 0 (oi := ?oi0x29) (v := .pointer (some ⟨gf, 0, none⟩)) ?hi0x29 ?hB0x29 ?hQ0x29 ?hy0x29 hHeld ?rest0x29
          case hi0x29 => rfl
          case hB0x29 => kernel_rfl
          case hQ0x29 => exact fun _ _ _ h => h
          case hy0x29 => exact .inl ⟨by rfl, fun W hW => by
            go_simp⟩
          simp only [Act.put, List.setIfInBounds_toArray, List.set_cons_zero, List.set_cons_succ]
          refine RegD.wpAnyD_take 1 (oi := ?oi1x30) (v := .int .i64 y1) ?hi1x30 ?hB1x30 ?hQ1x30 ?hy1x30 hHeld ?rest1x30
          case hi1x30 => rfl
          case hB1x30 => kernel_rfl
          case hQ1x30 => exact fun _ _ _ h => h
          case hy1x30 => exact .inl ⟨by rfl, fun W hW => by
            have a0 := hW.1.c0
            go_simp⟩
          simp only [Act.put, List.setIfInBounds_toArray, List.set_cons_zero, List.set_cons_succ]
          refine RegD.wpAnyD_take 2 (oi := ?oi2x31) (v := .pointer (some ⟨gq, 1, none⟩)) ?hi2x31 ?hB2x31 ?hQ2x31 ?hy2x31 hHeld ?rest2x31
          case hi2x31 => rfl
          case hB2x31 => kernel_rfl
          case hQ2x31 => exact fun _ _ _ h => h
          case hy2x31 => exact .inl ⟨by rfl, fun W hW => by
            go_simp⟩
          simp only [Act.put, List.setIfInBounds_toArray, List.set_cons_zero, List.set_cons_succ]
          refine RegD.wpAnyD_take 3 (oi := ?oi3x32) (v := .int .i64 p.st.next) ?hi3x32 ?hB3x32 ?hQ3x32 ?hy3x32 hHeld ?rest3x32
          case hi3x32 => rfl
          case hB3x32 => kernel_rfl
          case hQ3x32 => exact fun _ _ _ h => h
          case hy3x32 => exact .inl ⟨by rfl, fun W hW => by
            have a0 := hW.2.1.c1
            go_simp⟩
          simp only [Act.put, List.setIfInBounds_toArray, List.set_cons_zero, List.set_cons_succ]
          refine RegD.wpAnyD_take 4 (oi := ?oi4x33) (v := .bool false) ?hi4x33 ?hB4x33 ?hQ4x33 ?hy4x33 hHeld ?rest4x33
          case hi4x33 => rfl
          case hB4x33 => kernel_rfl
          case hQ4x33 => exact fun _ _ _ h => h
          case hy4x33 => exact .inl ⟨by rfl, fun W hW => by
            go_simp⟩
          simp only [Act.put, List.setIfInBounds_toArray, List.set_cons_zero, List.set_cons_succ]
          refine RegD.wpAnyD_take 5 (oi := ?oi5x34) (v := .bool false) ?hi5x34 ?hB5x34 ?hQ5x34 ?hy5x34 hHeld ?rest5x34
          case hi5x34 => rfl
          case hB5x34 => kernel_rfl
          case hQ5x34 => exact fun _ _ _ h => h
          case hy5x34 => exact .inl ⟨by rfl, fun W hW => by
            go_simp⟩
          simp only [Act.put, List.setIfInBounds_toArray, List.set_cons_zero, List.set_cons_succ]
          refine RegD.wpAnyD_take 6 (oi := ?oi6x35) (v := .int .i64 k) ?hi6x35 ?hB6x35 ?hQ6x35 ?hy6x35 hHeld ?rest6x35
          case hi6x35 => rfl
          case hB6x35 => kernel_rfl
          case hQ6x35 => exact fun _ _ _ h => h
          case hy6x35 => exact .inl ⟨by rfl, fun W hW => by
            go_simp⟩
          simp only [Act.put, List.setIfInBounds_toArray, List.set_cons_zero, List.set_cons_succ]
          refine RegD.wpAnyD_take 7 (oi := ?oi7x36) (v := .bool false) ?hi7x36 ?hB7x36 ?hQ7x36 ?hy7x36 hHeld ?rest7x36
          case hi7x36 => rfl
          case hB7x36 => kernel_rfl
          case hQ7x36 => exact fun _ _ _ h => h
          case hy7x36 => exact .inl ⟨by rfl, fun W hW => by
            go_simp⟩
          simp only [Act.put, List.setIfInBounds_toArray, List.set_cons_zero, List.set_cons_succ]
          refine RegD.wpAnyD_take 8 (oi := ?oi8x37) (v := .bool false) ?hi8x37 ?hB8x37 ?hQ8x37 ?hy8x37 hHeld ?rest8x37
          case hi8x37 => rfl
          case hB8x37 => kernel_rfl
          case hQ8x37 => exact fun _ _ _ h => h
          case hy8x37 => exact .inl ⟨by rfl, fun W hW => by
            go_simp⟩
          simp only [Act.put, List.setIfInBounds_toArray, List.set_cons_zero, List.set_cons_succ]
          refine RegD.wpAnyD_take 9 (oi := ?oi9x38) (v := undef) ?hi9x38 ?hB9x38 ?hQ9x38 ?hy9x38 hHeld ?rest9x38
          case hi9x38 => rfl
          case hB9x38 => kernel_rfl
          case hQ9x38 => exact fun _ _ _ h => h
          case hy9x38 => exact .inr ⟨by rfl, rfl⟩
          simp only [Act.put, List.setIfInBounds_toArray, List.set_cons_zero, List.set_cons_succ]
          refine RegD.wpAnyD_take 10 (oi := ?oi10x39) (v := undef) ?hi10x39 ?hB10x39 ?hQ10x39 ?hy10x39 hHeld ?rest10x39
          case hi10x39 => rfl
          case hB10x39 => kernel_rfl
          case hQ10x39 => exact fun _ _ _ h => h
          case hy10x39 => exact .inr ⟨by rfl, rfl⟩
          simp only [Act.put, List.setIfInBounds_toArray, List.set_cons_zero, List.set_cons_succ]
          refine RegD.wpAnyD_take 11 (oi := ?oi11x40) (v := undef) ?hi11x40 ?hB11x40 ?hQ11x40 ?hy11x40 hHeld ?rest11x40
          case hi11x40 => rfl
          case hB11x40 => kernel_rfl
          case hQ11x40 => exact fun _ _ _ h => h
          case hy11x40 => exact .inr ⟨by rfl, rfl⟩
          simp only [Act.put, List.setIfInBounds_toArray, List.set_cons_zero, List.set_cons_succ]
          refine RegD.wpAnyD_take 12 (oi := ?oi12x41) (v := undef) ?hi12x41 ?hB12x41 ?hQ12x41 ?hy12x41 hHeld ?rest12x41
          case hi12x41 => rfl
          case hB12x41 => kernel_rfl
          case hQ12x41 => exact fun _ _ _ h => h
          case hy12x41 => exact .inr ⟨by rfl, rfl⟩
          simp only [Act.put, List.setIfInBounds_toArray, List.set_cons_zero, List.set_cons_succ]
          refine RegD.wpAnyD_take 13 (oi := ?oi13x42) (v := undef) ?hi13x42 ?hB13x42 ?hQ13x42 ?hy13x42 hHeld ?rest13x42
          case hi13x42 => rfl
          case hB13x42 => kernel_rfl
          case hQ13x42 => exact fun _ _ _ h => h
          case hy13x42 => exact .inr ⟨by rfl, rfl⟩
          simp only [Act.put, List.setIfInBounds_toArray, List.set_cons_zero, List.set_cons_succ]
          refine RegD.wpAnyD_take 14 (oi := ?oi14x43) (v := undef) ?hi14x43 ?hB14x43 ?hQ14x43 ?hy14x43 hHeld ?rest14x43
          case hi14x43 => rfl
          case hB14x43 => kernel_rfl
          case hQ14x43 => exact fun _ _ _ h => h
          case hy14x43 => exact .inr ⟨by rfl, rfl⟩
          simp only [Act.put, List.setIfInBounds_toArray, List.set_cons_zero, List.set_cons_succ]
          refine RegD.wpAnyD_take 15 (oi := ?oi15x44) (v := undef) ?hi15x44 ?hB15x44 ?hQ15x44 ?hy15x44 hHeld ?rest15x44
          case hi15x44 => rfl
          case hB15x44 => kernel_rfl
          case hQ15x44 => exact fun _ _ _ h => h
          case hy15x44 => exact .inr ⟨by rfl, rfl⟩
          simp only [Act.put, List.setIfInBounds_toArray, List.set_cons_zero, List.set_cons_succ]
          refine RegD.wpAnyD_take 16 (oi := ?oi16x45) (v := undef) ?hi16x45 ?hB16x45 ?hQ16x45 ?hy16x45 hHeld ?rest16x45
          case hi16x45 => rfl
          case hB16x45 => kernel_rfl
          case hQ16x45 => exact fun _ _ _ h => h
          case hy16x45 => exact .inr ⟨by rfl, rfl⟩
          simp only [Act.put, List.setIfInBounds_toArray, List.set_cons_zero, List.set_cons_succ]
          refine RegD.wpAnyD_take 17 (oi := ?oi17x46) (v := undef) ?hi17x46 ?hB17x46 ?hQ17x46 ?hy17x46 hHeld ?rest17x46
          case hi17x46 => rfl
          case hB17x46 => kernel_rfl
          case hQ17x46 => exact fun _ _ _ h => h
          case hy17x46 => exact .inr ⟨by rfl, rfl⟩
          simp only [Act.put, List.setIfInBounds_toArray, List.set_cons_zero, List.set_cons_succ]
          refine RegD.wpAnyD_take 18 (oi := ?oi18x47) (v := undef) ?hi18x47 ?hB18x47 ?hQ18x47 ?hy18x47 hHeld ?rest18x47
          case hi18x47 => rfl
          case hB18x47 => kernel_rfl
          case hQ18x47 => exact fun _ _ _ h => h
          case hy18x47 => exact .inr ⟨by rfl, rfl⟩
          simp only [Act.put, List.setIfInBounds_toArray, List.set_cons_zero, List.set_cons_succ]
          refine RegD.wpAnyD_take 19 (oi := ?oi19x48) (v := .bool false) ?hi19x48 ?hB19x48 ?hQ19x48 ?hy19x48 hHeld ?rest19x48
          case hi19x48 => rfl
          case hB19x48 => kernel_rfl
          case hQ19x48 => exact fun _ _ _ h => h
          case hy19x48 => exact .inl ⟨by rfl, fun W hW => by
            go_simp⟩
          simp only [Act.put, List.setIfInBounds_toArray, List.set_cons_zero, List.set_cons_succ]
          clear hHeld
          refine RegD.wpAnyD_late 20 (o := ?o20x49) ?ho20x49 ?hr20x49 ?hd20x49 ?h20x49
          case ho20x49 => rfl
          case hr20x49 => kernel_rfl
          case hd20x49 => kernel_rfl
          intro K hK
          go_simp
          refine hK.out _ _ ?_
          clear hK K
          refine RegD.wpAnyD_done (by kernel_rfl) ?_ _
          go_wp2_with fail
          go_roundg (gk - 1)
          case measure => have := HK.out; omega
          case rel => exact ⟨k + 1, by have := HK.out; omega, by go_num, by rw [HPS3.out]; exact HH7.out.on (Below.refl _ _).drew, HN7.out.on (Below.refl _ _).drew⟩
        · obtain ⟨j, rfl⟩ : ∃ j, k = j + 1 := ⟨k - 1, by omega⟩
          obtain ⟨y, hyc, hyl⟩ := HP7.out j rfl
          have HYC : Hid _ := hyc
          have hkI : (0 : Int) < ((j + 1 : Nat) : Int) := by omega
          have hkJ : ((j + 1 : Nat) : Int) - 1 = (j : Int) := by omega
          have hjl : (j : Int) < (p.st.fams.length : Int) := by omega
          have hyn : ¬ y1 ≤ y := by omega
          have hj20 : j < 100 := by have := HLN.out; omega
          have hwj : IntKind.i64.wrap (j : Int) = (j : Int) := by rw [IntKind.wrap_i64]; omega
          clear hyc
          refine RegD.wp_region_D (fun W => FB W gf ⟨y1, y2, y3, y4, y5, y6, y7, y8, y9⟩ ∧ NB W gq p.st (.slice (some ⟨gr, 0, none⟩) p.st.fams.length ca) ∧ Below w7.heap.size w7 W) 20 (by kernel_rfl) (⟨HF7.out.on (Below.refl _ _).drew, HN7.out.on (Below.refl _ _).drew, (Below.refl _ _).drew⟩) (fun hHeld => ?_)
          refine RegD.wpAnyD_take 0 (oi := ?oi0x53) (v := .pointer (some ⟨gf, 0, none⟩)) ?hi0x53 ?hB0x53 ?hQ0x53 ?hy0x53 hHeld ?rest0x53
          case hi0x53 => rfl
          case hB0x53 => kernel_rfl
          case hQ0x53 => exact fun _ _ _ h => h
          case hy0x53 => exact .inl ⟨by rfl, fun W hW => by
            go_simp⟩
          simp only [Act.put, List.setIfInBounds_toArray, List.set_cons_zero, List.set_cons_succ]
          refine RegD.wpAnyD_take 1 (oi := ?oi1x54) (v := .int .i64 y1) ?hi1x54 ?hB1x54 ?hQ1x54 ?hy1x54 hHeld ?rest1x54
          case hi1x54 => rfl
          case hB1x54 => kernel_rfl
          case hQ1x54 => exact fun _ _ _ h => h
          case hy1x54 => exact .inl ⟨by rfl, fun W hW => by
            have a0 := hW.1.c0
            go_simp⟩
          simp only [Act.put, List.setIfInBounds_toArray, List.set_cons_zero, List.set_cons_succ]
          refine RegD.wpAnyD_take 2 (oi := ?oi2x55) (v := .pointer (some ⟨gq, 1, none⟩)) ?hi2x55 ?hB2x55 ?hQ2x55 ?hy2x55 hHeld ?rest2x55
          case hi2x55 => rfl
          case hB2x55 => kernel_rfl
          case hQ2x55 => exact fun _ _ _ h => h
          case hy2x55 => exact .inl ⟨by rfl, fun W hW => by
            go_simp⟩
          simp only [Act.put, List.setIfInBounds_toArray, List.set_cons_zero, List.set_cons_succ]
          refine RegD.wpAnyD_take 3 (oi := ?oi3x56) (v := .int .i64 p.st.next) ?hi3x56 ?hB3x56 ?hQ3x56 ?hy3x56 hHeld ?rest3x56
          case hi3x56 => rfl
          case hB3x56 => kernel_rfl
          case hQ3x56 => exact fun _ _ _ h => h
          case hy3x56 => exact .inl ⟨by rfl, fun W hW => by
            have a0 := hW.2.1.c1
            go_simp⟩
          simp only [Act.put, List.setIfInBounds_toArray, List.set_cons_zero, List.set_cons_succ]
          refine RegD.wpAnyD_take 4 (oi := ?oi4x57) (v := .bool false) ?hi4x57 ?hB4x57 ?hQ4x57 ?hy4x57 hHeld ?rest4x57
          case hi4x57 => rfl
          case hB4x57 => kernel_rfl
          case hQ4x57 => exact fun _ _ _ h => h
          case hy4x57 => exact .inl ⟨by rfl, fun W hW => by
            go_simp⟩
          simp only [Act.put, List.setIfInBounds_toArray, List.set_cons_zero, List.set_cons_succ]
          refine RegD.wpAnyD_take 5 (oi := ?oi5x58) (v := .bool false) ?hi5x58 ?hB5x58 ?hQ5x58 ?hy5x58 hHeld ?rest5x58
          case hi5x58 => rfl
          case hB5x58 => kernel_rfl
          case hQ5x58 => exact fun _ _ _ h => h
          case hy5x58 => exact .inl ⟨by rfl, fun W hW => by
            go_simp⟩
          simp only [Act.put, List.setIfInBounds_toArray, List.set_cons_zero, List.set_cons_succ]
          refine RegD.wpAnyD_take 6 (oi := ?oi6x59) (v := .int .i64 ((j + 1 : Nat) : Int)) ?hi6x59 ?hB6x59 ?hQ6x59 ?hy6x59 hHeld ?rest6x59
          case hi6x59 => rfl
          case hB6x59 => kernel_rfl
          case hQ6x59 => exact fun _ _ _ h => h
          case hy6x59 => exact .inl ⟨by rfl, fun W hW => by
            go_simp⟩
          simp only [Act.put, List.setIfInBounds_toArray, List.set_cons_zero, List.set_cons_succ]
          refine RegD.wpAnyD_take 7 (oi := ?oi7x60) (v := .bool true) ?hi7x60 ?hB7x60 ?hQ7x60 ?hy7x60 hHeld ?rest7x60
          case hi7x60 => rfl
          case hB7x60 => kernel_rfl
          case hQ7x60 => exact fun _ _ _ h => h
          case hy7x60 => exact .inl ⟨by rfl, fun W hW => by
            go_simp⟩
          simp only [Act.put, List.setIfInBounds_toArray, List.set_cons_zero, List.set_cons_succ]
          refine RegD.wpAnyD_take 8 (oi := ?oi8x61) (v := .bool true) ?hi8x61 ?hB8x61 ?hQ8x61 ?hy8x61 hHeld ?rest8x61
          case hi8x61 => rfl
          case hB8x61 => kernel_rfl
          case hQ8x61 => exact fun _ _ _ h => h
          case hy8x61 => exact .inl ⟨by rfl, fun W hW => by
            go_simp⟩
          simp only [Act.put, List.setIfInBounds_toArray, List.set_cons_zero, List.set_cons_succ]
          refine RegD.wpAnyD_take 9 (oi := ?oi9x62) (v := .pointer (some ⟨gq, 2, none⟩)) ?hi9x62 ?hB9x62 ?hQ9x62 ?hy9x62 hHeld ?rest9x62
          case hi9x62 => rfl
          case hB9x62 => kernel_rfl
          case hQ9x62 => exact fun _ _ _ h => h
          case hy9x62 => exact .inl ⟨by rfl, fun W hW => by
            go_simp⟩
          simp only [Act.put, List.setIfInBounds_toArray, List.set_cons_zero, List.set_cons_succ]
          refine RegD.wpAnyD_take 10 (oi := ?oi10x63) (v := .slice (some ⟨gr, 0, none⟩) p.st.fams.length ca) ?hi10x63 ?hB10x63 ?hQ10x63 ?hy10x63 hHeld ?rest10x63
          case hi10x63 => rfl
          case hB10x63 => kernel_rfl
          case hQ10x63 => exact fun _ _ _ h => h
          case hy10x63 => exact .inl ⟨by rfl, fun W hW => by
            have a0 := hW.2.1.c2
            go_simp⟩
          simp only [Act.put, List.setIfInBounds_toArray, List.set_cons_zero, List.set_cons_succ]
          refine RegD.wpAnyD_take 11 (oi := ?oi11x64) (v := .int .i64 ((j + 1 : Nat) : Int)) ?hi11x64 ?hB11x64 ?hQ11x64 ?hy11x64 hHeld ?rest11x64
          case hi11x64 => rfl
          case hB11x64 => kernel_rfl
          case hQ11x64 => exact fun _ _ _ h => h
          case hy11x64 => exact .inl ⟨by rfl, fun W hW => by
            go_simp⟩
          simp only [Act.put, List.setIfInBounds_toArray, List.set_cons_zero, List.set_cons_succ]
          refine RegD.wpAnyD_take 12 (oi := ?oi12x65) (v := .int .i64 (j : Int)) ?hi12x65 ?hB12x65 ?hQ12x65 ?hy12x65 hHeld ?rest12x65
          case hi12x65 => rfl
          case hB12x65 => kernel_rfl
          case hQ12x65 => exact fun _ _ _ h => h
          case hy12x65 => exact .inl ⟨by rfl, fun W hW => by
            go_simp⟩
          simp only [Act.put, List.setIfInBounds_toArray, List.set_cons_zero, List.set_cons_succ]
          refine RegD.wpAnyD_take 13 (oi := ?oi13x66) (v := .pointer (some ⟨gr, j * 9, none⟩)) ?hi13x66 ?hB13x66 ?hQ13x66 ?hy13x66 hHeld ?rest13x66
          case hi13x66 => rfl
          case hB13x66 => kernel_rfl
          case hQ13x66 => exact fun _ _ _ h => h
          case hy13x66 => exact .inl ⟨by rfl, fun W hW => by
            go_simp⟩
          simp only [Act.put, List.setIfInBounds_toArray, List.set_cons_zero, List.set_cons_succ]
          refine RegD.wpAnyD_take 14 (oi := ?oi14x67) (v := .pointer (some ⟨gr, j * 9, none⟩)) ?hi14x67 ?hB14x67 ?hQ14x67 ?hy14x67 hHeld ?rest14x67
          case hi14x67 => rfl
          case hB14x67 => kernel_rfl
          case hQ14x67 => exact fun _ _ _ h => h
          case hy14x67 => exact .inl ⟨by rfl, fun W hW => by
            go_simp⟩
          simp only [Act.put, List.setIfInBounds_toArray, List.set_cons_zero, List.set_cons_succ]
          refine RegD.wpAnyD_take 15 (oi := ?oi15x68) (v := .int .i64 y) ?hi15x68 ?hB15x68 ?hQ15x68 ?hy15x68 hHeld ?rest15x68
          case hi15x68 => rfl
          case hB15x68 => kernel_rfl
          case hQ15x68 => exact fun _ _ _ h => h
          case hy15x68 => exact .inl ⟨by rfl, fun W hW => by
            have a0 := HYC.out _ hW.2.2
            go_simp⟩
          simp only [Act.put, List.setIfInBounds_toArray, List.set_cons_zero, List.set_cons_succ]
          refine RegD.wpAnyD_take 16 (oi := ?oi16x69) (v := .pointer (some ⟨gf, 0, none⟩)) ?hi16x69 ?hB16x69 ?hQ16x69 ?hy16x69 hHeld ?rest16x69
          case hi16x69 => rfl
          case hB16x69 => kernel_rfl
          case hQ16x69 => exact fun _ _ _ h => h
          case hy16x69 => exact .inl ⟨by rfl, fun W hW => by
            go_simp⟩
          simp only [Act.put, List.setIfInBounds_toArray, List.set_cons_zero, List.set_cons_succ]
          refine RegD.wpAnyD_take 17 (oi := ?oi17x70) (v := .int .i64 y1) ?hi17x70 ?hB17x70 ?hQ17x70 ?hy17x70 hHeld ?rest17x70
          case hi17x70 => rfl
          case hB17x70 => kernel_rfl
          case hQ17x70 => exact fun _ _ _ h => h
          case hy17x70 => exact .inl ⟨by rfl, fun W hW => by
            have a0 := hW.1.c0
            go_simp⟩
          simp only [Act.put, List.setIfInBounds_toArray, List.set_cons_zero, List.set_cons_succ]
          refine RegD.wpAnyD_take 18 (oi := ?oi18x71) (v := .bool false) ?hi18x71 ?hB18x71 ?hQ18x71 ?hy18x71 hHeld ?rest18x71
          case hi18x71 => rfl
          case hB18x71 => kernel_rfl
          case hQ18x71 => exact fun _ _ _ h => h
          case hy18x71 => exact .inl ⟨by rfl, fun W hW => by
            go_simp⟩
          simp only [Act.put, List.setIfInBounds_toArray, List.set_cons_zero, List.set_cons_succ]
          refine RegD.wpAnyD_take 19 (oi := ?oi19x72) (v := .bool false) ?hi19x72 ?hB19x72 ?hQ19x72 ?hy19x72 hHeld ?rest19x72
          case hi19x72 => rfl
          case hB19x72 => kernel_rfl
          case hQ19x72 => exact fun _ _ _ h => h
          case hy19x72 => exact .inl ⟨by rfl, fun W hW => by
            go_simp⟩
          simp only [Act.put, List.setIfInBounds_toArray, List.set_cons_zero, List.set_cons_succ]
          clear hHeld
          refine RegD.wpAnyD_late 20 (o := ?o20x73) ?ho20x73 ?hr20x73 ?hd20x73 ?h20x73
          case ho20x73 => rfl
          case hr20x73 => kernel_rfl
          case hd20x73 => kernel_rfl
          intro K hK
          go_simp
          refine hK.out _ _ ?_
          clear hK K
          refine RegD.wpAnyD_done (by kernel_rfl) ?_ _
          go_wp2_with fail
          go_roundg (gk - 1)
          case measure => have := HK.out; omega
          case rel => exact ⟨j + 1 + 1, by have := HK.out; omega, by go_num, by rw [HPS3.out]; exact HH7.out.on (Below.refl _ _).drew, HN7.out.on (Below.refl _ _).drew⟩
    · obtain rfl : k = p.st.fams.length := by have := HK.out; omega
      go_wp2_with fail
      go_ret
      refine ⟨rfl, _, _, ?_, HE.out⟩
      have := HHK.out
      rw [List.take_length] at this
      exact this.mono (Nat.le_refl _) (by have := HLN.out; omega) (Nat.le_refl _)
end Go.Proofs.YtlailakofhenkabGreatDoor
