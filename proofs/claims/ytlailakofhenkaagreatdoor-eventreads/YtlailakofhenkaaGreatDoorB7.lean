/-
  Own texts put together: ScRef, ScPairs, ScRef2, EvRefMay, EvMayP.
-/
import Derived.Test.YtlailakofhenkaaGreatDoorB5
import Derived.Test.YtlailakofhenkaaGreatDoorB6
import Derived.Test.YtlailakofhenkaaGreatDoorB3
/-
  A scope as the document's answer reads it.
-/

namespace Go.Proofs.YtlailakofhenkaaGreatDoor
open Go Go.RowKit Go.Maps Sc
theorem HasSet.below {B : Nat} {w w' : World} {b n : Nat} {S : List UInt8 → Bool} (h : HasSet w b n S) (hb : Below B w w') (hB : b < B) : HasSet w' b n S := h.block (hb.block b hB)
theorem HasSet.mono {w : World} {b n m : Nat} {S : List UInt8 → Bool} (h : HasSet w b n S) (hm : n ≤ m) : HasSet w b m S := by
  obtain ⟨D, h1, h2⟩ := h
  exact ⟨D, h1.mono hm, h2⟩
theorem Words.grownBy {B b : Nat} {w w' : World} {v : Value} {xs : List ByteArray} (h : Words B w v xs) (hg : w.grownBy w' (some b)) (hb : b < B) : Words B w' v xs := by
  rcases h with ⟨rfl, rfl⟩ | ⟨g, c, rfl, hr⟩
  · exact .inl ⟨rfl, rfl⟩
  · exact .inr ⟨g, c, rfl, hr.block hg.size (hg.block g hr.lt (by intro e; injection e with e; have := hr.new; omega))⟩
theorem info_str : (Tryz.prog.info? 9).map (fun i => (i.zero, i.size, i.bytes)) = some (some (.string ⟨#[]⟩), 1, 16) := by kernel_rfl
theorem info_strs : ∃ i, Tryz.prog.info? 9 = some i ∧ i.zero = some (.string ⟨#[]⟩) ∧ i.size = 1 ∧ i.bytes = 16 := by
  have h := info_str
  cases hi : Tryz.prog.info? 9 with
  | none => rw [hi] at h; cases h
  | some i =>
    rw [hi] at h
    simp only [Option.map_some, Option.some.injEq, Prod.mk.injEq] at h
    exact ⟨i, rfl, h.1, h.2.1, h.2.2⟩
/-- What the loop carries. -/
structure ScRun (w : World) (s : List UInt8) (i : Nat) (outs : List ByteArray) (pre : List Word) (cur : Word) (v : Value) (wr : World) : Prop where
  scan : Scan s i pre cur
  once : Once (outs.map (·.data.toList)) pre
  row : Words (w.heap.size + 1) wr v outs
  set : HasSet wr w.heap.size i (fun x => decide (x ∈ pre))
  below : Below w.heap.size w wr
  len : outs.length ≤ i
theorem ScRun.size {w : World} {s : List UInt8} {i : Nat} {outs : List ByteArray} {pre : List Word} {cur : Word} {v : Value} {wr : World} (h : ScRun w s i outs pre cur v wr) : w.heap.size + 1 ≤ wr.heap.size := h.set.lt
theorem scRun_start (w : World) (s : List UInt8) : ScRun w s 0 [] [] [] (.slice none 0 0) (w.alloc (.map #[] 0)) :=
  ⟨scan_start s, ⟨.nil, fun _ => Iff.rfl⟩, .inl ⟨rfl, rfl⟩, by simpa using HasSet.made w, (Below.refl _ _).alloc (Nat.le_refl _) _, Nat.le_refl _⟩
theorem str_add (cur : List UInt8) (s : ByteArray) (i : Nat) (h : i < s.size) : (⟨cur.toArray⟩ : ByteArray) ++ s.extract i (i + 1) = ⟨(cur ++ [s[i]]).toArray⟩ := by
  apply ByteArray.ext
  apply Array.toList_inj.1
  rw [ByteArray.data_append, Array.toList_append, ByteArray.data_extract, Array.toList_extract]
  have hh : i < s.data.toList.length := by simpa using h
  have e : s.data.toList[i] = s[i] := rfl
  show cur ++ _ = cur ++ [s[i]]
  congr 1
  rw [List.extract_eq_take_drop, show i + 1 - i = 1 by omega, List.drop_eq_getElem_cons hh, e]
  rfl
set_option maxRecDepth 100000 in
set_option maxHeartbeats 8000000 in
theorem refScope_is (s : ByteArray) (w : World) (hs : s.size ≤ 5000) : Calls Tryz.prog 140 #[.string s] w fun e w' => ∃ v xs n, e = .returned (.tuple #[v, .int .i64 (n : Nat)]) ∧ Out s.data.toList (xs.map (·.data.toList)) n ∧ Words w.heap.size w' v xs ∧ Below w.heap.size w w' := by
  have hss : s.data.toList.length = s.size := Array.length_toList
  obtain ⟨i0, hi, hz0, hz1, hz2⟩ := info_strs
  by_cases h0 : s.data.toList = []
  · have he : s.toList.isEmpty = true := by rw [ByteArray.toList_eq, h0]; rfl
    have HO : Hid (Out s.data.toList (([] : List ByteArray).map (·.data.toList)) 0) := by rw [h0]; exact .inl ⟨rfl, rfl, setOf_nil, by simp, by simp [words_nil]⟩
    clear hi
    go_enter Tryz.func140, Tryz.ntmps140
    go_wp2_with fail
    exact bodyPost_ret (v := .tuple #[.slice none 0 0, .int .i64 0]) (by simp [results, Tryz.results140, go_sem]) rfl ⟨_, [], 0, rfl, HO.out, .inl ⟨rfl, rfl⟩, Below.refl _ _⟩
  · have H0 : Hid (s.data.toList ≠ []) := h0
    have he : s.toList.isEmpty = false := by rw [ByteArray.toList_eq, List.isEmpty_eq_false_iff]; exact h0
    have HSS : Hid (s.data.toList.length = s.size) := hss
    have HGET : Hid (∀ k (h : k < s.size), s.data.toList[k]'(by simpa using h) = s[k]) := fun k h => rfl
    clear h0 hss
    have hmm := @run_makeMap Tryz.prog
    have n1 : ¬ 9223372036854775807 < s.size + 1 := by omega
    go_enter Tryz.func140, Tryz.ntmps140
    go_wp2_with fail
    go_loopg [4, 5, 7, 15] (s.size + 1) (fun gk ov cv lv iv wr => ∃ (i : Nat) (outs : List ByteArray) (pre : List Word) (cur : Word), i + gk = s.size + 1 ∧ iv = .int .i64 i ∧ cv = .string ⟨cur.toArray⟩ ∧ lv = .bool (longB pre) ∧ Hid (ScRun w s.data.toList i outs pre cur ov wr))
    case atStart => exact ⟨0, [], [], [], by omega, rfl, rfl, rfl, scRun_start w _⟩
    case round =>
      obtain ⟨i, outs, pre, cur, hik, rfl, rfl, rfl, HR⟩ := hrel
      have HK : Hid (i + gk = s.size + 1) := hik
      have hi1 : i ≤ s.size + 1 := by omega
      have hcl : cur.length ≤ i := HR.out.scan.len
      clear hik
      obtain ⟨base, c, hvv⟩ := HR.out.row.slice
      subst hvv
      have hol : outs.length ≤ i := HR.out.len
      by_cases hlt : i < s.size + 1
      · by_cases hend : WEnds s.data.toList i
        · have HE : Hid (WEnds s.data.toList i) := hend
          clear hend
          by_cases hq : i = s.size
          · have hq1 : ((i : Int) == (s.size : Int)) = true := by rw [hq]; exact beq_self_eq_true _
            have hq3 : (i : Int) = (s.size : Int) := by omega
            clear hq
            by_cases hc : cur = []
            · have hce : List.isEmpty cur = true := by rw [hc]; rfl
              have HO : Hid (Out s.data.toList (([] : List ByteArray).map (·.data.toList)) 3) := .inr (.inl ⟨rfl, rfl, scan_empty (by have := HR.out.scan; rwa [hc] at this) H0.out (by have := HSS.out; omega) HE.out⟩)
              clear hc
              go_wp2_with fail
              exact bodyPost_ret (v := .tuple #[.slice none 0 0, .int .i64 3]) (by simp [results, Tryz.results140, go_sem]) rfl ⟨_, [], 3, rfl, HO.out, .inl ⟨rfl, rfl⟩, HR.out.below⟩
            · have hce : List.isEmpty cur = false := List.isEmpty_eq_false_iff.2 hc
              have HSC : Hid (Scan s.data.toList (i + 1) (pre ++ [cur]) []) := scan_cut HR.out.scan (by have := HSS.out; omega) HE.out hc
              have hcm : (⟨cur.toArray⟩ : ByteArray).size ≤ maxLen := by rw [bsize]; unfold maxLen; omega
              have HLB : Hid (longB (pre ++ [cur]) = (longB pre || decide (8 < cur.length))) := longB_add pre cur
              clear hc
              by_cases hin : cur ∈ pre
              · have hlk : (Instr.lookup 230 (.map (some w.heap.size)) (.string ⟨cur.toArray⟩) false).run Tryz.prog wr = .ok (.bool true) wr := by
                  have := HR.out.set.look hcm
                  rw [blist, decide_eq_true hin] at this
                  exact this
                have HON : Hid (Once (outs.map (·.data.toList)) (pre ++ [cur])) := once_there HR.out.once hin
                have HR2 : Hid (ScRun w s.data.toList (i + 1) outs (pre ++ [cur]) [] (.slice base outs.length c) wr) := by
                  refine ⟨HSC.out, HON.out, HR.out.row, ?_, HR.out.below, by omega⟩
                  have e : (fun x => decide (x ∈ pre ++ [cur])) = fun x => decide (x ∈ pre) := by
                    funext x
                    rw [decide_eq_decide, List.mem_append, List.mem_singleton]
                    exact ⟨fun h => h.elim id (fun h => h ▸ hin), .inl⟩
                  rw [e]
                  exact HR.out.set.mono (Nat.le_succ _)
                clear hin
                generalize hlp : longB pre = lp at *
                clear hlp
                cases lp with
                | true =>
                  go_wp2_with fail
                  go_roundg (gk - 1)
                  case measure => have := HK.out; omega
                  case rel => exact ⟨i + 1, outs, pre ++ [cur], [], by have := HK.out; omega, by go_num, rfl, by rw [HLB.out]; first | rfl | (simp; try omega), HR2⟩
                | false =>
                  go_wp2_with fail
                  go_roundg (gk - 1)
                  case measure => have := HK.out; omega
                  case rel => exact ⟨i + 1, outs, pre ++ [cur], [], by have := HK.out; omega, by go_num, rfl, by rw [HLB.out]; first | rfl | (simp; try omega), HR2⟩
              · have hlk : (Instr.lookup 230 (.map (some w.heap.size)) (.string ⟨cur.toArray⟩) false).run Tryz.prog wr = .ok (.bool false) wr := by
                  have := HR.out.set.look hcm
                  rw [blist, decide_eq_false hin] at this
                  exact this
                have HON : Hid (Once ((outs ++ [(⟨cur.toArray⟩ : ByteArray)]).map (·.data.toList)) (pre ++ [cur])) := by
                  have := once_new HR.out.once hin
                  simpa [Hid] using this
                have HSE : Hid ((fun j => decide (j = (⟨cur.toArray⟩ : ByteArray).data.toList) || decide (j ∈ pre)) = fun x => decide (x ∈ pre ++ [cur])) := by
                  funext x
                  simp [Bool.or_comm]
                clear hin
                generalize hlp : longB pre = lp at *
                clear hlp
                go_wp2_with (at_mapUpdate; refine wpList_setPut _ rfl _ _ _ rfl w.heap.size i (fun x => decide (x ∈ pre)) rfl HR.out.set (by unfold maxLen; omega) ⟨cur.toArray⟩ rfl rfl hcm ?_)
                intro w1 hset hgr
                have HS1 : Hid (HasSet w1 w.heap.size (i + 1) (fun x => decide (x ∈ pre ++ [cur]))) := by
                  show HasSet _ _ _ _
                  rw [← HSE.out]
                  exact hset
                have HB1 : Hid (Below w.heap.size w w1) := HR.out.below.grown hgr (by have := HR.out.size; omega) (fun k hk => by injection hk with hk; omega)
                have HW1 : Hid (Words (w.heap.size + 1) w1 (.slice base outs.length c) outs) := HR.out.row.grownBy hgr (Nat.lt_succ_self _)
                have hsz1 : w.heap.size + 1 ≤ w1.heap.size := Nat.le_trans HR.out.size hgr.size
                clear hset hgr hlk
                go_wp2_with (at_builtin; refine wpList_append_words _ rfl _ _ 23 rfl 9 i0 Tryz.underlying23 hi hz0 hz1 hz2 (w.heap.size + 1) _ outs rfl (HW1.out.below ((Below.refl w1.heap.size w1).alloc (Nat.le_refl _) _) (Nat.le_refl _)) (by simp; omega) ⟨w1.heap.size, 0, none⟩ 1 ⟨cur.toArray⟩ rfl (by simp) (by omega) ?_)
                intro v2 w2 hv2 hb2
                have HV2 : Hid (Words (w.heap.size + 1) w2 v2 (outs ++ [(⟨cur.toArray⟩ : ByteArray)])) := hv2
                have HR2 : Hid (ScRun w s.data.toList (i + 1) (outs ++ [(⟨cur.toArray⟩ : ByteArray)]) (pre ++ [cur]) [] v2 w2) := by
                  have hb3 : Below (w.heap.size + 1) w1 w2 := ((Below.refl _ _).alloc hsz1 _).trans hb2
                  exact ⟨HSC.out, HON.out, hv2, HS1.out.below hb3 (Nat.lt_succ_self _), HB1.out.trans (hb3.mono (Nat.le_succ _)), by simp; omega⟩
                obtain ⟨base2, c2, hv22⟩ := hv2.slice
                subst hv22
                clear hv2 hb2
                cases lp with
                | true =>
                  go_wp2_with fail
                  go_roundg (gk - 1)
                  case measure => have := HK.out; omega
                  case rel => exact ⟨i + 1, _, pre ++ [cur], [], by have := HK.out; omega, by go_num, rfl, by rw [HLB.out]; first | rfl | (simp; try omega), HR2⟩
                | false =>
                  go_wp2_with fail
                  go_roundg (gk - 1)
                  case measure => have := HK.out; omega
                  case rel => exact ⟨i + 1, _, pre ++ [cur], [], by have := HK.out; omega, by go_num, rfl, by rw [HLB.out]; first | rfl | (simp; try omega), HR2⟩
          · have hlt2 : i < s.size := by omega
            have hq1 : ((i : Int) == (s.size : Int)) = false := by rw [beq_eq_false_iff_ne]; omega
            have hq2 : ((s[i].toNat : Int) == 43) = true := by
              rcases HE.out with h | ⟨h, h43⟩
              · exact absurd (by have := HSS.out; omega) hq
              · rw [HGET.out i hlt2] at h43
                rw [h43]
                rfl
            clear hq
            by_cases hc : cur = []
            · have hce : List.isEmpty cur = true := by rw [hc]; rfl
              have HO : Hid (Out s.data.toList (([] : List ByteArray).map (·.data.toList)) 3) := .inr (.inl ⟨rfl, rfl, scan_empty (by have := HR.out.scan; rwa [hc] at this) H0.out (by have := HSS.out; omega) HE.out⟩)
              clear hc
              go_wp2_with fail
              exact bodyPost_ret (v := .tuple #[.slice none 0 0, .int .i64 3]) (by simp [results, Tryz.results140, go_sem]) rfl ⟨_, [], 3, rfl, HO.out, .inl ⟨rfl, rfl⟩, HR.out.below⟩
            · have hce : List.isEmpty cur = false := List.isEmpty_eq_false_iff.2 hc
              have HSC : Hid (Scan s.data.toList (i + 1) (pre ++ [cur]) []) := scan_cut HR.out.scan (by have := HSS.out; omega) HE.out hc
              have hcm : (⟨cur.toArray⟩ : ByteArray).size ≤ maxLen := by rw [bsize]; unfold maxLen; omega
              have HLB : Hid (longB (pre ++ [cur]) = (longB pre || decide (8 < cur.length))) := longB_add pre cur
              clear hc
              by_cases hin : cur ∈ pre
              · have hlk : (Instr.lookup 230 (.map (some w.heap.size)) (.string ⟨cur.toArray⟩) false).run Tryz.prog wr = .ok (.bool true) wr := by
                  have := HR.out.set.look hcm
                  rw [blist, decide_eq_true hin] at this
                  exact this
                have HON : Hid (Once (outs.map (·.data.toList)) (pre ++ [cur])) := once_there HR.out.once hin
                have HR2 : Hid (ScRun w s.data.toList (i + 1) outs (pre ++ [cur]) [] (.slice base outs.length c) wr) := by
                  refine ⟨HSC.out, HON.out, HR.out.row, ?_, HR.out.below, by omega⟩
                  have e : (fun x => decide (x ∈ pre ++ [cur])) = fun x => decide (x ∈ pre) := by
                    funext x
                    rw [decide_eq_decide, List.mem_append, List.mem_singleton]
                    exact ⟨fun h => h.elim id (fun h => h ▸ hin), .inl⟩
                  rw [e]
                  exact HR.out.set.mono (Nat.le_succ _)
                clear hin
                generalize hlp : longB pre = lp at *
                clear hlp
                cases lp with
                | true =>
                  go_wp2_with fail
                  go_roundg (gk - 1)
                  case measure => have := HK.out; omega
                  case rel => exact ⟨i + 1, outs, pre ++ [cur], [], by have := HK.out; omega, by go_num, rfl, by rw [HLB.out]; first | rfl | (simp; try omega), HR2⟩
                | false =>
                  go_wp2_with fail
                  go_roundg (gk - 1)
                  case measure => have := HK.out; omega
                  case rel => exact ⟨i + 1, outs, pre ++ [cur], [], by have := HK.out; omega, by go_num, rfl, by rw [HLB.out]; first | rfl | (simp; try omega), HR2⟩
              · have hlk : (Instr.lookup 230 (.map (some w.heap.size)) (.string ⟨cur.toArray⟩) false).run Tryz.prog wr = .ok (.bool false) wr := by
                  have := HR.out.set.look hcm
                  rw [blist, decide_eq_false hin] at this
                  exact this
                have HON : Hid (Once ((outs ++ [(⟨cur.toArray⟩ : ByteArray)]).map (·.data.toList)) (pre ++ [cur])) := by
                  have := once_new HR.out.once hin
                  simpa [Hid] using this
                have HSE : Hid ((fun j => decide (j = (⟨cur.toArray⟩ : ByteArray).data.toList) || decide (j ∈ pre)) = fun x => decide (x ∈ pre ++ [cur])) := by
                  funext x
                  simp [Bool.or_comm]
                clear hin
                generalize hlp : longB pre = lp at *
                clear hlp
                go_wp2_with (at_mapUpdate; refine wpList_setPut _ rfl _ _ _ rfl w.heap.size i (fun x => decide (x ∈ pre)) rfl HR.out.set (by unfold maxLen; omega) ⟨cur.toArray⟩ rfl rfl hcm ?_)
                intro w1 hset hgr
                have HS1 : Hid (HasSet w1 w.heap.size (i + 1) (fun x => decide (x ∈ pre ++ [cur]))) := by
                  show HasSet _ _ _ _
                  rw [← HSE.out]
                  exact hset
                have HB1 : Hid (Below w.heap.size w w1) := HR.out.below.grown hgr (by have := HR.out.size; omega) (fun k hk => by injection hk with hk; omega)
                have HW1 : Hid (Words (w.heap.size + 1) w1 (.slice base outs.length c) outs) := HR.out.row.grownBy hgr (Nat.lt_succ_self _)
                have hsz1 : w.heap.size + 1 ≤ w1.heap.size := Nat.le_trans HR.out.size hgr.size
                clear hset hgr hlk
                go_wp2_with (at_builtin; refine wpList_append_words _ rfl _ _ 23 rfl 9 i0 Tryz.underlying23 hi hz0 hz1 hz2 (w.heap.size + 1) _ outs rfl (HW1.out.below ((Below.refl w1.heap.size w1).alloc (Nat.le_refl _) _) (Nat.le_refl _)) (by simp; omega) ⟨w1.heap.size, 0, none⟩ 1 ⟨cur.toArray⟩ rfl (by simp) (by omega) ?_)
                intro v2 w2 hv2 hb2
                have HV2 : Hid (Words (w.heap.size + 1) w2 v2 (outs ++ [(⟨cur.toArray⟩ : ByteArray)])) := hv2
                have HR2 : Hid (ScRun w s.data.toList (i + 1) (outs ++ [(⟨cur.toArray⟩ : ByteArray)]) (pre ++ [cur]) [] v2 w2) := by
                  have hb3 : Below (w.heap.size + 1) w1 w2 := ((Below.refl _ _).alloc hsz1 _).trans hb2
                  exact ⟨HSC.out, HON.out, hv2, HS1.out.below hb3 (Nat.lt_succ_self _), HB1.out.trans (hb3.mono (Nat.le_succ _)), by simp; omega⟩
                obtain ⟨base2, c2, hv22⟩ := hv2.slice
                subst hv22
                clear hv2 hb2
                cases lp with
                | true =>
                  go_wp2_with fail
                  go_roundg (gk - 1)
                  case measure => have := HK.out; omega
                  case rel => exact ⟨i + 1, _, pre ++ [cur], [], by have := HK.out; omega, by go_num, rfl, by rw [HLB.out]; first | rfl | (simp; try omega), HR2⟩
                | false =>
                  go_wp2_with fail
                  go_roundg (gk - 1)
                  case measure => have := HK.out; omega
                  case rel => exact ⟨i + 1, _, pre ++ [cur], [], by have := HK.out; omega, by go_num, rfl, by rw [HLB.out]; first | rfl | (simp; try omega), HR2⟩
        · have hlt2 : i < s.size := by
            rcases Nat.lt_or_ge i s.size with h | h
            · exact h
            · exact absurd (.inl (by have := HSS.out; omega)) hend
          have h43 : s[i] ≠ 43 := fun h => hend (.inr ⟨by have := HSS.out; omega, by rw [HGET.out i hlt2]; exact h⟩)
          have H43 : Hid (s[i] ≠ 43) := h43
          have h43n : ¬ s[i].toNat = 43 := fun h => h43 (UInt8.toNat_inj.1 h)
          have hq1 : ((i : Int) == (s.size : Int)) = false := by rw [beq_eq_false_iff_ne]; omega
          have hq2 : ((s[i].toNat : Int) == 43) = false := by rw [beq_eq_false_iff_ne]; omega
          clear hend h43
          by_cases h1 : 97 ≤ s[i].toNat
          · by_cases h2 : s[i].toNat ≤ 122
            · have HL : Hid (lowB s[i] = true) := lowB_t h1 h2
              have n2 : i + 1 ≤ s.size := by omega
              have n3 : ¬ 9223372036854775807 < cur.length + 1 := by omega
              have HEX : Hid ((⟨cur.toArray⟩ : ByteArray) ++ s.extract i (i + 1) = ⟨(cur ++ [s[i]]).toArray⟩) := str_add cur s i hlt2
              go_wp2_with fail
              go_roundg (gk - 1)
              case measure => have := HK.out; omega
              case rel =>
                have hsc := scan_letter HR.out.scan (by have := HSS.out; omega) (by rw [HGET.out i hlt2]; exact HL.out)
                rw [HGET.out i hlt2] at hsc
                exact ⟨i + 1, outs, pre, cur ++ [s[i]], by have := HK.out; omega, by go_num, by first | rw [HEX.out] | rfl, rfl, ⟨hsc, HR.out.once, HR.out.row, HR.out.set.mono (Nat.le_succ _), HR.out.below, by omega⟩⟩
            · have HO : Hid (Out s.data.toList (([] : List ByteArray).map (·.data.toList)) 3) := .inr (.inl ⟨rfl, rfl, scan_bad HR.out.scan (by have := HSS.out; omega) (by rw [HGET.out i hlt2]; exact lowB_f (by omega)) (by rw [HGET.out i hlt2]; exact H43.out)⟩)
              go_wp2_with fail
              exact bodyPost_ret (v := .tuple #[.slice none 0 0, .int .i64 3]) (by simp [results, Tryz.results140, go_sem]) rfl ⟨_, [], 3, rfl, HO.out, .inl ⟨rfl, rfl⟩, HR.out.below⟩
          · have HO : Hid (Out s.data.toList (([] : List ByteArray).map (·.data.toList)) 3) := .inr (.inl ⟨rfl, rfl, scan_bad HR.out.scan (by have := HSS.out; omega) (by rw [HGET.out i hlt2]; exact lowB_f (by omega)) (by rw [HGET.out i hlt2]; exact H43.out)⟩)
            go_wp2_with fail
            exact bodyPost_ret (v := .tuple #[.slice none 0 0, .int .i64 3]) (by simp [results, Tryz.results140, go_sem]) rfl ⟨_, [], 3, rfl, HO.out, .inl ⟨rfl, rfl⟩, HR.out.below⟩
      · obtain rfl : i = s.size + 1 := by omega
        have HEND : Hid (formedB s.data.toList = true ∧ words s.data.toList = pre) := scan_end (by have := HR.out.scan; rw [HSS.out]; exact this) H0.out
        have HOO := once_out HEND.out.1 (by rw [HEND.out.2]; exact HR.out.once)
        rw [HEND.out.2] at HOO
        have HOO : Hid _ := HOO
        by_cases hl : longB pre = true
        · have HO : Hid (Out s.data.toList (([] : List ByteArray).map (·.data.toList)) 4) := HOO.out.1 (.inl hl)
          go_wp2_with fail
          exact bodyPost_ret (v := .tuple #[.slice none 0 0, .int .i64 4]) (by simp [results, Tryz.results140, go_sem]) rfl ⟨_, [], 4, rfl, HO.out, .inl ⟨rfl, rfl⟩, HR.out.below⟩
        · have hl : longB pre = false := by simpa using hl
          by_cases h5 : 5 < outs.length
          · have HO : Hid (Out s.data.toList (([] : List ByteArray).map (·.data.toList)) 4) := HOO.out.1 (.inr (by simpa using h5))
            go_wp2_with fail
            exact bodyPost_ret (v := .tuple #[.slice none 0 0, .int .i64 4]) (by simp [results, Tryz.results140, go_sem]) rfl ⟨_, [], 4, rfl, HO.out, .inl ⟨rfl, rfl⟩, HR.out.below⟩
          · have HO : Hid (Out s.data.toList ((bytesOf ((outs.map (·.data.toList)).mergeSort fun x y => decide (x ≤ y))).map (·.data.toList)) 0) := by
              have h := HOO.out.2 hl (by simp; omega)
              rw [← bytesOf_back ((outs.map (·.data.toList)).mergeSort fun x y => decide (x ≤ y))] at h
              exact h
            have h5' : (outs.length : Int) ≤ 5 := by omega
            go_wp2_with fail
            refine (sort_is HR.out.row (by omega) HR.out.size).mono ?_
            rintro e w2 ⟨rfl, hv2, hb2⟩
            have HV2 : Hid (Words (w.heap.size + 1) w2 (.slice base outs.length c) (bytesOf ((outs.map (·.data.toList)).mergeSort fun x y => decide (x ≤ y)))) := hv2
            have HB2 : Hid (Below w.heap.size w w2) := HR.out.below.trans (hb2.mono (Nat.le_succ _))
            clear hv2 hb2
            go_wp2_with fail
            exact bodyPost_ret (v := .tuple #[.slice base outs.length c, .int .i64 0]) (by simp [results, Tryz.results140, go_sem]) rfl ⟨_, _, 0, rfl, HO.out, HV2.out.mono (Nat.le_succ _), HB2.out⟩
end Go.Proofs.YtlailakofhenkaaGreatDoor

/-
  Plain mathematics: pairs that are one are counted.
-/

namespace Go.Proofs.YtlailakofhenkaaGreatDoor.Sc
def pairsOf (l m : List Word) : Nat := (l.map fun p => m.count p).sum
theorem pairs_take (l m : List Word) (k : Nat) (h : k < l.length) : pairsOf (l.take (k + 1)) m = pairsOf (l.take k) m + m.count l[k] := by
  unfold pairsOf
  rw [List.take_succ_eq_append_getElem h, List.map_append, List.sum_append]
  simp
theorem count_take (m : List Word) (p : Word) (k : Nat) (h : k < m.length) : (m.take (k + 1)).count p = (m.take k).count p + if m[k] = p then 1 else 0 := by
  rw [List.take_succ_eq_append_getElem h, List.count_append]
  congr 1
  by_cases e : m[k] = p
  · simp [e]
  · simp [e]
theorem count_one {m : List Word} (h : m.Nodup) (p : Word) : m.count p = if p ∈ m then 1 else 0 := by
  induction m with
  | nil => simp
  | cons a m ih =>
    rw [List.nodup_cons] at h
    rw [List.count_cons, ih h.2]
    by_cases e : a = p
    · subst e
      simp [h.1]
    · have e' : ¬ p = a := fun h => e h.symm
      simp [e, e']
theorem rising_nodup {m : List Word} (h : m.Pairwise (· < ·)) : m.Nodup := h.imp (fun {a b} hab => (fun e => by subst e; exact lt_irr _ hab : a ≠ b))
theorem pairs_le {m : List Word} (h : m.Nodup) : ∀ l : List Word, pairsOf l m ≤ l.length ∧ (pairsOf l m = l.length ↔ ∀ x ∈ l, x ∈ m)
  | [] => by simp [pairsOf]
  | a :: l => by
    obtain ⟨h1, h2⟩ := pairs_le h l
    have e : pairsOf (a :: l) m = (if a ∈ m then 1 else 0) + pairsOf l m := by
      show m.count a + _ = _
      rw [count_one h]
      rfl
    by_cases ha : a ∈ m
    · rw [e, if_pos ha]
      refine ⟨by simp; omega, ?_⟩
      rw [List.length_cons, show (1 + pairsOf l m = l.length + 1 ↔ pairsOf l m = l.length) by omega, h2]
      simp [ha]
    · rw [e, if_neg ha]
      refine ⟨by simp; omega, ?_⟩
      constructor
      · intro hh; simp at hh; omega
      · intro hh; exact absurd (hh a (by simp)) ha
theorem pairs_is {l m : List Word} (h : m.Pairwise (· < ·)) : ((pairsOf l m : Int) == (l.length : Int)) = inB l m := by
  rw [Bool.eq_iff_iff, inB_iff, ← (pairs_le (rising_nodup h) l).2, beq_iff_eq]
  omega
end Go.Proofs.YtlailakofhenkaaGreatDoor.Sc

/-
  A scope's least form, and whether one is within another, as the document's answer has it.
-/

namespace Go.Proofs.YtlailakofhenkaaGreatDoor
open Go Go.RowKit Sc
set_option maxRecDepth 100000 in
set_option maxHeartbeats 4000000 in
theorem refLeast_is (s : ByteArray) (w : World) (hs : s.size ≤ 5000) : Calls Tryz.prog 97 #[.string s] w fun e w' => ∃ l n, e = .returned (.tuple #[.string ⟨(joined l).toArray⟩, .int .i64 (n : Nat)]) ∧ Out s.data.toList l n ∧ Below w.heap.size w w' := by
  go_enter Tryz.func97, Tryz.ntmps97
  go_wp2_with fail
  refine (refScope_is s _ hs).mono ?_
  rintro e w1 ⟨v, xs, n, rfl, ho, hv, hb⟩
  have HO : Hid (Out s.data.toList (xs.map (·.data.toList)) n) := ho
  have HV : Hid (Words w.heap.size w1 v xs) := hv
  have HB : Hid (Below w.heap.size w w1) := hb
  have hln := out_len ho
  have hx5 : xs.length ≤ 5 := by simpa using hln.1
  have hj : (joined (xs.map (·.data.toList))).length ≤ 5000 := by omega
  clear ho hv hb hln
  go_wp2_with fail
  refine (join_is HV.out hj (by omega)).mono ?_
  rintro e w2 ⟨rfl, hb2⟩
  have HB2 : Hid (Below w.heap.size w w2) := HB.out.trans (hb2.mono HB.out.size)
  clear hb2
  generalize hjj : joined (xs.map (·.data.toList)) = J at *
  have HJ : Hid (joined (xs.map (·.data.toList)) = J) := hjj
  clear hjj
  go_wp2_with fail
  exact bodyPost_ret (v := .tuple #[.string ⟨J.toArray⟩, .int .i64 (n : Nat)]) (by simp [results, Tryz.results97, go_sem]) rfl ⟨xs.map (·.data.toList), n, by rw [HJ.out], HO.out, HB2.out⟩
theorem Words.row {B : Nat} {w : World} {base : Option Addr} {c : Nat} {xs : List ByteArray} (h : Words B w (.slice base xs.length c) xs) (hp : 0 < xs.length) : ∃ g, base = some ⟨g, 0, none⟩ ∧ RowAt B w g c xs.length (xs.map Value.string) := by
  rcases h with ⟨_, rfl⟩ | ⟨g, c', e1, h2⟩
  · simp at hp
  · injection e1 with e1 _ e2
    subst e2
    exact ⟨g, e1, h2⟩
theorem Words.cell {B : Nat} {w : World} {base : Option Addr} {c : Nat} {xs : List ByteArray} (h : Words B w (.slice base xs.length c) xs) (j : Nat) (hj : j < xs.length) : ∃ g, base = some ⟨g, 0, none⟩ ∧ w.cell? ⟨g, j, none⟩ = some (.string xs[j]) := by
  obtain ⟨g, e, hr⟩ := h.row (by omega)
  exact ⟨g, e, hr.holds j _ (by rw [List.getElem?_map, List.getElem?_eq_getElem hj]; rfl)⟩
theorem pairs_bytes (xs ys : List ByteArray) (k : Nat) (h : k < xs.length) : pairsOf ((xs.map (·.data.toList)).take (k + 1)) (ys.map (·.data.toList)) = pairsOf ((xs.map (·.data.toList)).take k) (ys.map (·.data.toList)) + (ys.map (·.data.toList)).count xs[k].data.toList := by
  rw [pairs_take _ _ k (by simpa using h)]
  simp
theorem count_bytes (ys : List ByteArray) (p : List UInt8) (k : Nat) (h : k < ys.length) : ((ys.map (·.data.toList)).take (k + 1)).count p = ((ys.map (·.data.toList)).take k).count p + if ys[k].data.toList = p then 1 else 0 := by
  rw [count_take _ _ k (by simpa using h)]
  simp
end Go.Proofs.YtlailakofhenkaaGreatDoor

/-
  What may be an event, as the document's answer has it.
-/

namespace Go.Proofs.YtlailakofhenkaaGreatDoor
open Go Go.RowKit Tok Sc Ev
theorem toList_nil {x : ByteArray} (h : x.toList = []) : x = ⟨#[]⟩ := by
  rw [ByteArray.toList_eq] at h
  exact bytes_eq h
/-- How long its texts are at most. -/
def Small (n : Nat) (f : Fam) : Prop := f.client.size ≤ n ∧ f.subject.size ≤ n ∧ f.scope.size ≤ n ∧ f.request.size ≤ n
theorem bool_f {b : Bool} {p : Prop} (hb : b = true ↔ p) (h : ¬ p) : b = false := Bool.eq_false_iff.2 (fun k => h (hb.1 k))
theorem may_2 {f : Fam} {i t : Int} : may ⟨2, f, i, t⟩ ↔ f = zeroF ∧ okN i ∧ t = 0 := by simp [Ev.may]
theorem may_3 {f : Fam} {i t : Int} : may ⟨3, f, i, t⟩ ↔ f = zeroF ∧ i = 0 ∧ okN t := by simp [Ev.may]
theorem may_1 {f : Fam} {i t : Int} : may ⟨1, f, i, t⟩ ↔ mayF f ∧ i = 0 ∧ t = 0 := by simp [Ev.may]
theorem may_no {f : Fam} {k i t : Int} (h1 : k ≠ 1) (h2 : k ≠ 2) (h3 : k ≠ 3) : ¬ may ⟨k, f, i, t⟩ := by simp [Ev.may, h1, h2, h3]
theorem in_ok (n : Int) (w : World) : Calls Tryz.prog 60 #[.int .i64 n, .int .i64 0, .int .i64 1099511627776] w fun e w' => e = .returned (.bool (okB n)) ∧ w' = w := in3_is n 0 1099511627776 w
set_option maxRecDepth 100000 in
set_option maxHeartbeats 4000000 in
theorem refMay_2 (f : Fam) (i t : Int) (b : Bool) (hb : b = true ↔ may ⟨2, f, i, t⟩) (w : World) : Calls Tryz.prog 53 #[evV ⟨2, f, i, t⟩] w fun e w' => e = .returned (.bool b) ∧ Below w.heap.size w w' := by
  rw [may_2] at hb
  by_cases hz : f = zeroF
  · subst hz
    by_cases ht : t = 0
    · subst ht
      have HB : Hid (b = okB i) := by
        show b = okB i
        rw [Bool.eq_iff_iff, okB_iff, hb]
        simp
      clear hb
      unfold evV evCs zeroF
      simp only
      go_enter Tryz.func53, Tryz.ntmps53
      go_wp2_with fail
      refine (in_ok i _).mono ?_
      rintro e w' ⟨rfl, rfl⟩
      go_wp2_with fail
      go_ret
      refine ⟨by rw [HB.out]; rfl, ?_⟩
      repeat (first | exact Below.refl _ _ | refine Below.alloc ?_ (by simp) _)
    · have HB : Hid (b = false) := bool_f hb (fun h => ht h.2.2)
      have ht' : (t == 0) = false := by rw [beq_eq_false_iff_ne]; exact ht
      clear hb
      unfold evV evCs zeroF
      simp only
      go_enter Tryz.func53, Tryz.ntmps53
      go_wp2_with fail
      go_ret
      refine ⟨by rw [HB.out]; rfl, ?_⟩
      repeat (first | exact Below.refl _ _ | refine Below.alloc ?_ (by simp) _)
  · have HB : Hid (b = false) := bool_f hb (fun h => hz h.1)
    have HZ : Hid (¬ f = zeroF) := hz
    clear hb hz
    obtain ⟨f1, f2, f3, f4, f5, f6, f7, f8, f9⟩ := f
    unfold evV evCs
    simp only
    go_enter Tryz.func53, Tryz.ntmps53
    go_wp2_with fail
    all_goals first
      | (exfalso; refine HZ.out ?_; unfold zeroF; simp_all [toList_nil]; done)
      | (go_ret; refine ⟨by rw [HB.out]; rfl, ?_⟩; repeat (first | exact Below.refl _ _ | refine Below.alloc ?_ (by simp) _))
end Go.Proofs.YtlailakofhenkaaGreatDoor

/-
  What may be an event, as the program has it.
-/

namespace Go.Proofs.YtlailakofhenkaaGreatDoor
open Go Go.RowKit Tok Sc Ev
theorem okB_lo {n : Int} (h : n < 0) : okB n = false := okB_f (fun k => by have := k.1; omega)
theorem okB_hi {n : Int} (h : 1099511627776 < n) : okB n = false := okB_f (fun k => by have := k.2; omega)
set_option maxHeartbeats 1000000 in
theorem beyond_is (n : Int) (w : World) : Calls Tryz.prog 142 #[.int .i64 n] w fun e w' => e = .returned (.bool (!okB n)) ∧ ∃ q, w' = w.drewN q := by
  by_cases h0 : n < 0
  · have HL : Hid (okB n = false) := okB_lo h0
    go_enter Tryz.func142, Tryz.ntmps142
    go_wp2_with fail
    go_ret
    exact ⟨by rw [HL.out]; rfl, 0, rfl⟩
  · by_cases h1 : 1099511627776 < n
    · have HL : Hid (okB n = false) := okB_hi h1
      go_enter Tryz.func142, Tryz.ntmps142
      go_wp2_with fail
      go_ret
      exact ⟨by rw [HL.out]; rfl, 0, rfl⟩
    · have HL : Hid (okB n = true) := okB_t ⟨by omega, by omega⟩
      go_enter Tryz.func142, Tryz.ntmps142
      go_wp2_with fail
      go_ret
      exact ⟨by rw [HL.out]; rfl, 0, rfl⟩
theorem all_any (ns : List Int) : (!(ns.any fun n => !okB n)) = ns.all okB := by
  induction ns with
  | nil => rfl
  | cons a l ih => rw [List.any_cons, List.all_cons, ← ih]; cases okB a <;> simp
set_option maxHeartbeats 1000000 in
theorem bounds_is (ns : List Int) (g c : Nat) (w : World) (hn : ns.length ≤ 5000) (hc : ∀ j (h : j < ns.length), w.cell? ⟨g, j, none⟩ = some (.int .i64 ns[j])) :
    Calls Tryz.prog 99 #[.slice (some ⟨g, 0, none⟩) ns.length c] w fun e w' => e = .returned (.bool (ns.all okB)) ∧ ∃ q, w' = w.drewN q := by
  rw [← all_any ns]
  have HC := Tryz.slices_ContainsFunc_f143 (Value.int .i64) (fun n => !okB n) 142 #[] (enters_of Tryz.func142 (by kernel_rfl) rfl) g 0 ns.length c ns w (fun W x _ => beyond_is x W) (Nat.le_refl _) (by omega) (fun j hj => by rw [Nat.zero_add, hc j hj, getElem!_pos ns j hj])
  rw [List.take_of_length_le (Nat.le_refl _)] at HC
  clear hc
  go_enter Tryz.func99, Tryz.ntmps99
  go_wp2_with fail
  refine HC.mono ?_
  rintro e w' ⟨rfl, q, rfl⟩
  go_wp2_with fail
  go_ret
  exact ⟨rfl, q, rfl⟩
set_option maxRecDepth 100000 in
set_option maxHeartbeats 2000000 in
theorem isLeast_is (s : ByteArray) (b : Bool) (hb : b = true ↔ Lst s.data.toList) (w : World) (hs : s.size ≤ 5000) (hL : LenOk w) : Calls Tryz.prog 141 #[.string s] w fun e w' => e = .returned (.bool b) ∧ Below w.heap.size w w' := by
  have HL : Hid (LenOk w) := hL
  have HB : Hid (b = true ↔ Lst s.data.toList) := hb
  clear hL hb
  go_enter Tryz.func141, Tryz.ntmps141
  go_wp2_with fail
  refine (leastS_is s _ hs HL.out).mono ?_
  rintro e w' ⟨l, n, rfl, ho, hbl⟩
  have HO : Hid (Out s.data.toList l n) := ho
  have HBL : Hid (Below w.heap.size w w') := hbl
  clear ho hbl
  generalize hJJ : joined l = J
  have HJJ : Hid (joined l = J) := hJJ
  clear hJJ
  cases n with
  | succ n =>
    have HQ : Hid (b = false) := bool_f HB.out (lst_not HO.out)
    rw [errQ_succ]
    go_wp2_with fail
    go_ret
    exact ⟨by rw [HQ.out]; rfl, HBL.out⟩
  | zero =>
    rw [show errQ 0 = .nilIface from rfl]
    by_cases hJ : J = s.data.toList
    · have HQ : Hid (b = true) := HB.out.2 ((lst_of HO.out).2 (HJJ.out.trans hJ))
      have hf4 : s = ⟨J.toArray⟩ := bytes_eq hJ.symm
      clear HO HB
      subst hf4
      go_wp2_with fail
      go_ret
      exact ⟨by rw [HQ.out]; rfl, HBL.out⟩
    · have HQ : Hid (b = false) := bool_f HB.out (fun h => hJ (HJJ.out.symm.trans ((lst_of HO.out).1 h)))
      have hne : (J == s.toList) = false := by rw [ByteArray.toList_eq, beq_eq_false_iff_ne]; exact hJ
      clear HO HB hJ
      go_wp2_with fail
      go_ret
      exact ⟨by rw [HQ.out]; rfl, HBL.out⟩
end Go.Proofs.YtlailakofhenkaaGreatDoor
