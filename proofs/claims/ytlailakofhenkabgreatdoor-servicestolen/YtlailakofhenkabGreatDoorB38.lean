/-
  Own texts put together: StCr1, ScOrder.
-/
import Derived.Test.YtlailakofhenkabGreatDoorB25
import Derived.Test.YtlailakofhenkabGreatDoorB18
import Derived.Test.YtlailakofhenkabGreatDoorB6
/-
  What the law StoreCrashes goes by: a number that is picked, the power cut behind a number of writes, a store that is opened anew.
-/

namespace Go.Proofs.YtlailakofhenkabGreatDoor
open Go Go.RowKit Tok Sc Ev
theorem pickN_math (a : Int) (n : Nat) (h0 : 0 < n) (h1 : n ≤ 9223372036854775807) : ∃ p : Nat, p < n ∧ (p : Int) = (a % 18446744073709551616) % n ∧ wrap64 ((IntKind.u64.wrap a).tmod n) = p := by
  have hn : 0 ≤ a % 18446744073709551616 % n := Int.emod_nonneg _ (by omega)
  have hl : a % 18446744073709551616 % n < n := Int.emod_lt_of_pos _ (by omega)
  refine ⟨(a % 18446744073709551616 % n).toNat, by omega, by omega, ?_⟩
  rw [IntKind.wrap_u64, Int.tmod_eq_emod_of_nonneg (by omega)]
  unfold wrap64
  omega
theorem wrapN (n : Nat) (h1 : n ≤ 9223372036854775807) : IntKind.u64.wrap (n : Int) = n := by
  rw [IntKind.wrap_u64]; omega
set_option maxHeartbeats 1000000 in
theorem pickN_is (a : Int) (n : Nat) (h0 : 0 < n) (h1 : n ≤ 9223372036854775807) (w : World) : Calls Tryz.prog 14 #[.int .i64 a, .int .i64 n] w fun e w' => ∃ p : Nat, p < n ∧ (p : Int) = (a % 18446744073709551616) % n ∧ e = .returned (.int .i64 p) ∧ w' = w := by
  obtain ⟨p, hp, hq, he⟩ := pickN_math a n h0 h1
  have hw := wrapN n h1
  have hz : ¬ (n : Int) = 0 := by omega
  have HE : Hid (wrap64 ((IntKind.u64.wrap a).tmod n) = p) := he
  clear he h0 h1
  go_enter Tryz.func14, Tryz.ntmps14
  go_wp2_with fail
  go_ret
  exact ⟨p, hp, hq, by rw [← HE.out]; rfl, rfl⟩
def clock7 : E := ⟨3, zeroF, 0, 7⟩
theorem may7 : Ev.may clock7 := .inr (.inr ⟨rfl, rfl, rfl, (show (0 : Int) ≤ 7 ∧ (7 : Int) ≤ 1099511627776 from ⟨by decide, by decide⟩)⟩)
theorem add7 : addP ⟨⟨0, 1, []⟩, 0, 0, false, 0, false⟩ clock7 true = (⟨⟨7, 1, []⟩, 1, 1, false, -1, false⟩, 0) := rfl
set_option maxRecDepth 100000 in
set_option maxHeartbeats 4000000 in
theorem kept_is (w : World) (hL : LibsA w) (hE : ErrVar w) (hO : Olds w.heap.size) : Calls Tryz.prog 11 #[] w fun r w' => r = .returned (.bool true) ∧ Below w.heap.size w w' := by
  have HDB : Hid _ := db_zero w hL hE hO
  have HB0 : Hid (Below w.heap.size w (w.alloc (.cells Tryz.zeroCells28 28))) := (Below.refl _ _).alloc (Nat.le_refl _) _
  have HAD : Hid (∀ (W : World) (gs : Nat) (v : Value), SP 0 W gs w.heap.size ⟨⟨0, 1, []⟩, 0, 0, false, 0, false⟩ v → Calls Tryz.prog 17 #[.pointer (some ⟨gs, 0, none⟩), .agg #[.int .i64 3, .int .i64 0, .string ⟨#[]⟩, .string ⟨#[]⟩, .string ⟨#[]⟩, .int .i64 0, .int .i64 0, .int .i64 0, .string ⟨#[]⟩, .bool false, .int .i64 0, .int .i64 7]] W fun r w' => r = .returned .nilIface ∧ ∃ v', SP 22 w' gs w.heap.size ⟨⟨7, 1, []⟩, 1, 1, false, -1, false⟩ v' ∧ Keep [w.heap.size, gs] W w') := fun W gs v h => by
    refine (addS_is 0 W gs w.heap.size _ v clock7 true ⟨fun _ => may7, fun _ => rfl⟩ (by unfold Small clock7 zeroF; decide) h (by omega)).mono ?_
    rintro r w' ⟨rfl, v', q1, q2, -⟩
    rw [add7] at q1
    rw [add7]
    exact ⟨rfl, v', q1, q2⟩
  clear hL hE hO
  go_enter Tryz.func11, Tryz.ntmps11
  go_wp2_with fail
  refine (openS_is 0 _ w.heap.size _ HDB.out (by omega)).mono ?_
  rintro e1 w1 ⟨gs, v, rfl, hle, hsp, hb1⟩
  have HSP1 : Hid (SP 0 w1 gs w.heap.size ⟨⟨0, 1, []⟩, 0, 0, false, 0, false⟩ v) := hsp
  have HB1 : Hid (Below w.heap.size w w1) := HB0.out.trans (hb1.mono HB0.out.size)
  clear hle hsp hb1
  go_wp2_with fail
  refine (HAD.out _ _ _ HSP1.out).mono ?_
  rintro e2 w2 ⟨rfl, v2, hs2, hk2⟩
  have HSP2 : Hid (SP 22 w2 gs w.heap.size ⟨⟨7, 1, []⟩, 1, 1, false, -1, false⟩ v2) := hs2
  have HB2 : Hid (Below w.heap.size w w2) := HB1.out.trans (hk2.below HB1.out.size (fun x hx => by have := HSP1.out.ord; simp at hx; omega))
  clear hs2 hk2
  go_wp2_with fail
  refine (openS_is 22 _ w.heap.size _ HSP2.out.db (by omega)).mono ?_
  rintro e3 w3 ⟨g3, v3, rfl, hle, hsp, hb3⟩
  have HSP3 : Hid (SP 22 w3 g3 w.heap.size ⟨⟨7, 1, []⟩, 1, 1, false, -1, false⟩ v3) := hsp
  have HB3 : Hid (Below w.heap.size w w3) := HB2.out.trans (hb3.mono HB2.out.size)
  clear hle hsp hb3
  obtain ⟨sv3, hst3⟩ := HSP3.out.store
  have HST3 : Hid _ := hst3
  clear hst3
  go_wp2_with fail
  refine (state_is _ _ _ _ _ _ _ _ HST3.out (by simp)).mono ?_
  rintro e4 w4 ⟨v4, rfl, hf4, hb4⟩
  obtain ⟨b4, c4, rfl⟩ := RowsK.slice hf4
  have HST4 : Hid _ := HST3.out.on hb4
  have HB4 : Hid (Below w.heap.size w w4) := HB3.out.trans (hb4.mono HB3.out.size)
  clear hf4 hb4
  have hfd : ∀ W : World, (Instr.field 36 (.agg #[.int .i64 7, .int .i64 1, .slice b4 0 c4]) 0).run Tryz.prog W = .ok (.int .i64 7) W := fun _ => by kernel_rfl
  unfold stV
  go_wp2_with fail
  refine (log_is _ _ _ _ _ _ _ _ HST4.out).mono ?_
  rintro e5 w5 ⟨rfl, rfl⟩
  go_wp2_with fail
  go_ret
  exact ⟨rfl, HB4.out⟩
/-- What the law keeps: a store, the list of cuts, the disk's place, the state that should be, the next cut's number. -/
structure CB (w0 : World) (N bc bd gn gx gs gd : Nat) (cs : List Int) (ca : Option Addr) (cc : Nat) (p : Pub) (v : Value) (s : St) (vn : Value) (k : Nat) (w : World) : Prop where
  prog : SP N w gs gd p v
  cuts : w.cell? ⟨bc, 0, none⟩ = some (.slice ca cs.length cc)
  disk : w.cell? ⟨bd, 0, none⟩ = some (.pointer (some ⟨gd, 0, none⟩))
  n0 : w.cell? ⟨gn, 0, none⟩ = some (.int .i64 s.clock)
  n1 : w.cell? ⟨gn, 1, none⟩ = some (.int .i64 s.next)
  n2 : w.cell? ⟨gn, 2, none⟩ = some vn
  nf : ∀ i, w.frozen? ⟨gn, i, none⟩ = false
  nx : w.cell? ⟨gx, 0, none⟩ = some (.int .i64 k)
  xf : ∀ i, w.frozen? ⟨gx, i, none⟩ = false
  kle : k ≤ cs.length
  fam : Fams 0 w vn s.fams
  o1 : w0.heap.size ≤ bc ∧ bc < gd ∧ gd < bd ∧ bd < gn ∧ gn < gx ∧ gx < w.heap.size
  o2 : gs ≠ gn ∧ gs ≠ gx ∧ gs ≠ bd
  out : NotIn v gn ∧ NotIn v gx
  outN : NotIn vn gs ∧ NotIn vn gd ∧ NotIn vn gx ∧ NotIn vn gn
  below : Below w0.heap.size w0 w
theorem CB.on {w0 : World} {N bc bd gn gx gs gd : Nat} {cs : List Int} {ca : Option Addr} {cc : Nat} {p : Pub} {v : Value} {s : St} {vn : Value} {k : Nat} {w w' : World} (h : CB w0 N bc bd gn gx gs gd cs ca cc p v s vn k w) (hb : Below w.heap.size w w') : CB w0 N bc bd gn gx gs gd cs ca cc p v s vn k w' := by
  obtain ⟨o1, o2, o3, o4, o5, o6⟩ := h.o1
  have hc : ∀ n j, n < w.heap.size → w'.cell? ⟨n, j, none⟩ = w.cell? ⟨n, j, none⟩ := fun n j hn => hb.cell (p := ⟨n, j, none⟩) hn
  have hf : ∀ n j, n < w.heap.size → w'.frozen? ⟨n, j, none⟩ = w.frozen? ⟨n, j, none⟩ := fun n j hn => hb.frozen (p := ⟨n, j, none⟩) hn
  exact ⟨h.prog.on hb, (hc _ _ (by omega)).trans h.cuts, (hc _ _ (by omega)).trans h.disk, (hc _ _ (by omega)).trans h.n0, (hc _ _ (by omega)).trans h.n1, (hc _ _ (by omega)).trans h.n2, fun i => (hf _ _ (by omega)).trans (h.nf i), (hc _ _ (by omega)).trans h.nx, fun i => (hf _ _ (by omega)).trans (h.xf i), h.kle, h.fam.below hb (Nat.le_refl _), ⟨o1, o2, o3, o4, o5, Nat.lt_of_lt_of_le o6 hb.size⟩, h.o2, h.out, h.outN, h.below.trans (hb.mono h.below.size)⟩
/-- Behind a call that writes into the store and its disk alone. -/
theorem CB.step {w0 : World} {N M bc bd gn gx gs gd : Nat} {cs : List Int} {ca : Option Addr} {cc : Nat} {p q : Pub} {v v' : Value} {s : St} {vn : Value} {k : Nat} {w w' : World} (h : CB w0 N bc bd gn gx gs gd cs ca cc p v s vn k w) (hp : SP M w' gs gd q v') (hk : Keep [gd, gs] w w') (ho : NotIn v' gn ∧ NotIn v' gx) : CB w0 M bc bd gn gx gs gd cs ca cc q v' s vn k w' := by
  obtain ⟨o1, o2, o3, o4, o5, o6⟩ := h.o1
  obtain ⟨a1, a2, a3⟩ := h.o2
  have hgs := h.prog.ord
  have hc : ∀ n j, n < w.heap.size → n ≠ gd → n ≠ gs → w'.cell? ⟨n, j, none⟩ = w.cell? ⟨n, j, none⟩ := fun n j hn h1 h2 => hk.cell (p := ⟨n, j, none⟩) hn (by simp [h1, h2])
  have hf : ∀ n j, n < w.heap.size → n ≠ gd → n ≠ gs → w'.frozen? ⟨n, j, none⟩ = w.frozen? ⟨n, j, none⟩ := fun n j hn h1 h2 => hk.frozen (p := ⟨n, j, none⟩) hn (by simp [h1, h2])
  refine ⟨hp, (hc _ _ (by omega) (by omega) (by omega)).trans h.cuts, (hc _ _ (by omega) (by omega) (Ne.symm a3)).trans h.disk, (hc _ _ (by omega) (by omega) (Ne.symm a1)).trans h.n0, (hc _ _ (by omega) (by omega) (Ne.symm a1)).trans h.n1, (hc _ _ (by omega) (by omega) (Ne.symm a1)).trans h.n2, fun i => (hf _ _ (by omega) (by omega) (Ne.symm a1)).trans (h.nf i), (hc _ _ (by omega) (by omega) (Ne.symm a2)).trans h.nx, fun i => (hf _ _ (by omega) (by omega) (Ne.symm a2)).trans (h.xf i), h.kle, hk.rowsOut h.fam (fun x hx => ?_), ⟨o1, o2, o3, o4, o5, Nat.lt_of_lt_of_le o6 hk.size⟩, h.o2, ho, h.outN, h.below.trans (hk.below h.below.size (fun x hx => by simp at hx; omega))⟩
  simp only [List.mem_cons, List.not_mem_nil, or_false] at hx
  rcases hx with rfl | rfl
  · exact h.outN.2.1
  · exact h.outN.1
theorem CB.mono {w0 : World} {N M bc bd gn gx gs gd : Nat} {cs : List Int} {ca : Option Addr} {cc : Nat} {p : Pub} {v : Value} {s : St} {vn : Value} {k : Nat} {w : World} (h : CB w0 N bc bd gn gx gs gd cs ca cc p v s vn k w) (hm : N ≤ M) : CB w0 M bc bd gn gx gs gd cs ca cc p v s vn k w :=
  ⟨h.prog.mono hm, h.cuts, h.disk, h.n0, h.n1, h.n2, h.nf, h.nx, h.xf, h.kle, h.fam, h.o1, h.o2, h.out, h.outN, h.below⟩
/-- The next cut's number. -/
theorem CB.setNext {w0 : World} {N bc bd gn gx gs gd : Nat} {cs : List Int} {ca : Option Addr} {cc : Nat} {p : Pub} {v : Value} {s : St} {vn : Value} {k : Nat} {w : World} (h : CB w0 N bc bd gn gx gs gd cs ca cc p v s vn k w) (k' : Nat) (hk : k' ≤ cs.length) : CB w0 N bc bd gn gx gs gd cs ca cc p v s vn k' (w.setCell ⟨gx, 0, none⟩ (.int .i64 k')) := by
  obtain ⟨o1, o2, o3, o4, o5, o6⟩ := h.o1
  obtain ⟨a1, a2, a3⟩ := h.o2
  have hk1 := keep1 gx 0 (.int .i64 k') w
  have ho : ∀ {n j : Nat} {x : Value}, w.cell? ⟨n, j, none⟩ = some x → n ≠ gx → (w.setCell ⟨gx, 0, none⟩ (.int .i64 k')).cell? ⟨n, j, none⟩ = some x := fun hx hn => set_other hx (Ne.symm hn)
  exact ⟨h.prog.elsewhere hk1 (fun x hx => by simp at hx; subst hx; exact ⟨by omega, Ne.symm a2, h.out.2⟩), ho h.cuts (by omega), ho h.disk (by omega), ho h.n0 (by omega), ho h.n1 (by omega), ho h.n2 (by omega), fun i => by rw [World.frozen?_setCell]; exact h.nf i, World.cell?_setCell_same _ _ _ h.nx, fun i => by rw [World.frozen?_setCell]; exact h.xf i, hk, hk1.rowsOut h.fam (fun x hx => by simp at hx; subst hx; exact h.outN.2.2.1), ⟨o1, o2, o3, o4, o5, by simpa using o6⟩, h.o2, h.out, h.outN, h.below.trans (hk1.below h.below.size (fun x hx => by simp at hx; omega))⟩
/-- The state that should be. -/
theorem CB.setNow {w0 : World} {N bc bd gn gx gs gd : Nat} {cs : List Int} {ca : Option Addr} {cc : Nat} {p : Pub} {v : Value} {s s' : St} {vn vn' : Value} {k : Nat} {w : World} (h : CB w0 N bc bd gn gx gs gd cs ca cc p v s vn k w) (hf : Fams 0 w vn' s'.fams) (hn : NotIn vn' gs ∧ NotIn vn' gd ∧ NotIn vn' gx ∧ NotIn vn' gn) :
    CB w0 N bc bd gn gx gs gd cs ca cc p v s' vn' k (((w.setCell ⟨gn, 0, none⟩ (.int .i64 s'.clock)).setCell ⟨gn, 1, none⟩ (.int .i64 s'.next)).setCell ⟨gn, 2, none⟩ vn') := by
  obtain ⟨o1, o2, o3, o4, o5, o6⟩ := h.o1
  obtain ⟨a1, a2, a3⟩ := h.o2
  have hk1 := keep3 gn 0 1 2 (.int .i64 s'.clock) (.int .i64 s'.next) vn' w
  obtain ⟨p0, p1, p2⟩ := @three_set w gn (.int .i64 s'.clock) (.int .i64 s'.next) vn' _ _ _ h.n0 h.n1 h.n2
  have ho : ∀ {n j : Nat} {x : Value}, w.cell? ⟨n, j, none⟩ = some x → n ≠ gn → (((w.setCell ⟨gn, 0, none⟩ (.int .i64 s'.clock)).setCell ⟨gn, 1, none⟩ (.int .i64 s'.next)).setCell ⟨gn, 2, none⟩ vn').cell? ⟨n, j, none⟩ = some x := fun hx hn => set_other (set_other (set_other hx (Ne.symm hn)) (Ne.symm hn)) (Ne.symm hn)
  exact ⟨h.prog.elsewhere hk1 (fun x hx => by simp at hx; subst hx; exact ⟨by omega, Ne.symm a1, h.out.1⟩), ho h.cuts (by omega), ho h.disk (by omega), p0, p1, p2, fun i => by simp only [World.frozen?_setCell]; exact h.nf i, ho h.nx (by omega), fun i => by simp only [World.frozen?_setCell]; exact h.xf i, h.kle, hk1.rowsOut hf (fun x hx => by simp at hx; subst hx; exact hn.2.2.2), ⟨o1, o2, o3, o4, o5, by simpa using o6⟩, h.o2, h.out, hn, h.below.trans (hk1.below h.below.size (fun x hx => by simp at hx; omega))⟩
/-- Another store, opened anew on the same disk. -/
theorem CB.anew {w0 : World} {N bc bd gn gx gs g2 gd : Nat} {cs : List Int} {ca : Option Addr} {cc : Nat} {p q : Pub} {v v2 : Value} {s : St} {vn : Value} {k : Nat} {w w' : World} (h : CB w0 N bc bd gn gx gs gd cs ca cc p v s vn k w) (hb : Below w.heap.size w w') (hle : w.heap.size ≤ g2) (hp : SP N w' g2 gd q v2) : CB w0 N bc bd gn gx g2 gd cs ca cc q v2 s vn k w' := by
  have h' := h.on hb
  obtain ⟨o1, o2, o3, o4, o5, o6⟩ := h.o1
  exact ⟨hp, h'.cuts, h'.disk, h'.n0, h'.n1, h'.n2, h'.nf, h'.nx, h'.xf, h'.kle, h'.fam, h'.o1, ⟨by omega, by omega, by omega⟩, ⟨NotIn.above hp.fam (by omega), NotIn.above hp.fam (by omega)⟩, ⟨NotIn.past h.fam hle, h.outN.2⟩, h'.below⟩
set_option maxRecDepth 100000 in
set_option maxHeartbeats 4000000 in
theorem cutC_is (w0 : World) (N bc bd gn gx gs gd cb co : Nat) (cs : List Int) (ca : Option Addr) (cc : Nat) (p : Pub) (v : Value) (s : St) (vn : Value) (k : Nat) (w : World) (h : CB w0 N bc bd gn gx gs gd cs ca cc p v s vn k w) (hca : 0 < cs.length → ca = some ⟨cb, co, none⟩) (hcb : cb < w0.heap.size) (hrow : ∀ (i : Nat) (h : i < cs.length), w0.cell? ⟨cb, co + i, none⟩ = some (.int .i64 cs[i])) (hlen : cs.length ≤ 5000) :
    Calls Tryz.prog 13 #[.pointer (some ⟨gx, 0, none⟩), .pointer (some ⟨bc, 0, none⟩), .pointer (some ⟨bd, 0, none⟩)] w fun r w' => r = .returned (.tuple #[]) ∧ ∃ (n : Int) (k' : Nat), CB w0 N bc bd gn gx gs gd cs ca cc (cutP p n) v s vn k' w' := by
  have HC : Hid (CB w0 N bc bd gn gx gs gd cs ca cc p v s vn k w) := h
  have c1 := h.cuts
  have c2 := h.disk
  have c3 := h.nx
  have x0 := h.xf
  have hkI : (k : Int) ≤ 5000 := by have := h.kle; omega
  have hlI : (cs.length : Int) ≤ 5000 := by omega
  have HCU : Hid (∀ (n : Int) (k' : Nat) (W : World), n ≤ 5000 → CB w0 N bc bd gn gx gs gd cs ca cc p v s vn k' W → Calls Tryz.prog 15 #[.pointer (some ⟨gd, 0, none⟩), .int .i64 n] W fun r w' => r = .returned (.tuple #[]) ∧ CB w0 N bc bd gn gx gs gd cs ca cc (cutP p n) v s vn k' w') := fun n k' W hn hW => by
    refine (cutS_is N W gs gd p v n (by omega) hW.prog).mono ?_
    rintro r w' ⟨rfl, q1, q2⟩
    exact ⟨rfl, hW.step q1 (q2.mono (fun x hx => by simp at hx; simp [hx])) hW.out⟩
  by_cases hlt : k < cs.length
  · have hltI : (k : Int) < (cs.length : Int) := by omega
    obtain rfl := hca (by omega)
    have hx := (h.below.cell (p := ⟨cb, co + k, none⟩) hcb).trans (hrow k hlt)
    have HN : Hid (CB w0 N bc bd gn gx gs gd cs (some ⟨cb, co, none⟩) cc p v s vn (k + 1) (w.setCell ⟨gx, 0, none⟩ (.int .i64 ((k + 1 : Nat) : Int)))) := h.setNext (k + 1) hlt
    have hcast : ((k + 1 : Nat) : Int) = (k : Int) + 1 := by push_cast; rfl
    rw [hcast] at HN
    generalize cs[k] = a at *
    have hne : gx ≠ bd ∧ gx ≠ bc := by have := h.o1; omega
    have hbd := hne.1
    clear h hca hrow hlt hcast hne
    go_enter Tryz.func13, Tryz.ntmps13
    go_wp2_with fail
    refine (pickN_is a 60 (by omega) (by omega) _).mono ?_
    rintro e1 w1 ⟨n, hn, -, rfl, rfl⟩
    have hnI : (n : Int) ≤ 5000 := by omega
    go_wp2_with fail
    refine (HCU.out n (k + 1) _ hnI HN.out).mono ?_
    rintro e2 w2 ⟨rfl, q⟩
    have HQ : Hid _ := q
    clear q
    go_wp2_with fail
    go_end0
    exact ⟨rfl, _, _, HQ.out⟩
  · have hltI : ¬ (k : Int) < (cs.length : Int) := by omega
    clear h hca hrow hlt
    go_enter Tryz.func13, Tryz.ntmps13
    go_wp2_with fail
    refine (HCU.out (-1) k _ (by omega) HC.out).mono ?_
    rintro e2 w2 ⟨rfl, q⟩
    have HQ : Hid _ := q
    clear q
    go_wp2_with fail
    go_end0
    exact ⟨rfl, _, _, HQ.out⟩
end Go.Proofs.YtlailakofhenkabGreatDoor

/-
  The law ScopeOrder: less is less.
-/

namespace Go.Proofs.YtlailakofhenkabGreatDoor
open Go Go.RowKit Sc
theorem out_by {s : List UInt8} {l ws : List Word} (hw : words s = ws) (hf : ws.all wordB = true) (hs : l.Pairwise (· < ·)) (hm : ∀ x, x ∈ l ↔ x ∈ ws) (h5 : l.length ≤ 5) (h8 : ∀ w ∈ ws, w.length ≤ 8) : Out s l 0 := by
  refine .inl ⟨rfl, ?_, ?_, h5, ?_⟩
  · unfold formedB; rw [hw]; exact hf
  · rw [hw]; exact ⟨hs, hm⟩
  · rw [hw]; exact h8
theorem words_read : words [114, 101, 97, 100] = [[114, 101, 97, 100]] := by
  rw [words_ne (by simp), Tok.parts_no (by simp)]
theorem words_two : words [119, 114, 105, 116, 101, 43, 114, 101, 97, 100] = [[119, 114, 105, 116, 101], [114, 101, 97, 100]] := by
  rw [words_ne (by simp), show ([119, 114, 105, 116, 101, 43, 114, 101, 97, 100] : List UInt8) = [119, 114, 105, 116, 101] ++ 43 :: [114, 101, 97, 100] from rfl, Tok.parts_at _ (by simp), Tok.parts_no (by simp)]
theorem words_bab : words [98, 43, 97, 43, 98] = [[98], [97], [98]] := by
  rw [words_ne (by simp), show ([98, 43, 97, 43, 98] : List UInt8) = [98] ++ 43 :: ([97] ++ 43 :: [98]) from rfl, Tok.parts_at _ (by simp), Tok.parts_at _ (by simp), Tok.parts_no (by simp)]
theorem out_read : Out [114, 101, 97, 100] [[114, 101, 97, 100]] 0 := out_by words_read (by decide) (by simp) (fun _ => Iff.rfl) (by simp) (by simp)
theorem out_two : Out [119, 114, 105, 116, 101, 43, 114, 101, 97, 100] [[114, 101, 97, 100], [119, 114, 105, 116, 101]] 0 :=
  out_by words_two (by decide) (by decide) (fun x => by simp [or_comm]) (by simp) (by simp)
theorem ab_mem (x : Word) : x ∈ [([97] : Word), [98]] ↔ x ∈ [([98] : Word), [97], [98]] := by
  simp only [List.mem_cons, List.not_mem_nil, or_false]
  constructor
  · rintro (h | h)
    · exact .inr (.inl h)
    · exact .inl h
  · rintro (h | h | h)
    · exact .inr h
    · exact .inl h
    · exact .inr h
theorem out_bab : Out [98, 43, 97, 43, 98] [[97], [98]] 0 :=
  out_by words_bab (by decide) (by decide) ab_mem (by simp) (by simp)
theorem within_two : WOut [114, 101, 97, 100] [119, 114, 105, 116, 101, 43, 114, 101, 97, 100] true 0 :=
  ⟨_, _, _, _, out_read, out_two, .inr (.inr ⟨rfl, rfl, rfl, by simp [inB]⟩)⟩
theorem within_of {s t : List UInt8} {l m : List Word} {r : Bool} {n : Nat} (h1 : Out s l 0) (h2 : Out t m 0) (h : WOut s t r n) : r = inB l m ∧ n = 0 :=
  wout_inj h ⟨_, _, _, _, h1, h2, .inr (.inr ⟨rfl, rfl, rfl, rfl⟩)⟩
theorem inB_self (l : List Word) : inB l l = true := inB_iff.2 fun _ h => h
theorem inB_trans {l m k : List Word} (h1 : inB l m = true) (h2 : inB m k = true) : inB l k = true := inB_iff.2 fun x hx => inB_iff.1 h2 x (inB_iff.1 h1 x hx)
theorem inB_both {s t : List UInt8} {l m : List Word} (h1 : Out s l 0) (h2 : Out t m 0) (a : inB l m = true) (b : inB m l = true) : l = m :=
  rising_eq (out_words h1).2.2.2 (out_words h2).2.2.2 fun x => ⟨inB_iff.1 a x, inB_iff.1 b x⟩
end Go.Proofs.YtlailakofhenkabGreatDoor
