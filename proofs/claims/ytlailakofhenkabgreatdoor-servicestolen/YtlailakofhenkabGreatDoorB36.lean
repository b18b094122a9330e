/-
  Own texts put together: SvSLaw, EvOpen, LeaveOf.
-/
import Derived.Test.YtlailakofhenkabGreatDoorB35
import Derived.Test.YtlailakofhenkabGreatDoorB5
import Derived.ProofKit
import Derived.OpenShut
import Derived.Lib.SmallJoins
import Derived.SizedLaws
import Derived.Test.YtlailakofhenkabGreatDoorB1
import Derived.Handed
import Derived.Leaving
import Derived.Conc.Holds
import Derived.SevenTiedAt
namespace Go.Proofs.YtlailakofhenkabGreatDoor
open Go Go.RowKit Tok Sc Ev
structure AskR where
  a : Int
  t : Int
  m : Int
  s : ByteArray
def AskRow (w : World) (g off : Nat) (l : List AskR) : Prop := ∀ (i : Nat) (h : i < l.length), w.cell? ⟨g, off + i * 4, none⟩ = some (.int .i64 l[i].a) ∧ w.cell? ⟨g, off + i * 4 + 1, none⟩ = some (.int .i64 l[i].t) ∧ w.cell? ⟨g, off + i * 4 + 2, none⟩ = some (.int .i64 l[i].m) ∧ w.cell? ⟨g, off + i * 4 + 3, none⟩ = some (.string l[i].s)
theorem held_start {w W4 : World} {gv gs gd : Nat} {r : Rul} {v : Value} (hs : SvIs 0 W4 gv gs gd r emptyP v) (hb : Below w.heap.size w W4) (hl : w.heap.size ≤ gd) :
    Held w 0 0 0 (W4.heap.size + 1 + 1 + 1) gv gs gd W4.heap.size (W4.heap.size + 1) (W4.heap.size + 1 + 1) r emptyP v (.slice none 0 0) [] (fun _ => none) (fun _ => none) (fun _ => none) ((((W4.alloc (.map #[] 0)).alloc (.map #[] 0)).alloc (.map #[] 0)).alloc (.cells #[.pointer (some ⟨gv, 0, none⟩), .slice none 0 0, .map (some W4.heap.size), .map (some (W4.heap.size + 1)), .map (some (W4.heap.size + 1 + 1))] 96)) ∧ Below W4.heap.size W4 ((((W4.alloc (.map #[] 0)).alloc (.map #[] 0)).alloc (.map #[] 0)).alloc (.cells #[.pointer (some ⟨gv, 0, none⟩), .slice none 0 0, .map (some W4.heap.size), .map (some (W4.heap.size + 1)), .map (some (W4.heap.size + 1 + 1))] 96)) := by
  have h1 : (W4.alloc (.map #[] 0)).heap.size = W4.heap.size + 1 := by simp
  have h2 : ((W4.alloc (.map #[] 0)).alloc (.map #[] 0)).heap.size = W4.heap.size + 1 + 1 := by simp
  have h3 : (((W4.alloc (.map #[] 0)).alloc (.map #[] 0)).alloc (.map #[] 0)).heap.size = W4.heap.size + 1 + 1 + 1 := by simp
  have b1 : Below W4.heap.size W4 (W4.alloc (.map #[] 0)) := (Below.refl _ _).alloc (Nat.le_refl _) _
  have b2 : Below W4.heap.size W4 ((W4.alloc (.map #[] 0)).alloc (.map #[] 0)) := b1.alloc (by rw [h1]; omega) _
  have b3 : Below W4.heap.size W4 (((W4.alloc (.map #[] 0)).alloc (.map #[] 0)).alloc (.map #[] 0)) := b2.alloc (by rw [h2]; omega) _
  have b4 : Below W4.heap.size W4 ((((W4.alloc (.map #[] 0)).alloc (.map #[] 0)).alloc (.map #[] 0)).alloc (.cells #[.pointer (some ⟨gv, 0, none⟩), .slice none 0 0, .map (some W4.heap.size), .map (some (W4.heap.size + 1)), .map (some (W4.heap.size + 1 + 1))] 96)) := b3.alloc (by rw [h3]; omega) _
  have c3 : Below (((W4.alloc (.map #[] 0)).alloc (.map #[] 0)).alloc (.map #[] 0)).heap.size (((W4.alloc (.map #[] 0)).alloc (.map #[] 0)).alloc (.map #[] 0)) ((((W4.alloc (.map #[] 0)).alloc (.map #[] 0)).alloc (.map #[] 0)).alloc (.cells #[.pointer (some ⟨gv, 0, none⟩), .slice none 0 0, .map (some W4.heap.size), .map (some (W4.heap.size + 1)), .map (some (W4.heap.size + 1 + 1))] 96)) := (Below.refl _ _).alloc (Nat.le_refl _) _
  have c2 : Below ((W4.alloc (.map #[] 0)).alloc (.map #[] 0)).heap.size ((W4.alloc (.map #[] 0)).alloc (.map #[] 0)) ((((W4.alloc (.map #[] 0)).alloc (.map #[] 0)).alloc (.map #[] 0)).alloc (.cells #[.pointer (some ⟨gv, 0, none⟩), .slice none 0 0, .map (some W4.heap.size), .map (some (W4.heap.size + 1)), .map (some (W4.heap.size + 1 + 1))] 96)) := ((Below.refl _ _).alloc (Nat.le_refl _) _).alloc (by rw [h2, h3]; omega) _
  have c1 : Below (W4.alloc (.map #[] 0)).heap.size (W4.alloc (.map #[] 0)) ((((W4.alloc (.map #[] 0)).alloc (.map #[] 0)).alloc (.map #[] 0)).alloc (.cells #[.pointer (some ⟨gv, 0, none⟩), .slice none 0 0, .map (some W4.heap.size), .map (some (W4.heap.size + 1)), .map (some (W4.heap.size + 1 + 1))] 96)) := (((Below.refl _ _).alloc (Nat.le_refl _) _).alloc (by rw [h1, h2]; omega) _).alloc (by rw [h1, h3]; omega) _
  have m1 : HasMap litI Tryz.prog 3 4 ((((W4.alloc (.map #[] 0)).alloc (.map #[] 0)).alloc (.map #[] 0)).alloc (.cells #[.pointer (some ⟨gv, 0, none⟩), .slice none 0 0, .map (some W4.heap.size), .map (some (W4.heap.size + 1)), .map (some (W4.heap.size + 1 + 1))] 96)) W4.heap.size 0 (fun _ => none) := (HasMap.made litI _ _ _ W4).on c1
  have m2 : HasMap litI Tryz.prog 3 9 ((((W4.alloc (.map #[] 0)).alloc (.map #[] 0)).alloc (.map #[] 0)).alloc (.cells #[.pointer (some ⟨gv, 0, none⟩), .slice none 0 0, .map (some W4.heap.size), .map (some (W4.heap.size + 1)), .map (some (W4.heap.size + 1 + 1))] 96)) (W4.heap.size + 1) 0 (fun _ => none) := by
    have := (HasMap.made litI Tryz.prog 3 9 (W4.alloc (.map #[] 0))).on c2
    rw [h1] at this; exact this
  have m3 : HasMap litS Tryz.prog 9 9 ((((W4.alloc (.map #[] 0)).alloc (.map #[] 0)).alloc (.map #[] 0)).alloc (.cells #[.pointer (some ⟨gv, 0, none⟩), .slice none 0 0, .map (some W4.heap.size), .map (some (W4.heap.size + 1)), .map (some (W4.heap.size + 1 + 1))] 96)) (W4.heap.size + 1 + 1) 0 (fun _ => none) := by
    have := (HasMap.made litS Tryz.prog 9 9 ((W4.alloc (.map #[] 0)).alloc (.map #[] 0))).on c3
    rw [h2] at this; exact this
  have hc : ∀ j : Nat, ((((W4.alloc (.map #[] 0)).alloc (.map #[] 0)).alloc (.map #[] 0)).alloc (.cells #[.pointer (some ⟨gv, 0, none⟩), .slice none 0 0, .map (some W4.heap.size), .map (some (W4.heap.size + 1)), .map (some (W4.heap.size + 1 + 1))] 96)).cell? ⟨W4.heap.size + 1 + 1 + 1, j, none⟩ = (#[.pointer (some ⟨gv, 0, none⟩), .slice none 0 0, .map (some W4.heap.size), .map (some (W4.heap.size + 1)), .map (some (W4.heap.size + 1 + 1))] : Array Value)[j]? := by
    rw [← h3]
    exact fun j => World.cell?_alloc_at _ _ _ _ rfl
  have hlv := hs.box.lt
  have hgs := hs.ord
  have hgd := hs.sp.ord
  refine ⟨⟨hs.on b4, ⟨(hc 0).trans rfl, (hc 1).trans rfl, (hc 2).trans rfl, (hc 3).trans rfl, (hc 4).trans rfl, fun i => World.frozen?_alloc_at _ _ _ _ (by rw [h3]), by rw [World.size_alloc, h3]; omega⟩, ⟨by omega, by omega, fun x hx => ?_, fun x _ => NotIn.nil _ _ _, fun g o n c e => (by cases e)⟩, .inl ⟨rfl, rfl⟩, Nat.le_refl _, fun x hx => (by cases hx), m1, m2, m3, fun i x h => (by cases h), fun x y h => (by cases h), hb.trans (b4.mono hb.size), hl⟩, b4⟩
  have hp := fun b (hb : W4.heap.size ≤ b) => NotIn.past hs.sp.fam hb
  simp only [List.mem_cons, List.not_mem_nil, or_false] at hx
  rcases hx with rfl | rfl | rfl | rfl <;> exact hp _ (by omega)
theorem seen_start : SeenS emptyP.st emptyP.st (fun _ => none) (fun _ => none) :=
  ⟨fun _ => rfl, ⟨fun f hf => (by cases hf), fun i x h => (by cases h)⟩, Evo.same good_zero, fun i x h => (by cases h)⟩
set_option maxRecDepth 100000 in
set_option maxHeartbeats 16000000 in
theorem serviceStolenLaw (key idle life access : Int) (l : List AskR) (ao : Option Addr) (gA off cap : Nat) (w : World) (hao : 0 < l.length → ao = some ⟨gA, off, none⟩) (hgA : gA < w.heap.size) (hrow : AskRow w gA off l) (hn : l.length ≤ 120) (hL : LibsR w) (hO : OldsR w.heap.size) :
    Calls Tryz.prog 5 #[.int .i64 key, .int .i64 idle, .int .i64 life, .int .i64 access, .slice ao l.length cap] w fun r w' => r = .returned (.bool true) ∧ Below w.heap.size w w' := by
  have hn' : ¬ (120 : Int) < (l.length : Int) := by omega
  have HGD : Hid _ := granted_is w hL hO
  have HL : Hid (LibsR w) := hL
  have HO : Hid (OldsR w.heap.size) := hO
  have HR : Hid (AskRow w gA off l) := hrow
  have HG : Hid (gA < w.heap.size) := hgA
  have HN : Hid (l.length ≤ 120) := hn
  clear hrow hL hO hgA hn
  go_enter Tryz.func5, Tryz.ntmps5
  go_wp2_with fail
  refine Calls.mono HGD.out ?_
  rintro e1 w1 ⟨rfl, hb1⟩
  have HB1 : Hid (Below w.heap.size w w1) := hb1
  clear hb1 HGD
  go_wp2_with fail
  refine (pickN_is key 1073741824 (by omega) (by omega) _).mono ?_
  rintro e2 w2 ⟨K, hK, -, rfl, hw⟩
  obtain rfl : w1 = w2 := hw.symm
  have HK : Hid (K < 1073741824) := hK
  clear hK
  go_wp2_with fail
  refine (pickN_is idle 50 (by omega) (by omega) _).mono ?_
  rintro e2 w2 ⟨I, hI, -, rfl, hw⟩
  obtain rfl : w1 = w2 := hw.symm
  have HI : Hid (I < 50) := hI
  clear hI
  go_wp2_with fail
  refine (pickN_is life 200 (by omega) (by omega) _).mono ?_
  rintro e2 w2 ⟨Li, hLi, -, rfl, hw⟩
  obtain rfl : w1 = w2 := hw.symm
  have HLi : Hid (Li < 200) := hLi
  clear hLi
  go_wp2_with fail
  refine (pickN_is access 30 (by omega) (by omega) _).mono ?_
  rintro e2 w2 ⟨Ac, hAc, -, rfl, hw⟩
  obtain rfl : w1 = w2 := hw.symm
  have HRU : Hid (RulOk ⟨(K : Int), (I : Int), (Li : Int), (Ac : Int)⟩) := by
    have h1 := HK.out
    have h2 := HI.out
    have h3 := HLi.out
    exact ⟨(show 0 ≤ (K : Int) ∧ (K : Int) ≤ 1099511627776 from ⟨by omega, by omega⟩), (show 0 ≤ (I : Int) ∧ (I : Int) ≤ 1099511627776 from ⟨by omega, by omega⟩), (show 0 ≤ (Li : Int) ∧ (Li : Int) ≤ 1099511627776 from ⟨by omega, by omega⟩), (show 0 ≤ (Ac : Int) ∧ (Ac : Int) ≤ 1099511627776 from ⟨by omega, by omega⟩)⟩
  clear hAc HK HI HLi
  go_wp2_with fail
  refine (begun_is _ K I Li Ac (HL.out.on HB1.out) HRU.out (HO.out.mono HB1.out.size)).mono ?_
  rintro e3 W4 ⟨gv, gs, gd, v3, rfl, hle, hs3, hb3⟩
  have HS3 : Hid _ := hs3
  have HB3 : Hid (Below w.heap.size w W4 ∧ w.heap.size ≤ gd) := ⟨HB1.out.trans (hb3.mono HB1.out.size), Nat.le_trans HB1.out.size hle⟩
  clear hs3 hb3 hle
  have hmm := @run_makeMap Tryz.prog
  go_upto_region 10 with fail
  have HH0 : Hid _ := (held_start HS3.out HB3.out.1 HB3.out.2).1
  clear HS3 HB3 hmm HB1
  generalize hW5 : ((((W4.alloc (.map #[] 0)).alloc (.map #[] 0)).alloc (.map #[] 0)).alloc (.cells #[.pointer (some ⟨gv, 0, none⟩), .slice none 0 0, .map (some W4.heap.size), .map (some (W4.heap.size + 1)), .map (some (W4.heap.size + 1 + 1))] 96)) = W5 at *
  clear hW5
  generalize W4.heap.size + 1 + 1 + 1 = gh at *
  generalize W4.heap.size + 1 + 1 = b3 at *
  generalize W4.heap.size + 1 = b2 at *
  generalize W4.heap.size = b1 at *
  go_wp2_with fail
  go_loopg [13] l.length (fun gk iv wr => ∃ (j : Nat) (p : Pub) (v vt : Value) (toks : List ByteArray) (S F : Int → Option Value) (G : List UInt8 → Option Value) (Fn : Int → Option ByteArray), j + gk = l.length ∧ iv = .int .i64 j ∧ Hid (Held w (2 * j) (20 * j) (22 * j) gh gv gs gd b1 b2 b3 ⟨(K : Int), (I : Int), (Li : Int), (Ac : Int)⟩ p v vt toks S F G wr) ∧ Hid (SeenS p.st p.st F Fn))
  case atStart => exact ⟨0, _, _, _, _, _, _, _, _, by omega, rfl, HH0, seen_start⟩
  case round =>
    obtain ⟨j, p, v, vt, toks, S, F, G, Fn, hj, rfl, HH, HS⟩ := hrel
    have HJ : Hid (j + gk = l.length) := hj
    clear hj HH0
    by_cases hlt : j < l.length
    · have hltI : (j : Int) < (l.length : Int) := by omega
      obtain rfl := hao (by omega)
      have HJ2 : Hid (j < 120) := by have := HN.out; show j < 120; omega
      obtain ⟨r0, r1, r2, r3⟩ := HR.out j hlt
      have c0 := (HH.out.bel.cell (p := ⟨gA, off + j * 4, none⟩) HG.out).trans r0
      have c1 := (HH.out.bel.cell (p := ⟨gA, off + j * 4 + 1, none⟩) HG.out).trans r1
      have c2 := (HH.out.bel.cell (p := ⟨gA, off + j * 4 + 2, none⟩) HG.out).trans r2
      have c3 := (HH.out.bel.cell (p := ⟨gA, off + j * 4 + 3, none⟩) HG.out).trans r3
      clear r0 r1 r2 r3
      generalize l[j] = x at *
      obtain ⟨xa, xt, xm, xs⟩ := x
      simp only at c0 c1 c2 c3
      go_wp2_with fail
      refine (asks_is w (2 * j) (20 * j) (22 * j) gh gv gs gd b1 b2 b3 ⟨(K : Int), (I : Int), (Li : Int), (Ac : Int)⟩ p v vt toks S F G Fn xa xt xm xs _ HH.out HS.out (by have := HJ2.out; omega) (by have := HJ2.out; omega) (by have := HJ2.out; omega)).mono ?_
      rintro e5 w5 ⟨rfl, p', v', vt', toks', S', F', G', Fn', hh, hs⟩
      have HH5 : Hid _ := hh
      have HS5 : Hid _ := hs
      clear hh hs c0 c1 c2 c3
      go_wp2_with fail
      go_roundg (gk - 1)
      case measure => have := HJ.out; omega
      case rel => exact ⟨j + 1, _, _, _, _, _, _, _, _, by have := HJ.out; omega, by have := HJ2.out; go_num, HH5.out.mono (by omega) (by omega) (by omega), HS5⟩
    · obtain rfl : j = l.length := by have := HJ.out; omega
      go_wp2_with fail
      go_ret
      exact ⟨rfl, HH.out.bel⟩
end Go.Proofs.YtlailakofhenkabGreatDoor

namespace Go.Proofs.YtlailakofhenkabGreatDoor
open Go Go.RowKit Go.ChangeShapes Go.WideShapes Go.ChangeAt Go.Joins Ev
open Go.WideMaps Go.WideElems
theorem cellsInt : Tryz.prog.cellsOf 3 = 1 := by kernel_rfl
theorem cellsStr : Tryz.prog.cellsOf 9 = 1 := by kernel_rfl
variable {H : Type} {enc : TypeId × Value → H} {w : World} {base : Nat} {spare : Nat → Bool} {held : Bool}
theorem nine {α : Type} {l : List α} (h : l.length = 9) : ∃ a0 a1 a2 a3 a4 a5 a6 a7 a8, l = [a0, a1, a2, a3, a4, a5, a6, a7, a8] := by
  match l, h with
  | [a0, a1, a2, a3, a4, a5, a6, a7, a8], _ => exact ⟨a0, a1, a2, a3, a4, a5, a6, a7, a8, rfl⟩
theorem four {α : Type} {l : List α} (h : l.length = 4) : ∃ a0 a1 a2 a3, l = [a0, a1, a2, a3] := by
  match l, h with
  | [a0, a1, a2, a3], _ => exact ⟨a0, a1, a2, a3, rfl⟩
end Go.Proofs.YtlailakofhenkabGreatDoor

namespace Go.Proofs.YtlailakofhenkabGreatDoor
open Go
theorem leaving_of_handed {a : Assume} {C : Checked} {os : Os} {f : FuncId} {r : Reach} {Pre : World → Array Value → Prop} {Post : World → Array Value → Value → World → Prop} (h : ReturnsInHanded a C os f r Pre Post) : ReturnsInLeavingWide a C os f r Pre Post := fun enter => by
  obtain ⟨h0, h1, h2, h3, h4⟩ := h enter
  refine ⟨h0, h1, h2, h3, fun w tape i hf => ?_⟩
  obtain ⟨n, v, w', r1, r2, r3, r4, ⟨j, last, s1, s2, s3⟩, r5⟩ := h4 w tape i hf
  exact ⟨n, v, w', r1, r2, r3, r4, ⟨j, last, s1, s2, s3.2.1, onlyLeaving_of_quiet s3.1, s3.2.2⟩, r5⟩
theorem tied_goes (Lk : Looks) {p : Pinned} {s : OpenSpec} {c : OpenClaim} (kinds : List LaidKind) (tests : Bool) (har : Bool × String) (lk : Bool)
    (hc : c.holds p s) (hw : c.wfByText s = true) (htie : c.laidByTextAt Lk p kinds tests) (hst : c.start = .entering) (hnb : c.noBlocks = false ∧ c.again = false) (hm : p.checked.prog.mainIs = some (har.1, har.2.toList)) (hn : (!har.1 && har.2.isEmpty && !lk) = false)
    (hl : ∀ f fn, p.checked.prog.funcNamed c.func = some f → p.checked.prog.funcs[f]? = some fn → lk = p.checked.prog.looks [] ∧ ∀ (j : Nat) t, fn.params[j]? = some t → p.checked.prog.wantsStandIn t = false) (hg : true = c.goesBy p.checked.prog) :
    Claim7.holds p (.plain s) { stood := { row := c, standIns := [], harness := har, looks := lk }, kinds := [], alts := [], goes := true, laidByText := true, laidKinds := kinds, laidTests := tests, laidLooks := Lk } := by
  have h6 : ∀ r : OpenClaim, Claim7.isSixth { stood := { row := r, standIns := [], harness := har, looks := lk }, kinds := [] } = false := fun r => by simpa [Claim7.isSixth] using hn
  exact ⟨Claim7.tied_new_at Lk kinds tests (Claim7.new_of_sixth hc har lk hst hnb hm (h6 c) hl) hw, fun D hD => (by cases hD), htie, (fun h => by cases h), hg⟩
end Go.Proofs.YtlailakofhenkabGreatDoor
