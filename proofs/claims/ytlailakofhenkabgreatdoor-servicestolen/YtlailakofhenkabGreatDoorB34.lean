/-
  Own texts put together: SvSt2.
-/
import Derived.Test.YtlailakofhenkabGreatDoorB33
namespace Go.Proofs.YtlailakofhenkabGreatDoor
open Go Go.RowKit Tok Sc Ev
structure XB (w : World) (g : Nat) (a t m : Int) : Prop where
  c0 : w.cell? ⟨g, 0, none⟩ = some (.int .i64 a)
  c1 : w.cell? ⟨g, 1, none⟩ = some (.int .i64 t)
  c2 : w.cell? ⟨g, 2, none⟩ = some (.int .i64 m)
  lt : g < w.heap.size
theorem XB.keep {l : List Nat} {w w' : World} {g : Nat} {a t m : Int} (h : XB w g a t m) (hk : Keep l w w') (hn : g ∉ l) : XB w' g a t m := by
  have hc : ∀ i, w'.cell? ⟨g, i, none⟩ = w.cell? ⟨g, i, none⟩ := fun i => hk.cell (p := ⟨g, i, none⟩) h.lt hn
  exact ⟨(hc 0).trans h.c0, (hc 1).trans h.c1, (hc 2).trans h.c2, Nat.lt_of_lt_of_le h.lt hk.size⟩
theorem XB.on {w w' : World} {g : Nat} {a t m : Int} (h : XB w g a t m) (hb : Below w.heap.size w w') : XB w' g a t m := h.keep (Keep.of [] hb) (by simp)
theorem giveM_size {r : Rul} {p : Pub} {f : Fam} (hf : mayF f) : (giveM (txtB r) p f).2.1.size ≤ 5000 := by
  have := txt_len r _ (may_ref hf.1.1 hf.1.2.1)
  unfold giveM
  split
  · exact Nat.le_trans this (by omega)
  · show (0 : Nat) ≤ 5000; omega
theorem grantM_size {r : Rul} {p : Pub} {cl su sc : ByteArray} {n : Nat} (h : Ev.Good p.st) (hc : nameB cl.data.toList = true) (hs : nameB su.data.toList = true) (hl : n = 0 → Lst sc.data.toList) (ok : Bool) : (grantM (txtB r) p ok cl su sc n).2.1.size ≤ 5000 := by
  unfold grantM
  split
  · show (0 : Nat) ≤ 5000; omega
  split
  · show (0 : Nat) ≤ 5000; omega
  rename_i hn
  split
  · show (0 : Nat) ≤ 5000; omega
  rename_i hx
  split
  · show (0 : Nat) ≤ 5000; omega
  rcases may_new h hx hc hs (hl (by simpa using hn)) with ⟨-, h1, -⟩ | ⟨h1, -⟩ | ⟨h1, -⟩
  · exact giveM_size h1
  · cases h1
  · cases h1
theorem rotateM_size {r : Rul} {p : Pub} {ok : Bool} {rq : ByteArray} {t : T} {n : Nat} {sc : ByteArray} {m : Nat} {b : Bool} (h : Ev.Good p.st) (hr : nameB rq.data.toList = true) (hl : m = 0 → Lst sc.data.toList) : (rotateM (txtB r) r p ok rq t n sc m b).2.1.size ≤ 5000 := by
  unfold rotateM
  split
  · show (0 : Nat) ≤ 5000; omega
  split
  · show (0 : Nat) ≤ 5000; omega
  rename_i hk
  have hk : lookM r p.st 1 t n = 0 := by simpa using hk
  have hf : mayF (famM p.st t) := fam_may h (look_fam (look_ok hk).1).2.2.1
  split
  · unfold turnM
    split
    · show (0 : Nat) ≤ 5000; omega
    rename_i hm
    split
    · show (0 : Nat) ≤ 5000; omega
    split
    · show (0 : Nat) ≤ 5000; omega
    rename_i hg
    rcases may_next hf hg hr (hl (by simpa using hm)) h.clock with ⟨-, h1, -⟩ | ⟨h1, -⟩ | ⟨h1, -⟩
    · exact giveM_size h1
    · cases h1
    · cases h1
  split
  · exact Nat.le_trans (txt_len r _ (may_ref hf.1.1 hf.1.2.1)) (by omega)
  · show (0 : Nat) ≤ 5000; omega
theorem mintM_size {r : Rul} {p : Pub} {t : T} {n : Nat} (h : Ev.Good p.st) (hr : RulOk r) : (mintM (txtB r) r p t n).1.size ≤ 5000 := by
  unfold mintM
  split
  · show (0 : Nat) ≤ 5000; omega
  rename_i hk
  have hk : lookM r p.st 1 t n = 0 := by simpa using hk
  have hf : mayF (famM p.st t) := fam_may h (look_fam (look_ok hk).1).2.2.1
  split
  · show (0 : Nat) ≤ 5000; omega
  · exact Nat.le_trans (txt_len r _ (may_mint hf h hr)) (by omega)
theorem lst_jn {s : List UInt8} {l : List Word} {m : Nat} (h : Sc.Out s l m) (hm : m = 0) : Lst (⟨(joined l).toArray⟩ : ByteArray).data.toList := by
  subst hm
  exact ⟨l, by simpa using out_joined h, by simp⟩
theorem out_15 {s : List UInt8} {l : List Word} {m : Nat} (h : Sc.Out s l m) : m ≠ 15 := by
  rcases h with ⟨h, -⟩ | ⟨h, -⟩ | ⟨h, -⟩ <;> omega
theorem tok_okN {key : Int} {s : List UInt8} {t : T} {n : Nat} (h : Tok.Out (tag key) s t n) : okN t.f := by
  rcases h with ⟨-, g, h1, -⟩ | ⟨-, rfl, -⟩ | ⟨-, rfl, -⟩
  · exact h1.1.2.1
  · exact okN0
  · exact okN0
theorem rotate_look {tx : T → ByteArray} {r : Rul} {p : Pub} {ok : Bool} {rq : ByteArray} {t : T} {n : Nat} {sc : ByteArray} {m : Nat} {b : Bool} (h : (rotateM tx r p ok rq t n sc m b).2.2 = 0) : lookM r p.st 1 t n = 0 := by
  unfold rotateM at h
  split at h
  · cases h
  split at h
  · rename_i hl; exact absurd h hl
  rename_i hl
  simpa using hl
theorem mint_look {tx : T → ByteArray} {r : Rul} {p : Pub} {t : T} {n : Nat} (h : (mintM tx r p t n).2 = 0) : lookM r p.st 1 t n = 0 := by
  unfold mintM at h
  split at h
  · rename_i hl; exact absurd h hl
  rename_i hl
  simpa using hl
theorem show_look {r : Rul} {p : Pub} {t : T} {n : Nat} (h : (showM r p t n).2 = 0) : lookM r p.st 2 t n = 0 := by
  unfold showM at h
  split at h
  · rename_i hl; exact absurd h hl
  rename_i hl
  simpa using hl
theorem rot_b {r : Rul} {s : St} (h : Ev.Good s) (t : T) (n : Nat) {x : List UInt8} {l : List Word} {m : Nat} (ho : Sc.Out x l m) : ∃ b, RotW r s t n ⟨(joined l).toArray⟩ m b := by
  by_cases hk : lookM r s 1 t n = 0
  · by_cases hm : m = 0
    · subst hm
      have hf : mayF (famM s t) := fam_may h (look_fam (look_ok hk).1).2.2.1
      obtain ⟨l2, h2, -⟩ := hf.2.2.2.2
      exact ⟨inB l l2, fun _ _ => ⟨l, 0, l2, 0, out_joined ho, h2, .inr (.inr ⟨rfl, rfl, rfl, rfl⟩)⟩⟩
    · exact ⟨false, fun _ h => absurd h hm⟩
  · exact ⟨false, fun h => absurd h hk⟩
end Go.Proofs.YtlailakofhenkabGreatDoor
