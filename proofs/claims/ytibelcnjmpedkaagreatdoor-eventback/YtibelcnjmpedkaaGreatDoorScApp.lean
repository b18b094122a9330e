/-
  One text appended to a list that the call has made, nil at first. Of no program.
-/
import Derived.Test.YtibelcnjmpedkaaGreatDoorScRow
import Derived.Deep.AppendSrc
import Derived.Lib.AppendZeros
namespace Go.Proofs.YtibelcnjmpedkaaGreatDoor
open Go Go.RowKit
theorem wpList_append_words {P : Program} (w : World) {ops : Array Oper} {rest : List Oper} {o : Oper} {a : Act} {Q : Exit → Act → World → Prop}
    (hg : o.guard = none) (s x : Operand) (t : TypeId) (hop : o.op = Op.call { callee := Callee.builtin Builtin.append, args := #[s, x], argTypes := #[t, t] })
    (e : TypeId) (i : TypeInfo) (h1 : P.underlying t = some (.slice e)) (h2 : P.info? e = some i) (h3 : i.zero = some (.string ⟨#[]⟩)) (h4 : i.size = 1) (h5 : i.bytes = 16)
    (B : Nat) (v : Value) (xs : List ByteArray) (hs : a.eval s = v) (h : Words B w v xs) (hB : B ≤ w.heap.size)
    (ad : Addr) (c' : Nat) (u : ByteArray) (hx : a.eval x = .slice (some ad) 1 c') (hc : w.cell? ad = some (.string u)) (hn : xs.length ≤ 1000000)
    (hK : ∀ v' w', Words B w' v' (xs ++ [u]) → Below B w w' → wpList P ops Q rest (a.put o.dst v') w') :
    wpList P ops Q (o :: rest) a w := by
  rcases h with ⟨rfl, rfl⟩ | ⟨g, c, rfl, hr⟩
  · have hsrc : Src P i.size t (.slice (some ad) 1 c') 1 [.string u] w := by
      rw [h4]
      refine Src.ofSlice w h1 ad 1 c' [.string u] rfl (fun j y hj => ?_) (by intro y hy; simp at hy; subst hy; rfl)
      match j, hj with
      | 0, hj => simp at hj; subst hj; simpa [Addr.add] using hc
      | j + 1, hj => simp at hj
    have hrun := run_append_grow_src w t t o.type e i _ h1 h2 h3 none 0 0 [] (run_firstCells_none w.drew i.size 0 0 0) _ 1 [.string u] hsrc (by omega) (by omega) (by rw [h5]; exact growslice_fits (by omega) (by omega))
    refine Lib.wpList_append_run w hg s x t t hop _ _ hs hx _ _ hrun ?_
    have hm := grownCap_le_maxLen w (0 + 1) 0 e (by unfold maxLen; omega)
    have hm1 := grownCap_ge w (0 + 1) 0 e
    refine hK _ _ (.inr ⟨_, _, rfl, ?_⟩) (((Below.refl B w).drew).alloc (by exact hB) _)
    exact rowAt_new (B := B) (w := w.drew) hB [.string u] 1 rfl (.string ⟨#[]⟩) _ e hm hm1
  · refine wpList_append_row w hg s x t hop e i _ 16 h1 h2 h3 h4 h5 rfl B g xs.length c _ hs hr ad c' (.string u) hx hc rfl (by unfold maxLen; omega) (by omega) (fun g' cc w' hr' hb' => ?_)
    have e1 : xs.length + 1 = (xs ++ [u]).length := by simp
    rw [e1]
    refine hK _ _ (.inr ⟨g', cc, rfl, ?_⟩) hb'
    rw [← e1, List.map_append]
    exact hr'
end Go.Proofs.YtibelcnjmpedkaaGreatDoor
