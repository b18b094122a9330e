import Derived.Test.YteblegcojhcccaaDoorTokR3
import Derived.Lib.IndexLaws
namespace Go.Proofs.YteblegcojhcccaaDoor.Tok
open Go.Lib
/-- A text parted at each c. -/
def parts (c : UInt8) (l : List UInt8) : List (List UInt8) := splitK [c] 0 (l.count c) l
theorem parts_no {c : UInt8} {a : List UInt8} (h : c ∉ a) : parts c a = [a] := splitK_no h _
theorem parts_at {c : UInt8} {a : List UInt8} (b : List UInt8) (h : c ∉ a) : parts c (a ++ c :: b) = a :: parts c b := by
  unfold parts
  rw [List.count_append, List.count_cons_self, List.count_eq_zero.2 h, Nat.zero_add, splitK_at b h]
theorem parts_split (c : UInt8) (s : ByteArray) : (splitB ⟨#[c]⟩ 0 (countB s ⟨#[c]⟩) s).map (·.data.toList) = parts c s.data.toList := by
  have h := splitB_data ⟨#[c]⟩ 0 (countB s ⟨#[c]⟩) s
  rw [show countB s ⟨#[c]⟩ = s.data.toList.count c from count_one c s.data.toList] at h ⊢
  exact h
theorem parts_body {t : T} (h : may t) : ∃ x y z, parts 46 (body t) = x :: itoa t.f :: itoa t.g :: y ∧ (t.k = 1 ∧ t.e = 0 ∨ t.k = 2 ∧ y = itoa t.e :: z) := by
  obtain ⟨k, f, g, e⟩ := t
  obtain ⟨hk, hf, hg⟩ := h
  simp only at hk hf hg
  rcases hk with ⟨rfl, rfl⟩ | ⟨rfl, he⟩
  · refine ⟨[114], [], [], ?_, .inl ⟨rfl, rfl⟩⟩
    show parts 46 ([114] ++ 46 :: (itoa f ++ 46 :: itoa g)) = _
    rw [parts_at _ (by simp), parts_at _ (itoa_nodot hf.1), parts_no (itoa_nodot hg.1)]
  · refine ⟨[97], [itoa e], [], ?_, .inr ⟨rfl, rfl⟩⟩
    show parts 46 ([97] ++ 46 :: (itoa f ++ 46 :: (itoa g ++ 46 :: itoa e))) = _
    rw [parts_at _ (by simp), parts_at _ (itoa_nodot hf.1), parts_at _ (itoa_nodot hg.1), parts_no (itoa_nodot he.1)]
/-- What three numbers tell of the words behind the first. -/
def Three (ws : List (List UInt8)) (k : Nat) (n0 n1 n2 : Int) : Prop :=
  ∀ j m, j < k → okN m → ws[j]? = some (itoa m) → (j = 0 → n0 = m) ∧ (j = 1 → n1 = m) ∧ (j = 2 → n2 = m)
theorem three_body {ws : List (List UInt8)} {x a : List UInt8} {n0 n1 n2 : Int} (hp : parts 46 a = x :: ws) (h3 : Three ws ws.length n0 n1 n2) {t : T} (h : may t) (hb : body t = a) : t = ⟨1, n0, n1, 0⟩ ∨ t = ⟨2, n0, n1, n2⟩ := by
  obtain ⟨x', y, z, e, hk⟩ := parts_body h
  rw [hb, hp] at e
  injection e with e1 e2
  subst e2
  have f0 := (h3 0 t.f (by simp) h.2.1 rfl).1 rfl
  have f1 := (h3 1 t.g (by simp) h.2.2 rfl).2.1 rfl
  obtain ⟨k, f, g, e⟩ := t
  simp only at f0 f1 hk
  subst f0; subst f1
  rcases hk with ⟨rfl, rfl⟩ | ⟨rfl, rfl⟩
  · exact .inl rfl
  · have hke : okN e := by
      rcases h.1 with ⟨hh, _⟩ | ⟨_, hh⟩
      · exact absurd hh (by simp)
      · exact hh
    have f2 := (h3 2 e (by simp) hke rfl).2.2 rfl
    subst f2
    exact .inr rfl
def hexs : List UInt8 := [48, 49, 50, 51, 52, 53, 54, 55, 56, 57, 97, 98, 99, 100, 101, 102]
theorem hexs_fin : ∀ n : Fin 256, decide (0 ≤ indexByte hexs (UInt8.ofNat n.val)) = isHexB (UInt8.ofNat n.val) := by decide +kernel
theorem hexs_is (c : UInt8) : 0 ≤ indexByte hexs c ↔ isHex c := by
  have h := hexs_fin ⟨c.toNat, c.toNat_lt⟩
  rw [show UInt8.ofNat c.toNat = c from UInt8.toNat_inj.1 (by simp)] at h
  rw [← isHexB_iff, ← h, decide_eq_true_iff]
end Go.Proofs.YteblegcojhcccaaDoor.Tok
