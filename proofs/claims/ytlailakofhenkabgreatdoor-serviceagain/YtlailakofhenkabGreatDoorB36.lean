/-
  Own texts put together: SvGranted, SvALaw, SvALaw2.
-/
import Derived.Test.YtlailakofhenkabGreatDoorB33
import Derived.Test.YtlailakofhenkabGreatDoorB35
/-
  The fact of the laws on services: a token that is turned, and shown again by another one.
-/

namespace Go.Proofs.YtlailakofhenkabGreatDoor
open Go Go.RowKit Tok Sc Ev
def sApp : ByteArray := ⟨#[97, 112, 112]⟩
def sAnn : ByteArray := ⟨#[97, 110, 110]⟩
def sRead : ByteArray := ⟨#[114, 101, 97, 100]⟩
def sOne : ByteArray := ⟨#[111, 110, 101]⟩
def sTwo : ByteArray := ⟨#[116, 119, 111]⟩
theorem joined_read : (⟨(joined [[114, 101, 97, 100]]).toArray⟩ : ByteArray) = sRead := rfl
theorem wout_read : WOut (joined [[114, 101, 97, 100]]) sRead.data.toList true 0 := ⟨[[114, 101, 97, 100]], 0, [[114, 101, 97, 100]], 0, out_joined out_read, out_read, .inr (.inr ⟨rfl, rfl, rfl, by decide⟩)⟩
theorem one_grant (tx : T → ByteArray) (client subject J : ByteArray) : (grantM tx emptyP true client subject J 0).2 = (tx ⟨1, 1, 0, 0⟩, 0) ∧ Live (grantM tx emptyP true client subject J 0).1 ∧ (grantM tx emptyP true client subject J 0).1.st = ⟨0, 2, [⟨1, client, subject, J, 0, 0, 0, noT, false⟩]⟩ := by
  have hap : applyP emptyP.st (putE (newF emptyP.st client subject J)) = ⟨0, 2, [newF emptyP.st client subject J]⟩ := rfl
  obtain ⟨h1, h2, h3⟩ := live_give (tx := tx) live_empty (newF emptyP.st client subject J) (by rw [hap]; simp)
  unfold grantM
  rw [if_neg (by simp), if_neg (by simp), if_neg (by decide), if_neg (by decide)]
  exact ⟨h1, h2, h3⟩
theorem one_spoil (tx : T → ByteArray) (r : Rul) (p : Pub) (c nx : Int) (f : Fam) (request J : ByteArray) (m : Nat) (b : Bool) (h : Live p) (hs : p.st = ⟨c, nx, [f]⟩) (hd : f.dead = false) (ho : oldF r c f = false) (hn : f.id < nx) (hr : request ≠ f.request) :
    (rotateM tx r p true request ⟨1, f.id, f.gen - 1, 0⟩ 0 J m b).2 = (noT, 15) ∧ Live (rotateM tx r p true request ⟨1, f.id, f.gen - 1, 0⟩ 0 J m b).1 ∧ (rotateM tx r p true request ⟨1, f.id, f.gen - 1, 0⟩ 0 J m b).1.st = ⟨c, nx, [deadF f]⟩ := by
  have hl := one_look r c nx f (f.gen - 1) hd ho (by omega)
  have hfm := one_fam c nx f 1 (f.gen - 1)
  have hap := one_put c nx f (deadF f) rfl hn
  obtain ⟨h1, h2, h3⟩ := live_add h (putE (deadF f)) (by rw [hs, hap]; simp)
  rw [hs, hap] at h3
  unfold rotateM
  rw [if_neg (by simp), hs, if_neg (by simp [hl]), hfm, if_neg (by show ¬ f.gen - 1 = f.gen; omega), if_neg (fun hh => hr hh.2)]
  unfold spoilM
  rw [if_pos h1]
  exact ⟨rfl, h2, h3⟩
theorem one_dead (tx : T → ByteArray) (r : Rul) (p : Pub) (c nx : Int) (f : Fam) (request J : ByteArray) (g : Int) (m : Nat) (b : Bool) (hs : p.st = ⟨c, nx, [f]⟩) (hd : f.dead = true) : rotateM tx r p true request ⟨1, f.id, g, 0⟩ 0 J m b = (p, noT, 6) := by
  have hl : lookM r ⟨c, nx, [f]⟩ 1 ⟨1, f.id, g, 0⟩ 0 = 6 := by rw [look_some r ⟨c, nx, [f]⟩ 1 ⟨1, f.id, g, 0⟩ rfl (one_find f), if_pos hd]
  unfold rotateM
  rw [if_neg (by simp), hs, hl, if_pos (by decide)]
def rul5 : Rul := ⟨5, 9, 9, 9⟩
theorem rul5_ok : RulOk rul5 := ⟨okB_iff.1 (by decide), okB_iff.1 (by decide), okB_iff.1 (by decide), okB_iff.1 (by decide)⟩
theorem okN0 : okN 0 := okB_iff.1 (by decide)
theorem okN1 : okN 1 := okB_iff.1 (by decide)
/-- A call of Rotate, with what it makes of p. -/
theorem rot_call (N : Nat) (W : World) (gv gs gd : Nat) (r : Rul) (p q : Pub) (v : Value) (g : Int) (request sc x : ByteArray) (e : Nat) (l : List Word) (m : Nat) (b : Bool) (h : SvIs N W gv gs gd r p v) (hg : okN g) (hrq : request.size ≤ 5000) (hn : nameB request.data.toList = true) (hsc : sc.size ≤ 5000) (ho : Sc.Out sc.data.toList l m)
    (hw : lookM r p.st 1 ⟨1, 1, g, 0⟩ 0 = 0 → m = 0 → WOut (joined l) (famM p.st ⟨1, 1, g, 0⟩).scope.data.toList b 0) (hN : N < 98000) (hq : rotateM (txtB r) r p true request ⟨1, 1, g, 0⟩ 0 ⟨(joined l).toArray⟩ m b = (q, x, e)) :
    Calls Tryz.prog 29 #[.pointer (some ⟨gv, 0, none⟩), .string (txtB r ⟨1, 1, g, 0⟩), .string request, .string sc] W fun y w' => y = .returned (.tuple #[.string x, errQ e]) ∧ ∃ v', SvIs (N + 22) w' gv gs gd r q v' ∧ Keep [gd, gs] W w' := by
  have ht := txt_len r _ (may_ref okN1 hg)
  refine (rotate_is N W gv gs gd r p v (txtB r ⟨1, 1, g, 0⟩) request sc ⟨1, 1, g, 0⟩ 0 l m b h ht hrq hsc (txt_out r _ (may_ref okN1 hg)) ho hw hN).mono ?_
  rintro y w' ⟨rfl, v', hto⟩
  rw [hn, hq] at hto
  rw [hn, hq]
  exact ⟨rfl, v', h.to hto, hto.keep⟩
def famA0 : Fam := ⟨1, sApp, sAnn, sRead, 0, 0, 0, noT, false⟩
def famA1 : Fam := ⟨1, sApp, sAnn, sRead, 1, 0, 0, sOne, false⟩
def famD1 : Fam := ⟨1, sApp, sAnn, sRead, 1, 0, 0, sOne, true⟩
set_option maxRecDepth 100000 in
set_option maxHeartbeats 8000000 in
theorem granted_is (w : World) (hL : LibsR w) (hO : OldsR w.heap.size) : Calls Tryz.prog 44 #[] w fun r w' => r = .returned (.bool true) ∧ Below w.heap.size w w' := by
  have HBG : Hid _ := begun_is w 5 9 9 9 hL rul5_ok hO
  clear hL hO
  obtain ⟨g1, g2, g3⟩ := one_grant (txtB rul5) sApp sAnn sRead
  have hX : txtB rul5 ⟨1, 1, 0, 0⟩ ≠ txtB rul5 ⟨1, 1, 1, 0⟩ := fun h => by
    have := txt_inj (may_ref okN1 okN0) (may_ref okN1 okN1) h
    cases this
  have HX : Hid ((txtB rul5 ⟨1, 1, 0, 0⟩).toList = (txtB rul5 ⟨1, 1, 1, 0⟩).toList → False) := fun a => hX (by
    rw [ByteArray.toList_eq, ByteArray.toList_eq] at a
    exact ByteArray.ext (Array.toList_inj.1 a))
  have HGR : Hid (∀ (W : World) (gv gs gd : Nat) (v : Value), SvIs 0 W gv gs gd rul5 emptyP v → Calls Tryz.prog 27 #[.pointer (some ⟨gv, 0, none⟩), .string ⟨#[97, 112, 112]⟩, .string ⟨#[97, 110, 110]⟩, .string ⟨#[114, 101, 97, 100]⟩] W fun y w' => y = .returned (.tuple #[.string (txtB rul5 ⟨1, 1, 0, 0⟩), .nilIface]) ∧ ∃ v', SvIs 22 w' gv gs gd rul5 (grantM (txtB rul5) emptyP true sApp sAnn sRead 0).1 v' ∧ Keep [gd, gs] W w') := fun W gv gs gd v hW => by
    refine (grant_is 0 W gv gs gd rul5 emptyP v sApp sAnn sRead [[114, 101, 97, 100]] 0 hW (by decide) (by decide) (by decide) out_read (by omega)).mono ?_
    rintro y w' ⟨rfl, v', hto⟩
    have hn : (nameB sApp.data.toList && nameB sAnn.data.toList) = true := by decide
    rw [hn, joined_read] at hto
    rw [hn, joined_read, g1]
    exact ⟨rfl, v', hW.to hto, hto.keep⟩
  generalize (grantM (txtB rul5) emptyP true sApp sAnn sRead 0).1 = p1 at *
  clear g1 hX
  obtain ⟨t1, t2, t3⟩ := one_turn (txtB rul5) rul5 p1 0 2 famA0 sOne sRead g2 g3 rfl (by decide) (by decide) (by decide)
  have H1 : Hid (∀ (W : World) (gv gs gd : Nat) (v : Value), SvIs 22 W gv gs gd rul5 p1 v → Calls Tryz.prog 29 #[.pointer (some ⟨gv, 0, none⟩), .string (txtB rul5 ⟨1, 1, 0, 0⟩), .string ⟨#[111, 110, 101]⟩, .string ⟨#[114, 101, 97, 100]⟩] W fun y w' => y = .returned (.tuple #[.string (txtB rul5 ⟨1, 1, 1, 0⟩), .nilIface]) ∧ ∃ v', SvIs 44 w' gv gs gd rul5 (rotateM (txtB rul5) rul5 p1 true sOne ⟨1, 1, 0, 0⟩ 0 sRead 0 true).1 v' ∧ Keep [gd, gs] W w') := fun W gv gs gd v hW =>
    rot_call 22 W gv gs gd rul5 p1 _ v 0 sOne sRead _ 0 [[114, 101, 97, 100]] 0 true hW okN0 (by decide) (by decide) (by decide) out_read (fun _ _ => by rw [g3]; exact wout_read) (by omega) (Prod.ext rfl t1)
  replace t2 : Live (rotateM (txtB rul5) rul5 p1 true sOne ⟨1, 1, 0, 0⟩ 0 sRead 0 true).1 := t2
  replace t3 : (rotateM (txtB rul5) rul5 p1 true sOne ⟨1, 1, 0, 0⟩ 0 sRead 0 true).1.st = ⟨0, 2, [famA1]⟩ := t3
  clear t1
  generalize (rotateM (txtB rul5) rul5 p1 true sOne ⟨1, 1, 0, 0⟩ 0 sRead 0 true).1 = p2 at *
  have a1 := one_again (txtB rul5) rul5 p2 0 2 famA1 sRead 0 true t3 rfl (by decide)
  have H2 : Hid (∀ (W : World) (gv gs gd : Nat) (v : Value), SvIs 44 W gv gs gd rul5 p2 v → Calls Tryz.prog 29 #[.pointer (some ⟨gv, 0, none⟩), .string (txtB rul5 ⟨1, 1, 0, 0⟩), .string ⟨#[111, 110, 101]⟩, .string ⟨#[114, 101, 97, 100]⟩] W fun y w' => y = .returned (.tuple #[.string (txtB rul5 ⟨1, 1, 1, 0⟩), .nilIface]) ∧ ∃ v', SvIs 66 w' gv gs gd rul5 p2 v' ∧ Keep [gd, gs] W w') := fun W gv gs gd v hW =>
    rot_call 44 W gv gs gd rul5 p2 _ v 0 sOne sRead _ 0 [[114, 101, 97, 100]] 0 true hW okN0 (by decide) (by decide) (by decide) out_read (fun _ _ => by rw [t3]; exact wout_read) (by omega) a1
  clear a1
  obtain ⟨s1, s2, s3⟩ := one_spoil (txtB rul5) rul5 p2 0 2 famA1 sTwo sRead 0 true t2 t3 rfl (by decide) (by decide) (by decide)
  have H3 : Hid (∀ (W : World) (gv gs gd : Nat) (v : Value), SvIs 66 W gv gs gd rul5 p2 v → Calls Tryz.prog 29 #[.pointer (some ⟨gv, 0, none⟩), .string (txtB rul5 ⟨1, 1, 0, 0⟩), .string ⟨#[116, 119, 111]⟩, .string ⟨#[114, 101, 97, 100]⟩] W fun y w' => y = .returned (.tuple #[.string noT, errQ 15]) ∧ ∃ v', SvIs 88 w' gv gs gd rul5 (rotateM (txtB rul5) rul5 p2 true sTwo ⟨1, 1, 0, 0⟩ 0 sRead 0 true).1 v' ∧ Keep [gd, gs] W w') := fun W gv gs gd v hW =>
    rot_call 66 W gv gs gd rul5 p2 _ v 0 sTwo sRead _ 15 [[114, 101, 97, 100]] 0 true hW okN0 (by decide) (by decide) (by decide) out_read (fun _ _ => by rw [t3]; exact wout_read) (by omega) (Prod.ext rfl s1)
  have s3' : (rotateM (txtB rul5) rul5 p2 true sTwo ⟨1, 1, 0, 0⟩ 0 sRead 0 true).1.st = ⟨0, 2, [famD1]⟩ := s3
  generalize (rotateM (txtB rul5) rul5 p2 true sTwo ⟨1, 1, 0, 0⟩ 0 sRead 0 true).1 = p3 at *
  clear s1 s2 s3
  have d1 := one_dead (txtB rul5) rul5 p3 0 2 famD1 sTwo sRead 1 0 true s3' rfl
  have H4 : Hid (∀ (W : World) (gv gs gd : Nat) (v : Value), SvIs 88 W gv gs gd rul5 p3 v → Calls Tryz.prog 29 #[.pointer (some ⟨gv, 0, none⟩), .string (txtB rul5 ⟨1, 1, 1, 0⟩), .string ⟨#[116, 119, 111]⟩, .string ⟨#[114, 101, 97, 100]⟩] W fun y w' => y = .returned (.tuple #[.string noT, errQ 6]) ∧ ∃ v', SvIs 110 w' gv gs gd rul5 p3 v' ∧ Keep [gd, gs] W w') := fun W gv gs gd v hW =>
    rot_call 88 W gv gs gd rul5 p3 _ v 1 sTwo sRead _ 6 [[114, 101, 97, 100]] 0 true hW okN1 (by decide) (by decide) (by decide) out_read (fun _ _ => by rw [s3']; exact wout_read) (by omega) d1
  clear d1 s3' t2 t3 g2 g3
  generalize txtB rul5 ⟨1, 1, 0, 0⟩ = X at *
  generalize txtB rul5 ⟨1, 1, 1, 0⟩ = Y at *
  go_enter Tryz.func44, Tryz.ntmps44
  go_wp2_with fail
  refine Calls.mono HBG.out ?_
  rintro e0 w0 ⟨gv, gs, gd, v0, rfl, hle, hs0, hb0⟩
  have HS0 : Hid _ := hs0
  have HB0 : Hid (Below w.heap.size w w0 ∧ w.heap.size ≤ gd ∧ gd < gs) := ⟨hb0, hle, hs0.sp.ord⟩
  clear hs0 hb0 hle HBG
  go_wp2_with fail
  refine (HGR.out _ _ _ _ _ HS0.out).mono ?_
  rintro e1 w1 ⟨rfl, v1, hs1, hk1⟩
  have HS1 : Hid _ := hs1
  have HB1 : Hid (Below w.heap.size w w1) := HB0.out.1.trans (hk1.below HB0.out.1.size (fun x hx => by have := HB0.out; simp at hx; omega))
  clear hs1 hk1
  go_wp2_with fail
  refine (H1.out _ _ _ _ _ HS1.out).mono ?_
  rintro e2 w2 ⟨rfl, v2, hs2, hk2⟩
  have HS2 : Hid _ := hs2
  have HB2 : Hid (Below w.heap.size w w2) := HB1.out.trans (hk2.below HB1.out.size (fun x hx => by have := HB0.out; simp at hx; omega))
  clear hs2 hk2
  go_wp2_with fail
  refine (H2.out _ _ _ _ _ HS2.out).mono ?_
  rintro e3 w3 ⟨rfl, v3, hs3, hk3⟩
  have HS3 : Hid _ := hs3
  have HB3 : Hid (Below w.heap.size w w3) := HB2.out.trans (hk3.below HB2.out.size (fun x hx => by have := HB0.out; simp at hx; omega))
  clear hs3 hk3
  go_wp2_with fail
  refine (H3.out _ _ _ _ _ HS3.out).mono ?_
  rintro e4 w4 ⟨rfl, v4, hs4, hk4⟩
  have HS4 : Hid _ := hs4
  have HB4 : Hid (Below w.heap.size w w4) := HB3.out.trans (hk4.below HB3.out.size (fun x hx => by have := HB0.out; simp at hx; omega))
  clear hs4 hk4
  go_wp2_with fail
  refine (H4.out _ _ _ _ _ HS4.out).mono ?_
  rintro e5 w5 ⟨rfl, v5, hs5, hk5⟩
  have HE5 : Hid (ErrVar w5) := hs5.sp.err
  have HB5 : Hid (Below w.heap.size w w5) := HB4.out.trans (hk5.below HB4.out.size (fun x hx => by have := HB0.out; simp at hx; omega))
  clear hs5 hk5
  go_wp2_with fail
  all_goals first
    | exact (HX.out (by assumption)).elim
    | exact (HX.out (by simpa using ‹(X.toList == Y.toList) = true›)).elim
    | (refine (tellQ 15 _ HE5.out).mono ?_
       rintro e6 w6 ⟨rfl, hb6⟩
       have HE6 : Hid _ := HE5.out.on hb6
       have HB6 : Hid (Below w.heap.size w w6) := HB5.out.trans (hb6.mono HB5.out.size)
       clear hb6
       go_wp2_with fail
       refine (tellQ 6 _ HE6.out).mono ?_
       rintro e7 w7 ⟨rfl, hb7⟩
       have HB7 : Hid (Below w.heap.size w w7) := HB6.out.trans (hb7.mono HB6.out.size)
       clear hb7
       go_wp2_with fail
       go_ret
       have hxy : (X.toList == Y.toList) = false := beq_eq_false_iff_ne.2 HX.out
       exact ⟨by show Ending.returned (.bool (!(X.toList == Y.toList))) = _; rw [hxy]; rfl, HB7.out⟩)
end Go.Proofs.YtlailakofhenkabGreatDoor

/-
  The law ServiceAgain: a lost answer comes again.
-/

namespace Go.Proofs.YtlailakofhenkabGreatDoor
open Go Go.RowKit Tok Sc Ev
theorem words_rw : words [114, 101, 97, 100, 43, 119, 114, 105, 116, 101] = [[114, 101, 97, 100], [119, 114, 105, 116, 101]] := by
  rw [words_ne (by simp), show ([114, 101, 97, 100, 43, 119, 114, 105, 116, 101] : List UInt8) = [114, 101, 97, 100] ++ 43 :: [119, 114, 105, 116, 101] from rfl, Tok.parts_at _ (by simp), Tok.parts_no (by simp)]
theorem out_rw : Sc.Out [114, 101, 97, 100, 43, 119, 114, 105, 116, 101] [[114, 101, 97, 100], [119, 114, 105, 116, 101]] 0 :=
  out_by words_rw (by decide) (by decide) (fun _ => Iff.rfl) (by simp) (by simp)
theorem words_wr : words [119, 114, 105, 116, 101] = [[119, 114, 105, 116, 101]] := by
  rw [words_ne (by simp), Tok.parts_no (by simp)]
theorem out_wr : Sc.Out [119, 114, 105, 116, 101] [[119, 114, 105, 116, 101]] 0 := out_by words_wr (by decide) (by simp) (fun _ => Iff.rfl) (by simp) (by simp)
def sRW : ByteArray := ⟨#[114, 101, 97, 100, 43, 119, 114, 105, 116, 101]⟩
def sWr : ByteArray := ⟨#[119, 114, 105, 116, 101]⟩
theorem joined_rw : (⟨(joined [[114, 101, 97, 100], [119, 114, 105, 116, 101]]).toArray⟩ : ByteArray) = sRW := rfl
theorem joined_wr : (⟨(joined [[119, 114, 105, 116, 101]]).toArray⟩ : ByteArray) = sWr := rfl
theorem wout_rw : WOut (joined [[114, 101, 97, 100]]) sRW.data.toList true 0 := ⟨_, _, _, _, out_joined out_read, out_rw, .inr (.inr ⟨rfl, rfl, rfl, by simp [inB]⟩)⟩
/-- The one family, behind g turns. -/
def famG (sc req : ByteArray) (g used : Int) : Fam := ⟨1, sApp, sAnn, sc, g, 0, used, req, false⟩
/-- What the law keeps. -/
structure AG (w0 : World) (N gv gs gd : Nat) (r : Rul) (p : Pub) (v : Value) (sc req : ByteArray) (g c used : Int) (w : World) : Prop where
  sv : SvIs N w gv gs gd r p v
  live : Live p
  st : p.st = ⟨c, 2, [famG sc req g used]⟩
  within : WOut (joined [[114, 101, 97, 100]]) sc.data.toList true 0
  below : Below w0.heap.size w0 w
  far : w0.heap.size ≤ gd
theorem AG.on {w0 : World} {N gv gs gd : Nat} {r : Rul} {p : Pub} {v : Value} {sc req : ByteArray} {g c used : Int} {w w' : World} (h : AG w0 N gv gs gd r p v sc req g c used w) (hb : Below w.heap.size w w') : AG w0 N gv gs gd r p v sc req g c used w' :=
  ⟨h.sv.on hb, h.live, h.st, h.within, h.below.trans (hb.mono h.below.size), h.far⟩
theorem AG.mono {w0 : World} {N M gv gs gd : Nat} {r : Rul} {p : Pub} {v : Value} {sc req : ByteArray} {g c used : Int} {w : World} (h : AG w0 N gv gs gd r p v sc req g c used w) (hm : N ≤ M) : AG w0 M gv gs gd r p v sc req g c used w :=
  ⟨h.sv.mono hm, h.live, h.st, h.within, h.below, h.far⟩
theorem AG.to {w0 : World} {N M gv gs gd : Nat} {r : Rul} {p q : Pub} {v v' : Value} {sc req sc' req' : ByteArray} {g c used g' c' used' : Int} {w w' : World} (h : AG w0 N gv gs gd r p v sc req g c used w) (hs : SvIs M w' gv gs gd r q v') (hk : Keep [gd, gs] w w') (hl : Live q) (ht : q.st = ⟨c', 2, [famG sc' req' g' used']⟩) (hw : WOut (joined [[114, 101, 97, 100]]) sc'.data.toList true 0) : AG w0 M gv gs gd r q v' sc' req' g' c' used' w' :=
  ⟨hs, hl, ht, hw, h.below.trans (hk.below h.below.size (fun x hx => by have h1 := h.far; have h2 := h.sv.sp.ord; simp at hx; omega)), h.far⟩
theorem notOld (K c used g : Int) (sc req : ByteArray) (hc : 0 ≤ c ∧ c ≤ 40) (hu : 0 ≤ used) : oldF ⟨K, 100, 1000, 5⟩ c (famG sc req g used) = false := by
  unfold oldF famG laterI
  simp only [Bool.or_eq_false_iff, decide_eq_false_iff_not]
  constructor
  · split <;> omega
  · split <;> omega
theorem later_small {c : Int} (hc : 0 ≤ c ∧ c ≤ 40) : laterI c 1 = c + 1 := by
  unfold laterI
  rw [if_neg (by omega)]
theorem okN_small {g : Int} (h0 : 0 ≤ g) (h1 : g ≤ 5000) : okN g := (show 0 ≤ g ∧ g ≤ 1099511627776 from ⟨h0, by omega⟩)
theorem again_turn (w0 W : World) (N gv gs gd : Nat) (K : Int) (p : Pub) (v : Value) (sc req request : ByteArray) (g c used : Int) (h : AG w0 N gv gs gd ⟨K, 100, 1000, 5⟩ p v sc req g c used W) (hr : nameB request.data.toList = true) (hq : request.size ≤ 5000) (hN : N < 98000) (hg : 0 ≤ g ∧ g ≤ 100) (hc : 0 ≤ c ∧ c ≤ 40) (hu : 0 ≤ used) :
    Calls Tryz.prog 29 #[.pointer (some ⟨gv, 0, none⟩), .string (txtB ⟨K, 100, 1000, 5⟩ ⟨1, 1, g, 0⟩), .string request, .string ⟨#[114, 101, 97, 100]⟩] W fun y w' => y = .returned (.tuple #[.string (txtB ⟨K, 100, 1000, 5⟩ ⟨1, 1, g + 1, 0⟩), .nilIface]) ∧ ∃ p' v', AG w0 (N + 22) gv gs gd ⟨K, 100, 1000, 5⟩ p' v' sRead request (g + 1) c c w' := by
  obtain ⟨t1, t2, t3⟩ := one_turn (txtB ⟨K, 100, 1000, 5⟩) ⟨K, 100, 1000, 5⟩ p c 2 (famG sc req g used) request sRead h.live h.st rfl (notOld K c used g sc req hc hu) (by show g < _; omega) (by show (1 : Int) < 2; decide)
  refine (rot_call N W gv gs gd _ p _ v g request sRead _ 0 [[114, 101, 97, 100]] 0 true h.sv (okN_small hg.1 (by omega)) hq hr (by decide) out_read (fun _ _ => ?_) hN (Prod.ext rfl t1)).mono ?_
  · rw [h.st]
    exact h.within
  · rintro y w' ⟨rfl, v', q1, q2⟩
    exact ⟨rfl, _, v', h.to q1 q2 t2 t3 wout_read⟩
/-- A state that was, in its box. -/
structure WB (w : World) (gw gs gd : Nat) (s : St) (v : Value) : Prop where
  c0 : w.cell? ⟨gw, 0, none⟩ = some (.int .i64 s.clock)
  c1 : w.cell? ⟨gw, 1, none⟩ = some (.int .i64 s.next)
  c2 : w.cell? ⟨gw, 2, none⟩ = some v
  fam : Fams 0 w v s.fams
  lt : gw < w.heap.size
  ne : gw ≠ gs ∧ gw ≠ gd
  out : NotIn v gs ∧ NotIn v gd
theorem WB.keep {l : List Nat} {w w' : World} {gw gs gd : Nat} {s : St} {v : Value} (h : WB w gw gs gd s v) (hk : Keep l w w') (hl : ∀ x ∈ l, x = gs ∨ x = gd) : WB w' gw gs gd s v := by
  have hn : gw ∉ l := fun hx => by rcases hl _ hx with e | e; exact h.ne.1 e; exact h.ne.2 e
  have hc : ∀ i, w'.cell? ⟨gw, i, none⟩ = w.cell? ⟨gw, i, none⟩ := fun i => hk.cell (p := ⟨gw, i, none⟩) h.lt hn
  exact ⟨(hc 0).trans h.c0, (hc 1).trans h.c1, (hc 2).trans h.c2, hk.rowsOut h.fam (fun x hx => by rcases hl _ hx with rfl | rfl; exact h.out.1; exact h.out.2), Nat.lt_of_lt_of_le h.lt hk.size, h.ne, h.out⟩
theorem WB.on {w w' : World} {gw gs gd : Nat} {s : St} {v : Value} (h : WB w gw gs gd s v) (hb : Below w.heap.size w w') : WB w' gw gs gd s v := h.keep (Keep.of [] hb) (by simp)
theorem again_same (w0 W : World) (N gv gs gd : Nat) (K : Int) (p : Pub) (v : Value) (sc request : ByteArray) (g c used : Int) (h : AG w0 N gv gs gd ⟨K, 100, 1000, 5⟩ p v sc request (g + 1) c used W) (hr : nameB request.data.toList = true) (hq : request.size ≤ 5000) (hN : N < 98000) (hg : 0 ≤ g ∧ g ≤ 100) (hc : 0 ≤ c ∧ c ≤ 40) (hu : 0 ≤ used) :
    Calls Tryz.prog 29 #[.pointer (some ⟨gv, 0, none⟩), .string (txtB ⟨K, 100, 1000, 5⟩ ⟨1, 1, g, 0⟩), .string request, .string ⟨#[119, 114, 105, 116, 101]⟩] W fun y w' => y = .returned (.tuple #[.string (txtB ⟨K, 100, 1000, 5⟩ ⟨1, 1, g + 1, 0⟩), .nilIface]) ∧ ∃ v', AG w0 (N + 22) gv gs gd ⟨K, 100, 1000, 5⟩ p v' sc request (g + 1) c used w' ∧ Keep [gd, gs] W w' := by
  obtain ⟨b, n, hb⟩ : ∃ b n, WOut (joined [[119, 114, 105, 116, 101]]) sc.data.toList b n := by
    obtain ⟨l, i, m, k, h1, h2, h3⟩ := h.within
    by_cases hk : k = 0
    · exact ⟨inB [[119, 114, 105, 116, 101]] m, 0, _, _, _, _, out_joined out_wr, h2, .inr (.inr ⟨rfl, hk, rfl, rfl⟩)⟩
    · exact ⟨false, k, _, _, _, _, out_joined out_wr, h2, .inr (.inl ⟨rfl, hk, rfl, rfl⟩)⟩
  have hn0 : n = 0 := by
    obtain ⟨l, i, m, k, h1, h2, h3⟩ := h.within
    obtain ⟨l', i', m', k', h1', h2', h3'⟩ := hb
    obtain ⟨rfl, rfl⟩ := Sc.out_inj h2 h2'
    obtain ⟨rfl, rfl⟩ := Sc.out_inj h1' (out_joined out_wr)
    rcases h3 with ⟨_, _, hf⟩ | ⟨_, _, _, hf⟩ | ⟨_, hk, _, _⟩
    · cases hf
    · cases hf
    · rcases h3' with ⟨hf, _⟩ | ⟨_, hf, _⟩ | ⟨_, _, hf, _⟩
      · exact absurd rfl hf
      · exact absurd hk hf
      · exact hf
  subst hn0
  have ha := one_again (txtB ⟨K, 100, 1000, 5⟩) ⟨K, 100, 1000, 5⟩ p c 2 (famG sc request (g + 1) used) sWr 0 b h.st rfl (notOld K c used (g + 1) sc request hc hu)
  have hg1 : (famG sc request (g + 1) used).gen - 1 = g := by show g + 1 - 1 = g; omega
  rw [hg1] at ha
  refine (rot_call N W gv gs gd _ p p v g request sWr _ 0 [[119, 114, 105, 116, 101]] 0 b h.sv (okN_small hg.1 (by omega)) hq hr (by decide) out_wr (fun _ _ => ?_) hN ha).mono ?_
  · rw [h.st]
    exact hb
  · rintro y w' ⟨rfl, v', q1, q2⟩
    exact ⟨rfl, v', h.to q1 q2 h.live h.st h.within, q2⟩
theorem again_no (w0 W : World) (N gv gs gd : Nat) (K : Int) (p : Pub) (v : Value) (sc req request : ByteArray) (g c used : Int) (h : AG w0 N gv gs gd ⟨K, 100, 1000, 5⟩ p v sc req g c used W) (hr : nameB request.data.toList = false) (hq : request.size ≤ 5000) (hN : N < 98000) (hg : 0 ≤ g ∧ g ≤ 100) :
    Calls Tryz.prog 29 #[.pointer (some ⟨gv, 0, none⟩), .string (txtB ⟨K, 100, 1000, 5⟩ ⟨1, 1, g, 0⟩), .string request, .string ⟨#[114, 101, 97, 100]⟩] W fun y w' => y = .returned (.tuple #[.string ⟨#[]⟩, errQ 1]) ∧ ∃ v', AG w0 (N + 22) gv gs gd ⟨K, 100, 1000, 5⟩ p v' sc req g c used w' := by
  have hm := may_ref okN1 (okN_small hg.1 (by omega))
  refine (rotate_is N W gv gs gd _ p v (txtB ⟨K, 100, 1000, 5⟩ ⟨1, 1, g, 0⟩) request sRead ⟨1, 1, g, 0⟩ 0 [[114, 101, 97, 100]] 0 true h.sv (txt_len _ _ hm) hq (by decide) (txt_out _ _ hm) out_read (fun _ _ => by rw [h.st]; exact h.within) hN).mono ?_
  rintro y w' ⟨rfl, v', hto⟩
  rw [hr, rotate_no] at hto
  rw [hr, rotate_no]
  exact ⟨rfl, v', h.to (h.sv.to hto) hto.keep h.live h.st h.within⟩
theorem again_tick (w0 W : World) (N gv gs gd : Nat) (K : Int) (p : Pub) (v : Value) (sc req : ByteArray) (g c used : Int) (h : AG w0 N gv gs gd ⟨K, 100, 1000, 5⟩ p v sc req g c used W) (hN : N < 98000) (hc : 0 ≤ c ∧ c ≤ 40) :
    Calls Tryz.prog 37 #[.pointer (some ⟨gv, 0, none⟩), .int .i64 1] W fun y w' => y = .returned .nilIface ∧ ∃ p' v', AG w0 (N + 22) gv gs gd ⟨K, 100, 1000, 5⟩ p' v' sc req g (c + 1) used w' := by
  obtain ⟨t1, t2, t3⟩ := one_tick p c 2 (famG sc req g used) h.live h.st
  rw [later_small hc] at t3
  refine (tick_is N W gv gs gd _ p v 1 h.sv hN).mono ?_
  rintro y w' ⟨rfl, v', hto⟩
  rw [t1]
  exact ⟨rfl, _, v', h.to (h.sv.to hto) hto.keep t2 t3 h.within⟩
end Go.Proofs.YtlailakofhenkabGreatDoor

/-
  The law ServiceAgain, walked.
-/

namespace Go.Proofs.YtlailakofhenkabGreatDoor
open Go Go.RowKit Tok Sc Ev
set_option maxRecDepth 100000 in
set_option maxHeartbeats 16000000 in
theorem serviceAgainLaw (key : Int) (ts : List Int) (ao : Option Addr) (gA off cap : Nat) (request : ByteArray) (times : Int) (w : World) (hao : 0 < ts.length → ao = some ⟨gA, off, none⟩) (hgA : gA < w.heap.size) (hrow : ∀ (i : Nat) (h : i < ts.length), w.cell? ⟨gA, off + i, none⟩ = some (.int .i64 ts[i])) (hn : ts.length ≤ 40) (hrq : request.size ≤ 60) (hL : LibsR w) (hO : OldsR w.heap.size) :
    Calls Tryz.prog 6 #[.int .i64 key, .slice ao ts.length cap, .string request, .int .i64 times] w fun r w' => r = .returned (.bool true) ∧ Below w.heap.size w w' := by
  have hn' : ¬ (40 : Int) < (ts.length : Int) := by omega
  have hr' : ¬ (60 : Int) < (request.size : Int) := by omega
  have HGD : Hid _ := granted_is w hL hO
  have HL : Hid (LibsR w) := hL
  have HO : Hid (OldsR w.heap.size) := hO
  have HR : Hid (∀ (i : Nat) (h : i < ts.length), w.cell? ⟨gA, off + i, none⟩ = some (.int .i64 ts[i])) := hrow
  have HG : Hid (gA < w.heap.size) := hgA
  have HN : Hid (ts.length ≤ 40) := hn
  have HRQ : Hid (request.size ≤ 60) := hrq
  have hnm := fun (W : World) => name_is request W (by omega)
  clear hrow hL hO hgA hn hrq
  go_enter Tryz.func6, Tryz.ntmps6
  go_wp2_with fail
  refine Calls.mono HGD.out ?_
  rintro e1 w1 ⟨rfl, hb1⟩
  have HB1 : Hid (Below w.heap.size w w1) := hb1
  clear hb1 HGD
  go_wp2_with fail
  refine (pickN_is key 1073741824 (by omega) (by omega) _).mono ?_
  rintro e2 w2 ⟨K, hK, -, rfl, hw⟩
  obtain rfl : w1 = w2 := hw.symm
  have HRU : Hid (RulOk ⟨(K : Int), 100, 1000, 5⟩) := ⟨(show 0 ≤ (K : Int) ∧ (K : Int) ≤ 1099511627776 from ⟨by omega, by omega⟩), okB_iff.1 (show okB 100 = true by decide), okB_iff.1 (show okB 1000 = true by decide), okB_iff.1 (show okB 5 = true by decide)⟩
  clear hK
  go_wp2_with fail
  refine (begun_is _ K 100 1000 5 (HL.out.on HB1.out) HRU.out (HO.out.mono HB1.out.size)).mono ?_
  rintro e3 w3 ⟨gv, gs, gd, v3, rfl, hle, hs3, hb3⟩
  have HS3 : Hid _ := hs3
  have HB3 : Hid (Below w.heap.size w w3 ∧ w.heap.size ≤ gd) := ⟨HB1.out.trans (hb3.mono HB1.out.size), Nat.le_trans HB1.out.size hle⟩
  clear hs3 hb3 hle
  go_wp2_with fail
  obtain ⟨g1, g2, g3⟩ := one_grant (txtB ⟨(K : Int), 100, 1000, 5⟩) sApp sAnn sRW
  have HG3 : Hid ((grantM (txtB ⟨(K : Int), 100, 1000, 5⟩) emptyP true sApp sAnn sRW 0).2 = (txtB ⟨(K : Int), 100, 1000, 5⟩ ⟨1, 1, 0, 0⟩, 0)) := g1
  have HG4 : Hid (Live (grantM (txtB ⟨(K : Int), 100, 1000, 5⟩) emptyP true sApp sAnn sRW 0).1) := g2
  have HG5 : Hid ((grantM (txtB ⟨(K : Int), 100, 1000, 5⟩) emptyP true sApp sAnn sRW 0).1.st = ⟨0, 2, [famG sRW noT 0 0]⟩) := g3
  clear g1 g2 g3
  refine (grant_is 0 _ gv gs gd _ emptyP v3 sApp sAnn sRW [[114, 101, 97, 100], [119, 114, 105, 116, 101]] 0 HS3.out (by decide) (by decide) (by decide) out_rw (by omega)).mono ?_
  rintro e4 w4 ⟨rfl, v4, hto⟩
  have hnn : (nameB sApp.data.toList && nameB sAnn.data.toList) = true := by decide
  rw [hnn, joined_rw] at hto
  rw [hnn, joined_rw, HG3.out]
  have HA4 : Hid (AG w 22 gv gs gd ⟨(K : Int), 100, 1000, 5⟩ (grantM (txtB ⟨(K : Int), 100, 1000, 5⟩) emptyP true sApp sAnn sRW 0).1 v4 sRW noT 0 0 0 w4) := ⟨HS3.out.to hto, HG4.out, HG5.out, wout_rw, HB3.out.1.trans (hto.keep.below HB3.out.1.size (fun x hx => by have h1 := HB3.out.2; have h2 := HS3.out.sp.ord; simp at hx; omega)), HB3.out.2⟩
  clear hto HG3 HG4 HG5 HS3 HB3 hnn
  generalize (grantM (txtB ⟨(K : Int), 100, 1000, 5⟩) emptyP true sApp sAnn sRW 0).1 = p4 at *
  rw [show errQ 0 = .nilIface from rfl]
  go_wp2_with fail
  go_loopg [10, 12] ts.length (fun gk tv iv wr => ∃ (j : Nat) (p : Pub) (v : Value) (sc req : ByteArray) (g c used : Int), j + gk = ts.length ∧ iv = .int .i64 j ∧ tv = .string (txtB ⟨(K : Int), 100, 1000, 5⟩ ⟨1, 1, g, 0⟩) ∧ Hid ((0 ≤ g ∧ g ≤ j) ∧ (0 ≤ c ∧ c ≤ j) ∧ 0 ≤ used) ∧ Hid (AG w (150 * j + 22) gv gs gd ⟨(K : Int), 100, 1000, 5⟩ p v sc req g c used wr))
  case atStart => exact ⟨0, _, _, _, _, 0, 0, 0, by omega, rfl, rfl, ⟨⟨by omega, by omega⟩, ⟨by omega, by omega⟩, by omega⟩, HA4⟩
  case round =>
    generalize gk = gz at *
    obtain ⟨j, p, v, sc, req, g, c, used, hj, rfl, rfl, HB, HA⟩ := hrel
    have HJ : Hid (j + gz = ts.length) := hj
    clear hj HA4
    by_cases hlt : j < ts.length
    · have hltI : (j : Int) < (ts.length : Int) := by omega
      obtain rfl := hao (by omega)
      have hc := (HA.out.below.cell (p := ⟨gA, off + j, none⟩) HG.out).trans (HR.out j hlt)
      generalize ts[j] = a at *
      have HJ40 : Hid (j < 40) := by have := HN.out; show j < 40; omega
      have HGB : Hid (0 ≤ g ∧ g ≤ 100) := by have h1 := HB.out.1; have h2 := HJ40.out; exact ⟨h1.1, by omega⟩
      have HCB : Hid (0 ≤ c ∧ c ≤ 40) := by have h1 := HB.out.2.1; have h2 := HJ40.out; exact ⟨h1.1, by omega⟩
      go_wp2_with fail
      refine (pickN_is a 4 (by omega) (by omega) _).mono ?_
      rintro e5 w5 ⟨q, hq, -, rfl, hw⟩
      obtain rfl : wr = w5 := hw.symm
      clear hc
      by_cases hq0 : q = 0
      · subst hq0
        go_wp2_with fail
        refine (again_tick w _ _ gv gs gd K p v sc req g c used HA.out (by have := HJ40.out; omega) HCB.out).mono ?_
        rintro e6 w6 ⟨rfl, p6, v6, ha6⟩
        have HA6 : Hid _ := ha6
        clear ha6
        go_wp2_with fail
        go_roundg (gz - 1)
        case measure => have := HJ.out; omega
        case rel => exact ⟨j + 1, _, _, _, _, _, _, _, by have := HJ.out; omega, by go_num, rfl, ⟨⟨HB.out.1.1, by have := HB.out.1.2; omega⟩, ⟨by have := HB.out.2.1.1; omega, by have := HB.out.2.1.2; omega⟩, HB.out.2.2⟩, HA6.out.mono (by omega)⟩
      · have hqb : ((q : Int) == 0) = false := by simp [hq0]
        cases hnb : nameB request.data.toList with
        | false =>
          rw [hnb] at hnm
          go_wp2_with fail
          refine (again_no w _ _ gv gs gd K p v sc req request g c used HA.out hnb (by have := HRQ.out; omega) (by have := HJ40.out; omega) HGB.out).mono ?_
          rintro e6 w6 ⟨rfl, v6, ha6⟩
          have HA6 : Hid _ := ha6
          clear ha6
          go_wp2_with fail
          refine (hnm _).mono ?_
          rintro e7 w7 ⟨rfl, hw⟩
          obtain rfl : w6 = w7 := hw.symm
          go_wp2_with fail
          refine (tellQ 1 _ HA6.out.sv.sp.err).mono ?_
          rintro e8 w8 ⟨rfl, hb8⟩
          have HBF : Hid (Below w.heap.size w w8) := HA6.out.below.trans (hb8.mono HA6.out.below.size)
          clear hb8
          go_wp2_with fail
          go_ret
          exact ⟨rfl, HBF.out⟩
        | true =>
          rw [hnb] at hnm
          have HNB : Hid (nameB request.data.toList = true) := hnb
          have hne : txtB ⟨(K : Int), 100, 1000, 5⟩ ⟨1, 1, g + 1, 0⟩ ≠ txtB ⟨(K : Int), 100, 1000, 5⟩ ⟨1, 1, g, 0⟩ := fun hh => by
            have h1 := HGB.out
            have := txt_inj (may_ref okN1 (okN_small (by omega) (by omega))) (may_ref okN1 (okN_small h1.1 (by omega))) hh
            simp only [T.mk.injEq] at this
            omega
          have HNE : Hid ((txtB ⟨(K : Int), 100, 1000, 5⟩ ⟨1, 1, g + 1, 0⟩).toList = (txtB ⟨(K : Int), 100, 1000, 5⟩ ⟨1, 1, g, 0⟩).toList → False) := fun a => hne (by
            rw [ByteArray.toList_eq, ByteArray.toList_eq] at a
            exact ByteArray.ext (Array.toList_inj.1 a))
          clear hnb hne
          go_wp2_with fail
          refine (again_turn w _ _ gv gs gd K p v sc req request g c used HA.out HNB.out (by have := HRQ.out; omega) (by have := HJ40.out; omega) HGB.out HCB.out HB.out.2.2).mono ?_
          rintro e6 w6 ⟨rfl, p6, v6, ha6⟩
          have HA6 : Hid (AG w (150 * j + 44) gv gs gd ⟨(K : Int), 100, 1000, 5⟩ p6 v6 sRead request (g + 1) c c w6) := ha6
          have HAS : Hid (∀ (W : World) (N : Nat) (v : Value), AG w N gv gs gd ⟨(K : Int), 100, 1000, 5⟩ p6 v sRead request (g + 1) c c W → N < 98000 → Calls Tryz.prog 29 #[.pointer (some ⟨gv, 0, none⟩), .string (txtB ⟨(K : Int), 100, 1000, 5⟩ ⟨1, 1, g, 0⟩), .string request, .string ⟨#[119, 114, 105, 116, 101]⟩] W fun y w' => y = .returned (.tuple #[.string (txtB ⟨(K : Int), 100, 1000, 5⟩ ⟨1, 1, g + 1, 0⟩), .nilIface]) ∧ ∃ v', AG w (N + 22) gv gs gd ⟨(K : Int), 100, 1000, 5⟩ p6 v' sRead request (g + 1) c c w' ∧ Keep [gd, gs] W w') := fun W N v hW hN => again_same w W N gv gs gd K p6 v sRead request g c c hW HNB.out (by have := HRQ.out; omega) hN HGB.out HCB.out HCB.out.1
          generalize hX : txtB ⟨(K : Int), 100, 1000, 5⟩ ⟨1, 1, g, 0⟩ = X at *
          generalize hY : txtB ⟨(K : Int), 100, 1000, 5⟩ ⟨1, 1, g + 1, 0⟩ = Y at *
          have HX : Hid _ := hX
          have HY : Hid (txtB ⟨(K : Int), 100, 1000, 5⟩ ⟨1, 1, g + 1, 0⟩ = Y) := hY
          clear ha6 hX hY
          go_wp2_with fail
          refine (hnm _).mono ?_
          rintro e7 w7 ⟨rfl, hw⟩
          obtain rfl : w6 = w7 := hw.symm
          go_upto_region 22 with fail
          all_goals first
            | exact (HNE.out (by assumption)).elim
            | exact (HNE.out (by simpa using ‹(Y.toList == X.toList) = true›)).elim
            | skip
          go_wp2_with fail
          refine (svState_is _ _ gv gs gd _ p6 v6 HA6.out.sv).mono ?_
          rintro e8 w8 ⟨v8, rfl, hf8, hb8⟩
          obtain ⟨b8, c8, rfl⟩ := RowsK.slice hf8
          unfold stV
          have hb9 : Below w8.heap.size w8 (w8.alloc (.cells #[.int .i64 p6.st.clock, .int .i64 p6.st.next, .slice b8 p6.st.fams.length c8] 36)) := (Below.refl _ _).alloc (Nat.le_refl _) _
          have HA8 : Hid _ := (HA6.out.on hb8).on hb9
          have HF8 : Hid (Fams w6.heap.size (w8.alloc (.cells #[.int .i64 p6.st.clock, .int .i64 p6.st.next, .slice b8 p6.st.fams.length c8] 36)) (.slice b8 p6.st.fams.length c8) p6.st.fams) := RowsK.below hf8 hb9 (Nat.le_refl _)
          have HW8 : Hid (WB (w8.alloc (.cells #[.int .i64 p6.st.clock, .int .i64 p6.st.next, .slice b8 p6.st.fams.length c8] 36)) w8.heap.size gs gd p6.st (.slice b8 p6.st.fams.length c8)) := by
            have h1 := HA6.out.sv.sp.lt
            have h2 := HA6.out.sv.sp.ord
            have h3 := hb8.size
            exact ⟨(World.cell?_alloc_at _ _ _ _ rfl).trans rfl, (World.cell?_alloc_at _ _ _ _ rfl).trans rfl, (World.cell?_alloc_at _ _ _ _ rfl).trans rfl, RowsK.mono HF8.out (Nat.zero_le _), by simp, ⟨by omega, by omega⟩, ⟨NotIn.above HF8.out (by omega), NotIn.above HF8.out (by omega)⟩⟩
          clear hf8 hb8 hb9 HF8
          go_upto_region 23 with fail
          generalize (w8.alloc (.cells #[.int .i64 p6.st.clock, .int .i64 p6.st.next, .slice b8 p6.st.fams.length c8] 36)) = W9 at *
          generalize w8.heap.size = gw at *
          go_wp2_with fail
          go_loopg [16] 4 (fun gm kv wx => ∃ (k : Nat) (v : Value), k + gm = 4 ∧ kv = .int .i64 k ∧ Hid (AG w (150 * j + 44 + 22 * k) gv gs gd ⟨(K : Int), 100, 1000, 5⟩ p6 v sRead request (g + 1) c c wx) ∧ Hid (WB wx gw gs gd p6.st (.slice b8 p6.st.fams.length c8)))
          case atStart => exact ⟨0, _, by omega, rfl, HA8, HW8⟩
          case round =>
            generalize gk = gm at *
            obtain ⟨k, v9, hk, rfl, HA9, HW9⟩ := hrel
            have HK : Hid (k + gm = 4) := hk
            clear hk HA8 HW8
            go_wp2_with fail
            refine (pickN_is times 4 (by omega) (by omega) _).mono ?_
            rintro e10 w10 ⟨q2, hq2, -, rfl, hw⟩
            obtain rfl : w10 = wr := hw
            by_cases hkq : k < q2
            · have hkI : (k : Int) < (q2 : Int) := by omega
              go_wp2_with fail
              refine (HAS.out _ _ _ HA9.out (by have h1 := HJ40.out; have h2 := HK.out; omega)).mono ?_
              rintro e11 w11 ⟨rfl, v11, ha11, hk11⟩
              have HA11 : Hid _ := ha11
              have HW11 : Hid _ := HW9.out.keep hk11 (fun x hx => by simp at hx; rcases hx with rfl | rfl; exact .inr rfl; exact .inl rfl)
              clear ha11 hk11
              go_wp2_with fail
              go_roundg (gm - 1)
              case measure => have := HK.out; omega
              case rel => exact ⟨k + 1, _, by have := HK.out; omega, by go_num, HA11.out.mono (by omega), HW11⟩
            · have hkI : ¬ (k : Int) < (q2 : Int) := by omega
              go_upto_region 29 with fail
              refine RegD.wp_region_D (fun W => AG w (150 * j + 44 + 22 * k) gv gs gd ⟨(K : Int), 100, 1000, 5⟩ p6 v9 sRead request (g + 1) c c W ∧ WB W gw gs gd p6.st (.slice b8 p6.st.fams.length c8)) 4 (by kernel_rfl) (⟨HA9.out.on (Below.refl _ _).drew, HW9.out.on (Below.refl _ _).drew⟩) (fun hHeld => ?_)
              refine RegD.wpAnyD_take 0 (oi := ?oi0x2) (v := .agg #[.int .i64 p6.st.clock, .int .i64 p6.st.next, .slice b8 p6.st.fams.length c8]) ?hi0x2 ?hB0x2 ?hQ0x2 ?hy0x2 hHeld ?rest0x2
              case hi0x2 => rfl
              case hB0x2 => kernel_rfl
              case hQ0x2 => exact fun _ _ _ h => h
              case hy0x2 => exact .inl ⟨by rfl, fun W hW => by
                have a0 := hW.2.c0
                have a1 := hW.2.c1
                have a2 := hW.2.c2
                go_simp⟩
              simp only [Act.put, List.setIfInBounds_toArray, List.set_cons_zero, List.set_cons_succ]
              refine RegD.wpAnyD_take 1 (oi := ?oi1x3) (v := .pointer (some ⟨gv, 0, none⟩)) ?hi1x3 ?hB1x3 ?hQ1x3 ?hy1x3 hHeld ?rest1x3
              case hi1x3 => rfl
              case hB1x3 => kernel_rfl
              case hQ1x3 => exact fun _ _ _ h => h
              case hy1x3 => exact .inl ⟨by rfl, fun W hW => by
                go_simp⟩
              simp only [Act.put, List.setIfInBounds_toArray, List.set_cons_zero, List.set_cons_succ]
              refine RegD.wpAnyD_one 2 (o := ?o2x4) ?ho2x4 ?hr2x4 ?h2x4
              case ho2x4 => rfl
              case hr2x4 => kernel_rfl
              intro K hK
              go_simp
              go_at_call 43
              refine (svState_is _ _ gv gs gd _ p6 _ hHeld.1.sv).mono ?_
              rintro e12 w12 ⟨v12, rfl, hf12, hb12⟩
              obtain ⟨b12, c12, rfl⟩ := RowsK.slice hf12
              unfold stV
              go_wp2_with fail
              refine hK.out _ _ (⟨hHeld.1.on hb12, hHeld.2.on hb12⟩) ?_
              clear hK hHeld
              intro hHeld
              clear K
              clear hb12
              refine RegD.wpAnyD_one 3 (o := ?o3x6) ?ho3x6 ?hr3x6 ?h3x6
              case ho3x6 => rfl
              case hr3x6 => kernel_rfl
              intro K hK
              go_simp
              go_at_call 21
              refine (same_is p6.st.clock p6.st.next hHeld.2.fam hf12 (by have := hHeld.1.sv.sp.ok.good.len; omega)).mono ?_
              rintro e13 w13 ⟨rfl, hb13⟩
              go_wp2_with fail
              refine hK.out _ _ (⟨hHeld.1.on hb13, hHeld.2.on hb13⟩) ?_
              clear hK hHeld
              intro hHeld
              clear K
              have HAF : Hid _ := hHeld.1
              clear hb13 hf12 hHeld
              refine RegD.wpAnyD_late 4 (o := ?o4x8) ?ho4x8 ?hr4x8 ?hd4x8 ?h4x8
              case ho4x8 => rfl
              case hr4x8 => kernel_rfl
              case hd4x8 => kernel_rfl
              intro K hK
              go_simp
              refine hK.out _ _ ?_
              clear hK K
              refine RegD.wpAnyD_done (by kernel_rfl) ?_ _
              go_wp2_with fail
              go_roundg (gz - 1)
              case measure => have := HJ.out; omega
              case rel => exact ⟨j + 1, _, _, _, _, g + 1, c, c, by have := HJ.out; omega, by go_num, by rw [HY.out], ⟨⟨by have := HB.out.1.1; omega, by have := HB.out.1.2; omega⟩, ⟨HB.out.2.1.1, by have := HB.out.2.1.2; omega⟩, HB.out.2.1.1⟩, HAF.out.mono (by have := HK.out; omega)⟩
    · obtain rfl : j = ts.length := by have := HJ.out; omega
      go_wp2_with fail
      go_ret
      exact ⟨rfl, HA.out.below⟩
end Go.Proofs.YtlailakofhenkabGreatDoor
