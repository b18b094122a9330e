/-
  Own texts put together: SvGranted.
-/
import Derived.Test.YtlailakofhenkabGreatDoorB30
import Derived.Test.YtlailakofhenkabGreatDoorB31
namespace Go.Proofs.YtlailakofhenkabGreatDoor
open Go Go.RowKit Tok Sc Ev
def sApp : ByteArray := ⟨#[97, 112, 112]⟩
def sAnn : ByteArray := ⟨#[97, 110, 110]⟩
def sRead : ByteArray := ⟨#[114, 101, 97, 100]⟩
def sOne : ByteArray := ⟨#[111, 110, 101]⟩
def sTwo : ByteArray := ⟨#[116, 119, 111]⟩
theorem joined_read : (⟨(joined [[114, 101, 97, 100]]).toArray⟩ : ByteArray) = sRead := rfl
theorem wout_read : WOut (joined [[114, 101, 97, 100]]) sRead.data.toList true 0 := ⟨[[114, 101, 97, 100]], 0, [[114, 101, 97, 100]], 0, out_joined out_read, out_read, .inr (.inr ⟨rfl, rfl, rfl, by decide⟩)⟩
theorem one_grant (tx : T → ByteArray) (client subject J : ByteArray) : (grantM tx emptyP true client subject J 0).2 = (tx ⟨1, 1, 0, 0⟩, 0) ∧ Live (grantM tx emptyP true client subject J 0).1 ∧ (grantM tx emptyP true client subject J 0).1.st = ⟨0, 2, [⟨1, client, subject, J, 0, 0, 0, noT, false⟩]⟩ := by
  have hap : applyP emptyP.st (putE (newF emptyP.st client subject J)) = ⟨0, 2, [newF emptyP.st client subject J]⟩ := rfl
  obtain ⟨h1, h2, h3⟩ := live_give (tx := tx) live_empty (newF emptyP.st client subject J) (by rw [hap]; simp)
  unfold grantM
  rw [if_neg (by simp), if_neg (by simp), if_neg (by decide), if_neg (by decide)]
  exact ⟨h1, h2, h3⟩
theorem one_spoil (tx : T → ByteArray) (r : Rul) (p : Pub) (c nx : Int) (f : Fam) (request J : ByteArray) (m : Nat) (b : Bool) (h : Live p) (hs : p.st = ⟨c, nx, [f]⟩) (hd : f.dead = false) (ho : oldF r c f = false) (hn : f.id < nx) (hr : request ≠ f.request) :
    (rotateM tx r p true request ⟨1, f.id, f.gen - 1, 0⟩ 0 J m b).2 = (noT, 15) ∧ Live (rotateM tx r p true request ⟨1, f.id, f.gen - 1, 0⟩ 0 J m b).1 ∧ (rotateM tx r p true request ⟨1, f.id, f.gen - 1, 0⟩ 0 J m b).1.st = ⟨c, nx, [deadF f]⟩ := by
  have hl := one_look r c nx f (f.gen - 1) hd ho (by omega)
  have hfm := one_fam c nx f 1 (f.gen - 1)
  have hap := one_put c nx f (deadF f) rfl hn
  obtain ⟨h1, h2, h3⟩ := live_add h (putE (deadF f)) (by rw [hs, hap]; simp)
  rw [hs, hap] at h3
  unfold rotateM
  rw [if_neg (by simp), hs, if_neg (by simp [hl]), hfm, if_neg (by show ¬ f.gen - 1 = f.gen; omega), if_neg (fun hh => hr hh.2)]
  unfold spoilM
  rw [if_pos h1]
  exact ⟨rfl, h2, h3⟩
theorem one_dead (tx : T → ByteArray) (r : Rul) (p : Pub) (c nx : Int) (f : Fam) (request J : ByteArray) (g : Int) (m : Nat) (b : Bool) (hs : p.st = ⟨c, nx, [f]⟩) (hd : f.dead = true) : rotateM tx r p true request ⟨1, f.id, g, 0⟩ 0 J m b = (p, noT, 6) := by
  have hl : lookM r ⟨c, nx, [f]⟩ 1 ⟨1, f.id, g, 0⟩ 0 = 6 := by rw [look_some r ⟨c, nx, [f]⟩ 1 ⟨1, f.id, g, 0⟩ rfl (one_find f), if_pos hd]
  unfold rotateM
  rw [if_neg (by simp), hs, hl, if_pos (by decide)]
def rul5 : Rul := ⟨5, 9, 9, 9⟩
theorem rul5_ok : RulOk rul5 := ⟨okB_iff.1 (by decide), okB_iff.1 (by decide), okB_iff.1 (by decide), okB_iff.1 (by decide)⟩
theorem okN0 : okN 0 := okB_iff.1 (by decide)
theorem okN1 : okN 1 := okB_iff.1 (by decide)
theorem rot_call (N : Nat) (W : World) (gv gs gd : Nat) (r : Rul) (p q : Pub) (v : Value) (g : Int) (request sc x : ByteArray) (e : Nat) (l : List Word) (m : Nat) (b : Bool) (h : SvIs N W gv gs gd r p v) (hg : okN g) (hrq : request.size ≤ 5000) (hn : nameB request.data.toList = true) (hsc : sc.size ≤ 5000) (ho : Sc.Out sc.data.toList l m)
    (hw : lookM r p.st 1 ⟨1, 1, g, 0⟩ 0 = 0 → m = 0 → WOut (joined l) (famM p.st ⟨1, 1, g, 0⟩).scope.data.toList b 0) (hN : N < 98000) (hq : rotateM (txtB r) r p true request ⟨1, 1, g, 0⟩ 0 ⟨(joined l).toArray⟩ m b = (q, x, e)) :
    Calls Tryz.prog 29 #[.pointer (some ⟨gv, 0, none⟩), .string (txtB r ⟨1, 1, g, 0⟩), .string request, .string sc] W fun y w' => y = .returned (.tuple #[.string x, errQ e]) ∧ ∃ v', SvIs (N + 22) w' gv gs gd r q v' ∧ Keep [gd, gs] W w' := by
  have ht := txt_len r _ (may_ref okN1 hg)
  refine (rotate_is N W gv gs gd r p v (txtB r ⟨1, 1, g, 0⟩) request sc ⟨1, 1, g, 0⟩ 0 l m b h ht hrq hsc (txt_out r _ (may_ref okN1 hg)) ho hw hN).mono ?_
  rintro y w' ⟨rfl, v', hto⟩
  rw [hn, hq] at hto
  rw [hn, hq]
  exact ⟨rfl, v', h.to hto, hto.keep⟩
def famA0 : Fam := ⟨1, sApp, sAnn, sRead, 0, 0, 0, noT, false⟩
def famA1 : Fam := ⟨1, sApp, sAnn, sRead, 1, 0, 0, sOne, false⟩
def famD1 : Fam := ⟨1, sApp, sAnn, sRead, 1, 0, 0, sOne, true⟩
set_option maxRecDepth 100000 in
set_option maxHeartbeats 8000000 in
theorem granted_is (w : World) (hL : LibsR w) (hO : OldsR w.heap.size) : Calls Tryz.prog 44 #[] w fun r w' => r = .returned (.bool true) ∧ Below w.heap.size w w' := by
  have HBG : Hid _ := begun_is w 5 9 9 9 hL rul5_ok hO
  clear hL hO
  obtain ⟨g1, g2, g3⟩ := one_grant (txtB rul5) sApp sAnn sRead
  have hX : txtB rul5 ⟨1, 1, 0, 0⟩ ≠ txtB rul5 ⟨1, 1, 1, 0⟩ := fun h => by
    have := txt_inj (may_ref okN1 okN0) (may_ref okN1 okN1) h
    cases this
  have HX : Hid ((txtB rul5 ⟨1, 1, 0, 0⟩).toList = (txtB rul5 ⟨1, 1, 1, 0⟩).toList → False) := fun a => hX (by
    rw [ByteArray.toList_eq, ByteArray.toList_eq] at a
    exact ByteArray.ext (Array.toList_inj.1 a))
  have HGR : Hid (∀ (W : World) (gv gs gd : Nat) (v : Value), SvIs 0 W gv gs gd rul5 emptyP v → Calls Tryz.prog 27 #[.pointer (some ⟨gv, 0, none⟩), .string ⟨#[97, 112, 112]⟩, .string ⟨#[97, 110, 110]⟩, .string ⟨#[114, 101, 97, 100]⟩] W fun y w' => y = .returned (.tuple #[.string (txtB rul5 ⟨1, 1, 0, 0⟩), .nilIface]) ∧ ∃ v', SvIs 22 w' gv gs gd rul5 (grantM (txtB rul5) emptyP true sApp sAnn sRead 0).1 v' ∧ Keep [gd, gs] W w') := fun W gv gs gd v hW => by
    refine (grant_is 0 W gv gs gd rul5 emptyP v sApp sAnn sRead [[114, 101, 97, 100]] 0 hW (by decide) (by decide) (by decide) out_read (by omega)).mono ?_
    rintro y w' ⟨rfl, v', hto⟩
    have hn : (nameB sApp.data.toList && nameB sAnn.data.toList) = true := by decide
    rw [hn, joined_read] at hto
    rw [hn, joined_read, g1]
    exact ⟨rfl, v', hW.to hto, hto.keep⟩
  generalize (grantM (txtB rul5) emptyP true sApp sAnn sRead 0).1 = p1 at *
  clear g1 hX
  obtain ⟨t1, t2, t3⟩ := one_turn (txtB rul5) rul5 p1 0 2 famA0 sOne sRead g2 g3 rfl (by decide) (by decide) (by decide)
  have H1 : Hid (∀ (W : World) (gv gs gd : Nat) (v : Value), SvIs 22 W gv gs gd rul5 p1 v → Calls Tryz.prog 29 #[.pointer (some ⟨gv, 0, none⟩), .string (txtB rul5 ⟨1, 1, 0, 0⟩), .string ⟨#[111, 110, 101]⟩, .string ⟨#[114, 101, 97, 100]⟩] W fun y w' => y = .returned (.tuple #[.string (txtB rul5 ⟨1, 1, 1, 0⟩), .nilIface]) ∧ ∃ v', SvIs 44 w' gv gs gd rul5 (rotateM (txtB rul5) rul5 p1 true sOne ⟨1, 1, 0, 0⟩ 0 sRead 0 true).1 v' ∧ Keep [gd, gs] W w') := fun W gv gs gd v hW =>
    rot_call 22 W gv gs gd rul5 p1 _ v 0 sOne sRead _ 0 [[114, 101, 97, 100]] 0 true hW okN0 (by decide) (by decide) (by decide) out_read (fun _ _ => by rw [g3]; exact wout_read) (by omega) (Prod.ext rfl t1)
  replace t2 : Live (rotateM (txtB rul5) rul5 p1 true sOne ⟨1, 1, 0, 0⟩ 0 sRead 0 true).1 := t2
  replace t3 : (rotateM (txtB rul5) rul5 p1 true sOne ⟨1, 1, 0, 0⟩ 0 sRead 0 true).1.st = ⟨0, 2, [famA1]⟩ := t3
  clear t1
  generalize (rotateM (txtB rul5) rul5 p1 true sOne ⟨1, 1, 0, 0⟩ 0 sRead 0 true).1 = p2 at *
  have a1 := one_again (txtB rul5) rul5 p2 0 2 famA1 sRead 0 true t3 rfl (by decide)
  have H2 : Hid (∀ (W : World) (gv gs gd : Nat) (v : Value), SvIs 44 W gv gs gd rul5 p2 v → Calls Tryz.prog 29 #[.pointer (some ⟨gv, 0, none⟩), .string (txtB rul5 ⟨1, 1, 0, 0⟩), .string ⟨#[111, 110, 101]⟩, .string ⟨#[114, 101, 97, 100]⟩] W fun y w' => y = .returned (.tuple #[.string (txtB rul5 ⟨1, 1, 1, 0⟩), .nilIface]) ∧ ∃ v', SvIs 66 w' gv gs gd rul5 p2 v' ∧ Keep [gd, gs] W w') := fun W gv gs gd v hW =>
    rot_call 44 W gv gs gd rul5 p2 _ v 0 sOne sRead _ 0 [[114, 101, 97, 100]] 0 true hW okN0 (by decide) (by decide) (by decide) out_read (fun _ _ => by rw [t3]; exact wout_read) (by omega) a1
  clear a1
  obtain ⟨s1, s2, s3⟩ := one_spoil (txtB rul5) rul5 p2 0 2 famA1 sTwo sRead 0 true t2 t3 rfl (by decide) (by decide) (by decide)
  have H3 : Hid (∀ (W : World) (gv gs gd : Nat) (v : Value), SvIs 66 W gv gs gd rul5 p2 v → Calls Tryz.prog 29 #[.pointer (some ⟨gv, 0, none⟩), .string (txtB rul5 ⟨1, 1, 0, 0⟩), .string ⟨#[116, 119, 111]⟩, .string ⟨#[114, 101, 97, 100]⟩] W fun y w' => y = .returned (.tuple #[.string noT, errQ 15]) ∧ ∃ v', SvIs 88 w' gv gs gd rul5 (rotateM (txtB rul5) rul5 p2 true sTwo ⟨1, 1, 0, 0⟩ 0 sRead 0 true).1 v' ∧ Keep [gd, gs] W w') := fun W gv gs gd v hW =>
    rot_call 66 W gv gs gd rul5 p2 _ v 0 sTwo sRead _ 15 [[114, 101, 97, 100]] 0 true hW okN0 (by decide) (by decide) (by decide) out_read (fun _ _ => by rw [t3]; exact wout_read) (by omega) (Prod.ext rfl s1)
  have s3' : (rotateM (txtB rul5) rul5 p2 true sTwo ⟨1, 1, 0, 0⟩ 0 sRead 0 true).1.st = ⟨0, 2, [famD1]⟩ := s3
  generalize (rotateM (txtB rul5) rul5 p2 true sTwo ⟨1, 1, 0, 0⟩ 0 sRead 0 true).1 = p3 at *
  clear s1 s2 s3
  have d1 := one_dead (txtB rul5) rul5 p3 0 2 famD1 sTwo sRead 1 0 true s3' rfl
  have H4 : Hid (∀ (W : World) (gv gs gd : Nat) (v : Value), SvIs 88 W gv gs gd rul5 p3 v → Calls Tryz.prog 29 #[.pointer (some ⟨gv, 0, none⟩), .string (txtB rul5 ⟨1, 1, 1, 0⟩), .string ⟨#[116, 119, 111]⟩, .string ⟨#[114, 101, 97, 100]⟩] W fun y w' => y = .returned (.tuple #[.string noT, errQ 6]) ∧ ∃ v', SvIs 110 w' gv gs gd rul5 p3 v' ∧ Keep [gd, gs] W w') := fun W gv gs gd v hW =>
    rot_call 88 W gv gs gd rul5 p3 _ v 1 sTwo sRead _ 6 [[114, 101, 97, 100]] 0 true hW okN1 (by decide) (by decide) (by decide) out_read (fun _ _ => by rw [s3']; exact wout_read) (by omega) d1
  clear d1 s3' t2 t3 g2 g3
  generalize txtB rul5 ⟨1, 1, 0, 0⟩ = X at *
  generalize txtB rul5 ⟨1, 1, 1, 0⟩ = Y at *
  go_enter Tryz.func44, Tryz.ntmps44
  go_wp2_with fail
  refine Calls.mono HBG.out ?_
  rintro e0 w0 ⟨gv, gs, gd, v0, rfl, hle, hs0, hb0⟩
  have HS0 : Hid _ := hs0
  have HB0 : Hid (Below w.heap.size w w0 ∧ w.heap.size ≤ gd ∧ gd < gs) := ⟨hb0, hle, hs0.sp.ord⟩
  clear hs0 hb0 hle HBG
  go_wp2_with fail
  refine (HGR.out _ _ _ _ _ HS0.out).mono ?_
  rintro e1 w1 ⟨rfl, v1, hs1, hk1⟩
  have HS1 : Hid _ := hs1
  have HB1 : Hid (Below w.heap.size w w1) := HB0.out.1.trans (hk1.below HB0.out.1.size (fun x hx => by have := HB0.out; simp at hx; omega))
  clear hs1 hk1
  go_wp2_with fail
  refine (H1.out _ _ _ _ _ HS1.out).mono ?_
  rintro e2 w2 ⟨rfl, v2, hs2, hk2⟩
  have HS2 : Hid _ := hs2
  have HB2 : Hid (Below w.heap.size w w2) := HB1.out.trans (hk2.below HB1.out.size (fun x hx => by have := HB0.out; simp at hx; omega))
  clear hs2 hk2
  go_wp2_with fail
  refine (H2.out _ _ _ _ _ HS2.out).mono ?_
  rintro e3 w3 ⟨rfl, v3, hs3, hk3⟩
  have HS3 : Hid _ := hs3
  have HB3 : Hid (Below w.heap.size w w3) := HB2.out.trans (hk3.below HB2.out.size (fun x hx => by have := HB0.out; simp at hx; omega))
  clear hs3 hk3
  go_wp2_with fail
  refine (H3.out _ _ _ _ _ HS3.out).mono ?_
  rintro e4 w4 ⟨rfl, v4, hs4, hk4⟩
  have HS4 : Hid _ := hs4
  have HB4 : Hid (Below w.heap.size w w4) := HB3.out.trans (hk4.below HB3.out.size (fun x hx => by have := HB0.out; simp at hx; omega))
  clear hs4 hk4
  go_wp2_with fail
  refine (H4.out _ _ _ _ _ HS4.out).mono ?_
  rintro e5 w5 ⟨rfl, v5, hs5, hk5⟩
  have HE5 : Hid (ErrVar w5) := hs5.sp.err
  have HB5 : Hid (Below w.heap.size w w5) := HB4.out.trans (hk5.below HB4.out.size (fun x hx => by have := HB0.out; simp at hx; omega))
  clear hs5 hk5
  go_wp2_with fail
  all_goals first
    | exact (HX.out (by assumption)).elim
    | exact (HX.out (by simpa using ‹(X.toList == Y.toList) = true›)).elim
    | (refine (tellQ 15 _ HE5.out).mono ?_
       rintro e6 w6 ⟨rfl, hb6⟩
       have HE6 : Hid _ := HE5.out.on hb6
       have HB6 : Hid (Below w.heap.size w w6) := HB5.out.trans (hb6.mono HB5.out.size)
       clear hb6
       go_wp2_with fail
       refine (tellQ 6 _ HE6.out).mono ?_
       rintro e7 w7 ⟨rfl, hb7⟩
       have HB7 : Hid (Below w.heap.size w w7) := HB6.out.trans (hb7.mono HB6.out.size)
       clear hb7
       go_wp2_with fail
       go_ret
       have hxy : (X.toList == Y.toList) = false := beq_eq_false_iff_ne.2 HX.out
       exact ⟨by show Ending.returned (.bool (!(X.toList == Y.toList))) = _; rw [hxy]; rfl, HB7.out⟩)
end Go.Proofs.YtlailakofhenkabGreatDoor
