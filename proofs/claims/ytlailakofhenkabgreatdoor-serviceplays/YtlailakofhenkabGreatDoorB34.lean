import Derived.Test.YtlailakofhenkabGreatDoorB33
set_option maxRecDepth 100000
set_option maxHeartbeats 8000000
namespace Go.Proofs.YtlailakofhenkabGreatDoor
open Go Go.RowKit Tok Sc Ev
theorem refLeast_at (s:ByteArray) (l:List Word) (m:Nat) (ho:Sc.Out s.data.toList l m) (w:World) (hs:s.size≤5000):Calls Tryz.prog 68 #[.string s] w fun e w'=>e=.returned (.tuple #[.string ⟨(joined l).toArray⟩,.int .i64 (m:Nat)])∧Below w.heap.size w w':=by
 refine (refLeast_is s w hs).mono ?_;rintro e w' ⟨l',m',rfl,ho',hb⟩;obtain ⟨rfl,rfl⟩:=Sc.out_inj ho ho';exact ⟨rfl,hb⟩
theorem putF_may {f:Fam} (hf:Ev.may (putE f)):mayF f:=by
 rcases hf with ⟨-,h1,-⟩ | ⟨h1,-⟩ | ⟨h1,-⟩
 ·exact h1
 ·cases h1
 ·cases h1
theorem refGrant_is (N:Nat) (w:World) (gx gr:Nat) (r:Rul) (p:Pub) (v:Value) (client subject sc:ByteArray) (l:List Word) (m:Nat) (h:RvIs N w gx gr r p v) (hcl:client.size≤5000) (hsu:subject.size≤5000) (hsc:sc.size≤5000) (ho:Sc.Out sc.data.toList l m) (hN:N<98000) :
 Calls Tryz.prog 26 #[.pointer (some ⟨gx,0,none⟩),.string client,.string subject,.string sc] w fun e w'=>e=.returned (.tuple #[.string (grantM (txtB r) p (nameB client.data.toList && nameB subject.data.toList) client subject ⟨(joined l).toArray⟩ m).2.1,.int .i64 ((grantM (txtB r) p (nameB client.data.toList && nameB subject.data.toList) client subject ⟨(joined l).toArray⟩ m).2.2:Nat)])∧∃ v',RTo N gr v w w' (grantM (txtB r) p (nameB client.data.toList && nameB subject.data.toList) client subject ⟨(joined l).toArray⟩ m).1 v':=by
 obtain ⟨ba,ca,rfl⟩:=RowsK.slice h.doc.fam;have HS:Hid (RvIs N w gx gr r p (.slice ba p.st.fams.length ca)):=h;have hn1:=fun (W:World)=>refName_is client W (by omega)
 have hn2:=fun (W:World)=>refName_is subject W (by omega)
 have HLE:Hid (∀ W:World,Calls Tryz.prog 68 #[.string sc] W fun e w'=>e=.returned (.tuple #[.string ⟨(joined l).toArray⟩,.int .i64 (m:Nat)])∧Below W.heap.size W w'):=fun W=>refLeast_at sc l m ho W hsc;have HMY:Hid (nameB client.data.toList=true→nameB subject.data.toList=true→m=0→¬ 1099511627776<p.st.next→Ev.may (putE (newF p.st client subject ⟨(joined l).toArray⟩))):=fun h1 h2 h3 h4=>may_new h.ok.good h4 h1 h2 (lst_joined (by subst h3; exact ho))
 have hl20:(p.st.fams.length:Int)≤20:=by have:=h.ok.good.len; omega
 have HNE:Hid (gr<w.heap.size∧gx<w.heap.size∧N<99000∧N+22<99000):=⟨h.doc.lt,h.box.lt,by omega,by omega⟩
 generalize (⟨(joined l).toArray⟩:ByteArray)=J at *;clear h ho hcl hsu hsc;unfold grantM
 cases h1:nameB client.data.toList with
 |false=>
  rw [h1] at hn1;rw [if_pos (by rfl)]
  clear h1 HMY;go_enter Tryz.func26,Tryz.ntmps26
  go_wp2_with fail
  refine (hn1 _).mono ?_;rintro e1 w1 ⟨rfl,hw⟩;obtain rfl:w=w1:=hw.symm;go_wp2_with fail
  go_ret2;exact ⟨rfl,_,RTo.same HS.out.doc HS.out.ok (Below.refl _ _)⟩
 |true=>
  rw [h1] at hn1 HMY
  cases h2:nameB subject.data.toList with
  |false=>
   rw [h2] at hn2;rw [if_pos (by rfl)]
   clear h1 h2 HMY;go_enter Tryz.func26,Tryz.ntmps26
   go_wp2_with fail
   refine (hn1 _).mono ?_;rintro e1 w1 ⟨rfl,hw⟩;obtain rfl:w=w1:=hw.symm;go_wp2_with fail
   refine (hn2 _).mono ?_;rintro e1 w1 ⟨rfl,hw⟩;obtain rfl:w=w1:=hw.symm;go_wp2_with fail
   go_ret2;exact ⟨rfl,_,RTo.same HS.out.doc HS.out.ok (Below.refl _ _)⟩
  |true=>
   rw [h2] at hn2 HMY;rw [if_neg (by simp)]
   clear h1 h2;by_cases hm:m=0
   ·subst hm
    rw [if_neg (by omega)]
    by_cases hx:1099511627776<p.st.next
    ·rw [if_pos hx]
     clear HMY;go_enter Tryz.func26,Tryz.ntmps26
     go_wp2_with fail
     refine (hn1 _).mono ?_;rintro e1 w1 ⟨rfl,hw⟩;obtain rfl:w=w1:=hw.symm;go_wp2_with fail
     refine (hn2 _).mono ?_;rintro e1 w1 ⟨rfl,hw⟩;obtain rfl:w=w1:=hw.symm;go_wp2_with fail
     refine (HLE.out _).mono ?_;rintro e2 w2 ⟨rfl,hb2⟩;have HS2:Hid _:=HS.out.on hb2;have HB2:Hid (Below w.heap.size w w2):=hb2;clear hb2;go_upto_region 6 with fail
     have c0:=HS2.out.box.c0;have d0:=HS2.out.doc.c0; have d1:=HS2.out.doc.c1; have d2:=HS2.out.doc.c2;have hb3:Below w2.heap.size w2 (w2.alloc (.cells #[.int .i64 p.st.clock,.int .i64 p.st.next,.slice ba p.st.fams.length ca] 36)):=(Below.refl _ _).alloc (Nat.le_refl _) _;have HS4:Hid (RvIs N (w2.alloc (.cells #[.int .i64 p.st.clock,.int .i64 p.st.next,.slice ba p.st.fams.length ca] 36)) gx gr r p (.slice ba p.st.fams.length ca)):=HS2.out.on hb3;have HB3:Hid (Below w.heap.size w (w2.alloc (.cells #[.int .i64 p.st.clock,.int .i64 p.st.next,.slice ba p.st.fams.length ca] 36))):=HB2.out.trans (hb3.mono HB2.out.size);have s0:(w2.alloc (.cells #[.int .i64 p.st.clock,.int .i64 p.st.next,.slice ba p.st.fams.length ca] 36)).cell? ⟨w2.heap.size,0,none⟩=some (.int .i64 p.st.clock):=(World.cell?_alloc_at _ _ _ _ rfl).trans rfl
     have s1:(w2.alloc (.cells #[.int .i64 p.st.clock,.int .i64 p.st.next,.slice ba p.st.fams.length ca] 36)).cell? ⟨w2.heap.size,1,none⟩=some (.int .i64 p.st.next):=(World.cell?_alloc_at _ _ _ _ rfl).trans rfl;have s2:(w2.alloc (.cells #[.int .i64 p.st.clock,.int .i64 p.st.next,.slice ba p.st.fams.length ca] 36)).cell? ⟨w2.heap.size,2,none⟩=some (.slice ba p.st.fams.length ca):=(World.cell?_alloc_at _ _ _ _ rfl).trans rfl;have HL3:Hid (w2.heap.size<(w2.alloc (.cells #[.int .i64 p.st.clock,.int .i64 p.st.next,.slice ba p.st.fams.length ca] 36)).heap.size):=by show _<_; simp
     clear hb3;go_wp2_with fail
     go_ret2;exact ⟨rfl,_,RTo.same HS.out.doc HS.out.ok HB3.out⟩
    ·rw [if_neg hx]
     by_cases hy:20≤p.st.fams.length
     ·rw [if_pos hy]
      have hyI:(20:Int)≤(p.st.fams.length:Int):=by omega
      clear HMY;go_enter Tryz.func26,Tryz.ntmps26
      go_wp2_with fail
      refine (hn1 _).mono ?_;rintro e1 w1 ⟨rfl,hw⟩;obtain rfl:w=w1:=hw.symm;go_wp2_with fail
      refine (hn2 _).mono ?_;rintro e1 w1 ⟨rfl,hw⟩;obtain rfl:w=w1:=hw.symm;go_wp2_with fail
      refine (HLE.out _).mono ?_;rintro e2 w2 ⟨rfl,hb2⟩;have HS2:Hid _:=HS.out.on hb2;have HB2:Hid (Below w.heap.size w w2):=hb2;clear hb2;go_upto_region 6 with fail
      have c0:=HS2.out.box.c0;have d0:=HS2.out.doc.c0; have d1:=HS2.out.doc.c1; have d2:=HS2.out.doc.c2;have hb3:Below w2.heap.size w2 (w2.alloc (.cells #[.int .i64 p.st.clock,.int .i64 p.st.next,.slice ba p.st.fams.length ca] 36)):=(Below.refl _ _).alloc (Nat.le_refl _) _;have HS4:Hid (RvIs N (w2.alloc (.cells #[.int .i64 p.st.clock,.int .i64 p.st.next,.slice ba p.st.fams.length ca] 36)) gx gr r p (.slice ba p.st.fams.length ca)):=HS2.out.on hb3;have HB3:Hid (Below w.heap.size w (w2.alloc (.cells #[.int .i64 p.st.clock,.int .i64 p.st.next,.slice ba p.st.fams.length ca] 36))):=HB2.out.trans (hb3.mono HB2.out.size);have s0:(w2.alloc (.cells #[.int .i64 p.st.clock,.int .i64 p.st.next,.slice ba p.st.fams.length ca] 36)).cell? ⟨w2.heap.size,0,none⟩=some (.int .i64 p.st.clock):=(World.cell?_alloc_at _ _ _ _ rfl).trans rfl
      have s1:(w2.alloc (.cells #[.int .i64 p.st.clock,.int .i64 p.st.next,.slice ba p.st.fams.length ca] 36)).cell? ⟨w2.heap.size,1,none⟩=some (.int .i64 p.st.next):=(World.cell?_alloc_at _ _ _ _ rfl).trans rfl;have s2:(w2.alloc (.cells #[.int .i64 p.st.clock,.int .i64 p.st.next,.slice ba p.st.fams.length ca] 36)).cell? ⟨w2.heap.size,2,none⟩=some (.slice ba p.st.fams.length ca):=(World.cell?_alloc_at _ _ _ _ rfl).trans rfl;have HL3:Hid (w2.heap.size<(w2.alloc (.cells #[.int .i64 p.st.clock,.int .i64 p.st.next,.slice ba p.st.fams.length ca] 36)).heap.size):=by show _<_; simp
      clear hb3;go_wp2_with fail
      go_ret2;exact ⟨rfl,_,RTo.same HS.out.doc HS.out.ok HB3.out⟩
     ·rw [if_neg hy]
      have hyI:¬ (20:Int)≤(p.st.fams.length:Int):=by omega
      have hmy:=HMY.out (by trivial) (by trivial) (by trivial) hx
      have HPU:Hid (∀ (W:World),RvIs N W gx gr r p (.slice ba p.st.fams.length ca)→Calls Tryz.prog 69 #[.pointer (some ⟨gx,0,none⟩),.agg #[.int .i64 p.st.next,.string client,.string subject,.string J,.int .i64 0,.int .i64 p.st.clock,.int .i64 p.st.clock,.string ⟨#[]⟩,.bool false]] W fun e w'=>e=.returned (.int .i64 ((addP p (putE (newF p.st client subject J)) true).2:Nat))∧∃ v',RTo N gr (.slice ba p.st.fams.length ca) W w' (addP p (putE (newF p.st client subject J)) true).1 v'):=fun W hW=>refPut_is N W gx gr r p _ (newF p.st client subject J) hW hmy HNE.out.2.2.1
      have HRF:Hid (∀ (W:World) (q:Pub) (v:Value),RvIs (N+22) W gx gr r q v→Calls Tryz.prog 70 #[.pointer (some ⟨gx,0,none⟩),.agg #[.int .i64 p.st.next,.string client,.string subject,.string J,.int .i64 0,.int .i64 p.st.clock,.int .i64 p.st.clock,.string ⟨#[]⟩,.bool false]] W fun e w'=>e=.returned (.string (txtB r ⟨1,p.st.next,0,0⟩))∧Below W.heap.size W w'):=fun W q v hW=>refRefresh_is (N+22) W gx gr r q v (newF p.st client subject J) hW (putF_may hmy);have hgm:giveM (txtB r) p (newF p.st client subject J)=if (addP p (putE (newF p.st client subject J)) true).2=0 then ((addP p (putE (newF p.st client subject J)) true).1,txtB r ⟨1,p.st.next,0,0⟩,0) else ((addP p (putE (newF p.st client subject J)) true).1,noT,(addP p (putE (newF p.st client subject J)) true).2):=rfl
      rw [hgm];clear hgm hmy HMY;generalize addP p (putE (newF p.st client subject J)) true=Q at *;obtain ⟨q,n⟩:=Q;simp only at HPU ⊢;generalize htx:txtB r ⟨1,p.st.next,0,0⟩=TX at *;clear htx;by_cases hn:n=0
      ·subst hn
       rw [if_pos rfl];go_enter Tryz.func26,Tryz.ntmps26
       go_wp2_with fail
       refine (hn1 _).mono ?_;rintro e1 w1 ⟨rfl,hw⟩;obtain rfl:w=w1:=hw.symm;go_wp2_with fail
       refine (hn2 _).mono ?_;rintro e1 w1 ⟨rfl,hw⟩;obtain rfl:w=w1:=hw.symm;go_wp2_with fail
       refine (HLE.out _).mono ?_;rintro e2 w2 ⟨rfl,hb2⟩;have HS2:Hid _:=HS.out.on hb2;have HB2:Hid (Below w.heap.size w w2):=hb2;clear hb2;go_upto_region 6 with fail
       have c0:=HS2.out.box.c0;have d0:=HS2.out.doc.c0; have d1:=HS2.out.doc.c1; have d2:=HS2.out.doc.c2;have hb3:Below w2.heap.size w2 (w2.alloc (.cells #[.int .i64 p.st.clock,.int .i64 p.st.next,.slice ba p.st.fams.length ca] 36)):=(Below.refl _ _).alloc (Nat.le_refl _) _;have HS4:Hid (RvIs N (w2.alloc (.cells #[.int .i64 p.st.clock,.int .i64 p.st.next,.slice ba p.st.fams.length ca] 36)) gx gr r p (.slice ba p.st.fams.length ca)):=HS2.out.on hb3;have HB3:Hid (Below w.heap.size w (w2.alloc (.cells #[.int .i64 p.st.clock,.int .i64 p.st.next,.slice ba p.st.fams.length ca] 36))):=HB2.out.trans (hb3.mono HB2.out.size);have s0:(w2.alloc (.cells #[.int .i64 p.st.clock,.int .i64 p.st.next,.slice ba p.st.fams.length ca] 36)).cell? ⟨w2.heap.size,0,none⟩=some (.int .i64 p.st.clock):=(World.cell?_alloc_at _ _ _ _ rfl).trans rfl
       have s1:(w2.alloc (.cells #[.int .i64 p.st.clock,.int .i64 p.st.next,.slice ba p.st.fams.length ca] 36)).cell? ⟨w2.heap.size,1,none⟩=some (.int .i64 p.st.next):=(World.cell?_alloc_at _ _ _ _ rfl).trans rfl;have s2:(w2.alloc (.cells #[.int .i64 p.st.clock,.int .i64 p.st.next,.slice ba p.st.fams.length ca] 36)).cell? ⟨w2.heap.size,2,none⟩=some (.slice ba p.st.fams.length ca):=(World.cell?_alloc_at _ _ _ _ rfl).trans rfl;have HL3:Hid (w2.heap.size<(w2.alloc (.cells #[.int .i64 p.st.clock,.int .i64 p.st.next,.slice ba p.st.fams.length ca] 36)).heap.size):=by show _<_; simp
       clear hb3;go_upto_region 7 with fail
       generalize hW3:(w2.alloc (.cells #[.int .i64 p.st.clock,.int .i64 p.st.next,.slice ba p.st.fams.length ca] 36))=W3 at *;clear hW3;generalize w2.heap.size=gst at *;clear c0 d0 d1 d2;have hb5:Below W3.heap.size W3 (W3.alloc (.cells #[.int .i64 p.st.next,.string client,.string subject,.string J,.int .i64 0,.int .i64 p.st.clock,.int .i64 p.st.clock,.string ⟨#[]⟩,.bool false] 40)):=(Below.refl _ _).alloc (Nat.le_refl _) _;have HS5:Hid (RvIs N (W3.alloc (.cells #[.int .i64 p.st.next,.string client,.string subject,.string J,.int .i64 0,.int .i64 p.st.clock,.int .i64 p.st.clock,.string ⟨#[]⟩,.bool false] 40)) gx gr r p (.slice ba p.st.fams.length ca)):=HS4.out.on hb5
       have HB5:Hid (Below w.heap.size w (W3.alloc (.cells #[.int .i64 p.st.next,.string client,.string subject,.string J,.int .i64 0,.int .i64 p.st.clock,.int .i64 p.st.clock,.string ⟨#[]⟩,.bool false] 40))):=HB3.out.trans (hb5.mono HB3.out.size);have HF5:Hid (FB (W3.alloc (.cells #[.int .i64 p.st.next,.string client,.string subject,.string J,.int .i64 0,.int .i64 p.st.clock,.int .i64 p.st.clock,.string ⟨#[]⟩,.bool false] 40)) W3.heap.size ⟨p.st.next,client,subject,J,0,p.st.clock,p.st.clock,⟨#[]⟩,false⟩):=FB.made W3 ⟨p.st.next,client,subject,J,0,p.st.clock,p.st.clock,⟨#[]⟩,false⟩ _;have HG5:Hid (gr<W3.heap.size):=HS4.out.doc.lt;clear hb5;go_upto_region 12 with fail
       generalize hW4:(W3.alloc (.cells #[.int .i64 p.st.next,.string client,.string subject,.string J,.int .i64 0,.int .i64 p.st.clock,.int .i64 p.st.clock,.string ⟨#[]⟩,.bool false] 40))=W4 at *;clear hW4;generalize W3.heap.size=gf at *;have z0:=HF5.out.c0; have z1:=HF5.out.c1; have z2:=HF5.out.c2; have z3:=HF5.out.c3; have z4:=HF5.out.c4; have z5:=HF5.out.c5; have z6:=HF5.out.c6; have z7:=HF5.out.c7; have z8:=HF5.out.c8;simp only at z0 z1 z2 z3 z4 z5 z6 z7 z8;go_wp2_with fail
       refine (HPU.out _ HS5.out).mono ?_;rintro e5 w5 ⟨rfl,v5,hto⟩;have HTO:Hid _:=hto;clear z0 z1 z2 z3 z4 z5 z6 z7 z8;have HS6:Hid _:=HS5.out.to hto;have HF6:Hid _:=HF5.out.keep hto.keep (by have:=HG5.out; simp; omega)
       clear hto;have z0:=HF6.out.c0; have z1:=HF6.out.c1; have z2:=HF6.out.c2; have z3:=HF6.out.c3; have z4:=HF6.out.c4; have z5:=HF6.out.c5; have z6:=HF6.out.c6; have z7:=HF6.out.c7; have z8:=HF6.out.c8;simp only at z0 z1 z2 z3 z4 z5 z6 z7 z8;go_wp2_with fail
       refine (HRF.out _ _ _ HS6.out).mono ?_;rintro e6 w6 ⟨rfl,hb6⟩;have HTF:Hid _:=(HTO.out.post hb6).pre HB5.out;clear hb6 z0 z1 z2 z3 z4 z5 z6 z7 z8;go_wp2_with fail
       go_ret2;exact ⟨rfl,_,HTF.out⟩
      ·rw [if_neg hn]
       have hnI:¬ (n:Int)=0:=by omega
       go_enter Tryz.func26,Tryz.ntmps26
       go_wp2_with fail
       refine (hn1 _).mono ?_;rintro e1 w1 ⟨rfl,hw⟩;obtain rfl:w=w1:=hw.symm;go_wp2_with fail
       refine (hn2 _).mono ?_;rintro e1 w1 ⟨rfl,hw⟩;obtain rfl:w=w1:=hw.symm;go_wp2_with fail
       refine (HLE.out _).mono ?_;rintro e2 w2 ⟨rfl,hb2⟩;have HS2:Hid _:=HS.out.on hb2;have HB2:Hid (Below w.heap.size w w2):=hb2;clear hb2;go_upto_region 6 with fail
       have c0:=HS2.out.box.c0;have d0:=HS2.out.doc.c0; have d1:=HS2.out.doc.c1; have d2:=HS2.out.doc.c2;have hb3:Below w2.heap.size w2 (w2.alloc (.cells #[.int .i64 p.st.clock,.int .i64 p.st.next,.slice ba p.st.fams.length ca] 36)):=(Below.refl _ _).alloc (Nat.le_refl _) _;have HS4:Hid (RvIs N (w2.alloc (.cells #[.int .i64 p.st.clock,.int .i64 p.st.next,.slice ba p.st.fams.length ca] 36)) gx gr r p (.slice ba p.st.fams.length ca)):=HS2.out.on hb3;have HB3:Hid (Below w.heap.size w (w2.alloc (.cells #[.int .i64 p.st.clock,.int .i64 p.st.next,.slice ba p.st.fams.length ca] 36))):=HB2.out.trans (hb3.mono HB2.out.size);have s0:(w2.alloc (.cells #[.int .i64 p.st.clock,.int .i64 p.st.next,.slice ba p.st.fams.length ca] 36)).cell? ⟨w2.heap.size,0,none⟩=some (.int .i64 p.st.clock):=(World.cell?_alloc_at _ _ _ _ rfl).trans rfl
       have s1:(w2.alloc (.cells #[.int .i64 p.st.clock,.int .i64 p.st.next,.slice ba p.st.fams.length ca] 36)).cell? ⟨w2.heap.size,1,none⟩=some (.int .i64 p.st.next):=(World.cell?_alloc_at _ _ _ _ rfl).trans rfl;have s2:(w2.alloc (.cells #[.int .i64 p.st.clock,.int .i64 p.st.next,.slice ba p.st.fams.length ca] 36)).cell? ⟨w2.heap.size,2,none⟩=some (.slice ba p.st.fams.length ca):=(World.cell?_alloc_at _ _ _ _ rfl).trans rfl;have HL3:Hid (w2.heap.size<(w2.alloc (.cells #[.int .i64 p.st.clock,.int .i64 p.st.next,.slice ba p.st.fams.length ca] 36)).heap.size):=by show _<_; simp
       clear hb3;go_upto_region 7 with fail
       generalize hW3:(w2.alloc (.cells #[.int .i64 p.st.clock,.int .i64 p.st.next,.slice ba p.st.fams.length ca] 36))=W3 at *;clear hW3;generalize w2.heap.size=gst at *;clear c0 d0 d1 d2;have hb5:Below W3.heap.size W3 (W3.alloc (.cells #[.int .i64 p.st.next,.string client,.string subject,.string J,.int .i64 0,.int .i64 p.st.clock,.int .i64 p.st.clock,.string ⟨#[]⟩,.bool false] 40)):=(Below.refl _ _).alloc (Nat.le_refl _) _;have HS5:Hid (RvIs N (W3.alloc (.cells #[.int .i64 p.st.next,.string client,.string subject,.string J,.int .i64 0,.int .i64 p.st.clock,.int .i64 p.st.clock,.string ⟨#[]⟩,.bool false] 40)) gx gr r p (.slice ba p.st.fams.length ca)):=HS4.out.on hb5
       have HB5:Hid (Below w.heap.size w (W3.alloc (.cells #[.int .i64 p.st.next,.string client,.string subject,.string J,.int .i64 0,.int .i64 p.st.clock,.int .i64 p.st.clock,.string ⟨#[]⟩,.bool false] 40))):=HB3.out.trans (hb5.mono HB3.out.size);have HF5:Hid (FB (W3.alloc (.cells #[.int .i64 p.st.next,.string client,.string subject,.string J,.int .i64 0,.int .i64 p.st.clock,.int .i64 p.st.clock,.string ⟨#[]⟩,.bool false] 40)) W3.heap.size ⟨p.st.next,client,subject,J,0,p.st.clock,p.st.clock,⟨#[]⟩,false⟩):=FB.made W3 ⟨p.st.next,client,subject,J,0,p.st.clock,p.st.clock,⟨#[]⟩,false⟩ _;have HG5:Hid (gr<W3.heap.size):=HS4.out.doc.lt;clear hb5;go_upto_region 12 with fail
       generalize hW4:(W3.alloc (.cells #[.int .i64 p.st.next,.string client,.string subject,.string J,.int .i64 0,.int .i64 p.st.clock,.int .i64 p.st.clock,.string ⟨#[]⟩,.bool false] 40))=W4 at *;clear hW4;generalize W3.heap.size=gf at *;have z0:=HF5.out.c0; have z1:=HF5.out.c1; have z2:=HF5.out.c2; have z3:=HF5.out.c3; have z4:=HF5.out.c4; have z5:=HF5.out.c5; have z6:=HF5.out.c6; have z7:=HF5.out.c7; have z8:=HF5.out.c8;simp only at z0 z1 z2 z3 z4 z5 z6 z7 z8;go_wp2_with fail
       refine (HPU.out _ HS5.out).mono ?_;rintro e5 w5 ⟨rfl,v5,hto⟩;have HTO:Hid _:=hto;clear z0 z1 z2 z3 z4 z5 z6 z7 z8;clear hto;go_wp2_with fail
       go_ret2;exact ⟨rfl,_,HTO.out.pre HB5.out⟩
   ·rw [if_pos hm]
    have hmI:¬ (m:Int)=0:=by omega
    clear HMY;go_enter Tryz.func26,Tryz.ntmps26
    go_wp2_with fail
    refine (hn1 _).mono ?_;rintro e1 w1 ⟨rfl,hw⟩;obtain rfl:w=w1:=hw.symm;go_wp2_with fail
    refine (hn2 _).mono ?_;rintro e1 w1 ⟨rfl,hw⟩;obtain rfl:w=w1:=hw.symm;go_wp2_with fail
    refine (HLE.out _).mono ?_;rintro e2 w2 ⟨rfl,hb2⟩;have HS2:Hid _:=HS.out.on hb2;have HB2:Hid (Below w.heap.size w w2):=hb2;clear hb2;go_wp2_with fail
    go_ret2;exact ⟨rfl,_,RTo.same HS.out.doc HS.out.ok HB2.out⟩
end Go.Proofs.YtlailakofhenkabGreatDoor
