import Derived.Test.YtlailakofhenkabGreatDoorB20
set_option maxRecDepth 100000
set_option maxHeartbeats 16000000
namespace Go.Proofs.YtlailakofhenkabGreatDoor
open Go Go.RowKit Tok Sc Ev
theorem DS.rebase {w0:World} {gs gd:Nat} {A:AD} {n:Nat} {c:Bool} {l:Int} {dn:Bool} {sv lg:Nat} {st:St} {v:Value} {w:World} (h:DS w0 gs gd A n c l dn sv lg st v w):DS w gs gd A n c l dn sv lg st v w:=
 ⟨h.disk,h.libs,h.err,h.store,h.ord,h.olds,h.oldE,Keep.refl _ _,h.store.lt⟩
theorem DS.since {w0 w1:World} {gs gd:Nat} {A:AD} {n:Nat} {c:Bool} {l:Int} {dn:Bool} {sv lg:Nat} {st:St} {v:Value} {w:World} (h:DS w1 gs gd A n c l dn sv lg st v w) (hk:Keep [gd,gs] w0 w1) (hw:gs<w0.heap.size):DS w0 gs gd A n c l dn sv lg st v w:=
 ⟨h.disk,h.libs,h.err,h.store,h.ord,h.olds,h.oldE,hk.trans h.keep,hw⟩
structure BoxS (B:Nat) (w:World) (g gs:Nat) (st:St) (v:Value):Prop where
 c0:w.cell? ⟨g,0,none⟩=some (.int .i64 st.clock)
 c1:w.cell? ⟨g,1,none⟩=some (.int .i64 st.next)
 c2:w.cell? ⟨g,2,none⟩=some v
 fam:Fams (gs+1) w v st.fams
 lt:g<w.heap.size
 new:gs<g
 fresh:Fams B w v st.fams
 past:gs<B
theorem BoxS.keep {B:Nat} {w w':World} {g gs gd:Nat} {st:St} {v:Value} (h:BoxS B w g gs st v) (hk:Keep [gd,gs] w w') (ho:gd<gs):BoxS B w' g gs st v:=by
 have hn:=h.new;have hp:=h.past;have hnn:g∉ [gd,gs]:=by simp; omega
 have hc:∀ i,w'.cell? ⟨g,i,none⟩=w.cell? ⟨g,i,none⟩:=fun i=>hk.cell (p:=⟨g,i,none⟩) h.lt hnn;exact ⟨(hc 0).trans h.c0,(hc 1).trans h.c1,(hc 2).trans h.c2,hk.rows h.fam (fun x hx=>by simp at hx; omega),Nat.lt_of_lt_of_le h.lt hk.size,hn,hk.rows h.fresh (fun x hx=>by simp at hx; omega),hp⟩
theorem BoxS.on {B:Nat} {w w':World} {g gs:Nat} {st:St} {v:Value} (h:BoxS B w g gs st v) (hb:Below w.heap.size w w'):BoxS B w' g gs st v:=by
 have hc:∀ i,w'.cell? ⟨g,i,none⟩=w.cell? ⟨g,i,none⟩:=fun i=>hb.cell (p:=⟨g,i,none⟩) h.lt;exact ⟨(hc 0).trans h.c0,(hc 1).trans h.c1,(hc 2).trans h.c2,RowsK.below h.fam hb (Nat.le_refl _),Nat.lt_of_lt_of_le h.lt hb.size,h.new,RowsK.below h.fresh hb (Nat.le_refl _),h.past⟩
theorem add_down (w0:World) (gs gd:Nat) (A:AD) (n:Nat) (c:Bool) (l:Int) (sv lg:Nat) (st:St) (v:Value) (e:E) (w:World) (h:DS w0 gs gd A n c l true sv lg st v w) :
 Calls Tryz.prog 17 #[.pointer (some ⟨gs,0,none⟩),evV e] w fun r w'=>r=.returned (.iface 47 (.int .i64 6))∧DS w0 gs gd A n c l true sv lg st v w':=by
 obtain ⟨kk,⟨f1,f2,f3,f4,f5,f6,f7,f8,f9⟩,ei,et⟩:=e;unfold evV evCs;simp only;have H1:Hid _:=h.on (w':=w.alloc (.cells #[.int .i64 kk,.int .i64 f1,.string f2,.string f3,.string f4,.int .i64 f5,.int .i64 f6,.int .i64 f7,.string f8,.bool f9,.int .i64 ei,.int .i64 et] 42)) ((Below.refl _ _).alloc (Nat.le_refl _) _);have p1:=H1.out.store.p1;clear h;go_enter Tryz.func17,Tryz.ntmps17
 go_wp2_with fail
 go_ret;exact ⟨rfl,H1.out⟩
theorem add_no (w0:World) (gs gd:Nat) (A:AD) (n:Nat) (c:Bool) (l:Int) (sv lg:Nat) (st:St) (v:Value) (e:E) (w:World) (h:DS w0 gs gd A n c l false sv lg st v w) (hm:¬ Ev.may e) (hs:Small 5000 e.fam) :
 Calls Tryz.prog 17 #[.pointer (some ⟨gs,0,none⟩),evV e] w fun r w'=>r=.returned (.iface 47 (.int .i64 1))∧DS w0 gs gd A n c l false sv lg st v w':=by
 have hwe:=fun (W:World) (hW:LenOk W)=>writeE_no e W hm hs hW;have hbx:=evAt_made w e 42 _ rfl;obtain ⟨kk,⟨f1,f2,f3,f4,f5,f6,f7,f8,f9⟩,ei,et⟩:=e;unfold evV evCs at *;simp only at hwe hbx ⊢;have H1:Hid _:=h.on (w':=w.alloc (.cells #[.int .i64 kk,.int .i64 f1,.string f2,.string f3,.string f4,.int .i64 f5,.int .i64 f6,.int .i64 f7,.string f8,.bool f9,.int .i64 ei,.int .i64 et] 42)) ((Below.refl _ _).alloc (Nat.le_refl _) _);have p1:=H1.out.store.p1;clear h hm hs hbx;go_enter Tryz.func17,Tryz.ntmps17
 go_wp2_with fail
 refine (hwe _ H1.out.libs.base.len).mono ?_;rintro e1 w1 ⟨rfl,hb1⟩;have H2:Hid _:=H1.out.on hb1;clear hb1 hwe p1;go_wp2_with fail
 go_ret;exact ⟨rfl,H2.out⟩
theorem keep3 (gs i j k:Nat) (a b c:Value) (w:World):Keep [gs] w (((w.setCell ⟨gs,i,none⟩ a).setCell ⟨gs,j,none⟩ b).setCell ⟨gs,k,none⟩ c):=
 (((Keep.refl _ w).setCell (p:=⟨gs,i,none⟩) (.inl (by simp)) a).setCell (p:=⟨gs,j,none⟩) (.inl (by simp)) b).setCell (p:=⟨gs,k,none⟩) (.inl (by simp)) c
theorem errQ_ne {n:Nat} (h:n≠0):∃ v,errQ n=.iface 47 v:=by
 cases n with
 |zero=>exact absurd rfl h
 |succ n=>exact ⟨_,rfl⟩
theorem evAt_set {w:World} {b:Nat} {e e':E} (h:EvAt w b e'):EvAt (w.setCells b 0 (evCs e)) b e:=by
 have hth:∀ j,j<(evCs e).length→(w.cell? ⟨b,0+j,none⟩).isSome=true:=there12 h;have hq:=fun (j:Nat) (hj:j<(evCs e).length)=>World.cell?_setCells_in b (evCs e) 0 w hth j hj;have hlt:b<(w.setCells b 0 (evCs e)).heap.size:=Nat.lt_of_lt_of_le h.lt (below_setCellsW (B:=0) (Nat.zero_le _) _ 0 _).size
 have hc:∀ (j:Nat) (u:Value),(evCs e)[j]?=some u→(w.setCells b 0 (evCs e)).cell? ⟨b,j,none⟩=some u:=fun j u hj=>by
  obtain ⟨h1,h2⟩:=List.getElem?_eq_some_iff.1 hj
  have:=hq j h1;rw [Nat.zero_add,h2] at this;exact this
 exact evAt_of hlt (hc 0 _ rfl) (hc 1 _ rfl) (hc 2 _ rfl) (hc 3 _ rfl) (hc 4 _ rfl) (hc 5 _ rfl) (hc 6 _ rfl) (hc 7 _ rfl) (hc 8 _ rfl) (hc 9 _ rfl) (hc 10 _ rfl) (hc 11 _ rfl)
theorem add_yes (w0:World) (gs gd:Nat) (A:AD) (n:Nat) (c:Bool) (l:Int) (sv lg:Nat) (st b:St) (es:List E) (v:Value) (e:E) (w:World) (h:DS w0 gs gd A n c l false sv lg st v w) (hI:Inv A st sv lg b es) (hsv:okN ((sv:Int)+1)) (hl:c=true→0≤l∧l≤9223372036854775807) (hn:n+23<100000) (hm:Ev.may e) (hs:Small 5000 e.fam) :
 Calls Tryz.prog 17 #[.pointer (some ⟨gs,0,none⟩),evV e] w fun r w'=>r=.returned (errQ (addP ⟨st,lg,n,c,l,false⟩ e true).2)∧∃ A' sv' b' es' v',Inv A' (addP ⟨st,lg,n,c,l,false⟩ e true).1.st sv' (addP ⟨st,lg,n,c,l,false⟩ e true).1.lg b' es'∧sv'≤sv+1∧DS w0 gs gd A' (addP ⟨st,lg,n,c,l,false⟩ e true).1.n c (addP ⟨st,lg,n,c,l,false⟩ e true).1.l (addP ⟨st,lg,n,c,l,false⟩ e true).1.dn sv' (addP ⟨st,lg,n,c,l,false⟩ e true).1.lg (addP ⟨st,lg,n,c,l,false⟩ e true).1.st v' w'∧(v'=v∨Fams w.heap.size w' v' (addP ⟨st,lg,n,c,l,false⟩ e true).1.st.fams):=by
 obtain ⟨ba,ca,rfl⟩:=RowsK.slice h.store.fam;have HRI:Hid (Rising st.fams∧st.fams.length≤20):=⟨hI.good.ris,hI.good.len⟩;have H0:Hid (DS w0 gs gd A n c l false sv lg st (.slice ba st.fams.length ca) w):=h;have HI:Hid (Inv A st sv lg b es):=hI;have HSV:Hid (okN ((sv:Int)+1)):=hsv;have HLL:Hid (c=true→0≤l∧l≤9223372036854775807):=hl;have HN:Hid (n+23<100000):=hn;have HM:Hid (Ev.may e):=hm;have HLG:Hid (lg≤16):=hI.low;have HWS:Hid (gs<w.heap.size):=h.store.lt;have hwe:=fun (W:World) (hW:LibsE W)=>writeE_yes e W hm hs hW;have hre:=fun (W:World) (hW:LibsA W)=>readEv e W hm hW;have HLEN:Hid ((evL sv e).length≤194):=evL_len (s:=sv) (show okN (sv:Int) from ⟨by omega,by have:=hsv.2; omega⟩) hm
 have HAP:Hid (∀ (W:World),Fams (gs+1) W (.slice ba st.fams.length ca) st.fams→Calls Tryz.prog 19 #[stV st.clock st.next (.slice ba st.fams.length ca),evV e] W fun r w'=>∃ v',r=.returned (stV (applyP st e).clock (applyP st e).next v')∧Fams W.heap.size w' v' (applyP st e).fams∧Below W.heap.size W w'):=fun W hW=>apply_is st e hm hW HRI.out.1 (by have:=HRI.out.2; omega)
 have HIA:Hid (lg<16→(applyP st e).fams.length≤20→Inv ⟨updN A.blk lg (some (sv,e)),A.head⟩ (applyP st e) sv (lg+1) b (es ++ [e])):=fun h1 h2=>inv_add hI h1 hm h2;have HES:Hid (∀ (W:World) (bb:Nat) (e':E),EvAt W bb e'→EvAt (W.setCells bb 0 (evCs e)) bb e):=fun W bb e' h=>evAt_set h;have hbx:=evAt_made w e 42 _ rfl;have HBW:Hid (∀ (w3:World),Below (w.heap.size+1) (w.alloc (.cells (evCs e).toArray 42)) w3→Below w.heap.size w (w3.setCells w.heap.size 0 (evCs e))):=fun w3 h3=>(((Below.refl _ _).alloc (Nat.le_refl _) _).trans (h3.mono (by omega))).trans (below_setCellsW (Nat.le_refl _) _ 0 _)
 clear h hI hsv hl hn hm hs;obtain ⟨kk,⟨f1,f2,f3,f4,f5,f6,f7,f8,f9⟩,ei,et⟩:=e;have HAP2:=HAP.out;unfold evV evCs stV at HAP2;unfold evV at hwe hre ⊢;unfold evCs at hwe hre HBW HES ⊢;simp only at hwe hre hbx HAP2 HBW HES ⊢;clear HAP;have H1:Hid _:=H0.out.on (w':=w.alloc (.cells #[.int .i64 kk,.int .i64 f1,.string f2,.string f3,.string f4,.int .i64 f5,.int .i64 f6,.int .i64 f7,.string f8,.bool f9,.int .i64 ei,.int .i64 et] 42)) ((Below.refl _ _).alloc (Nat.le_refl _) _);have hsz:(w.alloc (.cells #[.int .i64 kk,.int .i64 f1,.string f2,.string f3,.string f4,.int .i64 f5,.int .i64 f6,.int .i64 f7,.string f8,.bool f9,.int .i64 ei,.int .i64 et] 42)).heap.size=w.heap.size+1:=by simp
 have HX1:Hid (EvAt (w.alloc (.cells #[.int .i64 kk,.int .i64 f1,.string f2,.string f3,.string f4,.int .i64 f5,.int .i64 f6,.int .i64 f7,.string f8,.bool f9,.int .i64 ei,.int .i64 et] 42)) w.heap.size ⟨kk,⟨f1,f2,f3,f4,f5,f6,f7,f8,f9⟩,ei,et⟩):=hbx;have HZF1:Hid (∀ i,(w.alloc (.cells #[.int .i64 kk,.int .i64 f1,.string f2,.string f3,.string f4,.int .i64 f5,.int .i64 f6,.int .i64 f7,.string f8,.bool f9,.int .i64 ei,.int .i64 et] 42)).frozen? ⟨w.heap.size,i,none⟩=false):=fun i=>World.frozen?_alloc_at _ _ _ _ rfl;have HSZ:Hid ((w.alloc (.cells #[.int .i64 kk,.int .i64 f1,.string f2,.string f3,.string f4,.int .i64 f5,.int .i64 f6,.int .i64 f7,.string f8,.bool f9,.int .i64 ei,.int .i64 et] 42)).heap.size=w.heap.size+1):=hsz;have p1:=H1.out.store.p1;clear hbx hsz;go_enter Tryz.func17,Tryz.ntmps17
 go_wp2_with fail
 refine (hwe _ H1.out.libs.base).mono ?_;rintro e1 w1 ⟨rfl,hb1⟩;have H2:Hid _:=H1.out.on hb1;have HX2:Hid _:=HX1.out.on hb1;have HZ2:Hid (∀ i,w1.frozen? ⟨w.heap.size,i,none⟩=false):=fun i=>(hb1.frozen (p:=⟨w.heap.size,i,none⟩) HX1.out.lt).trans (HZF1.out i);have HB1:Hid (Below (w.heap.size+1) (w.alloc (.cells #[.int .i64 kk,.int .i64 f1,.string f2,.string f3,.string f4,.int .i64 f5,.int .i64 f6,.int .i64 f7,.string f8,.bool f9,.int .i64 ei,.int .i64 et] 42)) w1):=by rw [← HSZ.out]; exact hb1
 clear hb1 hwe p1;go_wp2_with fail
 refine (hre _ H2.out.libs).mono ?_;rintro e2 w2 ⟨rfl,hb2⟩;have H3:Hid _:=H2.out.on hb2;have HX3:Hid _:=HX2.out.on hb2;have fz:∀ i,w2.frozen? ⟨w.heap.size,i,none⟩=false:=fun i=>(hb2.frozen (p:=⟨w.heap.size,i,none⟩) HX2.out.lt).trans (HZ2.out i);have HB2:Hid (Below (w.heap.size+1) (w.alloc (.cells #[.int .i64 kk,.int .i64 f1,.string f2,.string f3,.string f4,.int .i64 f5,.int .i64 f6,.int .i64 f7,.string f8,.bool f9,.int .i64 ei,.int .i64 et] 42)) w2):=HB1.out.trans (hb2.mono (by have:=HB1.out.size; have:=HSZ.out; omega))
 have hx3:=HX3.out;have x0:=hx3.c0; have x1:=hx3.fam.c0; have x2:=hx3.fam.c1; have x3:=hx3.fam.c2; have x4:=hx3.fam.c3; have x5:=hx3.fam.c4; have x6:=hx3.fam.c5; have x7:=hx3.fam.c6; have x8:=hx3.fam.c7; have x9:=hx3.fam.c8; have x10:=hx3.c10; have x11:=hx3.c11;simp only at x0 x1 x2 x3 x4 x5 x6 x7 x8 x9 x10 x11;have H4:Hid _:=H0.out.on (HBW.out w2 HB2.out);have HX4:Hid _:=HES.out w2 w.heap.size _ HX3.out;clear hb2 hre hx3;go_upto_region 9 with fail
 clear x0 x1 x2 x3 x4 x5 x6 x7 x8 x9 x10 x11 fz;have h4:=H4.out;have hx4:=HX4.out;clear H4 HX4;generalize hWW:World.setCell _ ⟨w.heap.size,11,none⟩ _=W4;have hW2:w2.setCells w.heap.size 0 [.int .i64 kk,.int .i64 f1,.string f2,.string f3,.string f4,.int .i64 f5,.int .i64 f6,.int .i64 f7,.string f8,.bool f9,.int .i64 ei,.int .i64 et]=W4:=hWW;rw [hW2] at h4 hx4;clear hWW hW2;have H4:Hid _:=h4;have HX4:Hid _:=hx4;clear h4 hx4;have HST:Hid (applyP st ⟨kk,⟨f1,f2,f3,f4,f5,f6,f7,f8,f9⟩,ei,et⟩=applyP st ⟨kk,⟨f1,f2,f3,f4,f5,f6,f7,f8,f9⟩,ei,et⟩):=rfl;obtain ⟨st',hst'⟩:∃ st',st'=applyP st ⟨kk,⟨f1,f2,f3,f4,f5,f6,f7,f8,f9⟩,ei,et⟩:=⟨_,rfl⟩;rw [← hst'] at HAP2;have HS9:Hid (st'=applyP st ⟨kk,⟨f1,f2,f3,f4,f5,f6,f7,f8,f9⟩,ei,et⟩):=hst';clear hst' HST
 go_cut [7] from 31 to 37 (fun x wx=>∃ gS v',x=.pointer (some ⟨gS,0,none⟩)∧Hid (DS w0 gs gd A n c l false sv lg st (.slice ba st.fams.length ca) wx∧BoxS w.heap.size wx gS gs st' v'))
 case first=>
  have hS0:DS w0 gs gd A n c l false sv lg st (.slice ba st.fams.length ca) W4.drew∧EvAt W4.drew w.heap.size ⟨kk,⟨f1,f2,f3,f4,f5,f6,f7,f8,f9⟩,ei,et⟩:=⟨H4.out.on (Below.refl _ _).drew,HX4.out.on (Below.refl _ _).drew⟩;refine RegD.R_ (fun w'=>DS w0 gs gd A n c l false sv lg st (.slice ba st.fams.length ca) w'∧EvAt w' w.heap.size ⟨kk,⟨f1,f2,f3,f4,f5,f6,f7,f8,f9⟩,ei,et⟩) 7 (by kernel_rfl) hS0 (fun hH=>?_)
  clear hS0;refine RegD.T_ 0 (v:=.pointer (some ⟨gs,0,none⟩)) rfl (by kernel_rfl) (fun _ _ _ h=>h) (.inl ⟨by rfl,fun W hW=>by go_simp⟩) hH ?_
  simp only [Act.put,pS1,pS2,pS3];refine RegD.T_ 1 (v:=.pointer (some ⟨gs,0,none⟩)) rfl (by kernel_rfl) (fun _ _ _ h=>h) (.inl ⟨by rfl,fun W hW=>by go_simp⟩) hH ?_
  simp only [Act.put,pS1,pS2,pS3];refine RegD.T_ 2 (v:=.pointer (some ⟨gs,4,none⟩)) rfl (by kernel_rfl) (fun _ _ _ h=>h) (.inl ⟨by rfl,fun W hW=>by go_simp⟩) hH ?_
  simp only [Act.put,pS1,pS2,pS3];refine RegD.T_ 3 (v:=(.agg #[.int .i64 st.clock,.int .i64 st.next,.slice ba st.fams.length ca])) rfl (by kernel_rfl) (fun _ _ _ h=>h) (.inl ⟨by rfl,fun W hW=>by have a4:=hW.1.store.p4; have a5:=hW.1.store.p5; have a6:=hW.1.store.p6; go_simp⟩) hH ?_
  simp only [Act.put,pS1,pS2,pS3];refine RegD.T_ 4 (v:=(.agg #[.int .i64 kk,.int .i64 f1,.string f2,.string f3,.string f4,.int .i64 f5,.int .i64 f6,.int .i64 f7,.string f8,.bool f9,.int .i64 ei,.int .i64 et])) rfl (by kernel_rfl) (fun _ _ _ h=>h) (.inl ⟨by rfl,fun W hW=>by have k0:=hW.2.c0; have k1:=hW.2.fam.c0; have k2:=hW.2.fam.c1; have k3:=hW.2.fam.c2; have k4:=hW.2.fam.c3; have k5:=hW.2.fam.c4; have k6:=hW.2.fam.c5; have k7:=hW.2.fam.c6; have k8:=hW.2.fam.c7; have k9:=hW.2.fam.c8; have k10:=hW.2.c10; have k11:=hW.2.c11; simp only at k0 k1 k2 k3 k4 k5 k6 k7 k8 k9 k10 k11; go_simp⟩) hH ?_
  simp only [Act.put,pS1,pS2,pS3];refine wpAnyD_two 5 6 (oi:=?oi5x) (oj:=?oj6x) ?ha5 ?ha6 ?hr56 ?h5x ?h6x
  case ha5=>rfl
  case ha6=>rfl
  case hr56=>kernel_rfl
  case h5x=>
   intro K hK;go_simp;go_at_call 19
   refine (HAP2 _ hH.1.store.fam).mono ?_;rintro e7 w7 ⟨v7,rfl,hf7,hb7⟩;obtain ⟨b7,c7,rfl⟩:=RowsK.slice hf7;go_wp2_with fail
   have hS5:DS w0 gs gd A n c l false sv lg st (.slice ba st.fams.length ca) w7∧EvAt w7 w.heap.size ⟨kk,⟨f1,f2,f3,f4,f5,f6,f7,f8,f9⟩,ei,et⟩:=⟨hH.1.on hb7,hH.2.on hb7⟩;have hF7:Fams (gs+1) w7 (.slice b7 st'.fams.length c7) st'.fams:=RowsK.mono hf7 hH.1.store.lt;have hG7:Fams w.heap.size w7 (.slice b7 st'.fams.length c7) st'.fams:=RowsK.mono hf7 (Nat.le_of_lt hH.2.lt);have hlt7:gs<w7.heap.size:=Nat.lt_of_lt_of_le hH.1.store.lt hb7.size;refine hK.out _ _ hS5 ?_;clear hK hH;intro hH;clear hS5 K;have hD7:=hH.1;refine RegD.O_ 6 rfl (by kernel_rfl) ?_; intro K hK; go_simp
   have hS6:DS w0 gs gd A n c l false sv lg st (.slice ba st.fams.length ca) (w7.alloc (.cells #[.int .i64 0,.int .i64 0,.slice none 0 0] 36))∧EvAt (w7.alloc (.cells #[.int .i64 0,.int .i64 0,.slice none 0 0] 36)) w.heap.size ⟨kk,⟨f1,f2,f3,f4,f5,f6,f7,f8,f9⟩,ei,et⟩:=⟨hH.1.on ((Below.refl _ _).alloc (Nat.le_refl _) _),hH.2.on ((Below.refl _ _).alloc (Nat.le_refl _) _)⟩;refine hK.out _ _ hS6 ?_;clear hK hH;intro hH;clear hS6 K
   have HFIN:Hid (DS w0 gs gd A n c l false sv lg st (.slice ba st.fams.length ca) (w7.alloc (.cells #[.int .i64 st'.clock,.int .i64 st'.next,.slice b7 st'.fams.length c7] 36))∧BoxS w.heap.size (w7.alloc (.cells #[.int .i64 st'.clock,.int .i64 st'.next,.slice b7 st'.fams.length c7] 36)) w7.heap.size gs st' (.slice b7 st'.fams.length c7)):=⟨hD7.on ((Below.refl _ _).alloc (Nat.le_refl _) _),⟨(World.cell?_alloc_at _ _ _ _ rfl).trans rfl,(World.cell?_alloc_at _ _ _ _ rfl).trans rfl,(World.cell?_alloc_at _ _ _ _ rfl).trans rfl,RowsK.below hF7 ((Below.refl _ _).alloc (Nat.le_refl _) _) (Nat.le_refl _),by simp,hlt7,RowsK.below hG7 ((Below.refl _ _).alloc (Nat.le_refl _) _) (Nat.le_refl _),HWS.out⟩⟩
   clear hH hD7 hF7 hG7 hf7 hb7 hlt7;refine RegD.L_ 7 rfl (by kernel_rfl) (by kernel_rfl) ?_; intro K hK; go_simp
   refine hK.out _ _ ?_;clear hK K;refine RegD.D_ (by kernel_rfl) ?_ _
   go_wp2_with fail
   go_meet
   case rel=>exact ⟨_,_,rfl,HFIN⟩
  case h6x=>
   intro K hK;go_simp;have hS6:DS w0 gs gd A n c l false sv lg st (.slice ba st.fams.length ca) (W4.drew.alloc (.cells #[.int .i64 0,.int .i64 0,.slice none 0 0] 36))∧EvAt (W4.drew.alloc (.cells #[.int .i64 0,.int .i64 0,.slice none 0 0] 36)) w.heap.size ⟨kk,⟨f1,f2,f3,f4,f5,f6,f7,f8,f9⟩,ei,et⟩:=⟨hH.1.on ((Below.refl _ _).alloc (Nat.le_refl _) _),hH.2.on ((Below.refl _ _).alloc (Nat.le_refl _) _)⟩;have hgs4:gs<W4.heap.size:=hH.1.store.lt;refine hK.out _ _ hS6 ?_;clear hK hH;intro hH;clear hS6 K;refine RegD.O_ 5 rfl (by kernel_rfl) ?_; intro K hK; go_simp
   go_at_call 19
   refine (HAP2 _ hH.1.store.fam).mono ?_;rintro e7 w7 ⟨v7,rfl,hf7,hb7⟩;obtain ⟨b7,c7,rfl⟩:=RowsK.slice hf7;go_wp2_with fail
   have hS5:DS w0 gs gd A n c l false sv lg st (.slice ba st.fams.length ca) w7∧EvAt w7 w.heap.size ⟨kk,⟨f1,f2,f3,f4,f5,f6,f7,f8,f9⟩,ei,et⟩:=⟨hH.1.on hb7,hH.2.on hb7⟩;have hF7:Fams (gs+1) w7 (.slice b7 st'.fams.length c7) st'.fams:=RowsK.mono hf7 hH.1.store.lt;have hG7:Fams w.heap.size w7 (.slice b7 st'.fams.length c7) st'.fams:=RowsK.mono hf7 (Nat.le_of_lt hH.2.lt);have hlt7:gs<w7.heap.size:=Nat.lt_of_lt_of_le hH.1.store.lt hb7.size;refine hK.out _ _ hS5 ?_;clear hK hH;intro hH;clear hS5 K
   have hzz:∀ i,w7.cell? ⟨W4.heap.size,i,none⟩=(W4.drew.alloc (.cells #[.int .i64 0,.int .i64 0,.slice none 0 0] 36)).cell? ⟨W4.heap.size,i,none⟩∧w7.frozen? ⟨W4.heap.size,i,none⟩=false:=fun i=>⟨hb7.cell (p:=⟨W4.heap.size,i,none⟩) (by show W4.heap.size<(W4.drew.alloc (.cells #[.int .i64 0,.int .i64 0,.slice none 0 0] 36)).heap.size; simp),(hb7.frozen (p:=⟨W4.heap.size,i,none⟩) (by show W4.heap.size<(W4.drew.alloc (.cells #[.int .i64 0,.int .i64 0,.slice none 0 0] 36)).heap.size; simp)).trans (World.frozen?_alloc_at _ _ _ _ rfl)⟩
   have y0:=(hzz 0).1.trans ((World.cell?_alloc_at _ _ _ _ rfl).trans rfl);have y1:=(hzz 1).1.trans ((World.cell?_alloc_at _ _ _ _ rfl).trans rfl);have y2:=(hzz 2).1.trans ((World.cell?_alloc_at _ _ _ _ rfl).trans rfl);have yf:∀ i,w7.frozen? ⟨W4.heap.size,i,none⟩=false:=fun i=>(hzz i).2;have hlt8:W4.heap.size<w7.heap.size:=Nat.lt_of_lt_of_le (by show W4.heap.size<(W4.drew.alloc (.cells #[.int .i64 0,.int .i64 0,.slice none 0 0] 36)).heap.size; simp) hb7.size
   obtain ⟨q0,q1,q2⟩:=@three_set w7 W4.heap.size (.int .i64 st'.clock) (.int .i64 st'.next) (.slice b7 st'.fams.length c7) _ _ _ y0 y1 y2
   have HFIN:Hid (DS w0 gs gd A n c l false sv lg st (.slice ba st.fams.length ca) (((w7.setCell ⟨W4.heap.size,0,none⟩ (.int .i64 st'.clock)).setCell ⟨W4.heap.size,1,none⟩ (.int .i64 st'.next)).setCell ⟨W4.heap.size,2,none⟩ (.slice b7 st'.fams.length c7))∧BoxS w.heap.size (((w7.setCell ⟨W4.heap.size,0,none⟩ (.int .i64 st'.clock)).setCell ⟨W4.heap.size,1,none⟩ (.int .i64 st'.next)).setCell ⟨W4.heap.size,2,none⟩ (.slice b7 st'.fams.length c7)) W4.heap.size gs st' (.slice b7 st'.fams.length c7)):=by
    have hbl:Below W4.heap.size W4 (((w7.setCell ⟨W4.heap.size,0,none⟩ (.int .i64 st'.clock)).setCell ⟨W4.heap.size,1,none⟩ (.int .i64 st'.next)).setCell ⟨W4.heap.size,2,none⟩ (.slice b7 st'.fams.length c7)):=((((Below.refl _ _).drew).alloc (Nat.le_refl _) _).trans (hb7.mono (by show W4.heap.size≤(W4.drew.alloc (.cells #[.int .i64 0,.int .i64 0,.slice none 0 0] 36)).heap.size; simp))).trans (below3 _ 0 1 2 _ _ _ _)
    have hltB:W4.heap.size<(W4.drew.alloc (.cells #[.int .i64 0,.int .i64 0,.slice none 0 0] 36)).heap.size:=by show W4.heap.size<(W4.drew.alloc (.cells #[.int .i64 0,.int .i64 0,.slice none 0 0] 36)).heap.size; simp
    have hsz7:Fams (gs+1) (((w7.setCell ⟨W4.heap.size,0,none⟩ (.int .i64 st'.clock)).setCell ⟨W4.heap.size,1,none⟩ (.int .i64 st'.next)).setCell ⟨W4.heap.size,2,none⟩ (.slice b7 st'.fams.length c7)) (.slice b7 st'.fams.length c7) st'.fams:=RowsK.mono (((hf7.other (a:=⟨W4.heap.size,0,none⟩) hltB _).other (a:=⟨W4.heap.size,1,none⟩) hltB _).other (a:=⟨W4.heap.size,2,none⟩) hltB _) (by show gs+1≤(W4.alloc (.cells #[.int .i64 0,.int .i64 0,.slice none 0 0] 36)).heap.size; simp; omega)
    exact ⟨H4.out.on hbl,⟨q0,q1,q2,hsz7,by simpa using hlt8,hgs4,RowsK.mono (((hf7.other (a:=⟨W4.heap.size,0,none⟩) hltB _).other (a:=⟨W4.heap.size,1,none⟩) hltB _).other (a:=⟨W4.heap.size,2,none⟩) hltB _) (by have h9:=HX4.out.lt; show w.heap.size≤(W4.alloc (.cells #[.int .i64 0,.int .i64 0,.slice none 0 0] 36)).heap.size; simp; omega),HWS.out⟩⟩
   clear hH hF7 hG7 hf7 hb7 hlt7 hzz q0 q1 q2;refine RegD.L_ 7 rfl (by kernel_rfl) (by kernel_rfl) ?_; intro K hK; go_simp
   refine hK.out _ _ ?_;clear hK K;refine RegD.D_ (by kernel_rfl) ?_ _
   clear y0 y1 y2 yf;go_wp2_with fail
   go_meet
   case rel=>exact ⟨_,_,rfl,HFIN⟩
 case rest=>
  obtain ⟨gS,vS,rfl,HC9⟩:=hcut;have hfS:=HC9.out.2.fam;obtain ⟨b7,c7,rfl⟩:=RowsK.slice hfS;clear hfS;have c2:=HC9.out.2.c2;clear HX4 HX3 HX2 HX1 H1 H2 H3 H4 HZ2 HZF1 HB1 HB2 HES HBW HAP2 HSZ;have HLS:Hid (bs8 (line ⟨kk,⟨f1,f2,f3,f4,f5,f6,f7,f8,f9⟩,ei,et⟩)=bs8 (line ⟨kk,⟨f1,f2,f3,f4,f5,f6,f7,f8,f9⟩,ei,et⟩)):=rfl;generalize hLN:bs8 (line ⟨kk,⟨f1,f2,f3,f4,f5,f6,f7,f8,f9⟩,ei,et⟩)=LN at *;have HLN:Hid (bs8 (line ⟨kk,⟨f1,f2,f3,f4,f5,f6,f7,f8,f9⟩,ei,et⟩)=LN):=hLN;clear hLN HLS;have HJNG:Hid (∀ s1:Nat,Lib.join ([bs8 (Lib.itoa (s1:Nat)),LN].map (·.data.toList)) [32]=evL s1 ⟨kk,⟨f1,f2,f3,f4,f5,f6,f7,f8,f9⟩,ei,et⟩):=fun s1=>by rw [← HLN.out,← evL_join]; rfl
  have HLE0:Hid (∀ s1:Nat,okN (s1:Int)→(evL s1 ⟨kk,⟨f1,f2,f3,f4,f5,f6,f7,f8,f9⟩,ei,et⟩).length≤194):=fun s1 h1=>evL_len h1 HM.out;by_cases h20:20<st'.fams.length
  ·have h20I:(20:Int)<(st'.fams.length:Int):=by omega
   have HADD:Hid (addP ⟨st,lg,n,c,l,false⟩ ⟨kk,⟨f1,f2,f3,f4,f5,f6,f7,f8,f9⟩,ei,et⟩ true=(⟨st,lg,n,c,l,false⟩,12)):=add_full _ _ rfl (by rw [← HS9.out]; exact h20)
   clear h20;go_wp2_with fail
   go_ret;refine ⟨by rw [HADD.out]; rfl,?_⟩
   rw [HADD.out];exact ⟨A,sv,b,es,_,HI.out,by omega,HC9.out.1,.inl rfl⟩
  have h20I:¬ (20:Int)<(st'.fams.length:Int):=by omega
  have p3:=HC9.out.1.store.p3;by_cases hlg:lg=16
  ·subst hlg
   have hsv:=save_up wc gs gd A n c l sv 16 st b es (.slice ba st.fams.length ca) wc HC9.out.1.rebase HI.out HSV.out HLL.out (by have:=HN.out; omega)
   have HPO:Hid (PubOk n ⟨st,16,n,c,l,false⟩):=⟨HI.out.good,Nat.le_refl _,Nat.le_refl _,HLL.out⟩;have HNF:Hid (¬ 20<(applyP st ⟨kk,⟨f1,f2,f3,f4,f5,f6,f7,f8,f9⟩,ei,et⟩).fams.length):=by show ¬ _; rw [← HS9.out]; exact h20
   clear h20;go_wp2_with fail
   refine hsv.mono ?_;rintro r5 w5 ⟨p,hp,rfl,A1,sv1,b1,es1,hI1,hle1,hds⟩;subst hp;have HB5:Hid _:=HC9.out.2.keep hds.keep HC9.out.1.ord;have H5a:Hid _:=hds.since HC9.out.1.keep HC9.out.1.was;have HI1:Hid _:=hI1;have HLE:Hid (sv1≤sv+1):=hle1;clear hds hI1 hle1 hsv p3;have c2:=HB5.out.c2;by_cases h0:(saveP ⟨st,16,n,c,l,false⟩).2=0
   ·obtain ⟨n1,l1,hq,hn1,hl1⟩:=save_ok HPO.out rfl h0
    obtain ⟨lg1,hlg1⟩:∃ lg1:Nat,lg1=0:=⟨_,rfl⟩;simp only at hq hl1;rw [← hlg1] at hq;have HADD:Hid (addP ⟨st,16,n,c,l,false⟩ ⟨kk,⟨f1,f2,f3,f4,f5,f6,f7,f8,f9⟩,ei,et⟩ true=putP1 ⟨st,lg1,n1,c,l1,false⟩ ⟨kk,⟨f1,f2,f3,f4,f5,f6,f7,f8,f9⟩,ei,et⟩):=by show _=_; rw [← hq]; exact add_save0 _ _ rfl HNF.out rfl h0
    have h5:=H5a.out;have h6:=HI1.out;rw [hq] at h5 h6;simp only at h5 h6;have H5:Hid (DS w0 gs gd A1 n1 c l1 false sv1 lg1 st (.slice ba st.fams.length ca) w5):=h5;have HINV0:Hid (Inv A1 st sv1 lg1 b1 es1):=h6;have HLG1:Hid (lg1<16):=by show lg1<16; omega
    have HINV1:Hid (Inv ⟨updN A1.blk lg1 (some (sv1,⟨kk,⟨f1,f2,f3,f4,f5,f6,f7,f8,f9⟩,ei,et⟩)),A1.head⟩ (applyP st ⟨kk,⟨f1,f2,f3,f4,f5,f6,f7,f8,f9⟩,ei,et⟩) sv1 (lg1+1) b1 (es1 ++ [⟨kk,⟨f1,f2,f3,f4,f5,f6,f7,f8,f9⟩,ei,et⟩])):=inv_add HINV0.out HLG1.out HM.out (by have:=HNF.out; omega)
    have HSV1:Hid (okN (sv1:Int)):=(show okN (sv1:Int) from ⟨by omega,by have:=HSV.out.2; have:=HLE.out; omega⟩)
    have HJN:Hid _:=HJNG.out sv1;have HLEN1:Hid _:=HLE0.out sv1 HSV1.out;have HL1:Hid (c=true→0≤l1∧l1≤9223372036854775807):=hl1;have HN1:Hid (n1<100000):=by have:=HN.out; show n1<100000; omega
    have hit:=fun (W:World) (hW:LibsE W)=>itoaE_is (sv1:Int) W HSV1.out.1 (by have:=HSV1.out.2; omega) hW
    rw [h0,show errQ 0=Value.nilIface from rfl]
    clear h0 hq hn1 hl1 hlg1 h5 h6 H5a HI1 HC9;go_upto_region 16 with fail
    cases ho:offB c l1 with
    |true=>
     have HO:Hid (offB c l1=true):=ho;clear ho;have hS0:DS w0 gs gd A1 n1 c l1 false sv1 lg1 st (.slice ba st.fams.length ca) w5.drew∧BoxS w.heap.size w5.drew gS gs st' (.slice b7 st'.fams.length c7):=⟨H5.out.on (Below.refl _ _).drew,HB5.out.on (Below.refl _ _).drew⟩;refine RegD.R_ (fun w'=>DS w0 gs gd A1 n1 c l1 false sv1 lg1 st (.slice ba st.fams.length ca) w'∧BoxS w.heap.size w' gS gs st' (.slice b7 st'.fams.length c7)) 12 (by kernel_rfl) hS0 (fun hH=>?_)
     clear hS0;refine RegD.T_ 0 (v:=.pointer (some ⟨gs,0,none⟩)) rfl (by kernel_rfl) (fun _ _ _ h=>h) (.inl ⟨by rfl,fun W hW=>by go_simp⟩) hH ?_
     simp only [Act.put,pS1,pS2,pS3];refine RegD.T_ 1 (v:=.pointer (some ⟨gs,0,none⟩)) rfl (by kernel_rfl) (fun _ _ _ h=>h) (.inl ⟨by rfl,fun W hW=>by go_simp⟩) hH ?_
     simp only [Act.put,pS1,pS2,pS3];refine RegD.T_ 2 (v:=.pointer (some ⟨gs,0,none⟩)) rfl (by kernel_rfl) (fun _ _ _ h=>h) (.inl ⟨by rfl,fun W hW=>by go_simp⟩) hH ?_
     simp only [Act.put,pS1,pS2,pS3];refine RegD.T_ 3 (v:=.pointer (some ⟨gs,3,none⟩)) rfl (by kernel_rfl) (fun _ _ _ h=>h) (.inl ⟨by rfl,fun W hW=>by go_simp⟩) hH ?_
     simp only [Act.put,pS1,pS2,pS3];refine RegD.T_ 4 (v:=.int .i64 (lg1:Nat)) rfl (by kernel_rfl) (fun _ _ _ h=>h) (.inl ⟨by rfl,fun W hW=>by have a0:=hW.1.store.p3; go_simp⟩) hH ?_
     simp only [Act.put,pS1,pS2,pS3];refine RegD.T_ 5 (v:=.pointer (some ⟨gs,0,none⟩)) rfl (by kernel_rfl) (fun _ _ _ h=>h) (.inl ⟨by rfl,fun W hW=>by go_simp⟩) hH ?_
     simp only [Act.put,pS1,pS2,pS3];refine RegD.T_ 6 (v:=.pointer (some ⟨gs,0,none⟩)) rfl (by kernel_rfl) (fun _ _ _ h=>h) (.inl ⟨by rfl,fun W hW=>by go_simp⟩) hH ?_
     simp only [Act.put,pS1,pS2,pS3];refine RegD.T_ 7 (v:=.pointer (some ⟨gs,2,none⟩)) rfl (by kernel_rfl) (fun _ _ _ h=>h) (.inl ⟨by rfl,fun W hW=>by go_simp⟩) hH ?_
     simp only [Act.put,pS1,pS2,pS3];refine RegD.T_ 8 (v:=.int .i64 sv1) rfl (by kernel_rfl) (fun _ _ _ h=>h) (.inl ⟨by rfl,fun W hW=>by have a0:=hW.1.store.p2; go_simp⟩) hH ?_
     simp only [Act.put,pS1,pS2,pS3];refine RegD.T_ 10 (v:=.string LN) rfl (by kernel_rfl) (fun _ _ _ h=>h) (.inl ⟨by rfl,fun W hW=>by go_simp⟩) hH ?_
     simp only [Act.put,pS1,pS2,pS3];refine RegD.O_ 9 rfl (by kernel_rfl) ?_; intro K hK; go_simp
     go_at_call 57
     refine (hit _ hH.1.libs.base).mono ?_;rintro e8 w8 ⟨rfl,hb8⟩;go_wp2_with fail
     have hS9:DS w0 gs gd A1 n1 c l1 false sv1 lg1 st (.slice ba st.fams.length ca) w8∧BoxS w.heap.size w8 gS gs st' (.slice b7 st'.fams.length c7):=⟨hH.1.on hb8,hH.2.on hb8⟩;refine hK.out _ _ hS9 ?_;clear hK hH;intro hH;clear hS9 K hb8;refine RegD.O_ 11 rfl (by kernel_rfl) ?_; intro K hK; go_simp
     have hS11:DS w0 gs gd A1 n1 c l1 false sv1 lg1 st (.slice ba st.fams.length ca) (w8.alloc (.cells #[.string ⟨(Lib.itoa (sv1:Nat)).toArray⟩,.string LN] 9))∧BoxS w.heap.size (w8.alloc (.cells #[.string ⟨(Lib.itoa (sv1:Nat)).toArray⟩,.string LN] 9)) gS gs st' (.slice b7 st'.fams.length c7):=⟨hH.1.on ((Below.refl _ _).alloc (Nat.le_refl _) _),hH.2.on ((Below.refl _ _).alloc (Nat.le_refl _) _)⟩;refine hK.out _ _ hS11 ?_;clear hK hH;intro hH;clear hS11 K;have hwa:=wordsAt_new w8 [bs8 (Lib.itoa (sv1:Nat)),LN] 9;have hwr:=writeS_off w0 gs gd A1 n1 c l1 false sv1 lg1 st (.slice ba st.fams.length ca) lg1 [bs8 (Lib.itoa (sv1:Nat)),LN] w8.heap.size 2 _ hH.1 (by have:=HLG1.out; omega) hwa (by simp) (Nat.le_refl _) (by rw [HJN.out]; have:=HLEN1.out; omega) HO.out
     refine RegD.L_ 12 rfl (by kernel_rfl) (by kernel_rfl) ?_; intro K hK; go_simp
     go_at_call 56
     refine hwr.mono ?_;rintro e9 w9 ⟨rfl,hds⟩;have H9:Hid _:=hds;clear hds hwr hH hwa;go_wp2_with fail
     refine hK.out _ _ ?_;clear hK K;refine RegD.L_ 13 rfl (by kernel_rfl) (by kernel_rfl) ?_; intro K hK; go_simp
     refine hK.out _ _ ?_;clear hK K;refine RegD.D_ (by kernel_rfl) ?_ _
     go_wp2_with fail
     go_ret;have HEQ:Hid (addP ⟨st,16,n,c,l,false⟩ ⟨kk,⟨f1,f2,f3,f4,f5,f6,f7,f8,f9⟩,ei,et⟩ true=(downP ⟨st,lg1,n1,c,l1,false⟩,14)):=HADD.out.trans (put_off ⟨st,lg1,n1,c,l1,false⟩ _ (show offP ⟨st,lg1,n1,c,l1,false⟩=true from HO.out))
     refine ⟨by rw [HEQ.out]; rfl,?_⟩
     rw [HEQ.out];exact ⟨A1,sv1,b1,es1,_,HINV0.out,HLE.out,H9.out,.inl rfl⟩
    |false=>
     have HO:Hid (offB c l1=false):=ho;clear ho;have hS0:DS w0 gs gd A1 n1 c l1 false sv1 lg1 st (.slice ba st.fams.length ca) w5.drew∧BoxS w.heap.size w5.drew gS gs st' (.slice b7 st'.fams.length c7):=⟨H5.out.on (Below.refl _ _).drew,HB5.out.on (Below.refl _ _).drew⟩;refine RegD.R_ (fun w'=>DS w0 gs gd A1 n1 c l1 false sv1 lg1 st (.slice ba st.fams.length ca) w'∧BoxS w.heap.size w' gS gs st' (.slice b7 st'.fams.length c7)) 12 (by kernel_rfl) hS0 (fun hH=>?_)
     clear hS0;refine RegD.T_ 0 (v:=.pointer (some ⟨gs,0,none⟩)) rfl (by kernel_rfl) (fun _ _ _ h=>h) (.inl ⟨by rfl,fun W hW=>by go_simp⟩) hH ?_
     simp only [Act.put,pS1,pS2,pS3];refine RegD.T_ 1 (v:=.pointer (some ⟨gs,0,none⟩)) rfl (by kernel_rfl) (fun _ _ _ h=>h) (.inl ⟨by rfl,fun W hW=>by go_simp⟩) hH ?_
     simp only [Act.put,pS1,pS2,pS3];refine RegD.T_ 2 (v:=.pointer (some ⟨gs,0,none⟩)) rfl (by kernel_rfl) (fun _ _ _ h=>h) (.inl ⟨by rfl,fun W hW=>by go_simp⟩) hH ?_
     simp only [Act.put,pS1,pS2,pS3];refine RegD.T_ 3 (v:=.pointer (some ⟨gs,3,none⟩)) rfl (by kernel_rfl) (fun _ _ _ h=>h) (.inl ⟨by rfl,fun W hW=>by go_simp⟩) hH ?_
     simp only [Act.put,pS1,pS2,pS3];refine RegD.T_ 4 (v:=.int .i64 (lg1:Nat)) rfl (by kernel_rfl) (fun _ _ _ h=>h) (.inl ⟨by rfl,fun W hW=>by have a0:=hW.1.store.p3; go_simp⟩) hH ?_
     simp only [Act.put,pS1,pS2,pS3];refine RegD.T_ 5 (v:=.pointer (some ⟨gs,0,none⟩)) rfl (by kernel_rfl) (fun _ _ _ h=>h) (.inl ⟨by rfl,fun W hW=>by go_simp⟩) hH ?_
     simp only [Act.put,pS1,pS2,pS3];refine RegD.T_ 6 (v:=.pointer (some ⟨gs,0,none⟩)) rfl (by kernel_rfl) (fun _ _ _ h=>h) (.inl ⟨by rfl,fun W hW=>by go_simp⟩) hH ?_
     simp only [Act.put,pS1,pS2,pS3];refine RegD.T_ 7 (v:=.pointer (some ⟨gs,2,none⟩)) rfl (by kernel_rfl) (fun _ _ _ h=>h) (.inl ⟨by rfl,fun W hW=>by go_simp⟩) hH ?_
     simp only [Act.put,pS1,pS2,pS3];refine RegD.T_ 8 (v:=.int .i64 sv1) rfl (by kernel_rfl) (fun _ _ _ h=>h) (.inl ⟨by rfl,fun W hW=>by have a0:=hW.1.store.p2; go_simp⟩) hH ?_
     simp only [Act.put,pS1,pS2,pS3];refine RegD.T_ 10 (v:=.string LN) rfl (by kernel_rfl) (fun _ _ _ h=>h) (.inl ⟨by rfl,fun W hW=>by go_simp⟩) hH ?_
     simp only [Act.put,pS1,pS2,pS3];refine RegD.O_ 9 rfl (by kernel_rfl) ?_; intro K hK; go_simp
     go_at_call 57
     refine (hit _ hH.1.libs.base).mono ?_;rintro e8 w8 ⟨rfl,hb8⟩;go_wp2_with fail
     have hS9:DS w0 gs gd A1 n1 c l1 false sv1 lg1 st (.slice ba st.fams.length ca) w8∧BoxS w.heap.size w8 gS gs st' (.slice b7 st'.fams.length c7):=⟨hH.1.on hb8,hH.2.on hb8⟩;refine hK.out _ _ hS9 ?_;clear hK hH;intro hH;clear hS9 K hb8;refine RegD.O_ 11 rfl (by kernel_rfl) ?_; intro K hK; go_simp
     have hS11:DS w0 gs gd A1 n1 c l1 false sv1 lg1 st (.slice ba st.fams.length ca) (w8.alloc (.cells #[.string ⟨(Lib.itoa (sv1:Nat)).toArray⟩,.string LN] 9))∧BoxS w.heap.size (w8.alloc (.cells #[.string ⟨(Lib.itoa (sv1:Nat)).toArray⟩,.string LN] 9)) gS gs st' (.slice b7 st'.fams.length c7):=⟨hH.1.on ((Below.refl _ _).alloc (Nat.le_refl _) _),hH.2.on ((Below.refl _ _).alloc (Nat.le_refl _) _)⟩;refine hK.out _ _ hS11 ?_;clear hK hH;intro hH;clear hS11 K;have hwa:=wordsAt_new w8 [bs8 (Lib.itoa (sv1:Nat)),LN] 9
     have hwr:=writeS_on (w8.alloc (.cells #[.string ⟨(Lib.itoa (sv1:Nat)).toArray⟩,.string LN] 9)) gs gd A1 ⟨updN A1.blk lg1 (some (sv1,⟨kk,⟨f1,f2,f3,f4,f5,f6,f7,f8,f9⟩,ei,et⟩)),A1.head⟩ n1 c l1 false sv1 lg1 st (.slice ba st.fams.length ca) lg1 [bs8 (Lib.itoa (sv1:Nat)),LN] w8.heap.size 2 _ hH.1.rebase (by have:=HLG1.out; omega) hwa (by simp) (Nat.le_refl _) (by rw [HJN.out]; have:=HLEN1.out; omega) HO.out HL1.out HN1.out (fun F F' hF h1 h2=>by rw [HJN.out] at h1; exact enc_blk hF _ ⟨by have:=HLG1.out; omega,by have:=HLG1.out; omega⟩ sv1 ⟨kk,⟨f1,f2,f3,f4,f5,f6,f7,f8,f9⟩,ei,et⟩ h1 h2)
     refine RegD.L_ 12 rfl (by kernel_rfl) (by kernel_rfl) ?_; intro K hK; go_simp
     go_at_call 56
     refine hwr.mono ?_;rintro e9 w9 ⟨rfl,hds⟩;have HB9:Hid _:=hH.2.keep hds.keep hH.1.ord;have H9:Hid _:=hds.since hH.1.keep hH.1.was;clear hds hwr hH hwa;go_wp2_with fail
     refine hK.out _ _ ?_;clear hK K;refine RegD.L_ 13 rfl (by kernel_rfl) (by kernel_rfl) ?_; intro K hK; go_simp
     refine hK.out _ _ ?_;clear hK K;refine RegD.D_ (by kernel_rfl) ?_ _
     have c0:=HB9.out.c0;have c1:=HB9.out.c1;have c2:=HB9.out.c2;have p3:=H9.out.store.p3;have p4:=H9.out.store.p4;have p5:=H9.out.store.p5;have p6:=H9.out.store.p6;have pf:=H9.out.store.pf;have HP1:Hid _:=H9.out.own (below3 gs 4 5 6 (.int .i64 st'.clock) (.int .i64 st'.next) (.slice b7 st'.fams.length c7) _) (keep3 gs 4 5 6 _ _ _ _) (H9.out.store.putState HB9.out.fam);have HP2:Hid _:=HP1.out.own (below1 gs 3 (.int .i64 ((lg1+1:Nat):Int)) _) (keep1 gs 3 _ _) (HP1.out.store.putLog (lg':=lg1+1));have hlgI:((lg1:Nat):Int)<16:=by have:=HLG1.out; omega
     have hcast:((lg1+1:Nat):Int)=((lg1:Nat):Int)+1:=by push_cast; rfl
     have HP3:=HP2.out;rw [hcast] at HP3;have HP4:Hid _:=HP3;clear HP3 HP2 HP1 hcast;go_wp2_with fail
     go_ret;have HEQ:Hid (addP ⟨st,16,n,c,l,false⟩ ⟨kk,⟨f1,f2,f3,f4,f5,f6,f7,f8,f9⟩,ei,et⟩ true=(⟨st',lg1+1,n1+1,c,l1 - 1,false⟩,0)):=by show _=_; rw [HS9.out]; exact HADD.out.trans (put_on ⟨st,lg1,n1,c,l1,false⟩ _ (show offP ⟨st,lg1,n1,c,l1,false⟩=false from HO.out))
     refine ⟨by rw [HEQ.out]; rfl,?_⟩
     rw [HEQ.out];exact ⟨_,sv1,b1,(es1 ++ [⟨kk,⟨f1,f2,f3,f4,f5,f6,f7,f8,f9⟩,ei,et⟩]),_,(by have h:=HINV1.out; rw [← HS9.out] at h; exact h),HLE.out,HP4.out,.inr ((((HB9.out.fresh.other (a:=⟨gs,4,none⟩) HWS.out _).other (a:=⟨gs,5,none⟩) HWS.out _).other (a:=⟨gs,6,none⟩) HWS.out _).other (a:=⟨gs,3,none⟩) HWS.out _)⟩
   ·have HADD:Hid (addP ⟨st,16,n,c,l,false⟩ ⟨kk,⟨f1,f2,f3,f4,f5,f6,f7,f8,f9⟩,ei,et⟩ true=saveP ⟨st,16,n,c,l,false⟩):=add_saveE _ _ rfl HNF.out rfl h0
    obtain ⟨ve,hve⟩:=errQ_ne h0;have HVE:Hid (errQ (saveP ⟨st,16,n,c,l,false⟩).2=.iface 47 ve):=hve;rw [hve];clear hve h0;go_wp2_with fail
    go_ret;have HST5:(saveP ⟨st,16,n,c,l,false⟩).1.st=st:=save_st _;refine ⟨by rw [HADD.out,HVE.out]; rfl,?_⟩
    rw [HADD.out,HST5];exact ⟨A1,sv1,b1,es1,_,HI1.out,HLE.out,H5a.out,.inl rfl⟩
  ·have hlgI:((lg:Int) == 16)=false:=by rw [beq_eq_false_iff_ne]; omega
   have hlgN:¬ (lg:Int)=16:=by omega
   have HLG1:Hid (lg<16):=by have:=HLG.out; show lg<16; omega
   have HADD:Hid (addP ⟨st,lg,n,c,l,false⟩ ⟨kk,⟨f1,f2,f3,f4,f5,f6,f7,f8,f9⟩,ei,et⟩ true=putP1 ⟨st,lg,n,c,l,false⟩ ⟨kk,⟨f1,f2,f3,f4,f5,f6,f7,f8,f9⟩,ei,et⟩):=add_plain _ _ rfl (by rw [← HS9.out]; exact h20) hlg
   have HINV1:Hid (Inv ⟨updN A.blk lg (some (sv,⟨kk,⟨f1,f2,f3,f4,f5,f6,f7,f8,f9⟩,ei,et⟩)),A.head⟩ (applyP st ⟨kk,⟨f1,f2,f3,f4,f5,f6,f7,f8,f9⟩,ei,et⟩) sv (lg+1) b (es ++ [⟨kk,⟨f1,f2,f3,f4,f5,f6,f7,f8,f9⟩,ei,et⟩])):=HIA.out HLG1.out (by rw [← HS9.out]; omega)
   have HINV0:Hid (Inv A st sv lg b es):=HI.out;have HLE:Hid (sv≤sv+1):=by show sv≤sv+1; omega
   have HSV1:Hid (okN (sv:Int)):=(show okN (sv:Int) from ⟨by omega,by have:=HSV.out.2; omega⟩)
   have HJN:=HJNG.out sv;have HJN:Hid _:=HJN;have HLEN1:Hid _:=HLE0.out sv HSV1.out;have HL1:Hid (c=true→0≤l∧l≤9223372036854775807):=HLL.out;have HN1:Hid (n<100000):=by have:=HN.out; show n<100000; omega
   have hit:=fun (W:World) (hW:LibsE W)=>itoaE_is (sv:Int) W HSV1.out.1 (by have:=HSV1.out.2; omega) hW
   have H5:Hid _:=HC9.out.1;have HB5:Hid _:=HC9.out.2;clear hlg h20;go_upto_region 16 with fail
   cases ho:offB c l with
   |true=>
    have HO:Hid (offB c l=true):=ho;clear ho;have hS0:DS w0 gs gd A n c l false sv lg st (.slice ba st.fams.length ca) wc.drew∧BoxS w.heap.size wc.drew gS gs st' (.slice b7 st'.fams.length c7):=⟨H5.out.on (Below.refl _ _).drew,HB5.out.on (Below.refl _ _).drew⟩;refine RegD.R_ (fun w'=>DS w0 gs gd A n c l false sv lg st (.slice ba st.fams.length ca) w'∧BoxS w.heap.size w' gS gs st' (.slice b7 st'.fams.length c7)) 12 (by kernel_rfl) hS0 (fun hH=>?_)
    clear hS0;refine RegD.T_ 0 (v:=.pointer (some ⟨gs,0,none⟩)) rfl (by kernel_rfl) (fun _ _ _ h=>h) (.inl ⟨by rfl,fun W hW=>by go_simp⟩) hH ?_
    simp only [Act.put,pS1,pS2,pS3];refine RegD.T_ 1 (v:=.pointer (some ⟨gs,0,none⟩)) rfl (by kernel_rfl) (fun _ _ _ h=>h) (.inl ⟨by rfl,fun W hW=>by go_simp⟩) hH ?_
    simp only [Act.put,pS1,pS2,pS3];refine RegD.T_ 2 (v:=.pointer (some ⟨gs,0,none⟩)) rfl (by kernel_rfl) (fun _ _ _ h=>h) (.inl ⟨by rfl,fun W hW=>by go_simp⟩) hH ?_
    simp only [Act.put,pS1,pS2,pS3];refine RegD.T_ 3 (v:=.pointer (some ⟨gs,3,none⟩)) rfl (by kernel_rfl) (fun _ _ _ h=>h) (.inl ⟨by rfl,fun W hW=>by go_simp⟩) hH ?_
    simp only [Act.put,pS1,pS2,pS3];refine RegD.T_ 4 (v:=.int .i64 (lg:Nat)) rfl (by kernel_rfl) (fun _ _ _ h=>h) (.inl ⟨by rfl,fun W hW=>by have a0:=hW.1.store.p3; go_simp⟩) hH ?_
    simp only [Act.put,pS1,pS2,pS3];refine RegD.T_ 5 (v:=.pointer (some ⟨gs,0,none⟩)) rfl (by kernel_rfl) (fun _ _ _ h=>h) (.inl ⟨by rfl,fun W hW=>by go_simp⟩) hH ?_
    simp only [Act.put,pS1,pS2,pS3];refine RegD.T_ 6 (v:=.pointer (some ⟨gs,0,none⟩)) rfl (by kernel_rfl) (fun _ _ _ h=>h) (.inl ⟨by rfl,fun W hW=>by go_simp⟩) hH ?_
    simp only [Act.put,pS1,pS2,pS3];refine RegD.T_ 7 (v:=.pointer (some ⟨gs,2,none⟩)) rfl (by kernel_rfl) (fun _ _ _ h=>h) (.inl ⟨by rfl,fun W hW=>by go_simp⟩) hH ?_
    simp only [Act.put,pS1,pS2,pS3];refine RegD.T_ 8 (v:=.int .i64 sv) rfl (by kernel_rfl) (fun _ _ _ h=>h) (.inl ⟨by rfl,fun W hW=>by have a0:=hW.1.store.p2; go_simp⟩) hH ?_
    simp only [Act.put,pS1,pS2,pS3];refine RegD.T_ 10 (v:=.string LN) rfl (by kernel_rfl) (fun _ _ _ h=>h) (.inl ⟨by rfl,fun W hW=>by go_simp⟩) hH ?_
    simp only [Act.put,pS1,pS2,pS3];refine RegD.O_ 9 rfl (by kernel_rfl) ?_; intro K hK; go_simp
    go_at_call 57
    refine (hit _ hH.1.libs.base).mono ?_;rintro e8 w8 ⟨rfl,hb8⟩;go_wp2_with fail
    have hS9:DS w0 gs gd A n c l false sv lg st (.slice ba st.fams.length ca) w8∧BoxS w.heap.size w8 gS gs st' (.slice b7 st'.fams.length c7):=⟨hH.1.on hb8,hH.2.on hb8⟩;refine hK.out _ _ hS9 ?_;clear hK hH;intro hH;clear hS9 K hb8;refine RegD.O_ 11 rfl (by kernel_rfl) ?_; intro K hK; go_simp
    have hS11:DS w0 gs gd A n c l false sv lg st (.slice ba st.fams.length ca) (w8.alloc (.cells #[.string ⟨(Lib.itoa (sv:Nat)).toArray⟩,.string LN] 9))∧BoxS w.heap.size (w8.alloc (.cells #[.string ⟨(Lib.itoa (sv:Nat)).toArray⟩,.string LN] 9)) gS gs st' (.slice b7 st'.fams.length c7):=⟨hH.1.on ((Below.refl _ _).alloc (Nat.le_refl _) _),hH.2.on ((Below.refl _ _).alloc (Nat.le_refl _) _)⟩;refine hK.out _ _ hS11 ?_;clear hK hH;intro hH;clear hS11 K;have hwa:=wordsAt_new w8 [bs8 (Lib.itoa (sv:Nat)),LN] 9;have hwr:=writeS_off w0 gs gd A n c l false sv lg st (.slice ba st.fams.length ca) lg [bs8 (Lib.itoa (sv:Nat)),LN] w8.heap.size 2 _ hH.1 (by have:=HLG1.out; omega) hwa (by simp) (Nat.le_refl _) (by rw [HJN.out]; have:=HLEN1.out; omega) HO.out
    refine RegD.L_ 12 rfl (by kernel_rfl) (by kernel_rfl) ?_; intro K hK; go_simp
    go_at_call 56
    refine hwr.mono ?_;rintro e9 w9 ⟨rfl,hds⟩;have H9:Hid _:=hds;clear hds hwr hH hwa;go_wp2_with fail
    refine hK.out _ _ ?_;clear hK K;refine RegD.L_ 13 rfl (by kernel_rfl) (by kernel_rfl) ?_; intro K hK; go_simp
    refine hK.out _ _ ?_;clear hK K;refine RegD.D_ (by kernel_rfl) ?_ _
    go_wp2_with fail
    go_ret;have HEQ:Hid (addP ⟨st,lg,n,c,l,false⟩ ⟨kk,⟨f1,f2,f3,f4,f5,f6,f7,f8,f9⟩,ei,et⟩ true=(downP ⟨st,lg,n,c,l,false⟩,14)):=HADD.out.trans (put_off ⟨st,lg,n,c,l,false⟩ _ (show offP ⟨st,lg,n,c,l,false⟩=true from HO.out))
    refine ⟨by rw [HEQ.out]; rfl,?_⟩
    rw [HEQ.out];exact ⟨A,sv,b,es,_,HINV0.out,HLE.out,H9.out,.inl rfl⟩
   |false=>
    have HO:Hid (offB c l=false):=ho;clear ho;have hS0:DS w0 gs gd A n c l false sv lg st (.slice ba st.fams.length ca) wc.drew∧BoxS w.heap.size wc.drew gS gs st' (.slice b7 st'.fams.length c7):=⟨H5.out.on (Below.refl _ _).drew,HB5.out.on (Below.refl _ _).drew⟩;refine RegD.R_ (fun w'=>DS w0 gs gd A n c l false sv lg st (.slice ba st.fams.length ca) w'∧BoxS w.heap.size w' gS gs st' (.slice b7 st'.fams.length c7)) 12 (by kernel_rfl) hS0 (fun hH=>?_)
    clear hS0;refine RegD.T_ 0 (v:=.pointer (some ⟨gs,0,none⟩)) rfl (by kernel_rfl) (fun _ _ _ h=>h) (.inl ⟨by rfl,fun W hW=>by go_simp⟩) hH ?_
    simp only [Act.put,pS1,pS2,pS3];refine RegD.T_ 1 (v:=.pointer (some ⟨gs,0,none⟩)) rfl (by kernel_rfl) (fun _ _ _ h=>h) (.inl ⟨by rfl,fun W hW=>by go_simp⟩) hH ?_
    simp only [Act.put,pS1,pS2,pS3];refine RegD.T_ 2 (v:=.pointer (some ⟨gs,0,none⟩)) rfl (by kernel_rfl) (fun _ _ _ h=>h) (.inl ⟨by rfl,fun W hW=>by go_simp⟩) hH ?_
    simp only [Act.put,pS1,pS2,pS3];refine RegD.T_ 3 (v:=.pointer (some ⟨gs,3,none⟩)) rfl (by kernel_rfl) (fun _ _ _ h=>h) (.inl ⟨by rfl,fun W hW=>by go_simp⟩) hH ?_
    simp only [Act.put,pS1,pS2,pS3];refine RegD.T_ 4 (v:=.int .i64 (lg:Nat)) rfl (by kernel_rfl) (fun _ _ _ h=>h) (.inl ⟨by rfl,fun W hW=>by have a0:=hW.1.store.p3; go_simp⟩) hH ?_
    simp only [Act.put,pS1,pS2,pS3];refine RegD.T_ 5 (v:=.pointer (some ⟨gs,0,none⟩)) rfl (by kernel_rfl) (fun _ _ _ h=>h) (.inl ⟨by rfl,fun W hW=>by go_simp⟩) hH ?_
    simp only [Act.put,pS1,pS2,pS3];refine RegD.T_ 6 (v:=.pointer (some ⟨gs,0,none⟩)) rfl (by kernel_rfl) (fun _ _ _ h=>h) (.inl ⟨by rfl,fun W hW=>by go_simp⟩) hH ?_
    simp only [Act.put,pS1,pS2,pS3];refine RegD.T_ 7 (v:=.pointer (some ⟨gs,2,none⟩)) rfl (by kernel_rfl) (fun _ _ _ h=>h) (.inl ⟨by rfl,fun W hW=>by go_simp⟩) hH ?_
    simp only [Act.put,pS1,pS2,pS3];refine RegD.T_ 8 (v:=.int .i64 sv) rfl (by kernel_rfl) (fun _ _ _ h=>h) (.inl ⟨by rfl,fun W hW=>by have a0:=hW.1.store.p2; go_simp⟩) hH ?_
    simp only [Act.put,pS1,pS2,pS3];refine RegD.T_ 10 (v:=.string LN) rfl (by kernel_rfl) (fun _ _ _ h=>h) (.inl ⟨by rfl,fun W hW=>by go_simp⟩) hH ?_
    simp only [Act.put,pS1,pS2,pS3];refine RegD.O_ 9 rfl (by kernel_rfl) ?_; intro K hK; go_simp
    go_at_call 57
    refine (hit _ hH.1.libs.base).mono ?_;rintro e8 w8 ⟨rfl,hb8⟩;go_wp2_with fail
    have hS9:DS w0 gs gd A n c l false sv lg st (.slice ba st.fams.length ca) w8∧BoxS w.heap.size w8 gS gs st' (.slice b7 st'.fams.length c7):=⟨hH.1.on hb8,hH.2.on hb8⟩;refine hK.out _ _ hS9 ?_;clear hK hH;intro hH;clear hS9 K hb8;refine RegD.O_ 11 rfl (by kernel_rfl) ?_; intro K hK; go_simp
    have hS11:DS w0 gs gd A n c l false sv lg st (.slice ba st.fams.length ca) (w8.alloc (.cells #[.string ⟨(Lib.itoa (sv:Nat)).toArray⟩,.string LN] 9))∧BoxS w.heap.size (w8.alloc (.cells #[.string ⟨(Lib.itoa (sv:Nat)).toArray⟩,.string LN] 9)) gS gs st' (.slice b7 st'.fams.length c7):=⟨hH.1.on ((Below.refl _ _).alloc (Nat.le_refl _) _),hH.2.on ((Below.refl _ _).alloc (Nat.le_refl _) _)⟩;refine hK.out _ _ hS11 ?_;clear hK hH;intro hH;clear hS11 K;have hwa:=wordsAt_new w8 [bs8 (Lib.itoa (sv:Nat)),LN] 9
    have hwr:=writeS_on (w8.alloc (.cells #[.string ⟨(Lib.itoa (sv:Nat)).toArray⟩,.string LN] 9)) gs gd A ⟨updN A.blk lg (some (sv,⟨kk,⟨f1,f2,f3,f4,f5,f6,f7,f8,f9⟩,ei,et⟩)),A.head⟩ n c l false sv lg st (.slice ba st.fams.length ca) lg [bs8 (Lib.itoa (sv:Nat)),LN] w8.heap.size 2 _ hH.1.rebase (by have:=HLG1.out; omega) hwa (by simp) (Nat.le_refl _) (by rw [HJN.out]; have:=HLEN1.out; omega) HO.out HL1.out HN1.out (fun F F' hF h1 h2=>by rw [HJN.out] at h1; exact enc_blk hF _ ⟨by have:=HLG1.out; omega,by have:=HLG1.out; omega⟩ sv ⟨kk,⟨f1,f2,f3,f4,f5,f6,f7,f8,f9⟩,ei,et⟩ h1 h2)
    refine RegD.L_ 12 rfl (by kernel_rfl) (by kernel_rfl) ?_; intro K hK; go_simp
    go_at_call 56
    refine hwr.mono ?_;rintro e9 w9 ⟨rfl,hds⟩;have HB9:Hid _:=hH.2.keep hds.keep hH.1.ord;have H9:Hid _:=hds.since hH.1.keep hH.1.was;clear hds hwr hH hwa;go_wp2_with fail
    refine hK.out _ _ ?_;clear hK K;refine RegD.L_ 13 rfl (by kernel_rfl) (by kernel_rfl) ?_; intro K hK; go_simp
    refine hK.out _ _ ?_;clear hK K;refine RegD.D_ (by kernel_rfl) ?_ _
    have c0:=HB9.out.c0;have c1:=HB9.out.c1;have c2:=HB9.out.c2;have p3:=H9.out.store.p3;have p4:=H9.out.store.p4;have p5:=H9.out.store.p5;have p6:=H9.out.store.p6;have pf:=H9.out.store.pf;have HP1:Hid _:=H9.out.own (below3 gs 4 5 6 (.int .i64 st'.clock) (.int .i64 st'.next) (.slice b7 st'.fams.length c7) _) (keep3 gs 4 5 6 _ _ _ _) (H9.out.store.putState HB9.out.fam);have HP2:Hid _:=HP1.out.own (below1 gs 3 (.int .i64 ((lg+1:Nat):Int)) _) (keep1 gs 3 _ _) (HP1.out.store.putLog (lg':=lg+1));have hlgI:((lg:Nat):Int)<16:=by have:=HLG1.out; omega
    have hcast:((lg+1:Nat):Int)=((lg:Nat):Int)+1:=by push_cast; rfl
    have HP3:=HP2.out;rw [hcast] at HP3;have HP4:Hid _:=HP3;clear HP3 HP2 HP1 hcast;go_wp2_with fail
    go_ret;have HEQ:Hid (addP ⟨st,lg,n,c,l,false⟩ ⟨kk,⟨f1,f2,f3,f4,f5,f6,f7,f8,f9⟩,ei,et⟩ true=(⟨st',lg+1,n+1,c,l - 1,false⟩,0)):=by show _=_; rw [HS9.out]; exact HADD.out.trans (put_on ⟨st,lg,n,c,l,false⟩ _ (show offP ⟨st,lg,n,c,l,false⟩=false from HO.out))
    refine ⟨by rw [HEQ.out]; rfl,?_⟩
    rw [HEQ.out];exact ⟨_,sv,b,(es ++ [⟨kk,⟨f1,f2,f3,f4,f5,f6,f7,f8,f9⟩,ei,et⟩]),_,(by have h:=HINV1.out; rw [← HS9.out] at h; exact h),HLE.out,HP4.out,.inr ((((HB9.out.fresh.other (a:=⟨gs,4,none⟩) HWS.out _).other (a:=⟨gs,5,none⟩) HWS.out _).other (a:=⟨gs,6,none⟩) HWS.out _).other (a:=⟨gs,3,none⟩) HWS.out _)⟩
end Go.Proofs.YtlailakofhenkabGreatDoor
