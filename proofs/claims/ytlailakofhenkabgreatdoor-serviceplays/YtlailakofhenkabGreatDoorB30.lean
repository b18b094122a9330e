import Derived.Test.YtlailakofhenkabGreatDoorB29
set_option maxRecDepth 100000
set_option maxHeartbeats 16000000
namespace Go.Proofs.YtlailakofhenkabGreatDoor
open Go Go.RowKit Tok Sc Ev
theorem BoxS.keepR {B:Nat} {w w':World} {g gs:Nat} {st:St} {v:Value} (h:BoxS B w g gs st v) (hk:Keep [gs] w w'):BoxS B w' g gs st v:=by
 have hn:=h.new;have hp:=h.past;have hnn:g∉ [gs]:=by simp; omega
 have hc:∀ i,w'.cell? ⟨g,i,none⟩=w.cell? ⟨g,i,none⟩:=fun i=>hk.cell (p:=⟨g,i,none⟩) h.lt hnn;exact ⟨(hc 0).trans h.c0,(hc 1).trans h.c1,(hc 2).trans h.c2,hk.rows h.fam (fun x hx=>by simp at hx; omega),Nat.lt_of_lt_of_le h.lt hk.size,hn,hk.rows h.fresh (fun x hx=>by simp at hx; omega),hp⟩
theorem RefAt.putLogState {w:World} {g:Nat} {p:Pub} {v v':Value} {st':St} (h:RefAt w g p v) (hf:Fams (g+1) w v' st'.fams):RefAt ((((w.setCell ⟨g,3,none⟩ (.int .i64 ((p.lg+1:Nat):Int))).setCell ⟨g,0,none⟩ (.int .i64 st'.clock)).setCell ⟨g,1,none⟩ (.int .i64 st'.next)).setCell ⟨g,2,none⟩ v') g ⟨st',p.lg+1,p.n,p.c,p.l,p.dn⟩ v':=by
 obtain ⟨l',h1,h2⟩:=h.c6;have s4:∀ {j:Nat} {x a b c d:Value},w.cell? ⟨g,j,none⟩=some x→3≠j→0≠j→1≠j→2≠j→((((w.setCell ⟨g,3,none⟩ a).setCell ⟨g,0,none⟩ b).setCell ⟨g,1,none⟩ c).setCell ⟨g,2,none⟩ d).cell? ⟨g,j,none⟩=some x:=fun hx n1 n2 n3 n4=>setO (setO (setO (setO hx n1) n2) n3) n4
 refine ⟨setO (setO (World.cell?_setCell_same _ _ _ (setO h.c0 (by decide))) (by decide)) (by decide),setO (World.cell?_setCell_same _ _ _ (setO (setO h.c1 (by decide)) (by decide))) (by decide),World.cell?_setCell_same _ _ _ (setO (setO (setO h.c2 (by decide)) (by decide)) (by decide)),setO (setO (setO (World.cell?_setCell_same _ _ _ h.c3) (by decide)) (by decide)) (by decide),s4 h.c4 (by decide) (by decide) (by decide) (by decide),s4 h.c5 (by decide) (by decide) (by decide) (by decide),⟨l',s4 h1 (by decide) (by decide) (by decide) (by decide),h2⟩,s4 h.c7 (by decide) (by decide) (by decide) (by decide),fun i=>by simp only [World.frozen?_setCell]; exact h.free i,?_,by simpa using h.lt⟩
 exact (((hf.other (a:=⟨g,3,none⟩) (Nat.lt_succ_self _) _).other (a:=⟨g,0,none⟩) (Nat.lt_succ_self _) _).other (a:=⟨g,1,none⟩) (Nat.lt_succ_self _) _).other (a:=⟨g,2,none⟩) (Nat.lt_succ_self _) _
theorem refAdd_down (w:World) (g:Nat) (p:Pub) (v:Value) (e:E) (hd:p.dn=true) (h:RefAt w g p v) :
 Calls Tryz.prog 86 #[.pointer (some ⟨g,0,none⟩),evV e] w fun r w'=>r=.returned (.int .i64 6)∧RefAt w' g p v∧Keep [g] w w':=by
 obtain ⟨kk,⟨f1,f2,f3,f4,f5,f6,f7,f8,f9⟩,ei,et⟩:=e;unfold evV evCs;simp only;have H1:Hid _:=h.on (w':=w.alloc (.cells #[.int .i64 kk,.int .i64 f1,.string f2,.string f3,.string f4,.int .i64 f5,.int .i64 f6,.int .i64 f7,.string f8,.bool f9,.int .i64 ei,.int .i64 et] 154)) ((Below.refl _ _).alloc (Nat.le_refl _) _);have HK:Hid (Keep [g] w (w.alloc (.cells #[.int .i64 kk,.int .i64 f1,.string f2,.string f3,.string f4,.int .i64 f5,.int .i64 f6,.int .i64 f7,.string f8,.bool f9,.int .i64 ei,.int .i64 et] 154))):=.of _ ((Below.refl _ _).alloc (Nat.le_refl _) _);have p7:=H1.out.c7;rw [hd] at p7;clear h hd;go_enter Tryz.func86,Tryz.ntmps86
 go_wp2_with fail
 go_ret;exact ⟨rfl,H1.out,HK.out⟩
theorem refAdd_up (w:World) (g:Nat) (st:St) (lg n:Nat) (c:Bool) (l:Int) (v:Value) (e:E) (m:Bool) (hm:m=true↔Ev.may e) (hs:Small 5000 e.fam) (h:RefAt w g ⟨st,lg,n,c,l,false⟩ v) (hn:n<99000) (hg:Ev.Good st) (hlg:lg≤16) (hl:c=true→0≤l∧l≤9223372036854775807) :
 Calls Tryz.prog 86 #[.pointer (some ⟨g,0,none⟩),evV e] w fun r w'=>r=.returned (.int .i64 ((addP ⟨st,lg,n,c,l,false⟩ e m).2:Nat))∧∃ v',RefAt w' g (addP ⟨st,lg,n,c,l,false⟩ e m).1 v'∧Keep [g] w w'∧(v'=v∨Fams w.heap.size w' v' (addP ⟨st,lg,n,c,l,false⟩ e m).1.st.fams):=by
 obtain ⟨ba,ca,rfl⟩:=RowsK.slice h.fam;have hma:=fun (W:World)=>refMay_is e m hm hs W;have HG:Hid (Ev.Good st):=hg;have HN:Hid (n<99000):=hn;have HLL:Hid (c=true→0≤l∧l≤9223372036854775807):=hl;have HLG:Hid (lg≤16):=hlg;have HWS:Hid (g<w.heap.size):=h.lt;have HAP:Hid (m=true→∀ (W:World),Fams (g+1) W (.slice ba st.fams.length ca) st.fams→Calls Tryz.prog 141 #[stV st.clock st.next (.slice ba st.fams.length ca),evV e] W fun r w'=>∃ v',r=.returned (stV (applyP st e).clock (applyP st e).next v')∧Fams W.heap.size w' v' (applyP st e).fams∧Below W.heap.size W w'):=fun hmt W hW=>refApply_is st e (hm.1 hmt) hW hg.ris (by have:=hg.len; omega)
 have hbx:=evAt_made w e 154 _ rfl;obtain ⟨kk,⟨f1,f2,f3,f4,f5,f6,f7,f8,f9⟩,ei,et⟩:=e;have HAPu:=HAP.out;unfold evV evCs stV at HAPu;unfold evV evCs at hma ⊢;simp only at hma hbx HAPu ⊢;have H1:Hid _:=h.on (w':=w.alloc (.cells #[.int .i64 kk,.int .i64 f1,.string f2,.string f3,.string f4,.int .i64 f5,.int .i64 f6,.int .i64 f7,.string f8,.bool f9,.int .i64 ei,.int .i64 et] 154)) ((Below.refl _ _).alloc (Nat.le_refl _) _);have HX1:Hid (EvAt (w.alloc (.cells #[.int .i64 kk,.int .i64 f1,.string f2,.string f3,.string f4,.int .i64 f5,.int .i64 f6,.int .i64 f7,.string f8,.bool f9,.int .i64 ei,.int .i64 et] 154)) w.heap.size ⟨kk,⟨f1,f2,f3,f4,f5,f6,f7,f8,f9⟩,ei,et⟩):=hbx
 have HB1:Hid (Below w.heap.size w (w.alloc (.cells #[.int .i64 kk,.int .i64 f1,.string f2,.string f3,.string f4,.int .i64 f5,.int .i64 f6,.int .i64 f7,.string f8,.bool f9,.int .i64 ei,.int .i64 et] 154))):=(Below.refl _ _).alloc (Nat.le_refl _) _;have p7:(w.alloc (.cells #[.int .i64 kk,.int .i64 f1,.string f2,.string f3,.string f4,.int .i64 f5,.int .i64 f6,.int .i64 f7,.string f8,.bool f9,.int .i64 ei,.int .i64 et] 154)).cell? ⟨g,7,none⟩=some (.bool false):=H1.out.c7;clear hbx h HAP hm hs hn hg hlg hl;have x0:=HX1.out.c0; have x1:=HX1.out.fam.c0; have x2:=HX1.out.fam.c1; have x3:=HX1.out.fam.c2; have x4:=HX1.out.fam.c3; have x5:=HX1.out.fam.c4; have x6:=HX1.out.fam.c5; have x7:=HX1.out.fam.c6; have x8:=HX1.out.fam.c7; have x9:=HX1.out.fam.c8; have x10:=HX1.out.c10; have x11:=HX1.out.c11
 simp only at x0 x1 x2 x3 x4 x5 x6 x7 x8 x9 x10 x11
 cases m with
 |false=>
  have HAD:Hid (addP ⟨st,lg,n,c,l,false⟩ ⟨kk,⟨f1,f2,f3,f4,f5,f6,f7,f8,f9⟩,ei,et⟩ false=(⟨st,lg,n,c,l,false⟩,1)):=by show _=_; unfold addP; simp
  clear HAPu;go_enter Tryz.func86,Tryz.ntmps86
  go_wp2_with fail
  refine (hma _).mono ?_;rintro e1 w1 ⟨rfl,hb1⟩;have H2:Hid _:=H1.out.on hb1;have HK:Hid (Keep [g] w w1):=.of _ (HB1.out.trans (hb1.mono HB1.out.size));clear hb1 hma p7 x0 x1 x2 x3 x4 x5 x6 x7 x8 x9 x10 x11;go_wp2_with fail
  go_ret;rw [HAD.out];exact ⟨rfl,_,H2.out,HK.out,.inl rfl⟩
 |true=>
  have HAP2:=HAPu rfl;clear HAPu;go_enter Tryz.func86,Tryz.ntmps86
  go_wp2_with fail
  refine (hma _).mono ?_;rintro e1 W4 ⟨rfl,hb1⟩;have H4:Hid _:=H1.out.on hb1;have HX4:Hid _:=HX1.out.on hb1;have HKW:Hid (Keep [g] w W4):=.of _ (HB1.out.trans (hb1.mono HB1.out.size));clear hb1 hma p7 x0 x1 x2 x3 x4 x5 x6 x7 x8 x9 x10 x11;obtain ⟨st',hst'⟩:∃ st',st'=applyP st ⟨kk,⟨f1,f2,f3,f4,f5,f6,f7,f8,f9⟩,ei,et⟩:=⟨_,rfl⟩;rw [← hst'] at HAP2;have HS9:Hid (st'=applyP st ⟨kk,⟨f1,f2,f3,f4,f5,f6,f7,f8,f9⟩,ei,et⟩):=hst';clear hst' H1 HX1 HB1;go_upto_region 5 with fail
  go_cut [5] from 14 to 20 (fun x wx=>∃ gS v',x=.pointer (some ⟨gS,0,none⟩)∧Hid (RefAt (wx) g ⟨st,lg,n,c,l,false⟩ (.slice ba st.fams.length ca)∧BoxS w.heap.size wx gS g st' v')∧Hid (Keep [g] w wx))
  case first=>
   have hS0:RefAt (W4.drew) g ⟨st,lg,n,c,l,false⟩ (.slice ba st.fams.length ca)∧EvAt W4.drew w.heap.size ⟨kk,⟨f1,f2,f3,f4,f5,f6,f7,f8,f9⟩,ei,et⟩:=⟨H4.out.on (Below.refl _ _).drew,HX4.out.on (Below.refl _ _).drew⟩;refine RegD.R_ (fun w'=>RefAt w' g ⟨st,lg,n,c,l,false⟩ (.slice ba st.fams.length ca)∧EvAt w' w.heap.size ⟨kk,⟨f1,f2,f3,f4,f5,f6,f7,f8,f9⟩,ei,et⟩) 7 (by kernel_rfl) hS0 (fun hH=>?_)
   clear hS0;refine RegD.T_ 0 (v:=.pointer (some ⟨g,0,none⟩)) rfl (by kernel_rfl) (fun _ _ _ h=>h) (.inl ⟨by rfl,fun W hW=>by go_simp⟩) hH ?_
   simp only [Act.put,pS1,pS2,pS3];refine RegD.T_ 1 (v:=.pointer (some ⟨g,0,none⟩)) rfl (by kernel_rfl) (fun _ _ _ h=>h) (.inl ⟨by rfl,fun W hW=>by go_simp⟩) hH ?_
   simp only [Act.put,pS1,pS2,pS3];refine RegD.T_ 2 (v:=.pointer (some ⟨g,0,none⟩)) rfl (by kernel_rfl) (fun _ _ _ h=>h) (.inl ⟨by rfl,fun W hW=>by go_simp⟩) hH ?_
   simp only [Act.put,pS1,pS2,pS3];refine RegD.T_ 3 (v:=(.agg #[.int .i64 st.clock,.int .i64 st.next,.slice ba st.fams.length ca])) rfl (by kernel_rfl) (fun _ _ _ h=>h) (.inl ⟨by rfl,fun W hW=>by have a4:W.cell? ⟨g,0,none⟩=some (.int .i64 st.clock):=hW.1.c0; have a5:W.cell? ⟨g,1,none⟩=some (.int .i64 st.next):=hW.1.c1; have a6:=hW.1.c2; go_simp⟩) hH ?_
   simp only [Act.put,pS1,pS2,pS3];refine RegD.T_ 4 (v:=(.agg #[.int .i64 kk,.int .i64 f1,.string f2,.string f3,.string f4,.int .i64 f5,.int .i64 f6,.int .i64 f7,.string f8,.bool f9,.int .i64 ei,.int .i64 et])) rfl (by kernel_rfl) (fun _ _ _ h=>h) (.inl ⟨by rfl,fun W hW=>by have k0:=hW.2.c0; have k1:=hW.2.fam.c0; have k2:=hW.2.fam.c1; have k3:=hW.2.fam.c2; have k4:=hW.2.fam.c3; have k5:=hW.2.fam.c4; have k6:=hW.2.fam.c5; have k7:=hW.2.fam.c6; have k8:=hW.2.fam.c7; have k9:=hW.2.fam.c8; have k10:=hW.2.c10; have k11:=hW.2.c11; simp only at k0 k1 k2 k3 k4 k5 k6 k7 k8 k9 k10 k11; go_simp⟩) hH ?_
   simp only [Act.put,pS1,pS2,pS3];refine wpAnyD_two 5 6 (oi:=?oi5x) (oj:=?oj6x) ?ha5 ?ha6 ?hr56 ?h5x ?h6x
   case ha5=>rfl
   case ha6=>rfl
   case hr56=>kernel_rfl
   case h5x=>
    intro K hK;go_simp;go_at_call 141
    refine (HAP2 _ hH.1.fam).mono ?_;rintro e7 w7 ⟨v7,rfl,hf7,hb7⟩;obtain ⟨b7,c7,rfl⟩:=RowsK.slice hf7;go_wp2_with fail
    have hS5:RefAt (w7) g ⟨st,lg,n,c,l,false⟩ (.slice ba st.fams.length ca)∧EvAt w7 w.heap.size ⟨kk,⟨f1,f2,f3,f4,f5,f6,f7,f8,f9⟩,ei,et⟩:=⟨hH.1.on hb7,hH.2.on hb7⟩;have hF7:Fams (g+1) w7 (.slice b7 st'.fams.length c7) st'.fams:=RowsK.mono hf7 hH.1.lt;have hG7:Fams w.heap.size w7 (.slice b7 st'.fams.length c7) st'.fams:=RowsK.mono hf7 (Nat.le_of_lt hH.2.lt);have hlt7:g<w7.heap.size:=Nat.lt_of_lt_of_le hH.1.lt hb7.size;refine hK.out _ _ hS5 ?_;clear hK hH;intro hH;clear hS5 K;have hD7:=hH.1;refine RegD.O_ 6 rfl (by kernel_rfl) ?_; intro K hK; go_simp
    have hS6:RefAt (w7.alloc (.cells #[.int .i64 0,.int .i64 0,.slice none 0 0] 36)) g ⟨st,lg,n,c,l,false⟩ (.slice ba st.fams.length ca)∧EvAt (w7.alloc (.cells #[.int .i64 0,.int .i64 0,.slice none 0 0] 36)) w.heap.size ⟨kk,⟨f1,f2,f3,f4,f5,f6,f7,f8,f9⟩,ei,et⟩:=⟨hH.1.on ((Below.refl _ _).alloc (Nat.le_refl _) _),hH.2.on ((Below.refl _ _).alloc (Nat.le_refl _) _)⟩;refine hK.out _ _ hS6 ?_;clear hK hH;intro hH;clear hS6 K
    have HFIN:Hid (RefAt (w7.alloc (.cells #[.int .i64 st'.clock,.int .i64 st'.next,.slice b7 st'.fams.length c7] 36)) g ⟨st,lg,n,c,l,false⟩ (.slice ba st.fams.length ca)∧BoxS w.heap.size (w7.alloc (.cells #[.int .i64 st'.clock,.int .i64 st'.next,.slice b7 st'.fams.length c7] 36)) w7.heap.size g st' (.slice b7 st'.fams.length c7)):=⟨hD7.on ((Below.refl _ _).alloc (Nat.le_refl _) _),⟨(World.cell?_alloc_at _ _ _ _ rfl).trans rfl,(World.cell?_alloc_at _ _ _ _ rfl).trans rfl,(World.cell?_alloc_at _ _ _ _ rfl).trans rfl,RowsK.below hF7 ((Below.refl _ _).alloc (Nat.le_refl _) _) (Nat.le_refl _),by simp,hlt7,RowsK.below hG7 ((Below.refl _ _).alloc (Nat.le_refl _) _) (Nat.le_refl _),HWS.out⟩⟩
    have HKF:Hid (Keep [g] w (w7.alloc (.cells #[.int .i64 st'.clock,.int .i64 st'.next,.slice b7 st'.fams.length c7] 36))):=HKW.out.trans (.of _ (((Below.refl _ _).drew.trans (hb7.mono (Nat.le_refl _))).alloc hb7.size _));clear hH hD7 hF7 hG7 hf7 hb7 hlt7;refine RegD.L_ 7 rfl (by kernel_rfl) (by kernel_rfl) ?_; intro K hK; go_simp
    refine hK.out _ _ ?_;clear hK K;refine RegD.D_ (by kernel_rfl) ?_ _
    go_wp2_with fail
    go_meet
    case rel=>exact ⟨_,_,rfl,HFIN,HKF⟩
   case h6x=>
    intro K hK;go_simp;have hS6:RefAt (W4.drew.alloc (.cells #[.int .i64 0,.int .i64 0,.slice none 0 0] 36)) g ⟨st,lg,n,c,l,false⟩ (.slice ba st.fams.length ca)∧EvAt (W4.drew.alloc (.cells #[.int .i64 0,.int .i64 0,.slice none 0 0] 36)) w.heap.size ⟨kk,⟨f1,f2,f3,f4,f5,f6,f7,f8,f9⟩,ei,et⟩:=⟨hH.1.on ((Below.refl _ _).alloc (Nat.le_refl _) _),hH.2.on ((Below.refl _ _).alloc (Nat.le_refl _) _)⟩;have hgs4:g<W4.heap.size:=hH.1.lt;refine hK.out _ _ hS6 ?_;clear hK hH;intro hH;clear hS6 K;refine RegD.O_ 5 rfl (by kernel_rfl) ?_; intro K hK; go_simp
    go_at_call 141
    refine (HAP2 _ hH.1.fam).mono ?_;rintro e7 w7 ⟨v7,rfl,hf7,hb7⟩;obtain ⟨b7,c7,rfl⟩:=RowsK.slice hf7;go_wp2_with fail
    have hS5:RefAt (w7) g ⟨st,lg,n,c,l,false⟩ (.slice ba st.fams.length ca)∧EvAt w7 w.heap.size ⟨kk,⟨f1,f2,f3,f4,f5,f6,f7,f8,f9⟩,ei,et⟩:=⟨hH.1.on hb7,hH.2.on hb7⟩;have hF7:Fams (g+1) w7 (.slice b7 st'.fams.length c7) st'.fams:=RowsK.mono hf7 hH.1.lt;have hG7:Fams w.heap.size w7 (.slice b7 st'.fams.length c7) st'.fams:=RowsK.mono hf7 (Nat.le_of_lt hH.2.lt);have hlt7:g<w7.heap.size:=Nat.lt_of_lt_of_le hH.1.lt hb7.size;refine hK.out _ _ hS5 ?_;clear hK hH;intro hH;clear hS5 K
    have hzz:∀ i,w7.cell? ⟨W4.heap.size,i,none⟩=(W4.drew.alloc (.cells #[.int .i64 0,.int .i64 0,.slice none 0 0] 36)).cell? ⟨W4.heap.size,i,none⟩∧w7.frozen? ⟨W4.heap.size,i,none⟩=false:=fun i=>⟨hb7.cell (p:=⟨W4.heap.size,i,none⟩) (by show W4.heap.size<(W4.drew.alloc (.cells #[.int .i64 0,.int .i64 0,.slice none 0 0] 36)).heap.size; simp),(hb7.frozen (p:=⟨W4.heap.size,i,none⟩) (by show W4.heap.size<(W4.drew.alloc (.cells #[.int .i64 0,.int .i64 0,.slice none 0 0] 36)).heap.size; simp)).trans (World.frozen?_alloc_at _ _ _ _ rfl)⟩
    have y0:=(hzz 0).1.trans ((World.cell?_alloc_at _ _ _ _ rfl).trans rfl);have y1:=(hzz 1).1.trans ((World.cell?_alloc_at _ _ _ _ rfl).trans rfl);have y2:=(hzz 2).1.trans ((World.cell?_alloc_at _ _ _ _ rfl).trans rfl);have yf:∀ i,w7.frozen? ⟨W4.heap.size,i,none⟩=false:=fun i=>(hzz i).2;have hlt8:W4.heap.size<w7.heap.size:=Nat.lt_of_lt_of_le (by show W4.heap.size<(W4.drew.alloc (.cells #[.int .i64 0,.int .i64 0,.slice none 0 0] 36)).heap.size; simp) hb7.size
    obtain ⟨q0,q1,q2⟩:=@three_set w7 W4.heap.size (.int .i64 st'.clock) (.int .i64 st'.next) (.slice b7 st'.fams.length c7) _ _ _ y0 y1 y2;have hbl:Below W4.heap.size W4 (((w7.setCell ⟨W4.heap.size,0,none⟩ (.int .i64 st'.clock)).setCell ⟨W4.heap.size,1,none⟩ (.int .i64 st'.next)).setCell ⟨W4.heap.size,2,none⟩ (.slice b7 st'.fams.length c7)):=((((Below.refl _ _).drew).alloc (Nat.le_refl _) _).trans (hb7.mono (by show W4.heap.size≤(W4.drew.alloc (.cells #[.int .i64 0,.int .i64 0,.slice none 0 0] 36)).heap.size; simp))).trans (below3 _ 0 1 2 _ _ _ _)
    have HFIN:Hid (RefAt ((((w7.setCell ⟨W4.heap.size,0,none⟩ (.int .i64 st'.clock)).setCell ⟨W4.heap.size,1,none⟩ (.int .i64 st'.next)).setCell ⟨W4.heap.size,2,none⟩ (.slice b7 st'.fams.length c7))) g ⟨st,lg,n,c,l,false⟩ (.slice ba st.fams.length ca)∧BoxS w.heap.size (((w7.setCell ⟨W4.heap.size,0,none⟩ (.int .i64 st'.clock)).setCell ⟨W4.heap.size,1,none⟩ (.int .i64 st'.next)).setCell ⟨W4.heap.size,2,none⟩ (.slice b7 st'.fams.length c7)) W4.heap.size g st' (.slice b7 st'.fams.length c7)):=by
     have hltB:W4.heap.size<(W4.drew.alloc (.cells #[.int .i64 0,.int .i64 0,.slice none 0 0] 36)).heap.size:=by show W4.heap.size<(W4.drew.alloc (.cells #[.int .i64 0,.int .i64 0,.slice none 0 0] 36)).heap.size; simp
     have hsz7:Fams (g+1) (((w7.setCell ⟨W4.heap.size,0,none⟩ (.int .i64 st'.clock)).setCell ⟨W4.heap.size,1,none⟩ (.int .i64 st'.next)).setCell ⟨W4.heap.size,2,none⟩ (.slice b7 st'.fams.length c7)) (.slice b7 st'.fams.length c7) st'.fams:=RowsK.mono (((hf7.other (a:=⟨W4.heap.size,0,none⟩) hltB _).other (a:=⟨W4.heap.size,1,none⟩) hltB _).other (a:=⟨W4.heap.size,2,none⟩) hltB _) (by show g+1≤(W4.alloc (.cells #[.int .i64 0,.int .i64 0,.slice none 0 0] 36)).heap.size; simp; omega)
     exact ⟨H4.out.on hbl,⟨q0,q1,q2,hsz7,by simpa using hlt8,hgs4,RowsK.mono (((hf7.other (a:=⟨W4.heap.size,0,none⟩) hltB _).other (a:=⟨W4.heap.size,1,none⟩) hltB _).other (a:=⟨W4.heap.size,2,none⟩) hltB _) (by have h9:=HX4.out.lt; show w.heap.size≤(W4.alloc (.cells #[.int .i64 0,.int .i64 0,.slice none 0 0] 36)).heap.size; simp; omega),HWS.out⟩⟩
    have HKF:Hid (Keep [g] w (((w7.setCell ⟨W4.heap.size,0,none⟩ (.int .i64 st'.clock)).setCell ⟨W4.heap.size,1,none⟩ (.int .i64 st'.next)).setCell ⟨W4.heap.size,2,none⟩ (.slice b7 st'.fams.length c7))):=HKW.out.trans (.of _ hbl);clear hH hF7 hG7 hf7 hb7 hlt7 hzz q0 q1 q2 hbl;refine RegD.L_ 7 rfl (by kernel_rfl) (by kernel_rfl) ?_; intro K hK; go_simp
    refine hK.out _ _ ?_;clear hK K;refine RegD.D_ (by kernel_rfl) ?_ _
    clear y0 y1 y2 yf;go_wp2_with fail
    go_meet
    case rel=>exact ⟨_,_,rfl,HFIN,HKF⟩
  case rest=>
   obtain ⟨gS,vS,rfl,HC9,HK9⟩:=hcut;have hfS:=HC9.out.2.fam;obtain ⟨b7,c7,rfl⟩:=RowsK.slice hfS;clear hfS;have c2:=HC9.out.2.c2;clear HX4 H4 HKW HAP2;by_cases h20:20<st'.fams.length
   ·have h20I:(20:Int)<(st'.fams.length:Int):=by omega
    have HADD:Hid (addP ⟨st,lg,n,c,l,false⟩ ⟨kk,⟨f1,f2,f3,f4,f5,f6,f7,f8,f9⟩,ei,et⟩ true=(⟨st,lg,n,c,l,false⟩,12)):=add_full _ _ rfl (by rw [← HS9.out]; exact h20)
    clear h20;go_wp2_with fail
    go_ret;rw [HADD.out];exact ⟨rfl,_,HC9.out.1,HK9.out,.inl rfl⟩
   have h20I:¬ (20:Int)<(st'.fams.length:Int):=by omega
   have p3:wc.cell? ⟨g,3,none⟩=some (.int .i64 lg):=HC9.out.1.c3;by_cases hlg:lg=16
   ·subst hlg
    have hsv:=refSave_is wc g ⟨st,16,n,c,l,false⟩ _ HC9.out.1 (by have:=HN.out; show n<99970; omega) HG.out.len HLL.out
    have HPO:Hid (PubOk n ⟨st,16,n,c,l,false⟩):=⟨HG.out,Nat.le_refl _,Nat.le_refl _,HLL.out⟩;have HNF:Hid (¬ 20<(applyP st ⟨kk,⟨f1,f2,f3,f4,f5,f6,f7,f8,f9⟩,ei,et⟩).fams.length):=by show ¬ _; rw [← HS9.out]; exact h20
    clear h20;by_cases h0:(saveP ⟨st,16,n,c,l,false⟩).2=0
    ·obtain ⟨n1,l1,hq,hn1,hl1⟩:=save_ok HPO.out rfl h0
     have HADD0:addP ⟨st,16,n,c,l,false⟩ ⟨kk,⟨f1,f2,f3,f4,f5,f6,f7,f8,f9⟩,ei,et⟩ true=putP1 (saveP ⟨st,16,n,c,l,false⟩).1 ⟨kk,⟨f1,f2,f3,f4,f5,f6,f7,f8,f9⟩,ei,et⟩:=add_save0 _ _ rfl HNF.out rfl h0;rw [hq,h0] at hsv;rw [hq] at HADD0;obtain ⟨lg1,hlg1⟩:∃ lg1:Nat,lg1=0:=⟨_,rfl⟩;simp only at hl1 hsv HADD0;rw [← hlg1] at HADD0;have HADD:Hid (addP ⟨st,16,n,c,l,false⟩ ⟨kk,⟨f1,f2,f3,f4,f5,f6,f7,f8,f9⟩,ei,et⟩ true=putP1 ⟨st,lg1,n1,c,l1,false⟩ ⟨kk,⟨f1,f2,f3,f4,f5,f6,f7,f8,f9⟩,ei,et⟩):=HADD0;have HLG1:Hid (lg1<16):=by show lg1<16; omega
     have HL1:Hid (c=true→0≤l1∧l1≤9223372036854775807):=hl1;have HN1:Hid (n1<99970):=by have:=HN.out; show n1<99970; omega
     have HZ:Hid (lg1=0):=hlg1;clear h0 hq hn1 hl1 hlg1 HADD0;go_wp2_with fail
     refine hsv.mono ?_;rintro e5 w5 ⟨rfl,h1,h2⟩;have H5:Hid (RefAt w5 g ⟨st,lg1,n1,c,l1,false⟩ (.slice ba st.fams.length ca)):=by show RefAt _ _ _ _; rw [HZ.out]; exact h1
     have HK5:Hid _:=HK9.out.trans h2;have HB5:Hid _:=HC9.out.2.keepR h2;clear h1 h2 hsv p3 c2;have hw:=refStoreWrite_is w5 g ⟨st,lg1,n1,c,l1,false⟩ _ H5.out (by have:=HN1.out; show n1<100000; omega) HL1.out
     cases ho:offP (⟨st,lg1,n1,c,l1,false⟩:Pub) with
     |true=>
      rw [step_off ho] at hw;have HEQ:Hid (addP ⟨st,16,n,c,l,false⟩ ⟨kk,⟨f1,f2,f3,f4,f5,f6,f7,f8,f9⟩,ei,et⟩ true=(downP ⟨st,lg1,n1,c,l1,false⟩,14)):=HADD.out.trans (put_off _ _ ho);clear ho;go_wp2_with fail
      refine hw.mono ?_;rintro e6 w6 ⟨rfl,h1,h2⟩;have H6:Hid _:=h1;have HK6:Hid _:=HK5.out.trans h2;clear h1 h2 hw;go_wp2_with fail
      go_ret;rw [HEQ.out];exact ⟨rfl,_,H6.out,HK6.out,.inl rfl⟩
     |false=>
      rw [step_on ho] at hw;have HEQ:Hid (addP ⟨st,16,n,c,l,false⟩ ⟨kk,⟨f1,f2,f3,f4,f5,f6,f7,f8,f9⟩,ei,et⟩ true=(⟨st',lg1+1,n1+1,c,l1 - 1,false⟩,0)):=by show _=_; rw [HS9.out]; exact HADD.out.trans (put_on _ _ ho)
      clear ho;go_wp2_with fail
      refine hw.mono ?_;rintro e6 w6 ⟨rfl,h1,h2⟩;have H6:Hid _:=h1;have HK6:Hid _:=HK5.out.trans h2;have HB6:Hid _:=HB5.out.keepR h2;clear h1 h2 hw;have c0:=HB6.out.c0;have c1:=HB6.out.c1;have c2:=HB6.out.c2;have d0:w6.cell? ⟨g,0,none⟩=some (.int .i64 st.clock):=H6.out.c0;have d1:w6.cell? ⟨g,1,none⟩=some (.int .i64 st.next):=H6.out.c1;have d2:=H6.out.c2;have d3:w6.cell? ⟨g,3,none⟩=some (.int .i64 (lg1:Nat)):=H6.out.c3;have fz:=H6.out.free;have hgs:=HB6.out.new;have hne:gS≠g:=by omega
      clear hgs;have HF:=H6.out.putLogState HB6.out.fam;have hcast:((lg1+1:Nat):Int)=((lg1:Nat):Int)+1:=by push_cast; rfl
      have HF2:RefAt ((((w6.setCell ⟨g,3,none⟩ (.int .i64 ((lg1+1:Nat):Int))).setCell ⟨g,0,none⟩ (.int .i64 st'.clock)).setCell ⟨g,1,none⟩ (.int .i64 st'.next)).setCell ⟨g,2,none⟩ (.slice b7 st'.fams.length c7)) g ⟨st',lg1+1,n1+1,c,l1 - 1,false⟩ (.slice b7 st'.fams.length c7):=HF;rw [hcast] at HF2;have HF3:Hid _:=HF2;have hlgI:((lg1:Nat):Int)<16:=by have:=HLG1.out; omega
      clear HF HF2 hcast;go_wp2_with fail
      go_ret;rw [HEQ.out];exact ⟨rfl,_,HF3.out,HK6.out.trans ((keepR g 3 _ _).trans (keep3 g 0 1 2 _ _ _ _)),.inr ((((HB6.out.fresh.other (a:=⟨g,3,none⟩) HWS.out _).other (a:=⟨g,0,none⟩) HWS.out _).other (a:=⟨g,1,none⟩) HWS.out _).other (a:=⟨g,2,none⟩) HWS.out _)⟩
    ·have HADD:Hid (addP ⟨st,16,n,c,l,false⟩ ⟨kk,⟨f1,f2,f3,f4,f5,f6,f7,f8,f9⟩,ei,et⟩ true=saveP ⟨st,16,n,c,l,false⟩):=add_saveE _ _ rfl HNF.out rfl h0
     obtain ⟨x,hx⟩:∃ x:Int,x=((saveP ⟨st,16,n,c,l,false⟩).2:Nat):=⟨_,rfl⟩;have hx0:x≠0:=by omega
     rw [← hx] at hsv;have HX:Hid (x=((saveP ⟨st,16,n,c,l,false⟩).2:Nat)):=hx;have hxb:(x == (0:Int))=false:=by simp [hx0]
     clear h0 hx;go_wp2_with fail
     refine hsv.mono ?_;rintro e5 w5 ⟨rfl,h1,h2⟩;have H5:Hid _:=h1;have HK5:Hid _:=HK9.out.trans h2;clear h1 h2 hsv p3 c2;go_wp2_with fail
     go_ret;rw [HADD.out,← HX.out];exact ⟨rfl,_,H5.out,HK5.out,.inl rfl⟩
   ·have hlgI0:((lg:Int) == 16)=false:=by rw [beq_eq_false_iff_ne]; omega
    have hlgN:¬ (lg:Int)=16:=by omega
    have HLG1:Hid (lg<16):=by have:=HLG.out; show lg<16; omega
    have HADD:Hid (addP ⟨st,lg,n,c,l,false⟩ ⟨kk,⟨f1,f2,f3,f4,f5,f6,f7,f8,f9⟩,ei,et⟩ true=putP1 ⟨st,lg,n,c,l,false⟩ ⟨kk,⟨f1,f2,f3,f4,f5,f6,f7,f8,f9⟩,ei,et⟩):=add_plain _ _ rfl (by rw [← HS9.out]; exact h20) hlg
    have HL1:Hid (c=true→0≤l∧l≤9223372036854775807):=HLL.out;have HN1:Hid (n<99970):=by have:=HN.out; show n<99970; omega
    have H5:Hid _:=HC9.out.1;have HB5:Hid _:=HC9.out.2;clear hlg h20;have hw:=refStoreWrite_is wc g ⟨st,lg,n,c,l,false⟩ _ H5.out (by have:=HN1.out; show n<100000; omega) HL1.out
    cases ho:offP (⟨st,lg,n,c,l,false⟩:Pub) with
    |true=>
     rw [step_off ho] at hw;have HEQ:Hid (addP ⟨st,lg,n,c,l,false⟩ ⟨kk,⟨f1,f2,f3,f4,f5,f6,f7,f8,f9⟩,ei,et⟩ true=(downP ⟨st,lg,n,c,l,false⟩,14)):=HADD.out.trans (put_off _ _ ho);clear ho;go_wp2_with fail
     refine hw.mono ?_;rintro e6 w6 ⟨rfl,h1,h2⟩;have H6:Hid _:=h1;have HK6:Hid _:=HK9.out.trans h2;clear h1 h2 hw;go_wp2_with fail
     go_ret;rw [HEQ.out];exact ⟨rfl,_,H6.out,HK6.out,.inl rfl⟩
    |false=>
     rw [step_on ho] at hw;have HEQ:Hid (addP ⟨st,lg,n,c,l,false⟩ ⟨kk,⟨f1,f2,f3,f4,f5,f6,f7,f8,f9⟩,ei,et⟩ true=(⟨st',lg+1,n+1,c,l - 1,false⟩,0)):=by show _=_; rw [HS9.out]; exact HADD.out.trans (put_on _ _ ho)
     clear ho;go_wp2_with fail
     refine hw.mono ?_;rintro e6 w6 ⟨rfl,h1,h2⟩;have H6:Hid _:=h1;have HK6:Hid _:=HK9.out.trans h2;have HB6:Hid _:=HB5.out.keepR h2;clear h1 h2 hw;have c0:=HB6.out.c0;have c1:=HB6.out.c1;have c2:=HB6.out.c2;have d0:w6.cell? ⟨g,0,none⟩=some (.int .i64 st.clock):=H6.out.c0;have d1:w6.cell? ⟨g,1,none⟩=some (.int .i64 st.next):=H6.out.c1;have d2:=H6.out.c2;have d3:w6.cell? ⟨g,3,none⟩=some (.int .i64 (lg:Nat)):=H6.out.c3;have fz:=H6.out.free;have hgs:=HB6.out.new;have hne:gS≠g:=by omega
     clear hgs;have HF:=H6.out.putLogState HB6.out.fam;have hcast:((lg+1:Nat):Int)=((lg:Nat):Int)+1:=by push_cast; rfl
     have HF2:RefAt ((((w6.setCell ⟨g,3,none⟩ (.int .i64 ((lg+1:Nat):Int))).setCell ⟨g,0,none⟩ (.int .i64 st'.clock)).setCell ⟨g,1,none⟩ (.int .i64 st'.next)).setCell ⟨g,2,none⟩ (.slice b7 st'.fams.length c7)) g ⟨st',lg+1,n+1,c,l - 1,false⟩ (.slice b7 st'.fams.length c7):=HF;rw [hcast] at HF2;have HF3:Hid _:=HF2;have hlgI:((lg:Nat):Int)<16:=by have:=HLG1.out; omega
     clear HF HF2 hcast;go_wp2_with fail
     go_ret;rw [HEQ.out];exact ⟨rfl,_,HF3.out,HK6.out.trans ((keepR g 3 _ _).trans (keep3 g 0 1 2 _ _ _ _)),.inr ((((HB6.out.fresh.other (a:=⟨g,3,none⟩) HWS.out _).other (a:=⟨g,0,none⟩) HWS.out _).other (a:=⟨g,1,none⟩) HWS.out _).other (a:=⟨g,2,none⟩) HWS.out _)⟩
structure Two (N:Nat) (w:World) (gs gd gr:Nat) (p q:Pub) (v vr:Value):Prop where
 prog:SP N w gs gd p v
 ok:PubOk N q
 doc:RefAt w gr q vr
 far:gd<gr
 ne:gr≠gs
 out:NotIn v gr
 outR:NotIn vr gs
theorem Two.on {N:Nat} {w w':World} {gs gd gr:Nat} {p q:Pub} {v vr:Value} (h:Two N w gs gd gr p q v vr) (hb:Below w.heap.size w w'):Two N w' gs gd gr p q v vr:=
 ⟨h.prog.on hb,h.ok,h.doc.on hb,h.far,h.ne,h.out,h.outR⟩
theorem Two.mono {N M:Nat} {w:World} {gs gd gr:Nat} {p q:Pub} {v vr:Value} (h:Two N w gs gd gr p q v vr) (hm:N≤M):Two M w gs gd gr p q v vr:=
 ⟨h.prog.mono hm,ok_mono h.ok hm,h.doc,h.far,h.ne,h.out,h.outR⟩
theorem RefAt.elsewhere {l:List Nat} {w w':World} {g:Nat} {p:Pub} {v:Value} (h:RefAt w g p v) (hk:Keep l w w') (hl:∀ x∈l,x≠g∧NotIn v x):RefAt w' g p v:=by
 have hn:g∉l:=fun hx=>(hl g hx).1 rfl;have hc:∀ i,w'.cell? ⟨g,i,none⟩=w.cell? ⟨g,i,none⟩:=fun i=>hk.cell (p:=⟨g,i,none⟩) h.lt hn;obtain ⟨l',h1,h2⟩:=h.c6;exact ⟨(hc 0).trans h.c0,(hc 1).trans h.c1,(hc 2).trans h.c2,(hc 3).trans h.c3,(hc 4).trans h.c4,(hc 5).trans h.c5,⟨l',(hc 6).trans h1,h2⟩,(hc 7).trans h.c7,fun i=>(hk.frozen (p:=⟨g,i,none⟩) h.lt hn).trans (h.free i),hk.rowsOut h.fam (fun x hx=>(hl x hx).2),Nat.lt_of_lt_of_le h.lt hk.size⟩
theorem Two.elsewhere {l:List Nat} {N:Nat} {w w':World} {gs gd gr:Nat} {p q:Pub} {v vr:Value} (h:Two N w gs gd gr p q v vr) (hk:Keep l w w') (hl:∀ x∈l,gd<x∧x≠gs∧x≠gr∧NotIn v x∧NotIn vr x):Two N w' gs gd gr p q v vr:=
 ⟨h.prog.elsewhere hk (fun x hx=>⟨(hl x hx).1,(hl x hx).2.1,(hl x hx).2.2.2.1⟩),h.ok,h.doc.elsewhere hk (fun x hx=>⟨(hl x hx).2.2.1,(hl x hx).2.2.2.2⟩),h.far,h.ne,h.out,h.outR⟩
theorem Two.docKeep {N M:Nat} {w w':World} {gs gd gr:Nat} {p q p':Pub} {v v' vr:Value} (h:Two N w gs gd gr p q v vr) (hm:N≤M) (hs:SP M w' gs gd p' v') (hk:Keep [gd,gs] w w') (ho:NotIn v' gr):Two M w' gs gd gr p' q v' vr:=by
 refine ⟨hs,ok_mono h.ok hm,h.doc.elsewhere hk (fun x hx=>?_),h.far,h.ne,ho,h.outR⟩;have hf:=h.far;have hne:=h.ne;simp only [List.mem_cons,List.not_mem_nil,or_false] at hx;rcases hx with rfl | rfl
 ·exact ⟨by omega,NotIn.above h.doc.fam (by omega)⟩
 ·exact ⟨fun e=>hne e.symm,h.outR⟩
theorem Two.progKeep {N:Nat} {w w':World} {gs gd gr:Nat} {p q q':Pub} {v vr vr':Value} (h:Two N w gs gd gr p q v vr) (hq:PubOk N q') (hd:RefAt w' gr q' vr') (hk:Keep [gr] w w') (ho:NotIn vr' gs):Two N w' gs gd gr p q' v vr':=by
 refine ⟨h.prog.elsewhere hk (fun x hx=>?_),hq,hd,h.far,h.ne,h.out,ho⟩;simp only [List.mem_cons,List.not_mem_nil,or_false] at hx;subst hx;exact ⟨h.far,h.ne,h.out⟩
theorem Two.left {N:Nat} {w:World} {gs gd gr:Nat} {p q:Pub} {v vr:Value} (h:Two N w gs gd gr p q v vr) (hc:p.c=false) (l2:Int):Two N w gs gd gr ⟨p.st,p.lg,p.n,p.c,l2,p.dn⟩ q v vr:=
 ⟨h.prog.left hc l2,h.ok,h.doc,h.far,h.ne,h.out,h.outR⟩
theorem twoSaveP (N:Nat) (w:World) (gs gd gr:Nat) (p q:Pub) (v vr:Value) (h:Two N w gs gd gr p q v vr) (hN:N<99000) :
 Calls Tryz.prog 16 #[.pointer (some ⟨gs,0,none⟩)] w fun r w'=>r=.returned (errQ (saveP p).2)∧Two (N+22) w' gs gd gr (saveP p).1 q v vr∧Keep [gd,gs] w w':=by
 refine (saveS_is N w gs gd p v h.prog hN).mono ?_;rintro r w' ⟨rfl,q1,q2⟩;exact ⟨rfl,h.docKeep (by omega) q1 q2 h.out,q2⟩
theorem twoCutP (N:Nat) (w:World) (gs gd gr:Nat) (p q:Pub) (v vr:Value) (k:Int) (hk:k≤9223372036854775807) (h:Two N w gs gd gr p q v vr) :
 Calls Tryz.prog 15 #[.pointer (some ⟨gd,0,none⟩),.int .i64 k] w fun r w'=>r=.returned (.tuple #[])∧Two N w' gs gd gr (cutP p k) q v vr∧Keep [gd,gs] w w':=by
 refine (cutS_is N w gs gd p v k hk h.prog).mono ?_;rintro r w' ⟨rfl,q1,q2⟩;have q3:=q2.mono (l':= [gd,gs]) (fun x hx=>by simp at hx; simp [hx])
 exact ⟨rfl,h.docKeep (Nat.le_refl _) q1 q3 h.out,q3⟩
theorem twoOpenP (N:Nat) (w:World) (gs gd gr:Nat) (p q:Pub) (v vr:Value) (h:Two N w gs gd gr p q v vr) (hN:N<99000) :
 Calls Tryz.prog 12 #[.pointer (some ⟨gd,0,none⟩)] w fun r w'=>∃ g2 v2,r=.returned (.tuple #[.pointer (some ⟨g2,0,none⟩),.nilIface])∧w.heap.size≤g2∧Two N w' g2 gd gr ⟨p.st,p.lg,p.n,p.c,p.l,false⟩ q v2 vr∧Two N w' gs gd gr p q v vr∧Below w.heap.size w w':=by
 refine (openS_is N w gd p h.prog.db hN).mono ?_;rintro r w' ⟨g2,v2,rfl,q1,q2,q3⟩;have hl:=h.doc.lt;exact ⟨g2,v2,rfl,q1,⟨q2,h.ok,h.doc.on q3,h.far,by omega,NotIn.above q2.fam (by omega),NotIn.past h.doc.fam q1⟩,h.on q3,q3⟩
theorem twoSaveR (N:Nat) (w:World) (gs gd gr:Nat) (p q:Pub) (v vr:Value) (h:Two N w gs gd gr p q v vr) (hN:N<99000) :
 Calls Tryz.prog 40 #[.pointer (some ⟨gr,0,none⟩)] w fun r w'=>r=.returned (.int .i64 ((saveP q).2:Nat))∧Two (N+22) w' gs gd gr p (saveP q).1 v vr∧Keep [gr] w w':=by
 refine (refSave_is w gr q vr h.doc (by have:=h.ok.few; omega) h.ok.good.len h.ok.left).mono ?_
 rintro r w' ⟨rfl,q1,q2⟩;exact ⟨rfl,(h.mono (show N≤N+22 by omega)).progKeep (ok_mono (ok_save h.ok) (by omega)) q1 q2 h.outR,q2⟩
theorem twoCutR (N:Nat) (w:World) (gs gd gr:Nat) (p q:Pub) (v vr:Value) (k:Int) (hk:k≤9223372036854775807) (h:Two N w gs gd gr p q v vr) :
 Calls Tryz.prog 41 #[.pointer (some ⟨gr,0,none⟩),.int .i64 k] w fun r w'=>r=.returned (.tuple #[])∧Two N w' gs gd gr p (cutP q k) v vr∧Keep [gr] w w':=by
 refine (refCut_is w gr q vr k h.doc).mono ?_;rintro r w' ⟨rfl,q1,q2⟩;exact ⟨rfl,h.progKeep (ok_cut h.ok k hk) q1 q2 h.outR,q2⟩
theorem twoOpenR (N:Nat) (w:World) (gs gd gr:Nat) (p q:Pub) (v vr:Value) (h:Two N w gs gd gr p q v vr) :
 Calls Tryz.prog 42 #[.pointer (some ⟨gr,0,none⟩)] w fun r w'=>r=.returned (.tuple #[])∧Two N w' gs gd gr p (openP q) v vr∧Keep [gr] w w':=by
 refine (refOpen_is w gr q vr h.doc).mono ?_;rintro r w' ⟨rfl,q1,q2⟩;exact ⟨rfl,h.progKeep (ok_open h.ok) q1 q2 h.outR,q2⟩
end Go.Proofs.YtlailakofhenkabGreatDoor
namespace Go.Proofs.YtlailakofhenkabGreatDoor.Tok
open Go.Lib
theorem parts_body {t:T} (h:may t):∃ x y z,parts 46 (body t)=x::itoa t.f::itoa t.g::y∧(t.k=1∧t.e=0∨t.k=2∧y=itoa t.e::z):=by
 obtain ⟨k,f,g,e⟩:=t;obtain ⟨hk,hf,hg⟩:=h;simp only at hk hf hg;rcases hk with ⟨rfl,rfl⟩ | ⟨rfl,he⟩
 ·refine ⟨[114],[],[],?_,.inl ⟨rfl,rfl⟩⟩
  show parts 46 ([114] ++ 46::(itoa f ++ 46::itoa g))=_
  rw [parts_at _ (by simp),parts_at _ (itoa_nodot hf.1),parts_no (itoa_nodot hg.1)]
 ·refine ⟨[97],[itoa e],[],?_,.inr ⟨rfl,rfl⟩⟩
  show parts 46 ([97] ++ 46::(itoa f ++ 46::(itoa g ++ 46::itoa e)))=_
  rw [parts_at _ (by simp),parts_at _ (itoa_nodot hf.1),parts_at _ (itoa_nodot hg.1),parts_no (itoa_nodot he.1)]
def Three (ws:List (List UInt8)) (k:Nat) (n0 n1 n2:Int):Prop:=
 ∀ j m,j<k→okN m→ws[j]?=some (itoa m)→(j=0→n0=m)∧(j=1→n1=m)∧(j=2→n2=m)
theorem three_body {ws:List (List UInt8)} {x a:List UInt8} {n0 n1 n2:Int} (hp:parts 46 a=x::ws) (h3:Three ws ws.length n0 n1 n2) {t:T} (h:may t) (hb:body t=a):t=⟨1,n0,n1,0⟩∨t=⟨2,n0,n1,n2⟩:=by
 obtain ⟨x',y,z,e,hk⟩:=parts_body h;rw [hb,hp] at e;injection e with e1 e2;subst e2;have f0:=(h3 0 t.f (by simp) h.2.1 rfl).1 rfl
 have f1:=(h3 1 t.g (by simp) h.2.2 rfl).2.1 rfl
 obtain ⟨k,f,g,e⟩:=t;simp only at f0 f1 hk;subst f0; subst f1;rcases hk with ⟨rfl,rfl⟩ | ⟨rfl,rfl⟩
 ·exact .inl rfl
 ·have hke:okN e:=by
   rcases h.1 with ⟨hh,_⟩ | ⟨_,hh⟩
   ·exact absurd hh (by simp)
   ·exact hh
  have f2:=(h3 2 e (by simp) hke rfl).2.2 rfl
  subst f2;exact .inr rfl
def hexs:List UInt8:= [48,49,50,51,52,53,54,55,56,57,97,98,99,100,101,102]
theorem hexs_fin:∀ n:Fin 256,decide (0≤indexByte hexs (UInt8.ofNat n.val))=isHexB (UInt8.ofNat n.val):=by decide +kernel
theorem hexs_is (c:UInt8):0≤indexByte hexs c↔isHex c:=by
 have h:=hexs_fin ⟨c.toNat,c.toNat_lt⟩;rw [show UInt8.ofNat c.toNat=c from UInt8.toNat_inj.1 (by simp)] at h
 rw [← isHexB_iff,← h,decide_eq_true_iff]
end Go.Proofs.YtlailakofhenkabGreatDoor.Tok
namespace Go.Proofs.YtlailakofhenkabGreatDoor
open Go.RowKit Tok
end Go.Proofs.YtlailakofhenkabGreatDoor
