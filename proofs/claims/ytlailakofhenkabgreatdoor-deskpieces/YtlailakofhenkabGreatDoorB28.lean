import Derived.Test.YtlailakofhenkabGreatDoorB27
set_option maxRecDepth 100000
set_option maxHeartbeats 8000000
namespace Go.Proofs.YtlailakofhenkabGreatDoor
open Go Go.RowKit Tok Sc Ev
theorem SvIs.beside {N:Nat} {w w':World} {gv gs gd gb:Nat} {r:Rul} {p:Pub} {v:Value} (h:SvIs N w gv gs gd r p v) (hk:Keep [gb] w w') (hg:gv<gb) (hn:NotIn v gb):SvIs N w' gv gs gd r p v:=by
 have h1:=h.sp.ord;have h2:=h.sp.lt;have h3:=h.ord;exact ⟨h.sp.elsewhere hk (fun x hx=>by simp at hx; subst hx; exact ⟨by omega,by omega,hn⟩),h.box.keep hk (by simp; omega),h.libs.belowO (hk.below (B:=gd) (by omega) (fun x hx=>by simp at hx; omega)) h.old,h.rul,h.ord,h.out,h.old⟩
theorem FB.gen {w:World} {g:Nat} {f:Fam} (h:FB w g f) (n:Int):FB (w.setCell ⟨g,4,none⟩ (.int .i64 n)) g ⟨f.id,f.client,f.subject,f.scope,n,f.made,f.used,f.request,f.dead⟩:=
 ⟨setO h.c0 (by decide),setO h.c1 (by decide),setO h.c2 (by decide),setO h.c3 (by decide),World.cell?_setCell_same _ _ _ h.c4,setO h.c5 (by decide),setO h.c6 (by decide),setO h.c7 (by decide),setO h.c8 (by decide),by simpa using h.lt,fun i=>by rw [World.frozen?_setCell]; exact h.fz i⟩
theorem FB.scope {w:World} {g:Nat} {f:Fam} (h:FB w g f) (s:ByteArray):FB (w.setCell ⟨g,3,none⟩ (.string s)) g ⟨f.id,f.client,f.subject,s,f.gen,f.made,f.used,f.request,f.dead⟩:=
 ⟨setO h.c0 (by decide),setO h.c1 (by decide),setO h.c2 (by decide),World.cell?_setCell_same _ _ _ h.c3,setO h.c4 (by decide),setO h.c5 (by decide),setO h.c6 (by decide),setO h.c7 (by decide),setO h.c8 (by decide),by simpa using h.lt,fun i=>by rw [World.frozen?_setCell]; exact h.fz i⟩
theorem FB.req {w:World} {g:Nat} {f:Fam} (h:FB w g f) (s:ByteArray):FB (w.setCell ⟨g,7,none⟩ (.string s)) g ⟨f.id,f.client,f.subject,f.scope,f.gen,f.made,f.used,s,f.dead⟩:=
 ⟨setO h.c0 (by decide),setO h.c1 (by decide),setO h.c2 (by decide),setO h.c3 (by decide),setO h.c4 (by decide),setO h.c5 (by decide),setO h.c6 (by decide),World.cell?_setCell_same _ _ _ h.c7,setO h.c8 (by decide),by simpa using h.lt,fun i=>by rw [World.frozen?_setCell]; exact h.fz i⟩
theorem FB.use {w:World} {g:Nat} {f:Fam} (h:FB w g f) (n:Int):FB (w.setCell ⟨g,6,none⟩ (.int .i64 n)) g ⟨f.id,f.client,f.subject,f.scope,f.gen,f.made,n,f.request,f.dead⟩:=
 ⟨setO h.c0 (by decide),setO h.c1 (by decide),setO h.c2 (by decide),setO h.c3 (by decide),setO h.c4 (by decide),setO h.c5 (by decide),World.cell?_setCell_same _ _ _ h.c6,setO h.c7 (by decide),setO h.c8 (by decide),by simpa using h.lt,fun i=>by rw [World.frozen?_setCell]; exact h.fz i⟩
theorem least_at (s:ByteArray) (l:List Word) (m:Nat) (ho:Sc.Out s.data.toList l m) (w:World) (hs:s.size≤5000) (hL:LenOk w):Calls Tryz.prog 71 #[.string s] w fun e w'=>e=.returned (.tuple #[.string ⟨(joined l).toArray⟩,errQ m])∧Below w.heap.size w w':=by
 refine (leastS_is s w hs hL).mono ?_;rintro e w' ⟨l',m',rfl,ho',hb⟩;obtain ⟨rfl,rfl⟩:=Sc.out_inj ho ho';exact ⟨rfl,hb⟩
theorem within_at (s t:ByteArray) (b:Bool) (n:Nat) (ho:WOut s.data.toList t.data.toList b n) (w:World) (hs:s.size≤5000) (ht:t.size≤5000) (hL:LenOk w):Calls Tryz.prog 132 #[.string s,.string t] w fun e w'=>e=.returned (.tuple #[.bool b,errQ n])∧Below w.heap.size w w':=by
 refine (withinS_is s t w hs ht hL).mono ?_;rintro e w' ⟨b',n',rfl,ho',hb⟩;obtain ⟨rfl,rfl⟩:=Sc.wout_inj ho ho';exact ⟨rfl,hb⟩
theorem lst_joined {s:List UInt8} {l:List Word} (h:Sc.Out s l 0):Lst (joined l):=⟨l,out_joined h,rfl⟩
theorem turn_is (N:Nat) (w:World) (gv gs gd:Nat) (r:Rul) (p:Pub) (v:Value) (f:Fam) (request sc:ByteArray) (l:List Word) (m:Nat) (b:Bool) (h:SvIs N w gv gs gd r p v) (hf:mayF f) (hr:nameB request.data.toList=true) (hsc:sc.size≤5000) (ho:Sc.Out sc.data.toList l m) (hw:m=0→WOut (joined l) f.scope.data.toList b 0) (hN:N<98000) :
 Calls Tryz.prog 76 #[.pointer (some ⟨gv,0,none⟩),famV f,.string request,.string sc] w fun e w'=>e=.returned (.tuple #[.string (turnM (txtB r) p f request ⟨(joined l).toArray⟩ m b).2.1,errQ (turnM (txtB r) p f request ⟨(joined l).toArray⟩ m b).2.2])∧∃ v',SPto N gs gd v w w' (turnM (txtB r) p f request ⟨(joined l).toArray⟩ m b).1 v':=by
 have hfs:f.scope.size≤5000:=(small_may hf).2.2.1;have HGB:Hid (gv<w.heap.size∧NotIn v w.heap.size):=⟨h.box.lt,NotIn.past h.sp.fam (Nat.le_refl _)⟩;have HB0:Hid (Below w.heap.size w (w.alloc (.cells #[.int .i64 f.id,.string f.client,.string f.subject,.string f.scope,.int .i64 f.gen,.int .i64 f.made,.int .i64 f.used,.string f.request,.bool f.dead] 40))):=(Below.refl _ _).alloc (Nat.le_refl _) _;have HS0:Hid (SvIs N (w.alloc (.cells #[.int .i64 f.id,.string f.client,.string f.subject,.string f.scope,.int .i64 f.gen,.int .i64 f.made,.int .i64 f.used,.string f.request,.bool f.dead] 40)) gv gs gd r p v):=h.on HB0.out;have HF0:Hid (FB (w.alloc (.cells #[.int .i64 f.id,.string f.client,.string f.subject,.string f.scope,.int .i64 f.gen,.int .i64 f.made,.int .i64 f.used,.string f.request,.bool f.dead] 40)) w.heap.size f):=FB.made w f _
 have HLE:Hid (∀ W:World,LenOk W→Calls Tryz.prog 71 #[.string sc] W fun e w'=>e=.returned (.tuple #[.string ⟨(joined l).toArray⟩,errQ m])∧Below W.heap.size W w'):=fun W hW=>least_at sc l m ho W hsc hW;have HJL:Hid (m=0→(⟨(joined l).toArray⟩:ByteArray).size≤5000):=fun hm=>by subst hm; rw [bsize]; have:=(out_len ho).2; omega
 have HWI:Hid (m=0→∀ W:World,LenOk W→Calls Tryz.prog 132 #[.string ⟨(joined l).toArray⟩,.string f.scope] W fun e w'=>e=.returned (.tuple #[.bool b,.nilIface])∧Below W.heap.size W w'):=fun hm W hW=>within_at ⟨(joined l).toArray⟩ f.scope b 0 (hw hm) W (HJL.out hm) hfs hW;have HMN:Hid (m=0→¬ 1099511627776≤f.gen→Ev.may (putE (nextF f request ⟨(joined l).toArray⟩ p.st.clock))):=fun hm hg=>by subst hm; exact may_next hf hg hr (lst_joined ho) h.sp.ok.good.clock
 have HGI:Hid (∀ (W:World),m=0→¬ 1099511627776≤f.gen→SvIs N W gv gs gd r p v→Calls Tryz.prog 72 #[.pointer (some ⟨gv,0,none⟩),famV (nextF f request ⟨(joined l).toArray⟩ p.st.clock)] W fun e w'=>e=.returned (.tuple #[.string (giveM (txtB r) p (nextF f request ⟨(joined l).toArray⟩ p.st.clock)).2.1,errQ (giveM (txtB r) p (nextF f request ⟨(joined l).toArray⟩ p.st.clock)).2.2])∧∃ v',SPto N gs gd v W w' (giveM (txtB r) p (nextF f request ⟨(joined l).toArray⟩ p.st.clock)).1 v'):=fun W hm hg hW=>give_is N W gv gs gd r p v _ hW (HMN.out hm hg) hN;have HG0:Hid (0≤f.gen):=hf.1.2.1.1;generalize (⟨(joined l).toArray⟩:ByteArray)=J at *;clear h hf hr ho hw hfs;unfold turnM
 cases m with
 |succ m=>
  rw [if_pos (by omega)]
  obtain ⟨f1,f2,f3,f4,f5,f6,f7,f8,f9⟩:=f;unfold famV famCs;simp only;go_enter Tryz.func76,Tryz.ntmps76
  go_wp2_with fail
  refine (HLE.out _ HS0.out.sp.libs.base.len).mono ?_;rintro e1 w1 ⟨rfl,hb1⟩;have HTO:Hid _:=SPto.same (N:=N) HS0.out.sp hb1;have HT2:Hid _:=HTO.out.pre HB0.out;clear hb1;rw [errQ_succ];go_wp2_with fail
  go_ret2;exact ⟨rfl,_,HT2.out⟩
 |zero=>
  rw [if_neg (by omega)]
  cases b with
  |false=>
   rw [if_pos rfl];obtain ⟨f1,f2,f3,f4,f5,f6,f7,f8,f9⟩:=f;unfold famV famCs;simp only;go_enter Tryz.func76,Tryz.ntmps76
   go_wp2_with fail
   refine (HLE.out _ HS0.out.sp.libs.base.len).mono ?_;rintro e1 w1 ⟨rfl,hb1⟩;have HF1:Hid _:=HF0.out.on hb1;have HS1:Hid _:=HS0.out.on hb1;have HB1:Hid (Below w.heap.size w w1):=HB0.out.trans (hb1.mono HB0.out.size);have y3:=HF1.out.c3;simp only at y3;rw [show errQ 0=.nilIface from rfl]
   clear hb1;go_wp2_with fail
   refine (HWI.out (by trivial) _ HS1.out.sp.libs.base.len).mono ?_
   rintro e2 w2 ⟨rfl,hb2⟩;have HT2:Hid _:=(SPto.same (N:=N) HS1.out.sp hb2).pre HB1.out;clear hb2;go_wp2_with fail
   go_ret2;exact ⟨rfl,_,HT2.out⟩
  |true=>
   rw [if_neg (by simp)]
   by_cases hg:1099511627776≤f.gen
   ·rw [if_pos hg]
    obtain ⟨f1,f2,f3,f4,f5,f6,f7,f8,f9⟩:=f;unfold famV famCs;simp only at hg ⊢;go_enter Tryz.func76,Tryz.ntmps76
    go_wp2_with fail
    refine (HLE.out _ HS0.out.sp.libs.base.len).mono ?_;rintro e1 w1 ⟨rfl,hb1⟩;have HF1:Hid _:=HF0.out.on hb1;have HS1:Hid _:=HS0.out.on hb1;have HB1:Hid (Below w.heap.size w w1):=HB0.out.trans (hb1.mono HB0.out.size);have y3:=HF1.out.c3;simp only at y3;rw [show errQ 0=.nilIface from rfl]
    clear hb1;go_wp2_with fail
    refine (HWI.out (by trivial) _ HS1.out.sp.libs.base.len).mono ?_
    rintro e2 w2 ⟨rfl,hb2⟩;have HT2:Hid _:=(SPto.same (N:=N) HS1.out.sp hb2).pre HB1.out;have y4:=(HF1.out.on hb2).c4;simp only at y4;clear hb2 y3;go_wp2_with fail
    go_ret2;exact ⟨rfl,_,HT2.out⟩
   ·rw [if_neg hg]
    have hgi:=fun W=>HGI.out W (by trivial) hg
    have HGI2:Hid _:=hgi;generalize giveM (txtB r) p (nextF f request J p.st.clock)=Q at *;clear hgi HGI HMN;obtain ⟨f1,f2,f3,f4,f5,f6,f7,f8,f9⟩:=f;have HG1:Hid (0≤f5∧f5<1099511627776):=⟨HG0.out,by simp only at hg; omega⟩
    have hg1:0≤f5:=HG1.out.1;have hg2:f5<1099511627776:=HG1.out.2;have HGI3:=HGI2.out;unfold nextF famV famCs at HGI3;unfold famV famCs;simp only at hg HGI3 ⊢;have HGI4:Hid _:=HGI3;clear HGI3 HGI2;go_enter Tryz.func76,Tryz.ntmps76
    go_wp2_with fail
    refine (HLE.out _ HS0.out.sp.libs.base.len).mono ?_;rintro e1 w1 ⟨rfl,hb1⟩;have HF1:Hid _:=HF0.out.on hb1;have HS1:Hid _:=HS0.out.on hb1;have HB1:Hid (Below w.heap.size w w1):=HB0.out.trans (hb1.mono HB0.out.size);have y3:=HF1.out.c3;simp only at y3;rw [show errQ 0=.nilIface from rfl]
    clear hb1;go_wp2_with fail
    refine (HWI.out (by trivial) _ HS1.out.sp.libs.base.len).mono ?_
    rintro e2 w2 ⟨rfl,hb2⟩;have HF2:Hid _:=HF1.out.on hb2;have HS2:Hid _:=HS1.out.on hb2;have HB2:Hid (Below w.heap.size w w2):=HB1.out.trans (hb2.mono HB1.out.size);have HF3:Hid _:=HF2.out.gen (f5+1);have HS3:Hid _:=HS2.out.beside (keep1 w.heap.size 4 (.int .i64 (f5+1)) w2) HGB.out.1 HGB.out.2;have HB3:Hid (Below w.heap.size w (w2.setCell ⟨w.heap.size,4,none⟩ (.int .i64 (f5+1)))):=HB2.out.setCell (p:=⟨w.heap.size,4,none⟩) (Nat.le_refl _) _;have y4:=HF2.out.c4;have yf:=HF2.out.fz;simp only at y4;clear hb2 y3 HF1 HS1 HB1;go_wp2_with fail
    refine (svState_is N _ gv gs gd r p v HS3.out).mono ?_;rintro e3 w3 ⟨v3,rfl,hf3,hb3⟩;obtain ⟨b3,c3,rfl⟩:=RowsK.slice hf3;have hfd:∀ W:World,(Instr.field 36 (.agg #[.int .i64 p.st.clock,.int .i64 p.st.next,.slice b3 p.st.fams.length c3]) 0).run Tryz.prog W=.ok (.int .i64 p.st.clock) W:=fun _=>by kernel_rfl
    have HF4:Hid _:=HF3.out.on hb3;have HS4:Hid _:=HS3.out.on hb3;have HB4:Hid (Below w.heap.size w w3):=HB3.out.trans (hb3.mono HB3.out.size);have HK5:Hid (Keep [w.heap.size] w3 (((w3.setCell ⟨w.heap.size,3,none⟩ (.string J)).setCell ⟨w.heap.size,7,none⟩ (.string request)).setCell ⟨w.heap.size,6,none⟩ (.int .i64 p.st.clock))):=((keep1 w.heap.size 3 _ w3).trans (keep1 w.heap.size 7 _ _)).trans (keep1 w.heap.size 6 _ _);have HF5:Hid _:=((HF4.out.scope J).req request).use p.st.clock;have HS5:Hid _:=HS4.out.beside HK5.out HGB.out.1 HGB.out.2;have HB5:Hid (Below w.heap.size w (((w3.setCell ⟨w.heap.size,3,none⟩ (.string J)).setCell ⟨w.heap.size,7,none⟩ (.string request)).setCell ⟨w.heap.size,6,none⟩ (.int .i64 p.st.clock))):=HB4.out.trans (below3 w.heap.size 3 7 6 _ _ _ _);have s3:=HF4.out.c3;have s6:=HF4.out.c6;have s7:=HF4.out.c7
    have sf:=HF4.out.fz;simp only at s3 s6 s7;clear hb3 hf3 y4 yf HF2 HS2 HB2 HF3 HS3 HB3;unfold stV;go_upto_region 13 with fail
    have z0:=HF5.out.c0; have z1:=HF5.out.c1; have z2:=HF5.out.c2; have z3:=HF5.out.c3; have z4:=HF5.out.c4; have z5:=HF5.out.c5; have z6:=HF5.out.c6; have z7:=HF5.out.c7; have z8:=HF5.out.c8;simp only at z0 z1 z2 z3 z4 z5 z6 z7 z8;clear s3 s6 s7 sf hfd HF4 HS4 HB4 HF5;generalize hWW:World.setCell _ ⟨w.heap.size,6,none⟩ _=WW at *;have hS5:=HS5.out;have hB5:=HB5.out;have hgi:=HGI4.out WW hS5;have HB6:Hid (Below w.heap.size w WW):=hB5;clear hWW HS5 HB5 HK5 hS5 hB5;go_wp2_with fail
    refine hgi.mono ?_;rintro e7 w7 ⟨rfl,v7,hto⟩;have HTO:Hid _:=hto.pre HB6.out;clear hto hgi z0 z1 z2 z3 z4 z5 z6 z7 z8;go_wp2_with fail
    go_ret2;exact ⟨rfl,_,HTO.out⟩
theorem tick_is (N:Nat) (w:World) (gv gs gd:Nat) (r:Rul) (p:Pub) (v:Value) (n:Int) (h:SvIs N w gv gs gd r p v) (hN:N<98000) :
 Calls Tryz.prog 37 #[.pointer (some ⟨gv,0,none⟩),.int .i64 n] w fun e w'=>e=.returned (errQ (tickM p n).2)∧∃ v',SPto N gs gd v w w' (tickM p n).1 v':=by
 have HS:Hid (SvIs N w gv gs gd r p v):=h;have HN:Hid (N<99000):=by show _<_; omega
 have HCK:Hid (okN p.st.clock):=h.sp.ok.good.clock;clear h;unfold tickM
 cases hb:okB n with
 |false=>
  rw [if_pos rfl];have HIB:Hid (∀ W:World,Calls Tryz.prog 64 #[.int .i64 n] W fun e w'=>e=.returned (.bool false)∧w'=W):=fun W=>by rw [← hb]; exact inB_is n W
  clear hb;go_enter Tryz.func37,Tryz.ntmps37
  go_wp2_with fail
  refine (HIB.out _).mono ?_;rintro e1 w1 ⟨rfl,hw⟩;obtain rfl:w=w1:=hw.symm;go_wp2_with fail
  go_ret;exact ⟨rfl,_,SPto.same HS.out.sp (Below.refl _ _)⟩
 |true=>
  rw [if_neg (by simp)]
  have HNN:Hid (okN n):=okB_iff.1 hb;have HIB:Hid (∀ W:World,Calls Tryz.prog 64 #[.int .i64 n] W fun e w'=>e=.returned (.bool true)∧w'=W):=fun W=>by rw [← hb]; exact inB_is n W
  clear hb;go_enter Tryz.func37,Tryz.ntmps37
  go_wp2_with fail
  refine (HIB.out _).mono ?_;rintro e1 w1 ⟨rfl,hw⟩;obtain rfl:w=w1:=hw.symm;go_upto_region 3 with fail
  refine RegD.R_ (fun W=>SvIs N W gv gs gd r p v) 10 (by kernel_rfl) (HS.out.on (Below.refl _ _).drew) (fun hH=>?_)
  refine RegD.T_ 0 (v:=.pointer (some ⟨gv,0,none⟩)) rfl (by kernel_rfl) (fun _ _ _ h=>h) (.inl ⟨by rfl,fun W hW=>by go_simp⟩) hH ?_
  simp only [Act.put,pS1,pS2,pS3];refine RegD.T_ 1 (v:=.pointer (some ⟨gv,0,none⟩)) rfl (by kernel_rfl) (fun _ _ _ h=>h) (.inl ⟨by rfl,fun W hW=>by go_simp⟩) hH ?_
  simp only [Act.put,pS1,pS2,pS3];refine RegD.T_ 2 (v:=.pointer (some ⟨gv,0,none⟩)) rfl (by kernel_rfl) (fun _ _ _ h=>h) (.inl ⟨by rfl,fun W hW=>by go_simp⟩) hH ?_
  simp only [Act.put,pS1,pS2,pS3];refine RegD.T_ 3 (v:=.pointer (some ⟨gs,0,none⟩)) rfl (by kernel_rfl) (fun _ _ _ h=>h) (.inl ⟨by rfl,fun W hW=>by have a0:=hW.box.c0; go_simp⟩) hH ?_
  simp only [Act.put,pS1,pS2,pS3];refine RegD.T_ 4 (v:=.pointer (some ⟨gv,0,none⟩)) rfl (by kernel_rfl) (fun _ _ _ h=>h) (.inl ⟨by rfl,fun W hW=>by go_simp⟩) hH ?_
  simp only [Act.put,pS1,pS2,pS3];refine RegD.T_ 7 (v:=.int .i64 n) rfl (by kernel_rfl) (fun _ _ _ h=>h) (.inl ⟨by rfl,fun W hW=>by go_simp⟩) hH ?_
  simp only [Act.put,pS1,pS2,pS3];refine RegD.O_ 5 rfl (by kernel_rfl) ?_; intro K hK; go_simp
  go_at_call 43
  refine (svState_is N _ gv gs gd r p v hH).mono ?_;rintro e1 w1 ⟨v1,rfl,hf1,hb1⟩;obtain ⟨b1,c1,rfl⟩:=RowsK.slice hf1;unfold stV;go_wp2_with fail
  have HB1:Hid (Below w.heap.size w w1):=(Below.refl _ _).drew.trans (hb1.mono (by simp))
  refine hK.out _ _ (hH.on hb1) ?_;clear hK hH;intro hH;clear K;clear hb1 hf1;have hfd:∀ W:World,(Instr.field 36 (.agg #[.int .i64 p.st.clock,.int .i64 p.st.next,.slice b1 p.st.fams.length c1]) 0).run Tryz.prog W=.ok (.int .i64 p.st.clock) W:=fun _=>by kernel_rfl
  refine RegD.T_ 6 (v:=.int .i64 p.st.clock) rfl (by kernel_rfl) (fun _ _ _ h=>h) (.inl ⟨by rfl,fun W hW=>by go_simp⟩) hH ?_
  simp only [Act.put,pS1,pS2,pS3];clear hfd;refine RegD.O_ 8 rfl (by kernel_rfl) ?_; intro K hK; go_simp
  go_at_call 82
  refine (later_is _ _ HCK.out HNN.out _).mono ?_;rintro e2 w2 ⟨rfl,rfl⟩;go_wp2_with fail
  refine hK.out _ _ (hH) ?_;clear hK hH;intro hH;clear K;refine RegD.T_ 9 (v:=.agg #[.int .i64 3,.int .i64 0,.string ⟨#[]⟩,.string ⟨#[]⟩,.string ⟨#[]⟩,.int .i64 0,.int .i64 0,.int .i64 0,.string ⟨#[]⟩,.bool false,.int .i64 0,.int .i64 (laterI p.st.clock n)]) rfl (by kernel_rfl) (fun _ _ _ h=>h) (.inl ⟨by rfl,fun W hW=>by go_simp⟩) hH ?_
  simp only [Act.put,pS1,pS2,pS3];have hadd:=addM_is N _ gs gd p v (clockE (laterI p.st.clock n)) (may_clock (later_ok HCK.out HNN.out)) hH.sp HN.out;have HADD:Hid _:=hadd;clear hadd hH;refine RegD.L_ 10 rfl (by kernel_rfl) (by kernel_rfl) ?_; intro K hK; go_simp
  go_at_call 17
  refine Calls.mono HADD.out ?_;rintro e3 w3 ⟨rfl,v3,hto⟩;have HTO:Hid _:=SPto.pre HB1.out hto;clear hto;go_wp2_with fail
  refine hK.out _ _ ?_;clear hK K;refine RegD.L_ 11 rfl (by kernel_rfl) (by kernel_rfl) ?_; intro K hK; go_simp
  refine hK.out _ _ ?_;clear hK K;refine RegD.D_ (by kernel_rfl) ?_ _
  go_wp2_with fail
  go_ret;exact ⟨rfl,_,HTO.out⟩
theorem kill_is (N:Nat) (w:World) (gv gs gd:Nat) (r:Rul) (p:Pub) (v:Value) (i:Int) (h:SvIs N w gv gs gd r p v) (hN:N<98000) :
 Calls Tryz.prog 35 #[.pointer (some ⟨gv,0,none⟩),.int .i64 i] w fun e w'=>e=.returned (errQ (killM p i).2)∧∃ v',SPto N gs gd v w w' (killM p i).1 v':=by
 have HS:Hid (SvIs N w gv gs gd r p v):=h;have HFM:Hid (∀ f,findF p.st.fams i=some f→mayF f):=fun f hf=>fam_may h.sp.ok.good hf;have HBU:Hid (∀ f,mayF f→∀ (W:World),SvIs N W gv gs gd r p v→Calls Tryz.prog 85 #[.pointer (some ⟨gv,0,none⟩),famV f] W fun e w'=>e=.returned (errQ (addP p (putE (deadF f)) true).2)∧∃ v',SPto N gs gd v W w' (addP p (putE (deadF f)) true).1 v'):=fun f hf W hW=>bury_is N W gv gs gd r p v f hW hf hN
 have HFI:Hid (∀ (W:World) (va:Value) (B:Nat),Fams W.heap.size W va p.st.fams∨True→Fams 0 (W.alloc (.cells #[.int .i64 i] 3)) va p.st.fams→B=W.heap.size→Calls Tryz.prog 83 #[va,.func (.func 139) #[] #[.pointer (some ⟨B,0,none⟩)]] (W.alloc (.cells #[.int .i64 i] 3)) fun e w'=>e=.returned (.tuple #[famV ((findF p.st.fams i).getD zeroF),.bool (findF p.st.fams i).isSome])∧Below (W.alloc (.cells #[.int .i64 i] 3)).heap.size (W.alloc (.cells #[.int .i64 i] 3)) w'):=fun W va B _ hf hB=>by
  subst hB;exact first_is p.st.fams va 139 #[.pointer (some ⟨W.heap.size,0,none⟩)] (isF i) _ hf (fun f hm=>(h.sp.ok.good.may f hm).1) (by have:=h.sp.ok.good.len; omega) (ofPred i W.heap.size _ (by simp) ((World.cell?_alloc_at _ _ _ _ rfl).trans rfl)) ofCalls
 clear h;unfold killM;generalize hff:findF p.st.fams i=ff at *;clear hff
 cases ff with
 |none=>
  go_enter Tryz.func35,Tryz.ntmps35
  go_wp2_with fail
  refine (svState_is N _ gv gs gd r p v HS.out).mono ?_;rintro e1 w1 ⟨v1,rfl,hf1,hb1⟩;obtain ⟨b1,c1,rfl⟩:=RowsK.slice hf1;have HB1:Hid (Below w.heap.size w w1):=hb1;have hfd:∀ W:World,(Instr.field 36 (.agg #[.int .i64 p.st.clock,.int .i64 p.st.next,.slice b1 p.st.fams.length c1]) 2).run Tryz.prog W=.ok (.slice b1 p.st.fams.length c1) W:=fun _=>by kernel_rfl
  have HFA:Hid (Fams 0 (w1.alloc (.cells #[.int .i64 i] 3)) (.slice b1 p.st.fams.length c1) p.st.fams):=(hf1.below ((Below.refl _ _).alloc (Nat.le_refl _) _) (Nat.le_refl _)).mono (Nat.zero_le _);unfold stV;clear hb1 hf1;go_wp2_with fail
  refine (of_is i _).mono ?_;rintro e2 w2 ⟨rfl,rfl⟩;go_wp2_with fail
  refine (HFI.out w1 _ _ (.inr trivial) HFA.out rfl).mono ?_;rintro e3 w3 ⟨rfl,hb3⟩;have HB3:Hid (Below w.heap.size w w3):=(HB1.out.alloc HB1.out.size _).trans (hb3.mono (HB1.out.alloc HB1.out.size _).size);unfold famV famCs;simp only [Option.getD_none,Option.isSome_none];clear hb3 hfd;go_wp2_with fail
  go_ret;exact ⟨rfl,_,SPto.same HS.out.sp (HB3.out.alloc HB3.out.size _)⟩
 |some f=>
  have hmf:=HFM.out f rfl;have hbu:=HBU.out f hmf;obtain ⟨f1,f2,f3,f4,f5,f6,f7,f8,f9⟩:=f;have HBU2:Hid _:=hbu;clear hbu HBU HFM hmf
  cases f9 with
  |true=>
   simp only [if_true];go_enter Tryz.func35,Tryz.ntmps35
   go_wp2_with fail
   refine (svState_is N _ gv gs gd r p v HS.out).mono ?_;rintro e1 w1 ⟨v1,rfl,hf1,hb1⟩;obtain ⟨b1,c1,rfl⟩:=RowsK.slice hf1;have HB1:Hid (Below w.heap.size w w1):=hb1;have hfd:∀ W:World,(Instr.field 36 (.agg #[.int .i64 p.st.clock,.int .i64 p.st.next,.slice b1 p.st.fams.length c1]) 2).run Tryz.prog W=.ok (.slice b1 p.st.fams.length c1) W:=fun _=>by kernel_rfl
   have HFA:Hid (Fams 0 (w1.alloc (.cells #[.int .i64 i] 3)) (.slice b1 p.st.fams.length c1) p.st.fams):=(hf1.below ((Below.refl _ _).alloc (Nat.le_refl _) _) (Nat.le_refl _)).mono (Nat.zero_le _);unfold stV;clear hb1 hf1;go_wp2_with fail
   refine (of_is i _).mono ?_;rintro e2 w2 ⟨rfl,rfl⟩;go_wp2_with fail
   refine (HFI.out w1 _ _ (.inr trivial) HFA.out rfl).mono ?_;rintro e3 w3 ⟨rfl,hb3⟩;have HB3:Hid (Below w.heap.size w w3):=(HB1.out.alloc HB1.out.size _).trans (hb3.mono (HB1.out.alloc HB1.out.size _).size);unfold famV famCs;simp only [Option.getD_some,Option.isSome_some];clear hb3 hfd;go_wp2_with fail
   go_ret;exact ⟨rfl,_,SPto.same HS.out.sp (HB3.out.alloc HB3.out.size _)⟩
  |false=>
   simp only [Bool.false_eq_true,if_false];have hbu2:=HBU2.out;unfold famV famCs at hbu2;simp only at hbu2;have HBU3:Hid _:=hbu2;clear hbu2 HBU2;go_enter Tryz.func35,Tryz.ntmps35
   go_wp2_with fail
   refine (svState_is N _ gv gs gd r p v HS.out).mono ?_;rintro e1 w1 ⟨v1,rfl,hf1,hb1⟩;obtain ⟨b1,c1,rfl⟩:=RowsK.slice hf1;have HB1:Hid (Below w.heap.size w w1):=hb1;have hfd:∀ W:World,(Instr.field 36 (.agg #[.int .i64 p.st.clock,.int .i64 p.st.next,.slice b1 p.st.fams.length c1]) 2).run Tryz.prog W=.ok (.slice b1 p.st.fams.length c1) W:=fun _=>by kernel_rfl
   have HFA:Hid (Fams 0 (w1.alloc (.cells #[.int .i64 i] 3)) (.slice b1 p.st.fams.length c1) p.st.fams):=(hf1.below ((Below.refl _ _).alloc (Nat.le_refl _) _) (Nat.le_refl _)).mono (Nat.zero_le _);unfold stV;clear hb1 hf1;go_wp2_with fail
   refine (of_is i _).mono ?_;rintro e2 w2 ⟨rfl,rfl⟩;go_wp2_with fail
   refine (HFI.out w1 _ _ (.inr trivial) HFA.out rfl).mono ?_;rintro e3 w3 ⟨rfl,hb3⟩;have HB3:Hid (Below w.heap.size w w3):=(HB1.out.alloc HB1.out.size _).trans (hb3.mono (HB1.out.alloc HB1.out.size _).size);have HB4:Hid (Below w.heap.size w (w3.alloc (.cells #[.int .i64 f1,.string f2,.string f3,.string f4,.int .i64 f5,.int .i64 f6,.int .i64 f7,.string f8,.bool false] 40))):=HB3.out.alloc HB3.out.size _;unfold famV famCs;simp only [Option.getD_some,Option.isSome_some];clear hb3 hfd;go_wp2_with fail
   refine (HBU3.out _ (HS.out.on HB4.out)).mono ?_;rintro e4 w4 ⟨rfl,v4,hto⟩;have HTO:Hid _:=hto.pre HB4.out;clear hto;go_wp2_with fail
   go_ret;exact ⟨rfl,_,HTO.out⟩
theorem overPred (gv gs b1 b4:Nat) (r:Rul) (now:Int) (w:World) (hA:SvAt w gv gs r) (hr:RulOk r) (h1:b1<w.heap.size) (h4:b4<w.heap.size) (c1:w.cell? ⟨b1,0,none⟩=some (.pointer (some ⟨gv,0,none⟩))) (c4:w.cell? ⟨b4,0,none⟩=some (.int .i64 now)) :
 PredF 88 #[.pointer (some ⟨b1,0,none⟩),.pointer (some ⟨b4,0,none⟩)] (overB r now) w:=fun W f hm hb=>by
 have d1:W.cell? ⟨b1,0,none⟩=some (.pointer (some ⟨gv,0,none⟩)):=(hb.cell (p:=⟨b1,0,none⟩) h1).trans c1;have d4:W.cell? ⟨b4,0,none⟩=some (.int .i64 now):=(hb.cell (p:=⟨b4,0,none⟩) h4).trans c4;have hb1:b1<W.heap.size:=Nat.lt_of_lt_of_le h1 hb.size;have hb4:b4<W.heap.size:=Nat.lt_of_lt_of_le h4 hb.size;have HA:Hid (SvAt W gv gs r):=hA.on hb;have HO:Hid (∀ W':World,SvAt W' gv gs r→Calls Tryz.prog 89 #[.pointer (some ⟨gv,0,none⟩),famV f,.int .i64 now] W' fun e w'=>e=.returned (.bool (oldF r now f))∧Below W'.heap.size W' w'):=fun W' hW=>old_is W' gv gs r f now hW hr hm;clear hA hr c1 c4 hb hm;have ho:=HO.out;unfold overB;obtain ⟨f1,f2,f3,f4,f5,f6,f7,f8,f9⟩:=f
 have HB0:Hid (Below W.heap.size W (W.alloc (.cells #[.int .i64 f1,.string f2,.string f3,.string f4,.int .i64 f5,.int .i64 f6,.int .i64 f7,.string f8,.bool f9] 40))):=(Below.refl _ _).alloc (Nat.le_refl _) _;unfold famV famCs at ho;simp only at ho;have HO2:Hid _:=ho;clear ho HO;have n1:b1≠W.heap.size:=by omega
 have n4:b4≠W.heap.size:=by omega
 show Calls Tryz.prog 88 #[.agg #[.int .i64 f1,.string f2,.string f3,.string f4,.int .i64 f5,.int .i64 f6,.int .i64 f7,.string f8,.bool f9],.pointer (some ⟨b1,0,none⟩),.pointer (some ⟨b4,0,none⟩)] W _
 cases f9 with
 |true=>
  go_enter Tryz.func88,Tryz.ntmps88
  go_wp2_with fail
  go_ret;exact ⟨rfl,HB0.out⟩
 |false=>
  go_enter Tryz.func88,Tryz.ntmps88
  go_wp2_with fail
  refine (HO2.out _ (HA.out.on HB0.out)).mono ?_;rintro e1 w1 ⟨rfl,hb5⟩;have HB1:Hid (Below W.heap.size W w1):=HB0.out.trans (hb5.mono HB0.out.size);clear hb5;go_wp2_with fail
  go_ret;exact ⟨by simp,HB1.out⟩
theorem overCalls:∀ args w,(callFunc 88 args).run Tryz.prog w=.ok (.enter 88 args) w:=enters_of Tryz.func88 (by kernel_rfl) rfl
theorem sweep_is (N:Nat) (w:World) (gv gs gd:Nat) (r:Rul) (p:Pub) (v:Value) (h:SvIs N w gv gs gd r p v) (hN:N<98000) :
 Calls Tryz.prog 39 #[.pointer (some ⟨gv,0,none⟩)] w fun e w'=>e=.returned (.tuple #[.int .i64 (sweepM r p).2.1,errQ (sweepM r p).2.2])∧∃ v',SPto N gs gd v w w' (sweepM r p).1 v':=by
 have HB0:Hid (Below w.heap.size w (w.alloc (.cells #[.pointer (some ⟨gv,0,none⟩)] 56))):=(Below.refl _ _).alloc (Nat.le_refl _) _;have HS0:Hid (SvIs N (w.alloc (.cells #[.pointer (some ⟨gv,0,none⟩)] 56)) gv gs gd r p v):=h.on HB0.out;have c0:(w.alloc (.cells #[.pointer (some ⟨gv,0,none⟩)] 56)).cell? ⟨w.heap.size,0,none⟩=some (.pointer (some ⟨gv,0,none⟩)):=(World.cell?_alloc_at _ _ _ _ rfl).trans rfl;have HC0:Hid _:=c0;have HLT:Hid (w.heap.size<(w.alloc (.cells #[.pointer (some ⟨gv,0,none⟩)] 56)).heap.size):=by show _<_; simp
 have HFM:Hid (∀ f,p.st.fams.find? (overB r p.st.clock)=some f→okN f.id):=fun f hf=>(h.sp.ok.good.may f (List.mem_of_find?_eq_some hf)).1.1.1
 have HFI:Hid (∀ (W:World) (va:Value) (B4:Nat),SvIs N W gv gs gd r p v→Fams 0 W va p.st.fams→w.heap.size<W.heap.size→B4<W.heap.size→W.cell? ⟨w.heap.size,0,none⟩=some (.pointer (some ⟨gv,0,none⟩))→W.cell? ⟨B4,0,none⟩=some (.int .i64 p.st.clock)→Calls Tryz.prog 83 #[va,.func (.func 88) #[] #[.pointer (some ⟨w.heap.size,0,none⟩),.pointer (some ⟨B4,0,none⟩)]] W fun e w'=>e=.returned (.tuple #[famV ((p.st.fams.find? (overB r p.st.clock)).getD zeroF),.bool (p.st.fams.find? (overB r p.st.clock)).isSome])∧Below W.heap.size W w'):=fun W va B4 hW hf h1 h4 d1 d4=>
  first_is p.st.fams va 88 #[.pointer (some ⟨w.heap.size,0,none⟩),.pointer (some ⟨B4,0,none⟩)] (overB r p.st.clock) W hf (fun f hm=>(hW.sp.ok.good.may f hm).1) (by have:=hW.sp.ok.good.len; omega) (overPred gv gs w.heap.size B4 r p.st.clock W hW.box hW.rul h1 h4 d1 d4) overCalls
 clear h;unfold sweepM;generalize p.st.fams.find? (overB r p.st.clock)=ff at *
 cases ff with
 |none=>
  go_enter Tryz.func39,Tryz.ntmps39
  go_wp2_with fail
  refine (svState_is N _ gv gs gd r p v HS0.out).mono ?_;rintro e1 w1 ⟨v1,rfl,hf1,hb1⟩;obtain ⟨b1,c1,rfl⟩:=RowsK.slice hf1;unfold stV;have hb2:Below w1.heap.size w1 (w1.alloc (.cells #[.int .i64 p.st.clock,.int .i64 p.st.next,.slice b1 p.st.fams.length c1] 36)):=(Below.refl _ _).alloc (Nat.le_refl _) _;have HB2:Hid (Below w.heap.size w (w1.alloc (.cells #[.int .i64 p.st.clock,.int .i64 p.st.next,.slice b1 p.st.fams.length c1] 36))):=(HB0.out.trans (hb1.mono HB0.out.size)).trans (hb2.mono (Nat.le_trans HB0.out.size hb1.size));have HS2:Hid (SvIs N (w1.alloc (.cells #[.int .i64 p.st.clock,.int .i64 p.st.next,.slice b1 p.st.fams.length c1] 36)) gv gs gd r p v):=(HS0.out.on hb1).on hb2
  have HR2:Hid (Fams 0 (w1.alloc (.cells #[.int .i64 p.st.clock,.int .i64 p.st.next,.slice b1 p.st.fams.length c1] 36)) (.slice b1 p.st.fams.length c1) p.st.fams):=(hf1.below hb2 (Nat.le_refl _)).mono (Nat.zero_le _);have HL2:Hid (w.heap.size<(w1.alloc (.cells #[.int .i64 p.st.clock,.int .i64 p.st.next,.slice b1 p.st.fams.length c1] 36)).heap.size):=Nat.lt_of_lt_of_le (Nat.lt_of_lt_of_le HLT.out hb1.size) hb2.size;have HC2:Hid ((w1.alloc (.cells #[.int .i64 p.st.clock,.int .i64 p.st.next,.slice b1 p.st.fams.length c1] 36)).cell? ⟨w.heap.size,0,none⟩=some (.pointer (some ⟨gv,0,none⟩))):=(hb2.cell (p:=⟨w.heap.size,0,none⟩) (Nat.lt_of_lt_of_le HLT.out hb1.size)).trans ((hb1.cell (p:=⟨w.heap.size,0,none⟩) HLT.out).trans HC0.out)
  have s0:(w1.alloc (.cells #[.int .i64 p.st.clock,.int .i64 p.st.next,.slice b1 p.st.fams.length c1] 36)).cell? ⟨w1.heap.size,0,none⟩=some (.int .i64 p.st.clock):=(World.cell?_alloc_at _ _ _ _ rfl).trans rfl;have HS0C:Hid _:=s0;have s2:(w1.alloc (.cells #[.int .i64 p.st.clock,.int .i64 p.st.next,.slice b1 p.st.fams.length c1] 36)).cell? ⟨w1.heap.size,2,none⟩=some (.slice b1 p.st.fams.length c1):=(World.cell?_alloc_at _ _ _ _ rfl).trans rfl;clear hf1 hb1 hb2 c0 s0;go_wp2_with fail
  refine (HFI.out _ _ _ HS2.out HR2.out HL2.out (by simp) HC2.out HS0C.out).mono ?_
  rintro e3 w3 ⟨rfl,hb3⟩;have HB4:Hid _:=hb3;clear hb3 s2;unfold famV famCs;simp only [Option.getD_none,Option.isSome_none];go_wp2_with fail
  go_ret2;exact ⟨rfl,_,(SPto.same (N:=N) HS2.out.sp (HB4.out.alloc HB4.out.size _)).pre HB2.out⟩
 |some f=>
  have HID:Hid (okN f.id):=HFM.out f rfl;obtain ⟨f1,f2,f3,f4,f5,f6,f7,f8,f9⟩:=f;simp only at HID ⊢;have HADD:Hid (∀ W:World,SvIs N W gv gs gd r p v→Calls Tryz.prog 17 #[.pointer (some ⟨gs,0,none⟩),.agg #[.int .i64 2,.int .i64 0,.string ⟨#[]⟩,.string ⟨#[]⟩,.string ⟨#[]⟩,.int .i64 0,.int .i64 0,.int .i64 0,.string ⟨#[]⟩,.bool false,.int .i64 f1,.int .i64 0]] W fun e w'=>e=.returned (errQ (addP p (dropE f1) true).2)∧∃ v',SPto N gs gd v W w' (addP p (dropE f1) true).1 v'):=fun W hW=>addM_is N W gs gd p v (dropE f1) (may_drop HID.out) hW.sp (by omega)
  generalize addP p (dropE f1) true=Q at HADD ⊢;obtain ⟨q,n⟩:=Q;simp only at HADD ⊢;go_enter Tryz.func39,Tryz.ntmps39
  go_wp2_with fail
  refine (svState_is N _ gv gs gd r p v HS0.out).mono ?_;rintro e1 w1 ⟨v1,rfl,hf1,hb1⟩;obtain ⟨b1,c1,rfl⟩:=RowsK.slice hf1;unfold stV;have hb2:Below w1.heap.size w1 (w1.alloc (.cells #[.int .i64 p.st.clock,.int .i64 p.st.next,.slice b1 p.st.fams.length c1] 36)):=(Below.refl _ _).alloc (Nat.le_refl _) _;have HB2:Hid (Below w.heap.size w (w1.alloc (.cells #[.int .i64 p.st.clock,.int .i64 p.st.next,.slice b1 p.st.fams.length c1] 36))):=(HB0.out.trans (hb1.mono HB0.out.size)).trans (hb2.mono (Nat.le_trans HB0.out.size hb1.size));have HS2:Hid (SvIs N (w1.alloc (.cells #[.int .i64 p.st.clock,.int .i64 p.st.next,.slice b1 p.st.fams.length c1] 36)) gv gs gd r p v):=(HS0.out.on hb1).on hb2
  have HR2:Hid (Fams 0 (w1.alloc (.cells #[.int .i64 p.st.clock,.int .i64 p.st.next,.slice b1 p.st.fams.length c1] 36)) (.slice b1 p.st.fams.length c1) p.st.fams):=(hf1.below hb2 (Nat.le_refl _)).mono (Nat.zero_le _);have HL2:Hid (w.heap.size<(w1.alloc (.cells #[.int .i64 p.st.clock,.int .i64 p.st.next,.slice b1 p.st.fams.length c1] 36)).heap.size):=Nat.lt_of_lt_of_le (Nat.lt_of_lt_of_le HLT.out hb1.size) hb2.size;have HC2:Hid ((w1.alloc (.cells #[.int .i64 p.st.clock,.int .i64 p.st.next,.slice b1 p.st.fams.length c1] 36)).cell? ⟨w.heap.size,0,none⟩=some (.pointer (some ⟨gv,0,none⟩))):=(hb2.cell (p:=⟨w.heap.size,0,none⟩) (Nat.lt_of_lt_of_le HLT.out hb1.size)).trans ((hb1.cell (p:=⟨w.heap.size,0,none⟩) HLT.out).trans HC0.out)
  have s0:(w1.alloc (.cells #[.int .i64 p.st.clock,.int .i64 p.st.next,.slice b1 p.st.fams.length c1] 36)).cell? ⟨w1.heap.size,0,none⟩=some (.int .i64 p.st.clock):=(World.cell?_alloc_at _ _ _ _ rfl).trans rfl;have HS0C:Hid _:=s0;have s2:(w1.alloc (.cells #[.int .i64 p.st.clock,.int .i64 p.st.next,.slice b1 p.st.fams.length c1] 36)).cell? ⟨w1.heap.size,2,none⟩=some (.slice b1 p.st.fams.length c1):=(World.cell?_alloc_at _ _ _ _ rfl).trans rfl;clear hf1 hb1 hb2 c0 s0;go_wp2_with fail
  refine (HFI.out _ _ _ HS2.out HR2.out HL2.out (by simp) HC2.out HS0C.out).mono ?_
  rintro e3 w3 ⟨rfl,hb3⟩;have HB4:Hid _:=hb3;clear hb3 s2;unfold famV famCs;simp only [Option.getD_some,Option.isSome_some];go_upto_region 6 with fail
  have HF5:Hid (FB (w3.alloc (.cells #[.int .i64 f1,.string f2,.string f3,.string f4,.int .i64 f5,.int .i64 f6,.int .i64 f7,.string f8,.bool f9] 40)) w3.heap.size ⟨f1,f2,f3,f4,f5,f6,f7,f8,f9⟩):=FB.made w3 ⟨f1,f2,f3,f4,f5,f6,f7,f8,f9⟩ _;have hb5:Below w3.heap.size w3 (w3.alloc (.cells #[.int .i64 f1,.string f2,.string f3,.string f4,.int .i64 f5,.int .i64 f6,.int .i64 f7,.string f8,.bool f9] 40)):=(Below.refl _ _).alloc (Nat.le_refl _) _;have HS5:Hid _:=(HS2.out.on HB4.out).on hb5;have HB5:Hid (Below w.heap.size w (w3.alloc (.cells #[.int .i64 f1,.string f2,.string f3,.string f4,.int .i64 f5,.int .i64 f6,.int .i64 f7,.string f8,.bool f9] 40))):=(HB2.out.trans (HB4.out.mono HB2.out.size)).trans (hb5.mono (Nat.le_trans HB2.out.size HB4.out.size))
  have HC5:Hid ((w3.alloc (.cells #[.int .i64 f1,.string f2,.string f3,.string f4,.int .i64 f5,.int .i64 f6,.int .i64 f7,.string f8,.bool f9] 40)).cell? ⟨w.heap.size,0,none⟩=some (.pointer (some ⟨gv,0,none⟩))):=(hb5.cell (p:=⟨w.heap.size,0,none⟩) (Nat.lt_of_lt_of_le HL2.out HB4.out.size)).trans ((HB4.out.cell (p:=⟨w.heap.size,0,none⟩) HL2.out).trans HC2.out);have HL5:Hid (w.heap.size<(w3.alloc (.cells #[.int .i64 f1,.string f2,.string f3,.string f4,.int .i64 f5,.int .i64 f6,.int .i64 f7,.string f8,.bool f9] 40)).heap.size):=Nat.lt_of_lt_of_le (Nat.lt_of_lt_of_le HL2.out HB4.out.size) hb5.size
  have HGQ:Hid (w3.heap.size≠gd∧w3.heap.size≠gs):=by
   have h1:=(HS2.out.on HB4.out).sp.lt;have h2:=HS2.out.sp.ord;show _∧_
   omega
  clear hb5 HFI HFM HS0 HC0 HLT HB0;generalize hW5:(w3.alloc (.cells #[.int .i64 f1,.string f2,.string f3,.string f4,.int .i64 f5,.int .i64 f6,.int .i64 f7,.string f8,.bool f9] 40))=W5 at *;clear hW5;generalize w3.heap.size=gq at *;have z0F:=HF5.out.c0;refine RegD.R_ (fun W=>W.cell? ⟨gq,0,none⟩=some (.int .i64 f1)∧W.cell? ⟨w.heap.size,0,none⟩=some (.pointer (some ⟨gv,0,none⟩))∧SvAt W gv gs r) 7 (by kernel_rfl) (⟨HF5.out.c0,HC5.out,HS5.out.box.on (Below.refl _ _).drew⟩) (fun hH=>?_)
  refine RegD.T_ 0 (v:=.pointer (some ⟨gv,0,none⟩)) rfl (by kernel_rfl) (fun _ _ _ h=>h) (.inl ⟨by rfl,fun W hW=>by have a0:=hW.2.1; go_simp⟩) hH ?_
  simp only [Act.put,pS1,pS2,pS3];refine RegD.T_ 1 (v:=.pointer (some ⟨gv,0,none⟩)) rfl (by kernel_rfl) (fun _ _ _ h=>h) (.inl ⟨by rfl,fun W hW=>by go_simp⟩) hH ?_
  simp only [Act.put,pS1,pS2,pS3];refine RegD.T_ 2 (v:=.pointer (some ⟨gv,0,none⟩)) rfl (by kernel_rfl) (fun _ _ _ h=>h) (.inl ⟨by rfl,fun W hW=>by go_simp⟩) hH ?_
  simp only [Act.put,pS1,pS2,pS3];refine RegD.T_ 3 (v:=.pointer (some ⟨gs,0,none⟩)) rfl (by kernel_rfl) (fun _ _ _ h=>h) (.inl ⟨by rfl,fun W hW=>by have a0:=hW.2.2.c0; go_simp⟩) hH ?_
  simp only [Act.put,pS1,pS2,pS3];refine RegD.T_ 4 (v:=.pointer (some ⟨gq,0,none⟩)) rfl (by kernel_rfl) (fun _ _ _ h=>h) (.inl ⟨by rfl,fun W hW=>by go_simp⟩) hH ?_
  simp only [Act.put,pS1,pS2,pS3];refine RegD.T_ 5 (v:=.int .i64 f1) rfl (by kernel_rfl) (fun _ _ _ h=>h) (.inl ⟨by rfl,fun W hW=>by have a0:=hW.1; go_simp⟩) hH ?_
  simp only [Act.put,pS1,pS2,pS3];refine RegD.T_ 6 (v:=.agg #[.int .i64 2,.int .i64 0,.string ⟨#[]⟩,.string ⟨#[]⟩,.string ⟨#[]⟩,.int .i64 0,.int .i64 0,.int .i64 0,.string ⟨#[]⟩,.bool false,.int .i64 f1,.int .i64 0]) rfl (by kernel_rfl) (fun _ _ _ h=>h) (.inl ⟨by rfl,fun W hW=>by go_simp⟩) hH ?_
  simp only [Act.put,pS1,pS2,pS3];clear hH z0F;refine RegD.L_ 7 rfl (by kernel_rfl) (by kernel_rfl) ?_; intro K hK; go_simp
  go_at_call 17
  refine (HADD.out _ (HS5.out.on (Below.refl _ _).drew)).mono ?_;rintro e6 w6 ⟨rfl,v6,hto⟩;have HTO:Hid _:=SPto.pre HB5.out.drew hto;have HK6:Hid (Keep [gd,gs] W5.drew w6):=hto.keep;clear hto;go_wp2_with fail
  refine hK.out _ _ ?_;clear hK K;refine RegD.L_ 8 rfl (by kernel_rfl) (by kernel_rfl) ?_; intro K hK; go_simp
  refine hK.out _ _ ?_;clear hK K;refine RegD.D_ (by kernel_rfl) ?_ _
  cases n with
  |zero=>
   rw [show errQ 0=.nilIface from rfl]
   have z0:=((HF5.out.on (Below.refl _ _).drew).keep HK6.out (by have:=HGQ.out; simp; omega)).c0
   simp only at z0;go_wp2_with fail
   go_ret2;exact ⟨rfl,_,HTO.out⟩
  |succ n=>
   rw [errQ_succ];go_wp2_with fail
   go_ret2;exact ⟨rfl,_,HTO.out⟩
end Go.Proofs.YtlailakofhenkabGreatDoor
