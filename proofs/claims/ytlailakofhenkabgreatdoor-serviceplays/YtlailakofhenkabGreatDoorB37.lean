import Derived.Test.YtlailakofhenkabGreatDoorB36
set_option maxRecDepth 100000
set_option maxHeartbeats 16000000
namespace Go.Proofs.YtlailakofhenkabGreatDoor
open Go Go.RowKit Tok Sc Ev
theorem refWithin_at (s t:ByteArray) (b:Bool) (n:Nat) (ho:WOut s.data.toList t.data.toList b n) (w:World) (hs:s.size≤5000) (ht:t.size≤5000):Calls Tryz.prog 74 #[.string s,.string t] w fun e w'=>e=.returned (.tuple #[.bool b,.int .i64 (n:Nat)])∧Below w.heap.size w w':=by
 refine (refWithin_is s t w hs ht).mono ?_;rintro e w' ⟨b',n',rfl,ho',hb⟩;obtain ⟨rfl,rfl⟩:=Sc.wout_inj ho ho';exact ⟨rfl,hb⟩
theorem refRotate_is (N:Nat) (w:World) (gx gr:Nat) (r:Rul) (p:Pub) (v:Value) (text request sc:ByteArray) (t:T) (n:Nat) (l:List Word) (m:Nat) (b:Bool) (h:RvIs N w gx gr r p v) (ht:text.size≤5000) (hrq:request.size≤5000) (hsc:sc.size≤5000) (hto:Tok.Out (tag r.key) text.data.toList t n) (ho:Sc.Out sc.data.toList l m) (hw:lookM r p.st 1 t n=0→m=0→WOut (joined l) (famM p.st t).scope.data.toList b 0) (hN:N<98000) :
 Calls Tryz.prog 28 #[.pointer (some ⟨gx,0,none⟩),.string text,.string request,.string sc] w fun x w'=>x=.returned (.tuple #[.string (rotateM (txtB r) r p (nameB request.data.toList) request t n ⟨(joined l).toArray⟩ m b).2.1,.int .i64 ((rotateM (txtB r) r p (nameB request.data.toList) request t n ⟨(joined l).toArray⟩ m b).2.2:Nat)])∧∃ v',RTo N gr v w w' (rotateM (txtB r) r p (nameB request.data.toList) request t n ⟨(joined l).toArray⟩ m b).1 v':=by
 have HS:Hid (RvIs N w gx gr r p v):=h;have hn1:=fun (W:World)=>refName_is request W (by omega)
 have fin:∀ (w1:World) (tk tf tg te f1:Int) (f2 f3 f4:ByteArray) (f5 f6 f7:Int) (f8:ByteArray) (f9:Bool),Below w.heap.size w w1→Below w.heap.size w ((w1.alloc (.cells #[.int .i64 tk,.int .i64 tf,.int .i64 tg,.int .i64 te] 137)).alloc (.cells #[.int .i64 f1,.string f2,.string f3,.string f4,.int .i64 f5,.int .i64 f6,.int .i64 f7,.string f8,.bool f9] 40))∧RvIs N ((w1.alloc (.cells #[.int .i64 tk,.int .i64 tf,.int .i64 tg,.int .i64 te] 137)).alloc (.cells #[.int .i64 f1,.string f2,.string f3,.string f4,.int .i64 f5,.int .i64 f6,.int .i64 f7,.string f8,.bool f9] 40)) gx gr r p v∧TB ((w1.alloc (.cells #[.int .i64 tk,.int .i64 tf,.int .i64 tg,.int .i64 te] 137)).alloc (.cells #[.int .i64 f1,.string f2,.string f3,.string f4,.int .i64 f5,.int .i64 f6,.int .i64 f7,.string f8,.bool f9] 40)) w1.heap.size ⟨tk,tf,tg,te⟩∧FB ((w1.alloc (.cells #[.int .i64 tk,.int .i64 tf,.int .i64 tg,.int .i64 te] 137)).alloc (.cells #[.int .i64 f1,.string f2,.string f3,.string f4,.int .i64 f5,.int .i64 f6,.int .i64 f7,.string f8,.bool f9] 40)) (w1.heap.size+1) ⟨f1,f2,f3,f4,f5,f6,f7,f8,f9⟩∧w.heap.size≤w1.heap.size:=fun w1 tk tf tg te f1 f2 f3 f4 f5 f6 f7 f8 f9 hb2=>by
  have hb3:Below w1.heap.size w1 ((w1.alloc (.cells #[.int .i64 tk,.int .i64 tf,.int .i64 tg,.int .i64 te] 137)).alloc (.cells #[.int .i64 f1,.string f2,.string f3,.string f4,.int .i64 f5,.int .i64 f6,.int .i64 f7,.string f8,.bool f9] 40)):=((Below.refl _ _).alloc (Nat.le_refl _) _).alloc (by simp) _
  have hsz:(w1.alloc (.cells #[.int .i64 tk,.int .i64 tf,.int .i64 tg,.int .i64 te] 137)).heap.size=w1.heap.size+1:=by simp
  exact ⟨hb2.trans (hb3.mono hb2.size),(HS.out.on hb2).on hb3,(TB.made w1 ⟨tk,tf,tg,te⟩ _).on ((Below.refl _ _).alloc (Nat.le_refl _) _),by rw [← hsz]; exact FB.made _ ⟨f1,f2,f3,f4,f5,f6,f7,f8,f9⟩ _,hb2.size⟩
 have HLT:Hid (gr<w.heap.size):=h.doc.lt;have HJL:Hid (m=0→(⟨(joined l).toArray⟩:ByteArray).size≤5000):=fun hm=>by subst hm; rw [bsize]; have:=(out_len ho).2; omega
 cases h1:nameB request.data.toList with
 |false=>
  rw [h1] at hn1;clear h1 fin;unfold rotateM;rw [if_pos rfl];go_enter Tryz.func28,Tryz.ntmps28
  go_wp2_with fail
  refine (hn1 _).mono ?_;rintro e1 w1 ⟨rfl,hw⟩;obtain rfl:w=w1:=hw.symm;go_wp2_with fail
  go_ret2;exact ⟨rfl,_,RTo.same HS.out.doc HS.out.ok (Below.refl _ _)⟩
 |true=>
  rw [h1] at hn1;by_cases he:look0 r p.st 1 t n=0
  ·have hlk:=fun (W:World) (hW:RvIs N W gx gr r p v)=>refLooks_ok N W gx gr r p v text 1 t n hW ht hto he
   have HMF:Hid (mayF (famM p.st t)):=fam_may h.ok.good (look_fam he).2.2.1;have HW1:Hid ((famM p.st t).gen<t.g→rotateM (txtB r) r p true request t n ⟨(joined l).toArray⟩ m b=(p,noT,2)):=fun hg=>by show rotateM (txtB r) r p true request t n ⟨(joined l).toArray⟩ m b=_; unfold rotateM; rw [lookM_new he hg]; rfl
   have HW2:Hid (¬ (famM p.st t).gen<t.g→t.g=(famM p.st t).gen→rotateM (txtB r) r p true request t n ⟨(joined l).toArray⟩ m b=turnM (txtB r) p (famM p.st t) request ⟨(joined l).toArray⟩ m b):=fun hg hc=>by show rotateM (txtB r) r p true request t n ⟨(joined l).toArray⟩ m b=_; unfold rotateM; rw [if_neg (by simp),lookM_ok he hg,if_neg (by simp),if_pos hc]
   have HW3:Hid (¬ (famM p.st t).gen<t.g→¬ t.g=(famM p.st t).gen→(t.g=(famM p.st t).gen - 1∧request=(famM p.st t).request)→rotateM (txtB r) r p true request t n ⟨(joined l).toArray⟩ m b=(p,txtB r ⟨1,(famM p.st t).id,(famM p.st t).gen,0⟩,0)):=fun hg hc hx=>by show rotateM (txtB r) r p true request t n ⟨(joined l).toArray⟩ m b=_; unfold rotateM; rw [if_neg (by simp),lookM_ok he hg,if_neg (by simp),if_neg hc,if_pos hx]
   have HW4:Hid (¬ (famM p.st t).gen<t.g→¬ t.g=(famM p.st t).gen→¬ (t.g=(famM p.st t).gen - 1∧request=(famM p.st t).request)→rotateM (txtB r) r p true request t n ⟨(joined l).toArray⟩ m b=spoilM p (famM p.st t)):=fun hg hc hx=>by show rotateM (txtB r) r p true request t n ⟨(joined l).toArray⟩ m b=_; unfold rotateM; rw [if_neg (by simp),lookM_ok he hg,if_neg (by simp),if_neg hc,if_neg hx]
   have HLE:Hid (∀ W:World,Calls Tryz.prog 68 #[.string sc] W fun e w'=>e=.returned (.tuple #[.string ⟨(joined l).toArray⟩,.int .i64 (m:Nat)])∧Below W.heap.size W w'):=fun W=>refLeast_at sc l m ho W hsc;have HWI:Hid (¬ (famM p.st t).gen<t.g→m=0→∀ W:World,Calls Tryz.prog 74 #[.string ⟨(joined l).toArray⟩,.string (famM p.st t).scope] W fun e w'=>e=.returned (.tuple #[.bool b,.int .i64 ((0:Nat):Int)])∧Below W.heap.size W w'):=fun hg hm W=>refWithin_at _ _ b 0 (hw (lookM_ok he hg) hm) W (HJL.out hm) (small_may HMF.out).2.2.1;have HNX:Hid (m=0→¬ 1099511627776≤(famM p.st t).gen→Ev.may (putE (nextF (famM p.st t) request ⟨(joined l).toArray⟩ p.st.clock))):=fun hm hg=>may_next HMF.out hg h1 (lst_joined (by subst hm; exact ho)) h.ok.good.clock
   have HPU:Hid (∀ f,Ev.may (putE f)→∀ (W:World),RvIs N W gx gr r p v→Calls Tryz.prog 69 #[.pointer (some ⟨gx,0,none⟩),famV f] W fun e w'=>e=.returned (.int .i64 ((addP p (putE f) true).2:Nat))∧∃ v',RTo N gr v W w' (addP p (putE f) true).1 v'):=fun f hf W hW=>refPut_is N W gx gr r p v f hW hf (by omega)
   have HRF:Hid (∀ f,mayF f→∀ (M:Nat) (W:World) (q:Pub) (v:Value),RvIs M W gx gr r q v→Calls Tryz.prog 70 #[.pointer (some ⟨gx,0,none⟩),famV f] W fun e w'=>e=.returned (.string (txtB r ⟨1,f.id,f.gen,0⟩))∧Below W.heap.size W w'):=fun f hf M W q v hW=>refRefresh_is M W gx gr r q v f hW hf;clear h hto ht he h1 hw hsc hrq ho HJL;generalize (⟨(joined l).toArray⟩:ByteArray)=J at *;generalize rotateM (txtB r) r p true request t n J m b=K at *;generalize famM p.st t=f at *;have HGN:Hid (0≤f.gen∧f.gen≤1099511627776):=HMF.out.1.2.1;obtain ⟨tk,tf,tg,te⟩:=t;obtain ⟨f1,f2,f3,f4,f5,f6,f7,f8,f9⟩:=f;unfold tokV famV famCs at hlk;simp only at hlk HW1 HW2 HW3 HW4 HWI HGN;obtain ⟨hg1,hg2⟩:=HGN.out
   focus
    by_cases hg:f5<tg
    ·have HE:Hid _:=HW1.out hg
     clear HW1 HW2 HW3 HW4 HLE HWI HNX HPU HRF;go_enter Tryz.func28,Tryz.ntmps28
     go_wp2_with fail
     refine (hn1 _).mono ?_;rintro e1 wx ⟨rfl,hw⟩;obtain rfl:w=wx:=hw.symm;go_wp2_with fail
     refine (hlk _ HS.out).mono ?_;rintro e2 w1 ⟨rfl,hb2⟩;have HX:Hid _:=fin w1 tk tf tg te f1 f2 f3 f4 f5 f6 f7 f8 f9 hb2;clear hlk hb2 fin hn1;go_upto_region 4 with fail
     generalize hWW:((w1.alloc (.cells #[.int .i64 tk,.int .i64 tf,.int .i64 tg,.int .i64 te] 137)).alloc (.cells #[.int .i64 f1,.string f2,.string f3,.string f4,.int .i64 f5,.int .i64 f6,.int .i64 f7,.string f8,.bool f9] 40))=W3 at *;clear hWW;generalize w1.heap.size=gq at *;have HX1:Hid _:=HX.out.1;have HX2:Hid _:=HX.out.2.1;have HX4:Hid _:=HX.out.2.2.2.1;have HGQ:Hid (w.heap.size≤gq+1∧gr<gq):=by show _∧_; have h1:=HX.out.2.2.2.2; have h2:=HLT.out; omega
     have x2:=HX.out.2.2.1.c2;have d0:=HX4.out.c0; have d1:=HX4.out.c1; have d2:=HX4.out.c2; have d3:=HX4.out.c3; have d4:=HX4.out.c4; have d5:=HX4.out.c5; have d6:=HX4.out.c6; have d7:=HX4.out.c7; have d8:=HX4.out.c8; have dz:=HX4.out.fz;simp only at x2 d0 d1 d2 d3 d4 d5 d6 d7 d8;clear HX;go_wp2_with fail
     go_ret2;rw [HE.out];exact ⟨rfl,_,RTo.same HS.out.doc HS.out.ok HX1.out⟩
    ·by_cases hc:tg=f5
     ·have HT:Hid _:=HW2.out hg hc
      have HWJ:Hid _:=HWI.out hg;clear HW1 HW2 HW3 HW4 HWI;subst hc;by_cases hm:m=0
      ·subst hm
       have HWK:Hid _:=HWJ.out rfl;clear HWJ
       cases b with
       |false=>
        have HE:Hid (K=(p,noT,13)):=by show K=_; rw [HT.out]; unfold turnM; rfl
        clear HT HNX HPU HRF;go_enter Tryz.func28,Tryz.ntmps28
        go_wp2_with fail
        refine (hn1 _).mono ?_;rintro e1 wx ⟨rfl,hw⟩;obtain rfl:w=wx:=hw.symm;go_wp2_with fail
        refine (hlk _ HS.out).mono ?_;rintro e2 w1 ⟨rfl,hb2⟩;have HX:Hid _:=fin w1 tk tf tg te f1 f2 f3 f4 tg f6 f7 f8 f9 hb2;clear hlk hb2 fin hn1;go_upto_region 4 with fail
        generalize hWW:((w1.alloc (.cells #[.int .i64 tk,.int .i64 tf,.int .i64 tg,.int .i64 te] 137)).alloc (.cells #[.int .i64 f1,.string f2,.string f3,.string f4,.int .i64 tg,.int .i64 f6,.int .i64 f7,.string f8,.bool f9] 40))=W3 at *;clear hWW;generalize w1.heap.size=gq at *;have HX1:Hid _:=HX.out.1;have HX2:Hid _:=HX.out.2.1;have HX4:Hid _:=HX.out.2.2.2.1;have HGQ:Hid (w.heap.size≤gq+1∧gr<gq):=by show _∧_; have h1:=HX.out.2.2.2.2; have h2:=HLT.out; omega
        have x2:=HX.out.2.2.1.c2;have d0:=HX4.out.c0; have d1:=HX4.out.c1; have d2:=HX4.out.c2; have d3:=HX4.out.c3; have d4:=HX4.out.c4; have d5:=HX4.out.c5; have d6:=HX4.out.c6; have d7:=HX4.out.c7; have d8:=HX4.out.c8; have dz:=HX4.out.fz;simp only at x2 d0 d1 d2 d3 d4 d5 d6 d7 d8;clear HX;go_wp2_with fail
        refine (HLE.out _).mono ?_;rintro e2 w2 ⟨rfl,hb2⟩;have HB2:Hid (Below w.heap.size w w2):=HX1.out.trans (hb2.mono HX1.out.size);have HY4:Hid _:=HX4.out.on hb2;clear hb2 x2 d0 d1 d2 d3 d4 d5 d6 d7 d8 dz;have d3:=HY4.out.c3;simp only at d3;go_wp2_with fail
        refine (HWK.out _).mono ?_;rintro e3 w3 ⟨rfl,hb3⟩;have HB3:Hid (Below w.heap.size w w3):=HB2.out.trans (hb3.mono HB2.out.size);have HY5:Hid _:=HY4.out.on hb3;clear hb3 d3;go_wp2_with fail
        go_ret2;rw [HE.out];exact ⟨rfl,_,RTo.same HS.out.doc HS.out.ok HB3.out⟩
       |true=>
        by_cases hgg:1099511627776≤tg
        ·have HE:Hid (K=(p,noT,4)):=by show K=_; rw [HT.out]; unfold turnM; rw [if_neg (by simp),if_neg (by simp),if_pos hgg]
         clear HT HNX HPU HRF;go_enter Tryz.func28,Tryz.ntmps28
         go_wp2_with fail
         refine (hn1 _).mono ?_;rintro e1 wx ⟨rfl,hw⟩;obtain rfl:w=wx:=hw.symm;go_wp2_with fail
         refine (hlk _ HS.out).mono ?_;rintro e2 w1 ⟨rfl,hb2⟩;have HX:Hid _:=fin w1 tk tf tg te f1 f2 f3 f4 tg f6 f7 f8 f9 hb2;clear hlk hb2 fin hn1;go_upto_region 4 with fail
         generalize hWW:((w1.alloc (.cells #[.int .i64 tk,.int .i64 tf,.int .i64 tg,.int .i64 te] 137)).alloc (.cells #[.int .i64 f1,.string f2,.string f3,.string f4,.int .i64 tg,.int .i64 f6,.int .i64 f7,.string f8,.bool f9] 40))=W3 at *;clear hWW;generalize w1.heap.size=gq at *;have HX1:Hid _:=HX.out.1;have HX2:Hid _:=HX.out.2.1;have HX4:Hid _:=HX.out.2.2.2.1;have HGQ:Hid (w.heap.size≤gq+1∧gr<gq):=by show _∧_; have h1:=HX.out.2.2.2.2; have h2:=HLT.out; omega
         have x2:=HX.out.2.2.1.c2;have d0:=HX4.out.c0; have d1:=HX4.out.c1; have d2:=HX4.out.c2; have d3:=HX4.out.c3; have d4:=HX4.out.c4; have d5:=HX4.out.c5; have d6:=HX4.out.c6; have d7:=HX4.out.c7; have d8:=HX4.out.c8; have dz:=HX4.out.fz;simp only at x2 d0 d1 d2 d3 d4 d5 d6 d7 d8;clear HX;go_wp2_with fail
         refine (HLE.out _).mono ?_;rintro e2 w2 ⟨rfl,hb2⟩;have HB2:Hid (Below w.heap.size w w2):=HX1.out.trans (hb2.mono HX1.out.size);have HY4:Hid _:=HX4.out.on hb2;clear hb2 x2 d0 d1 d2 d3 d4 d5 d6 d7 d8 dz;have d3:=HY4.out.c3;simp only at d3;go_wp2_with fail
         refine (HWK.out _).mono ?_;rintro e3 w3 ⟨rfl,hb3⟩;have HB3:Hid (Below w.heap.size w w3):=HB2.out.trans (hb3.mono HB2.out.size);have HY5:Hid _:=HY4.out.on hb3;clear hb3 d3;have d4:=HY5.out.c4;simp only at d4;go_wp2_with fail
         go_ret2;rw [HE.out];exact ⟨rfl,_,RTo.same HS.out.doc HS.out.ok HB3.out⟩
        ·have hmy:=HNX.out rfl hgg
         have HQ:Hid (K=if (addP p (putE ⟨f1,f2,f3,J,(tg+1),f6,p.st.clock,request,f9⟩) true).2=0 then ((addP p (putE ⟨f1,f2,f3,J,(tg+1),f6,p.st.clock,request,f9⟩) true).1,txtB r ⟨1,f1,tg+1,0⟩,0) else ((addP p (putE ⟨f1,f2,f3,J,(tg+1),f6,p.st.clock,request,f9⟩) true).1,noT,(addP p (putE ⟨f1,f2,f3,J,(tg+1),f6,p.st.clock,request,f9⟩) true).2)):=by show K=_; rw [HT.out]; unfold turnM; rw [if_neg (by simp),if_neg (by simp),if_neg hgg]; rfl
         have hpu:=HPU.out _ hmy;have hrf:=HRF.out _ (putF_may hmy);clear HT HNX HPU HRF hmy;unfold nextF famV famCs at hpu hrf;simp only at hpu hrf;generalize addP p (putE ⟨f1,f2,f3,J,(tg+1),f6,p.st.clock,request,f9⟩) true=Q at *;obtain ⟨q,n⟩:=Q;simp only at hpu HQ;have HPV:Hid _:=hpu;have HRG:Hid _:=hrf;clear hpu hrf;generalize txtB r ⟨1,f1,tg+1,0⟩=TX at *;go_enter Tryz.func28,Tryz.ntmps28
         go_wp2_with fail
         refine (hn1 _).mono ?_;rintro e1 wx ⟨rfl,hw⟩;obtain rfl:w=wx:=hw.symm;go_wp2_with fail
         refine (hlk _ HS.out).mono ?_;rintro e2 w1 ⟨rfl,hb2⟩;have HX:Hid _:=fin w1 tk tf tg te f1 f2 f3 f4 tg f6 f7 f8 f9 hb2;clear hlk hb2 fin hn1;go_upto_region 4 with fail
         generalize hWW:((w1.alloc (.cells #[.int .i64 tk,.int .i64 tf,.int .i64 tg,.int .i64 te] 137)).alloc (.cells #[.int .i64 f1,.string f2,.string f3,.string f4,.int .i64 tg,.int .i64 f6,.int .i64 f7,.string f8,.bool f9] 40))=W3 at *;clear hWW;generalize w1.heap.size=gq at *;have HX1:Hid _:=HX.out.1;have HX2:Hid _:=HX.out.2.1;have HX4:Hid _:=HX.out.2.2.2.1;have HGQ:Hid (w.heap.size≤gq+1∧gr<gq):=by show _∧_; have h1:=HX.out.2.2.2.2; have h2:=HLT.out; omega
         have x2:=HX.out.2.2.1.c2;have d0:=HX4.out.c0; have d1:=HX4.out.c1; have d2:=HX4.out.c2; have d3:=HX4.out.c3; have d4:=HX4.out.c4; have d5:=HX4.out.c5; have d6:=HX4.out.c6; have d7:=HX4.out.c7; have d8:=HX4.out.c8; have dz:=HX4.out.fz;simp only at x2 d0 d1 d2 d3 d4 d5 d6 d7 d8;clear HX;go_wp2_with fail
         refine (HLE.out _).mono ?_;rintro e2 w2 ⟨rfl,hb2⟩;have HB2:Hid (Below w.heap.size w w2):=HX1.out.trans (hb2.mono HX1.out.size);have HY4:Hid _:=HX4.out.on hb2;clear hb2 x2 d0 d1 d2 d3 d4 d5 d6 d7 d8 dz;have d3:=HY4.out.c3;simp only at d3;go_wp2_with fail
         refine (HWK.out _).mono ?_;rintro e3 w3 ⟨rfl,hb3⟩;have HB3:Hid (Below w.heap.size w w3):=HB2.out.trans (hb3.mono HB2.out.size);have HY5:Hid _:=HY4.out.on hb3;clear hb3 d3;have d4:=HY5.out.c4; have d3:=HY5.out.c3; have d7:=HY5.out.c7; have d6:=HY5.out.c6; have dz:=HY5.out.fz;have hwr:IntKind.i64.wrap (tg+1)=tg+1:=by rw [IntKind.wrap_i64]; omega
         simp only at d3 d4 d6 d7;go_upto_region 24 with fail
         have HSw:Hid _:=HS.out.on HB3.out;have B1:Hid (Below w.heap.size w (w3.setCell ⟨gq+1,4,none⟩ (.int .i64 (tg+1))).drew):=(HB3.out.trans (below_setCellsW HGQ.out.1 [.int .i64 (tg+1)] 4 w3)).drew;have B2:Hid (Below w.heap.size w ((w3.setCell ⟨gq+1,4,none⟩ (.int .i64 (tg+1))).setCell ⟨gq+1,3,none⟩ (.string J)).drew):=((HB3.out.trans (below_setCellsW HGQ.out.1 [.int .i64 (tg+1)] 4 w3)).trans (below_setCellsW HGQ.out.1 [.string J] 3 _)).drew;have B3:Hid (Below w.heap.size w (((w3.setCell ⟨gq+1,4,none⟩ (.int .i64 (tg+1))).setCell ⟨gq+1,3,none⟩ (.string J)).setCell ⟨gq+1,7,none⟩ (.string request)).drew):=(((HB3.out.trans (below_setCellsW HGQ.out.1 [.int .i64 (tg+1)] 4 w3)).trans (below_setCellsW HGQ.out.1 [.string J] 3 _)).trans (below_setCellsW HGQ.out.1 [.string request] 7 _)).drew
         have HF3:Hid (FB (((w3.setCell ⟨gq+1,4,none⟩ (.int .i64 (tg+1))).setCell ⟨gq+1,3,none⟩ (.string J)).setCell ⟨gq+1,7,none⟩ (.string request)).drew (gq+1) ⟨f1,f2,f3,J,(tg+1),f6,f7,request,f9⟩):=(((HY5.out.gen (tg+1)).scope J).req request).on (Below.refl _ _).drew;refine RegD.R_ (fun W=>RvIs N W gx gr r p v) 20 (by kernel_rfl) (HSw.out.on (Below.refl _ _).drew) (fun hH=>?_)
         refine RegD.T_ 0 (v:=.pointer (some ⟨gq+1,4,none⟩)) rfl (by kernel_rfl) (fun _ _ _ h=>h) (.inl ⟨by rfl,fun W hW=>by go_simp⟩) hH ?_
         simp only [Act.put,pS1,pS2,pS3];refine RegD.T_ 3 (v:=.string J) rfl (by kernel_rfl) (fun _ _ _ h=>h) (.inl ⟨by rfl,fun W hW=>by go_simp⟩) hH ?_
         simp only [Act.put,pS1,pS2,pS3];refine RegD.T_ 4 (v:=.string request) rfl (by kernel_rfl) (fun _ _ _ h=>h) (.inl ⟨by rfl,fun W hW=>by go_simp⟩) hH ?_
         simp only [Act.put,pS1,pS2,pS3];refine RegD.T_ 5 (v:=.pointer (some ⟨gx,0,none⟩)) rfl (by kernel_rfl) (fun _ _ _ h=>h) (.inl ⟨by rfl,fun W hW=>by go_simp⟩) hH ?_
         simp only [Act.put,pS1,pS2,pS3];refine RegD.T_ 6 (v:=.pointer (some ⟨gx,0,none⟩)) rfl (by kernel_rfl) (fun _ _ _ h=>h) (.inl ⟨by rfl,fun W hW=>by go_simp⟩) hH ?_
         simp only [Act.put,pS1,pS2,pS3];refine RegD.T_ 7 (v:=.pointer (some ⟨gx,0,none⟩)) rfl (by kernel_rfl) (fun _ _ _ h=>h) (.inl ⟨by rfl,fun W hW=>by go_simp⟩) hH ?_
         simp only [Act.put,pS1,pS2,pS3];refine RegD.T_ 8 (v:=.pointer (some ⟨gr,0,none⟩)) rfl (by kernel_rfl) (fun _ _ _ h=>h) (.inl ⟨by rfl,fun W hW=>by have a0:=hW.box.c0; go_simp⟩) hH ?_
         simp only [Act.put,pS1,pS2,pS3];refine RegD.T_ 9 (v:=.pointer (some ⟨gr,0,none⟩)) rfl (by kernel_rfl) (fun _ _ _ h=>h) (.inl ⟨by rfl,fun W hW=>by go_simp⟩) hH ?_
         simp only [Act.put,pS1,pS2,pS3];refine RegD.T_ 10 (v:=.pointer (some ⟨gr,0,none⟩)) rfl (by kernel_rfl) (fun _ _ _ h=>h) (.inl ⟨by rfl,fun W hW=>by go_simp⟩) hH ?_
         simp only [Act.put,pS1,pS2,pS3];refine RegD.T_ 11 (v:=.pointer (some ⟨gr,0,none⟩)) rfl (by kernel_rfl) (fun _ _ _ h=>h) (.inl ⟨by rfl,fun W hW=>by go_simp⟩) hH ?_
         simp only [Act.put,pS1,pS2,pS3];refine RegD.T_ 12 (v:=.int .i64 p.st.clock) rfl (by kernel_rfl) (fun _ _ _ h=>h) (.inl ⟨by rfl,fun W hW=>by have a0:=hW.doc.c0; go_simp⟩) hH ?_
         simp only [Act.put,pS1,pS2,pS3];refine RegD.O_ 1 rfl (by kernel_rfl) ?_; intro K hK; go_simp
         refine hK.out _ _ (hH) ?_;clear hK hH;intro hH;clear K;refine RegD.T_ 2 (v:=.int .i64 (tg+1)) rfl (by kernel_rfl) (fun _ _ _ h=>h) (.inl ⟨by rfl,fun W hW=>by have a0:=hwr; go_simp⟩) hH ?_
         simp only [Act.put,pS1,pS2,pS3];refine RegD.T_ 13 (v:=.pointer (some ⟨gq+1,4,none⟩)) rfl (by kernel_rfl) (fun _ _ _ h=>h) (.inl ⟨by rfl,fun W hW=>by go_simp⟩) hH ?_
         simp only [Act.put,pS1,pS2,pS3];refine RegD.O_ 14 rfl (by kernel_rfl) ?_; intro K hK; go_simp
         refine hK.out _ _ (HS.out.on B1.out) ?_;clear hK hH;intro hH;clear K;refine RegD.T_ 15 (v:=.pointer (some ⟨gq+1,3,none⟩)) rfl (by kernel_rfl) (fun _ _ _ h=>h) (.inl ⟨by rfl,fun W hW=>by go_simp⟩) hH ?_
         simp only [Act.put,pS1,pS2,pS3];refine RegD.O_ 16 rfl (by kernel_rfl) ?_; intro K hK; go_simp
         refine hK.out _ _ (HS.out.on B2.out) ?_;clear hK hH;intro hH;clear K;refine RegD.T_ 17 (v:=.pointer (some ⟨gq+1,7,none⟩)) rfl (by kernel_rfl) (fun _ _ _ h=>h) (.inl ⟨by rfl,fun W hW=>by go_simp⟩) hH ?_
         simp only [Act.put,pS1,pS2,pS3];refine RegD.O_ 18 rfl (by kernel_rfl) ?_; intro K hK; go_simp
         refine hK.out _ _ (HS.out.on B3.out) ?_;clear hK hH;intro hH;clear K;refine RegD.T_ 19 (v:=.pointer (some ⟨gq+1,6,none⟩)) rfl (by kernel_rfl) (fun _ _ _ h=>h) (.inl ⟨by rfl,fun W hW=>by go_simp⟩) hH ?_
         simp only [Act.put,pS1,pS2,pS3];clear hH;generalize hWW:World.drew (World.setCell _ ⟨gq+1,7,none⟩ _)=WA at *;clear hWW B1 B2 d3 d4 d6 d7 dz hwr;have e6:=HF3.out.c6; have ez:=HF3.out.fz;simp only at e6;have B4:Hid (Below w.heap.size w (WA.setCell ⟨gq+1,6,none⟩ (.int .i64 p.st.clock))):=B3.out.trans (below_setCellsW HGQ.out.1 [.int .i64 p.st.clock] 6 WA);have HF4:Hid (FB (WA.setCell ⟨gq+1,6,none⟩ (.int .i64 p.st.clock)) (gq+1) ⟨f1,f2,f3,J,(tg+1),f6,p.st.clock,request,f9⟩):=HF3.out.use p.st.clock;refine RegD.L_ 20 rfl (by kernel_rfl) (by kernel_rfl) ?_; intro K hK; go_simp
         refine hK.out _ _ ?_;clear hK K;refine RegD.D_ (by kernel_rfl) ?_ _
         clear e6 ez;generalize hWW:WA.setCell ⟨gq+1,6,none⟩ (.int .i64 p.st.clock)=WB at *;clear hWW B3 HF3;have HS4:Hid _:=HS.out.on B4.out;have e0:=HF4.out.c0; have e1:=HF4.out.c1; have e2:=HF4.out.c2; have e3:=HF4.out.c3; have e4:=HF4.out.c4; have e5:=HF4.out.c5; have e6:=HF4.out.c6; have e7:=HF4.out.c7; have e8:=HF4.out.c8;simp only at e0 e1 e2 e3 e4 e5 e6 e7 e8;go_upto_region 25 with fail
         by_cases hn:n=0
         ·subst hn
          have HE:Hid (K=(q,TX,0)):=by show K=_; rw [HQ.out]; rfl
          go_wp2_with fail
          refine (HPV.out _ HS4.out).mono ?_;rintro e5' w5 ⟨rfl,v5,hto⟩;have HTO:Hid _:=hto.pre B4.out;clear e0 e1 e2 e3 e4 e5 e6 e7 e8;have HS6:Hid _:=HS4.out.to hto;have HF6:Hid _:=HF4.out.keep hto.keep (by have:=HGQ.out; simp; omega)
          clear hto;have e0:=HF6.out.c0; have e1:=HF6.out.c1; have e2:=HF6.out.c2; have e3:=HF6.out.c3; have e4:=HF6.out.c4; have e5:=HF6.out.c5; have e6:=HF6.out.c6; have e7:=HF6.out.c7; have e8:=HF6.out.c8;simp only at e0 e1 e2 e3 e4 e5 e6 e7 e8;go_wp2_with fail
          refine (HRG.out _ _ _ _ HS6.out).mono ?_;rintro e6' w6 ⟨rfl,hb6⟩;have HTF:Hid _:=HTO.out.post hb6;clear hb6 e0 e1 e2 e3 e4 e5 e6 e7 e8;go_wp2_with fail
          go_ret2;rw [HE.out];exact ⟨rfl,_,HTF.out⟩
         ·have hnI:¬ (n:Int)=0:=by omega
          have HE:Hid (K=(q,noT,n)):=by show K=_; rw [HQ.out]; exact if_neg hn
          go_wp2_with fail
          refine (HPV.out _ HS4.out).mono ?_;rintro e5' w5 ⟨rfl,v5,hto⟩;have HTO:Hid _:=hto.pre B4.out;clear e0 e1 e2 e3 e4 e5 e6 e7 e8;clear hto;go_wp2_with fail
          go_ret2;rw [HE.out];exact ⟨rfl,_,HTO.out⟩
      ·have HE:Hid (K=(p,noT,m)):=by show K=_; rw [HT.out]; unfold turnM; rw [if_pos hm]
       have hmI:¬ (m:Int)=0:=by omega
       clear HT HNX HPU HRF HWJ;go_enter Tryz.func28,Tryz.ntmps28
       go_wp2_with fail
       refine (hn1 _).mono ?_;rintro e1 wx ⟨rfl,hw⟩;obtain rfl:w=wx:=hw.symm;go_wp2_with fail
       refine (hlk _ HS.out).mono ?_;rintro e2 w1 ⟨rfl,hb2⟩;have HX:Hid _:=fin w1 tk tf tg te f1 f2 f3 f4 tg f6 f7 f8 f9 hb2;clear hlk hb2 fin hn1;go_upto_region 4 with fail
       generalize hWW:((w1.alloc (.cells #[.int .i64 tk,.int .i64 tf,.int .i64 tg,.int .i64 te] 137)).alloc (.cells #[.int .i64 f1,.string f2,.string f3,.string f4,.int .i64 tg,.int .i64 f6,.int .i64 f7,.string f8,.bool f9] 40))=W3 at *;clear hWW;generalize w1.heap.size=gq at *;have HX1:Hid _:=HX.out.1;have HX2:Hid _:=HX.out.2.1;have HX4:Hid _:=HX.out.2.2.2.1;have HGQ:Hid (w.heap.size≤gq+1∧gr<gq):=by show _∧_; have h1:=HX.out.2.2.2.2; have h2:=HLT.out; omega
       have x2:=HX.out.2.2.1.c2;have d0:=HX4.out.c0; have d1:=HX4.out.c1; have d2:=HX4.out.c2; have d3:=HX4.out.c3; have d4:=HX4.out.c4; have d5:=HX4.out.c5; have d6:=HX4.out.c6; have d7:=HX4.out.c7; have d8:=HX4.out.c8; have dz:=HX4.out.fz;simp only at x2 d0 d1 d2 d3 d4 d5 d6 d7 d8;clear HX;go_wp2_with fail
       refine (HLE.out _).mono ?_;rintro e2 w2 ⟨rfl,hb2⟩;have HB2:Hid (Below w.heap.size w w2):=HX1.out.trans (hb2.mono HX1.out.size);have HY4:Hid _:=HX4.out.on hb2;clear hb2 x2 d0 d1 d2 d3 d4 d5 d6 d7 d8 dz;go_wp2_with fail
       go_ret2;rw [HE.out];exact ⟨rfl,_,RTo.same HS.out.doc HS.out.ok HB2.out⟩
     ·have hlt:tg<f5:=by omega
      have hgb:(tg == f5)=false:=by simp [hc]
      by_cases hx:tg=f5 - 1∧request=f8
      ·have HE:Hid _:=HW3.out hg hc hx
       have hrf:=HRF.out ⟨f1,f2,f3,f4,f5,f6,f7,f8,f9⟩ HMF.out;clear HW1 HW2 HW3 HW4 HLE HWI HNX HPU HRF;unfold famV famCs at hrf;simp only at hrf;obtain ⟨hx1,hx2⟩:=hx;subst hx2;have hge:(tg == f5 - 1)=true:=by simp [hx1]
       have HRG:Hid _:=hrf;have HX1':Hid (tg=f5 - 1):=hx1;clear hx1 hrf;go_enter Tryz.func28,Tryz.ntmps28
       go_wp2_with fail
       refine (hn1 _).mono ?_;rintro e1 wx ⟨rfl,hw⟩;obtain rfl:w=wx:=hw.symm;go_wp2_with fail
       refine (hlk _ HS.out).mono ?_;rintro e2 w1 ⟨rfl,hb2⟩;have HX:Hid _:=fin w1 tk tf tg te f1 f2 f3 f4 f5 f6 f7 request f9 hb2;clear hlk hb2 fin hn1;go_upto_region 4 with fail
       generalize hWW:((w1.alloc (.cells #[.int .i64 tk,.int .i64 tf,.int .i64 tg,.int .i64 te] 137)).alloc (.cells #[.int .i64 f1,.string f2,.string f3,.string f4,.int .i64 f5,.int .i64 f6,.int .i64 f7,.string request,.bool f9] 40))=W3 at *;clear hWW;generalize w1.heap.size=gq at *;have HX1:Hid _:=HX.out.1;have HX2:Hid _:=HX.out.2.1;have HX4:Hid _:=HX.out.2.2.2.1;have HGQ:Hid (w.heap.size≤gq+1∧gr<gq):=by show _∧_; have h1:=HX.out.2.2.2.2; have h2:=HLT.out; omega
       have x2:=HX.out.2.2.1.c2;have d0:=HX4.out.c0; have d1:=HX4.out.c1; have d2:=HX4.out.c2; have d3:=HX4.out.c3; have d4:=HX4.out.c4; have d5:=HX4.out.c5; have d6:=HX4.out.c6; have d7:=HX4.out.c7; have d8:=HX4.out.c8; have dz:=HX4.out.fz;simp only at x2 d0 d1 d2 d3 d4 d5 d6 d7 d8;clear HX;go_wp2_with fail
       refine (HRG.out _ _ _ _ HX2.out).mono ?_;rintro e4 w4 ⟨rfl,hb4⟩;have HB4:Hid _:=HX1.out.trans (hb4.mono HX1.out.size);clear hb4 x2 d0 d1 d2 d3 d4 d5 d6 d7 d8 dz;go_wp2_with fail
       go_ret2;rw [HE.out];exact ⟨rfl,_,RTo.same HS.out.doc HS.out.ok HB4.out⟩
      ·have HE0:Hid _:=HW4.out hg hc hx
       have hpu:=HPU.out (deadF ⟨f1,f2,f3,f4,f5,f6,f7,f8,f9⟩) (may_dead HMF.out);clear HW1 HW2 HW3 HW4 HLE HWI HNX HPU HRF;have HE:Hid (K=((addP p (putE (deadF ⟨f1,f2,f3,f4,f5,f6,f7,f8,f9⟩)) true).1,noT,if (addP p (putE (deadF ⟨f1,f2,f3,f4,f5,f6,f7,f8,f9⟩)) true).2=0 then 15 else (addP p (putE (deadF ⟨f1,f2,f3,f4,f5,f6,f7,f8,f9⟩)) true).2)):=HE0.out
       clear HE0;generalize addP p (putE (deadF ⟨f1,f2,f3,f4,f5,f6,f7,f8,f9⟩)) true=Q at *;obtain ⟨q,n⟩:=Q;unfold deadF famV famCs at hpu;simp only at hpu HE;have HPV:Hid _:=hpu;have HXN:Hid (¬ (tg=f5 - 1∧request=f8)):=hx;clear hpu hx
       have k1:Hid (tg=f5 - 1→request.toList=f8.toList→False):=fun hx1 a=>HXN.out ⟨hx1,by
        rw [ByteArray.toList_eq,ByteArray.toList_eq] at a;exact ByteArray.ext (Array.toList_inj.1 a)⟩
       go_enter Tryz.func28,Tryz.ntmps28
       go_wp2_with fail
       refine (hn1 _).mono ?_;rintro e1 wx ⟨rfl,hw⟩;obtain rfl:w=wx:=hw.symm;go_wp2_with fail
       refine (hlk _ HS.out).mono ?_;rintro e2 w1 ⟨rfl,hb2⟩;have HX:Hid _:=fin w1 tk tf tg te f1 f2 f3 f4 f5 f6 f7 f8 f9 hb2;clear hlk hb2 fin hn1;go_upto_region 4 with fail
       generalize hWW:((w1.alloc (.cells #[.int .i64 tk,.int .i64 tf,.int .i64 tg,.int .i64 te] 137)).alloc (.cells #[.int .i64 f1,.string f2,.string f3,.string f4,.int .i64 f5,.int .i64 f6,.int .i64 f7,.string f8,.bool f9] 40))=W3 at *;clear hWW;generalize w1.heap.size=gq at *;have HX1:Hid _:=HX.out.1;have HX2:Hid _:=HX.out.2.1;have HX4:Hid _:=HX.out.2.2.2.1;have HGQ:Hid (w.heap.size≤gq+1∧gr<gq):=by show _∧_; have h1:=HX.out.2.2.2.2; have h2:=HLT.out; omega
       have x2:=HX.out.2.2.1.c2;have d0:=HX4.out.c0; have d1:=HX4.out.c1; have d2:=HX4.out.c2; have d3:=HX4.out.c3; have d4:=HX4.out.c4; have d5:=HX4.out.c5; have d6:=HX4.out.c6; have d7:=HX4.out.c7; have d8:=HX4.out.c8; have dz:=HX4.out.fz;simp only at x2 d0 d1 d2 d3 d4 d5 d6 d7 d8;clear HX;have HF2:Hid (FB (W3.setCell ⟨gq+1,8,none⟩ (.bool true)) (gq+1) ⟨f1,f2,f3,f4,f5,f6,f7,f8,true⟩):=HX4.out.dead;have HB2:Hid (Below w.heap.size w (W3.setCell ⟨gq+1,8,none⟩ (.bool true))):=HX1.out.trans (below_setCellsW HGQ.out.1 [.bool true] 8 W3);have HSd:Hid _:=HS.out.on HB2.out;go_upto_region 9 with fail
       by_cases hx1:tg=f5 - 1
       ·have hge:(tg == f5 - 1)=true:=by simp [hx1]
        have k2:Hid (request.toList=f8.toList→False):=fun a=>k1.out hx1 a;have HX1':Hid (tg=f5 - 1):=hx1;clear hx1;go_upto_region 12 with fail
        all_goals first
         |exact (k2.out (by assumption)).elim
         |exact (k2.out (by simpa using ‹(request.toList == f8.toList)=true›)).elim
         |exact (k2.out (Eq.symm (by assumption))).elim
         |exact (k2.out (Eq.symm (by simpa using ‹(f8.toList == request.toList)=true›))).elim
         |skip
        generalize hWC:W3.setCell ⟨gq+1,8,none⟩ (.bool true)=WD at *;clear hWC x2 d0 d1 d2 d3 d4 d5 d6 d7 d8 dz;have e0:=HF2.out.c0; have e1:=HF2.out.c1; have e2:=HF2.out.c2; have e3:=HF2.out.c3; have e4:=HF2.out.c4; have e5:=HF2.out.c5; have e6:=HF2.out.c6; have e7:=HF2.out.c7; have e8:=HF2.out.c8;simp only at e0 e1 e2 e3 e4 e5 e6 e7 e8;by_cases hn:n=0
        ·subst hn
         have HE2:Hid (K=(q,noT,15)):=by show K=_; rw [HE.out]; rfl
         go_wp2_with fail
         refine (HPV.out _ HSd.out).mono ?_;rintro e5' w5 ⟨rfl,v5,hto⟩;have HTO:Hid _:=hto.pre HB2.out;clear hto e0 e1 e2 e3 e4 e5 e6 e7 e8;go_wp2_with fail
         go_ret2;rw [HE2.out];exact ⟨rfl,_,HTO.out⟩
        ·have hnI:¬ (n:Int)=0:=by omega
         have HE2:Hid (K=(q,noT,n)):=by show K=_; rw [HE.out,if_neg hn]
         go_wp2_with fail
         refine (HPV.out _ HSd.out).mono ?_;rintro e5' w5 ⟨rfl,v5,hto⟩;have HTO:Hid _:=hto.pre HB2.out;clear hto e0 e1 e2 e3 e4 e5 e6 e7 e8;go_wp2_with fail
         go_ret2;rw [HE2.out];exact ⟨rfl,_,HTO.out⟩
       ·have hge:(tg == f5 - 1)=false:=by simp [hx1]
        clear hx1;go_upto_region 12 with fail
        generalize hWC:W3.setCell ⟨gq+1,8,none⟩ (.bool true)=WD at *;clear hWC x2 d0 d1 d2 d3 d4 d5 d6 d7 d8 dz;have e0:=HF2.out.c0; have e1:=HF2.out.c1; have e2:=HF2.out.c2; have e3:=HF2.out.c3; have e4:=HF2.out.c4; have e5:=HF2.out.c5; have e6:=HF2.out.c6; have e7:=HF2.out.c7; have e8:=HF2.out.c8;simp only at e0 e1 e2 e3 e4 e5 e6 e7 e8;by_cases hn:n=0
        ·subst hn
         have HE2:Hid (K=(q,noT,15)):=by show K=_; rw [HE.out]; rfl
         go_wp2_with fail
         refine (HPV.out _ HSd.out).mono ?_;rintro e5' w5 ⟨rfl,v5,hto⟩;have HTO:Hid _:=hto.pre HB2.out;clear hto e0 e1 e2 e3 e4 e5 e6 e7 e8;go_wp2_with fail
         go_ret2;rw [HE2.out];exact ⟨rfl,_,HTO.out⟩
        ·have hnI:¬ (n:Int)=0:=by omega
         have HE2:Hid (K=(q,noT,n)):=by show K=_; rw [HE.out,if_neg hn]
         go_wp2_with fail
         refine (HPV.out _ HSd.out).mono ?_;rintro e5' w5 ⟨rfl,v5,hto⟩;have HTO:Hid _:=hto.pre HB2.out;clear hto e0 e1 e2 e3 e4 e5 e6 e7 e8;go_wp2_with fail
         go_ret2;rw [HE2.out];exact ⟨rfl,_,HTO.out⟩
  ·have HE:Hid (rotateM (txtB r) r p true request t n ⟨(joined l).toArray⟩ m b=(p,noT,look0 r p.st 1 t n)):=by show _=_; unfold rotateM; rw [if_neg (by simp),lookM_bad he,if_pos he]
   have hlk:=fun (W:World) (hW:RvIs N W gx gr r p v)=>refLooks_no N W gx gr r p v text 1 t n _ hW ht hto rfl;clear h hto ht hw hsc hrq ho HJL;generalize rotateM (txtB r) r p true request t n ⟨(joined l).toArray⟩ m b=K at *;generalize look0 r p.st 1 t n=e at *;have heI:¬ (e:Int)=0:=by omega
   go_enter Tryz.func28,Tryz.ntmps28
   go_wp2_with fail
   refine (hn1 _).mono ?_;rintro e1 wx ⟨rfl,hw⟩;obtain rfl:w=wx:=hw.symm;go_wp2_with fail
   refine (hlk _ HS.out).mono ?_;rintro e2 w1 ⟨⟨tk,tf,tg,te,f1,f2,f3,f4,f5,f6,f7,f8,f9,rfl⟩,hb2⟩;have HX:Hid _:=fin w1 tk tf tg te f1 f2 f3 f4 f5 f6 f7 f8 f9 hb2;clear hlk hb2 fin hn1;go_upto_region 4 with fail
   generalize hWW:((w1.alloc (.cells #[.int .i64 tk,.int .i64 tf,.int .i64 tg,.int .i64 te] 137)).alloc (.cells #[.int .i64 f1,.string f2,.string f3,.string f4,.int .i64 f5,.int .i64 f6,.int .i64 f7,.string f8,.bool f9] 40))=W3 at *;clear hWW;generalize w1.heap.size=gq at *;have HX1:Hid _:=HX.out.1;have HX2:Hid _:=HX.out.2.1;have HX4:Hid _:=HX.out.2.2.2.1;have HGQ:Hid (w.heap.size≤gq+1∧gr<gq):=by show _∧_; have h1:=HX.out.2.2.2.2; have h2:=HLT.out; omega
   have x2:=HX.out.2.2.1.c2;have d0:=HX4.out.c0; have d1:=HX4.out.c1; have d2:=HX4.out.c2; have d3:=HX4.out.c3; have d4:=HX4.out.c4; have d5:=HX4.out.c5; have d6:=HX4.out.c6; have d7:=HX4.out.c7; have d8:=HX4.out.c8; have dz:=HX4.out.fz;simp only at x2 d0 d1 d2 d3 d4 d5 d6 d7 d8;clear HX;go_wp2_with fail
   go_ret2;rw [HE.out];exact ⟨rfl,_,RTo.same HS.out.doc HS.out.ok HX1.out⟩
end Go.Proofs.YtlailakofhenkabGreatDoor
