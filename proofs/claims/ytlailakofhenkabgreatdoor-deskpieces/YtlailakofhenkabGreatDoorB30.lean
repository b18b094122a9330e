import Derived.Test.YtlailakofhenkabGreatDoorB29
set_option maxRecDepth 100000
set_option maxHeartbeats 8000000
namespace Go.Proofs.YtlailakofhenkabGreatDoor
open Go Go.RowKit Tok Sc Ev
theorem rotate_is (N:Nat) (w:World) (gv gs gd:Nat) (r:Rul) (p:Pub) (v:Value) (text request sc:ByteArray) (t:T) (n:Nat) (l:List Word) (m:Nat) (b:Bool) (h:SvIs N w gv gs gd r p v) (ht:text.size≤5000) (hrq:request.size≤5000) (hsc:sc.size≤5000) (hto:Tok.Out (tag r.key) text.data.toList t n) (ho:Sc.Out sc.data.toList l m) (hw:lookM r p.st 1 t n=0→m=0→WOut (joined l) (famM p.st t).scope.data.toList b 0) (hN:N<98000) :
 Calls Tryz.prog 29 #[.pointer (some ⟨gv,0,none⟩),.string text,.string request,.string sc] w fun x w'=>x=.returned (.tuple #[.string (rotateM (txtB r) r p (nameB request.data.toList) request t n ⟨(joined l).toArray⟩ m b).2.1,errQ (rotateM (txtB r) r p (nameB request.data.toList) request t n ⟨(joined l).toArray⟩ m b).2.2])∧∃ v',SPto N gs gd v w w' (rotateM (txtB r) r p (nameB request.data.toList) request t n ⟨(joined l).toArray⟩ m b).1 v':=by
 have HS:Hid (SvIs N w gv gs gd r p v):=h;have hn1:=fun (W:World)=>name_is request W (by omega)
 have hlk:=look_is N w gv gs gd r p v text 1 t n (lookM r p.st 1 t n) h ht hto rfl;have HFM:Hid (lookM r p.st 1 t n=0→mayF (famM p.st t)):=fun he=>fam_may h.sp.ok.good (look_fam (look_ok he).1).2.2.1;have HTU:Hid (nameB request.data.toList=true→lookM r p.st 1 t n=0→∀ (W:World),SvIs N W gv gs gd r p v→Calls Tryz.prog 76 #[.pointer (some ⟨gv,0,none⟩),famV (famM p.st t),.string request,.string sc] W fun e w'=>e=.returned (.tuple #[.string (turnM (txtB r) p (famM p.st t) request ⟨(joined l).toArray⟩ m b).2.1,errQ (turnM (txtB r) p (famM p.st t) request ⟨(joined l).toArray⟩ m b).2.2])∧∃ v',SPto N gs gd v W w' (turnM (txtB r) p (famM p.st t) request ⟨(joined l).toArray⟩ m b).1 v'):=fun hr he W hW=>turn_is N W gv gs gd r p v (famM p.st t) request sc l m b hW (HFM.out he) hr hsc ho (hw he) hN
 have HRF:Hid (lookM r p.st 1 t n=0→∀ (W:World),SvIs N W gv gs gd r p v→Calls Tryz.prog 77 #[.pointer (some ⟨gv,0,none⟩),famV (famM p.st t)] W fun e w'=>e=.returned (.tuple #[.string (txtB r ⟨1,(famM p.st t).id,(famM p.st t).gen,0⟩),.nilIface])∧Below W.heap.size W w'):=fun he W hW=>refresh_is N W gv gs gd r p v (famM p.st t) hW (HFM.out he);have HSO:Hid (lookM r p.st 1 t n=0→∀ (W:World),SvIs N W gv gs gd r p v→Calls Tryz.prog 78 #[.pointer (some ⟨gv,0,none⟩),famV (famM p.st t)] W fun e w'=>e=.returned (errQ (spoilM p (famM p.st t)).2.2)∧∃ v',SPto N gs gd v W w' (spoilM p (famM p.st t)).1 v'):=fun he W hW=>spoil_is N W gv gs gd r p v (famM p.st t) hW (HFM.out he) hN;have HGN:Hid (lookM r p.st 1 t n=0→0≤(famM p.st t).gen∧(famM p.st t).gen≤1099511627776):=fun he=>(HFM.out he).1.2.1
 have HSN:Hid ((spoilM p (famM p.st t)).2.1=noT):=rfl;generalize (⟨(joined l).toArray⟩:ByteArray)=J at *;clear h hto ho hw ht hsc hrq HFM;unfold rotateM
 cases h1:nameB request.data.toList with
 |false=>
  rw [h1] at hn1;rw [if_pos rfl];clear h1;go_enter Tryz.func29,Tryz.ntmps29
  go_wp2_with fail
  refine (hn1 _).mono ?_;rintro e1 w1 ⟨rfl,hw⟩;obtain rfl:w=w1:=hw.symm;go_wp2_with fail
  go_ret2;exact ⟨rfl,_,SPto.same HS.out.sp (Below.refl _ _)⟩
 |true=>
  rw [h1] at hn1 HTU;rw [if_neg (by simp)]
  clear h1;generalize lookM r p.st 1 t n=e at *;generalize famM p.st t=f at *
  cases e with
  |succ e=>
   rw [if_neg (by omega),if_neg (by omega)] at hlk
   rw [if_pos (by omega)]
   unfold tokV famV famCs zero zeroF at hlk;simp only at hlk;go_enter Tryz.func29,Tryz.ntmps29
   go_wp2_with fail
   refine (hn1 _).mono ?_;rintro e1 w1 ⟨rfl,hw⟩;obtain rfl:w=w1:=hw.symm;go_wp2_with fail
   refine hlk.mono ?_;rintro e2 w2 ⟨rfl,hb2⟩;have HB2:Hid (Below w.heap.size w w2):=hb2;rw [errQ_succ];clear hlk hb2;go_wp2_with fail
   go_ret2;refine ⟨rfl,_,SPto.same HS.out.sp ?_⟩;repeat (first | exact HB2.out | refine Below.alloc ?_ (by have:=HB2.out.size; simp; try omega) _)
  |zero=>
   rw [if_pos rfl,if_pos rfl] at hlk;rw [if_neg (by omega)]
   obtain ⟨tk,tf,tg,te⟩:=t;have HG:Hid _:=HGN.out (by trivial)
   have htu:=HTU.out (by trivial) (by trivial)
   have hrf:=HRF.out (by trivial)
   have hso:=HSO.out (by trivial)
   have HTU2:Hid _:=htu;have HRF2:Hid _:=hrf;have HSO2:Hid _:=hso;clear htu hrf hso HTU HRF HSO HGN;by_cases hg:tg=f.gen
   ·rw [if_pos hg]
    generalize turnM (txtB r) p f request J m b=Q at *;obtain ⟨f1,f2,f3,f4,f5,f6,f7,f8,f9⟩:=f;simp only at hg;subst hg;have htu:=HTU2.out;have hrf:=HRF2.out;have hso:=HSO2.out;unfold famV famCs at htu hrf hso;simp only at htu hrf hso;have HTU3:Hid _:=htu;have HRF3:Hid _:=hrf;have HSO3:Hid _:=hso;clear htu hrf hso HTU2 HRF2 HSO2;unfold tokV famV famCs at hlk;simp only at hlk;go_enter Tryz.func29,Tryz.ntmps29
    go_wp2_with fail
    refine (hn1 _).mono ?_;rintro e1 w1 ⟨rfl,hw⟩;obtain rfl:w=w1:=hw.symm;go_wp2_with fail
    refine hlk.mono ?_;rintro e2 w1 ⟨rfl,hb2⟩;rw [show errQ 0=.nilIface from rfl]
    have hb3:Below w1.heap.size w1 ((w1.alloc (.cells #[.int .i64 tk,.int .i64 tf,.int .i64 tg,.int .i64 te] 142)).alloc (.cells #[.int .i64 f1,.string f2,.string f3,.string f4,.int .i64 tg,.int .i64 f6,.int .i64 f7,.string f8,.bool f9] 40)):=((Below.refl _ _).alloc (Nat.le_refl _) _).alloc (by simp) _
    have HS3:Hid (SvIs N ((w1.alloc (.cells #[.int .i64 tk,.int .i64 tf,.int .i64 tg,.int .i64 te] 142)).alloc (.cells #[.int .i64 f1,.string f2,.string f3,.string f4,.int .i64 tg,.int .i64 f6,.int .i64 f7,.string f8,.bool f9] 40)) gv gs gd r p v):=(HS.out.on hb2).on hb3;have HB3:Hid (Below w.heap.size w ((w1.alloc (.cells #[.int .i64 tk,.int .i64 tf,.int .i64 tg,.int .i64 te] 142)).alloc (.cells #[.int .i64 f1,.string f2,.string f3,.string f4,.int .i64 tg,.int .i64 f6,.int .i64 f7,.string f8,.bool f9] 40))):=hb2.trans (hb3.mono hb2.size)
    have HT3:Hid (TB ((w1.alloc (.cells #[.int .i64 tk,.int .i64 tf,.int .i64 tg,.int .i64 te] 142)).alloc (.cells #[.int .i64 f1,.string f2,.string f3,.string f4,.int .i64 tg,.int .i64 f6,.int .i64 f7,.string f8,.bool f9] 40)) w1.heap.size ⟨tk,tf,tg,te⟩):=(TB.made w1 ⟨tk,tf,tg,te⟩ _).on ((Below.refl _ _).alloc (Nat.le_refl _) _);have hsz:(w1.alloc (.cells #[.int .i64 tk,.int .i64 tf,.int .i64 tg,.int .i64 te] 142)).heap.size=w1.heap.size+1:=by simp
    have HF3:Hid (FB ((w1.alloc (.cells #[.int .i64 tk,.int .i64 tf,.int .i64 tg,.int .i64 te] 142)).alloc (.cells #[.int .i64 f1,.string f2,.string f3,.string f4,.int .i64 tg,.int .i64 f6,.int .i64 f7,.string f8,.bool f9] 40)) (w1.heap.size+1) ⟨f1,f2,f3,f4,tg,f6,f7,f8,f9⟩):=by rw [← hsz]; exact FB.made _ ⟨f1,f2,f3,f4,tg,f6,f7,f8,f9⟩ _
    have HZ:Hid _:=hsz;clear hlk hb2 hb3 hsz;go_upto_region 4 with fail
    have t2:=HT3.out.c2;have z0:=HF3.out.c0; have z1:=HF3.out.c1; have z2:=HF3.out.c2; have z3:=HF3.out.c3; have z4:=HF3.out.c4; have z5:=HF3.out.c5; have z6:=HF3.out.c6; have z7:=HF3.out.c7; have z8:=HF3.out.c8;simp only at t2 z0 z1 z2 z3 z4 z5 z6 z7 z8;clear HT3 HF3;generalize hWW:((w1.alloc (.cells #[.int .i64 tk,.int .i64 tf,.int .i64 tg,.int .i64 te] 142)).alloc (.cells #[.int .i64 f1,.string f2,.string f3,.string f4,.int .i64 tg,.int .i64 f6,.int .i64 f7,.string f8,.bool f9] 40))=W3 at *;clear hWW HZ;generalize w1.heap.size=gq at *;go_wp2_with fail
    refine (HTU3.out _ HS3.out).mono ?_;rintro e4 w4 ⟨rfl,v4,hto⟩;have HTO:Hid _:=hto.pre HB3.out;clear hto;go_wp2_with fail
    go_ret2;exact ⟨rfl,_,HTO.out⟩
   ·rw [if_neg hg]
    by_cases hx:tg=f.gen - 1∧request=f.request
    ·rw [if_pos hx]
     obtain ⟨hx1,hx2⟩:=hx;obtain ⟨f1,f2,f3,f4,f5,f6,f7,f8,f9⟩:=f;simp only at hx1 hx2 hg;have hg0:0≤f5∧f5≤1099511627776:=HG.out;obtain ⟨hg1,hg2⟩:=hg0;subst hx2;have hgb:(tg == f5)=false:=by simp [hg]
     have hge:(tg == f5 - 1)=true:=by simp [hx1]
     have HX1:Hid (tg=f5 - 1):=hx1;clear hx1;have htu:=HTU2.out;have hrf:=HRF2.out;have hso:=HSO2.out;unfold famV famCs at htu hrf hso;simp only at htu hrf hso;have HTU3:Hid _:=htu;have HRF3:Hid _:=hrf;have HSO3:Hid _:=hso;clear htu hrf hso HTU2 HRF2 HSO2;unfold tokV famV famCs at hlk;simp only at hlk;go_enter Tryz.func29,Tryz.ntmps29
     go_wp2_with fail
     refine (hn1 _).mono ?_;rintro e1 w1 ⟨rfl,hw⟩;obtain rfl:w=w1:=hw.symm;go_wp2_with fail
     refine hlk.mono ?_;rintro e2 w1 ⟨rfl,hb2⟩;rw [show errQ 0=.nilIface from rfl]
     have hb3:Below w1.heap.size w1 ((w1.alloc (.cells #[.int .i64 tk,.int .i64 tf,.int .i64 tg,.int .i64 te] 142)).alloc (.cells #[.int .i64 f1,.string f2,.string f3,.string f4,.int .i64 f5,.int .i64 f6,.int .i64 f7,.string request,.bool f9] 40)):=((Below.refl _ _).alloc (Nat.le_refl _) _).alloc (by simp) _
     have HS3:Hid (SvIs N ((w1.alloc (.cells #[.int .i64 tk,.int .i64 tf,.int .i64 tg,.int .i64 te] 142)).alloc (.cells #[.int .i64 f1,.string f2,.string f3,.string f4,.int .i64 f5,.int .i64 f6,.int .i64 f7,.string request,.bool f9] 40)) gv gs gd r p v):=(HS.out.on hb2).on hb3;have HB3:Hid (Below w.heap.size w ((w1.alloc (.cells #[.int .i64 tk,.int .i64 tf,.int .i64 tg,.int .i64 te] 142)).alloc (.cells #[.int .i64 f1,.string f2,.string f3,.string f4,.int .i64 f5,.int .i64 f6,.int .i64 f7,.string request,.bool f9] 40))):=hb2.trans (hb3.mono hb2.size)
     have HT3:Hid (TB ((w1.alloc (.cells #[.int .i64 tk,.int .i64 tf,.int .i64 tg,.int .i64 te] 142)).alloc (.cells #[.int .i64 f1,.string f2,.string f3,.string f4,.int .i64 f5,.int .i64 f6,.int .i64 f7,.string request,.bool f9] 40)) w1.heap.size ⟨tk,tf,tg,te⟩):=(TB.made w1 ⟨tk,tf,tg,te⟩ _).on ((Below.refl _ _).alloc (Nat.le_refl _) _);have hsz:(w1.alloc (.cells #[.int .i64 tk,.int .i64 tf,.int .i64 tg,.int .i64 te] 142)).heap.size=w1.heap.size+1:=by simp
     have HF3:Hid (FB ((w1.alloc (.cells #[.int .i64 tk,.int .i64 tf,.int .i64 tg,.int .i64 te] 142)).alloc (.cells #[.int .i64 f1,.string f2,.string f3,.string f4,.int .i64 f5,.int .i64 f6,.int .i64 f7,.string request,.bool f9] 40)) (w1.heap.size+1) ⟨f1,f2,f3,f4,f5,f6,f7,request,f9⟩):=by rw [← hsz]; exact FB.made _ ⟨f1,f2,f3,f4,f5,f6,f7,request,f9⟩ _
     have HZ:Hid _:=hsz;clear hlk hb2 hb3 hsz;go_upto_region 4 with fail
     have t2:=HT3.out.c2;have z0:=HF3.out.c0; have z1:=HF3.out.c1; have z2:=HF3.out.c2; have z3:=HF3.out.c3; have z4:=HF3.out.c4; have z5:=HF3.out.c5; have z6:=HF3.out.c6; have z7:=HF3.out.c7; have z8:=HF3.out.c8;simp only at t2 z0 z1 z2 z3 z4 z5 z6 z7 z8;clear HT3 HF3;generalize hWW:((w1.alloc (.cells #[.int .i64 tk,.int .i64 tf,.int .i64 tg,.int .i64 te] 142)).alloc (.cells #[.int .i64 f1,.string f2,.string f3,.string f4,.int .i64 f5,.int .i64 f6,.int .i64 f7,.string request,.bool f9] 40))=W3 at *;clear hWW HZ;generalize w1.heap.size=gq at *;go_wp2_with fail
     refine (HRF3.out _ HS3.out).mono ?_;rintro e4 w4 ⟨rfl,hb4⟩;have HTO:Hid _:=(SPto.same (N:=N) HS3.out.sp hb4).pre HB3.out;clear hb4;go_wp2_with fail
     go_ret2;exact ⟨rfl,_,HTO.out⟩
    ·rw [if_neg hx]
     rw [HSN.out];generalize spoilM p f=Q at *;have HXN:Hid (¬ (tg=f.gen - 1∧request=f.request)):=hx;obtain ⟨f1,f2,f3,f4,f5,f6,f7,f8,f9⟩:=f;simp only at hg;have hg0:0≤f5∧f5≤1099511627776:=HG.out;obtain ⟨hg1,hg2⟩:=hg0;have hgb:(tg == f5)=false:=by simp [hg]
     clear hx;by_cases hx1:tg=f5 - 1
     ·have hx2:¬ request=f8:=fun hh=>HXN.out ⟨hx1,hh⟩
      have hge:(tg == f5 - 1)=true:=by simp [hx1]
      have k1:Hid (request.toList=f8.toList→False):=fun a=>hx2 (by
       rw [ByteArray.toList_eq,ByteArray.toList_eq] at a;exact ByteArray.ext (Array.toList_inj.1 a))
      clear hx2;have HX1:Hid (tg=f5 - 1):=hx1;clear hx1;have htu:=HTU2.out;have hrf:=HRF2.out;have hso:=HSO2.out;unfold famV famCs at htu hrf hso;simp only at htu hrf hso;have HTU3:Hid _:=htu;have HRF3:Hid _:=hrf;have HSO3:Hid _:=hso;clear htu hrf hso HTU2 HRF2 HSO2;unfold tokV famV famCs at hlk;simp only at hlk;go_enter Tryz.func29,Tryz.ntmps29
      go_wp2_with fail
      refine (hn1 _).mono ?_;rintro e1 w1 ⟨rfl,hw⟩;obtain rfl:w=w1:=hw.symm;go_wp2_with fail
      refine hlk.mono ?_;rintro e2 w1 ⟨rfl,hb2⟩;rw [show errQ 0=.nilIface from rfl]
      have hb3:Below w1.heap.size w1 ((w1.alloc (.cells #[.int .i64 tk,.int .i64 tf,.int .i64 tg,.int .i64 te] 142)).alloc (.cells #[.int .i64 f1,.string f2,.string f3,.string f4,.int .i64 f5,.int .i64 f6,.int .i64 f7,.string f8,.bool f9] 40)):=((Below.refl _ _).alloc (Nat.le_refl _) _).alloc (by simp) _
      have HS3:Hid (SvIs N ((w1.alloc (.cells #[.int .i64 tk,.int .i64 tf,.int .i64 tg,.int .i64 te] 142)).alloc (.cells #[.int .i64 f1,.string f2,.string f3,.string f4,.int .i64 f5,.int .i64 f6,.int .i64 f7,.string f8,.bool f9] 40)) gv gs gd r p v):=(HS.out.on hb2).on hb3;have HB3:Hid (Below w.heap.size w ((w1.alloc (.cells #[.int .i64 tk,.int .i64 tf,.int .i64 tg,.int .i64 te] 142)).alloc (.cells #[.int .i64 f1,.string f2,.string f3,.string f4,.int .i64 f5,.int .i64 f6,.int .i64 f7,.string f8,.bool f9] 40))):=hb2.trans (hb3.mono hb2.size)
      have HT3:Hid (TB ((w1.alloc (.cells #[.int .i64 tk,.int .i64 tf,.int .i64 tg,.int .i64 te] 142)).alloc (.cells #[.int .i64 f1,.string f2,.string f3,.string f4,.int .i64 f5,.int .i64 f6,.int .i64 f7,.string f8,.bool f9] 40)) w1.heap.size ⟨tk,tf,tg,te⟩):=(TB.made w1 ⟨tk,tf,tg,te⟩ _).on ((Below.refl _ _).alloc (Nat.le_refl _) _);have hsz:(w1.alloc (.cells #[.int .i64 tk,.int .i64 tf,.int .i64 tg,.int .i64 te] 142)).heap.size=w1.heap.size+1:=by simp
      have HF3:Hid (FB ((w1.alloc (.cells #[.int .i64 tk,.int .i64 tf,.int .i64 tg,.int .i64 te] 142)).alloc (.cells #[.int .i64 f1,.string f2,.string f3,.string f4,.int .i64 f5,.int .i64 f6,.int .i64 f7,.string f8,.bool f9] 40)) (w1.heap.size+1) ⟨f1,f2,f3,f4,f5,f6,f7,f8,f9⟩):=by rw [← hsz]; exact FB.made _ ⟨f1,f2,f3,f4,f5,f6,f7,f8,f9⟩ _
      have HZ:Hid _:=hsz;clear hlk hb2 hb3 hsz;go_upto_region 4 with fail
      have t2:=HT3.out.c2;have z0:=HF3.out.c0; have z1:=HF3.out.c1; have z2:=HF3.out.c2; have z3:=HF3.out.c3; have z4:=HF3.out.c4; have z5:=HF3.out.c5; have z6:=HF3.out.c6; have z7:=HF3.out.c7; have z8:=HF3.out.c8;simp only at t2 z0 z1 z2 z3 z4 z5 z6 z7 z8;clear HT3 HF3;generalize hWW:((w1.alloc (.cells #[.int .i64 tk,.int .i64 tf,.int .i64 tg,.int .i64 te] 142)).alloc (.cells #[.int .i64 f1,.string f2,.string f3,.string f4,.int .i64 f5,.int .i64 f6,.int .i64 f7,.string f8,.bool f9] 40))=W3 at *;clear hWW HZ;generalize w1.heap.size=gq at *;go_wp2_with fail
      all_goals first
       |exact (k1.out (by assumption)).elim
       |exact (k1.out (by simpa using ‹(request.toList == f8.toList)=true›)).elim
       |(refine (HSO3.out _ HS3.out).mono ?_
         rintro e4 w4 ⟨rfl,v4,hto⟩;have HTO:Hid _:=hto.pre HB3.out;clear hto;go_wp2_with fail
         go_ret2;exact ⟨rfl,_,HTO.out⟩)
     ·have hge:(tg == f5 - 1)=false:=by simp [hx1]
      have htu:=HTU2.out;have hrf:=HRF2.out;have hso:=HSO2.out;unfold famV famCs at htu hrf hso;simp only at htu hrf hso;have HTU3:Hid _:=htu;have HRF3:Hid _:=hrf;have HSO3:Hid _:=hso;clear htu hrf hso HTU2 HRF2 HSO2;unfold tokV famV famCs at hlk;simp only at hlk;go_enter Tryz.func29,Tryz.ntmps29
      go_wp2_with fail
      refine (hn1 _).mono ?_;rintro e1 w1 ⟨rfl,hw⟩;obtain rfl:w=w1:=hw.symm;go_wp2_with fail
      refine hlk.mono ?_;rintro e2 w1 ⟨rfl,hb2⟩;rw [show errQ 0=.nilIface from rfl]
      have hb3:Below w1.heap.size w1 ((w1.alloc (.cells #[.int .i64 tk,.int .i64 tf,.int .i64 tg,.int .i64 te] 142)).alloc (.cells #[.int .i64 f1,.string f2,.string f3,.string f4,.int .i64 f5,.int .i64 f6,.int .i64 f7,.string f8,.bool f9] 40)):=((Below.refl _ _).alloc (Nat.le_refl _) _).alloc (by simp) _
      have HS3:Hid (SvIs N ((w1.alloc (.cells #[.int .i64 tk,.int .i64 tf,.int .i64 tg,.int .i64 te] 142)).alloc (.cells #[.int .i64 f1,.string f2,.string f3,.string f4,.int .i64 f5,.int .i64 f6,.int .i64 f7,.string f8,.bool f9] 40)) gv gs gd r p v):=(HS.out.on hb2).on hb3;have HB3:Hid (Below w.heap.size w ((w1.alloc (.cells #[.int .i64 tk,.int .i64 tf,.int .i64 tg,.int .i64 te] 142)).alloc (.cells #[.int .i64 f1,.string f2,.string f3,.string f4,.int .i64 f5,.int .i64 f6,.int .i64 f7,.string f8,.bool f9] 40))):=hb2.trans (hb3.mono hb2.size)
      have HT3:Hid (TB ((w1.alloc (.cells #[.int .i64 tk,.int .i64 tf,.int .i64 tg,.int .i64 te] 142)).alloc (.cells #[.int .i64 f1,.string f2,.string f3,.string f4,.int .i64 f5,.int .i64 f6,.int .i64 f7,.string f8,.bool f9] 40)) w1.heap.size ⟨tk,tf,tg,te⟩):=(TB.made w1 ⟨tk,tf,tg,te⟩ _).on ((Below.refl _ _).alloc (Nat.le_refl _) _);have hsz:(w1.alloc (.cells #[.int .i64 tk,.int .i64 tf,.int .i64 tg,.int .i64 te] 142)).heap.size=w1.heap.size+1:=by simp
      have HF3:Hid (FB ((w1.alloc (.cells #[.int .i64 tk,.int .i64 tf,.int .i64 tg,.int .i64 te] 142)).alloc (.cells #[.int .i64 f1,.string f2,.string f3,.string f4,.int .i64 f5,.int .i64 f6,.int .i64 f7,.string f8,.bool f9] 40)) (w1.heap.size+1) ⟨f1,f2,f3,f4,f5,f6,f7,f8,f9⟩):=by rw [← hsz]; exact FB.made _ ⟨f1,f2,f3,f4,f5,f6,f7,f8,f9⟩ _
      have HZ:Hid _:=hsz;clear hlk hb2 hb3 hsz;go_upto_region 4 with fail
      have t2:=HT3.out.c2;have z0:=HF3.out.c0; have z1:=HF3.out.c1; have z2:=HF3.out.c2; have z3:=HF3.out.c3; have z4:=HF3.out.c4; have z5:=HF3.out.c5; have z6:=HF3.out.c6; have z7:=HF3.out.c7; have z8:=HF3.out.c8;simp only at t2 z0 z1 z2 z3 z4 z5 z6 z7 z8;clear HT3 HF3;generalize hWW:((w1.alloc (.cells #[.int .i64 tk,.int .i64 tf,.int .i64 tg,.int .i64 te] 142)).alloc (.cells #[.int .i64 f1,.string f2,.string f3,.string f4,.int .i64 f5,.int .i64 f6,.int .i64 f7,.string f8,.bool f9] 40))=W3 at *;clear hWW HZ;generalize w1.heap.size=gq at *;go_wp2_with fail
      refine (HSO3.out _ HS3.out).mono ?_;rintro e4 w4 ⟨rfl,v4,hto⟩;have HTO:Hid _:=hto.pre HB3.out;clear hto;go_wp2_with fail
      go_ret2;exact ⟨rfl,_,HTO.out⟩
set_option maxHeartbeats 4000000
theorem new_is (N:Nat) (w:World) (gs gd:Nat) (k i l a:Int) (p:Pub) (v:Value) (h:SP N w gs gd p v) (hL:LibsR w) (hr:RulOk ⟨k,i,l,a⟩) (ho:OldsR gd) :
 Calls Tryz.prog 22 #[.pointer (some ⟨gs,0,none⟩),.agg #[.int .i64 k,.int .i64 i,.int .i64 l,.int .i64 a]] w fun e w'=>∃ gv,e=.returned (.tuple #[.pointer (some ⟨gv,0,none⟩),.nilIface])∧w.heap.size≤gv∧SvIs N w' gv gs gd ⟨k,i,l,a⟩ p v∧Below w.heap.size w w':=by
 have hsz:(w.alloc (.cells #[.int .i64 k,.int .i64 i,.int .i64 l,.int .i64 a] 54)).heap.size=w.heap.size+1:=by simp
 have HB:Hid (Below w.heap.size w ((w.alloc (.cells #[.int .i64 k,.int .i64 i,.int .i64 l,.int .i64 a] 54)).alloc (.cells #[.pointer (some ⟨gs,0,none⟩),.int .i64 k,.int .i64 i,.int .i64 l,.int .i64 a] 129))):=((Below.refl _ _).alloc (Nat.le_refl _) _).alloc (by simp) _
 have hbx:SvAt ((w.alloc (.cells #[.int .i64 k,.int .i64 i,.int .i64 l,.int .i64 a] 54)).alloc (.cells #[.pointer (some ⟨gs,0,none⟩),.int .i64 k,.int .i64 i,.int .i64 l,.int .i64 a] 129)) (w.heap.size+1) gs ⟨k,i,l,a⟩:=by
  rw [← hsz];refine ⟨?_,?_,?_,?_,?_,by simp⟩ <;> exact (World.cell?_alloc_at _ _ _ _ rfl).trans rfl
 have HS:Hid (SvIs N ((w.alloc (.cells #[.int .i64 k,.int .i64 i,.int .i64 l,.int .i64 a] 54)).alloc (.cells #[.pointer (some ⟨gs,0,none⟩),.int .i64 k,.int .i64 i,.int .i64 l,.int .i64 a] 129)) (w.heap.size+1) gs gd ⟨k,i,l,a⟩ p v):=⟨h.on HB.out,hbx,hL.on HB.out,hr,by have:=h.lt; omega,NotIn.past h.fam (Nat.le_succ _),ho⟩
 have i1:=fun (W:World)=>inB_is k W;have i2:=fun (W:World)=>inB_is i W;have i3:=fun (W:World)=>inB_is l W;have i4:=fun (W:World)=>inB_is a W;rw [okB_t hr.key] at i1;rw [okB_t hr.idle] at i2;rw [okB_t hr.life] at i3;rw [okB_t hr.access] at i4;have HB1:Hid (Below w.heap.size w (w.alloc (.cells #[.int .i64 k,.int .i64 i,.int .i64 l,.int .i64 a] 54))):=(Below.refl _ _).alloc (Nat.le_refl _) _;clear h hL hr ho hbx hsz;go_enter Tryz.func22,Tryz.ntmps22
 go_wp2_with fail
 refine (i1 _).mono ?_;rintro e1 w1 ⟨rfl,rfl⟩;go_wp2_with fail
 refine (i2 _).mono ?_;rintro e1 w1 ⟨rfl,rfl⟩;go_wp2_with fail
 refine (i3 _).mono ?_;rintro e1 w1 ⟨rfl,rfl⟩;go_wp2_with fail
 refine (i4 _).mono ?_;rintro e1 w1 ⟨rfl,rfl⟩;go_wp2_with fail
 go_ret2;exact ⟨_,rfl,Nat.le_succ _,HS.out,HB.out⟩
theorem LibsR.toA {w:World} (h:LibsR w):LibsA w:=⟨⟨h.base.big.1,h.base.pow,h.len⟩,h.syn,h.rng⟩
theorem OldsR.mono {a b:Nat} (h:OldsR a) (hab:a≤b):OldsR b:=⟨h.1.le hab,h.2.le hab⟩
theorem OldsR.toA {n:Nat} (h:OldsR n):Olds n:=⟨h.2.2.1,h.2.2.2,h.1.1,h.2.1⟩
theorem txt_len (r:Rul) (t:T) (h:Tok.may t):(txtB r t).size≤5000:=by
 have h1:=body_len h;have h2:=tag_len r.key (body t);unfold txtB textOf;rw [bsize,List.length_append,List.length_cons];omega
theorem may_ref {i g:Int} (hi:okN i) (hg:okN g):Tok.may ⟨1,i,g,0⟩:=⟨.inl ⟨rfl,rfl⟩,hi,hg⟩
end Go.Proofs.YtlailakofhenkabGreatDoor
namespace Go.Proofs.YtlailakofhenkabGreatDoor
open Go Go.RowKit Go.Maps Go.WideMaps
section
variable {κ : Type} {L : κ → Lit} {P : Program} {k e : TypeId} {w : World} {b n : Nat} {G : κ → Option Value}
end
end Go.Proofs.YtlailakofhenkabGreatDoor
namespace Go.Proofs.YtlailakofhenkabGreatDoor
open Go Go.RowKit Tok Sc Ev
theorem wpList_append_rowK {P:Program} (w:World) {ops:Array Oper} {rest:List Oper} {o:Oper} {a:Act} {Q:Exit→Act→World→Prop}
 (hg:o.guard=none) (s x:Operand) (t:TypeId) (hop:o.op=Op.call { callee:=Callee.builtin Builtin.append,args:=#[s,x],argTypes:=#[t,t] })
 (e:TypeId) (i:TypeInfo) (z:Value) (bytes:Nat) (h1:P.underlying t=some (.slice e)) (h2:P.info? e=some i) (h3:i.zero=some z) (h4:i.size=1) (h5:i.bytes=bytes) (h6:z.cells.size=1)
 (B g n c:Nat) (cs:List Value) (hs:a.eval s=.slice (some ⟨g,0,none⟩) n c) (hrow:RowAt B w g c n cs)
 (ad:Addr) (c':Nat) (u:Value) (hx:a.eval x=.slice (some ad) 1 c') (hc:w.cell? ad=some u) (h1c:u.oneCell'=true)
 (b1:n+1≤maxLen) (b2:(n+1)*bytes≤140737488355328)
 (hK:∀ g' cc w',RowAt B w' g' cc (n+1) (cs ++ [u])→Keep [g] w w'→(g'=g∨w.heap.size≤g')→wpList P ops Q rest (a.put o.dst (.slice (some ⟨g',0,none⟩) (n+1) cc)) w') :
 wpList P ops Q (o::rest) a w:=by
 have hnews:∀ j v,[u][j]?=some v→w.cell? (ad.add j)=some v:=by
  intro j v hj;match j,hj with
  |0,hj=>simp at hj; subst hj; simpa [Addr.add] using hc
  |j+1,hj=>simp at hj
 refine wpList_append_arg w hg s x t hop e i z 1 bytes h1 h2 h3 h4 h5 h6 (by decide) g 0 n c cs hs (by rw [hrow.len]; simp) (fun j v hj=>by rw [Nat.zero_add]; exact hrow.holds j v hj) ad 1 c' [u] hx (by simp) hnews (by intro v hv; simp at hv; subst hv; exact h1c) (fun hr j hj=>?_) b1 b2 (fun hr=>?_) (fun hgr v' w' hown hgb=>?_)
 ·simp at hj; subst hj
  simpa using hrow.there n (by omega)
 ·have hw:w.setCells g (0+n*1) [u]=w.setCell ⟨g,n,none⟩ u:=by simp [World.setCells]
  rw [hw];have hth:=hrow.there n (by omega)
  obtain ⟨old,hold⟩:=Option.isSome_iff_exists.1 hth.1;refine hK g c _ ⟨hrow.new,by simp [World.setCell]; exact hrow.lt,by simp [hrow.len],by omega,hrow.max,fun j v hj=>?_,fun j hj=>?_⟩ ((Keep.refl _ _).setCell (p:=⟨g,n,none⟩) (.inl (by simp)) _) (.inl rfl)
  ·by_cases hjn:j<n
   ·rw [List.getElem?_append_left (by rw [hrow.len]; exact hjn)] at hj
    have:=hrow.holds j v hj;have hne:j≠n:=by omega
    go_simp
   ·have hj':j=n:=by
     have:=(List.getElem?_eq_some_iff.1 hj).1;simp [hrow.len] at this; omega
    subst hj';rw [List.getElem?_append_right (by rw [hrow.len]; omega),hrow.len] at hj
    simp at hj; subst hj
    go_simp
  ·have h:=hrow.there j hj
   obtain ⟨v,hv⟩:=Option.isSome_iff_exists.1 h.1;refine ⟨?_,?_⟩
   ·by_cases hjn:j=n
    ·subst hjn; go_simp
    ·go_simp
   ·simpa using h.2
 ·rcases hown.2 with ⟨hv,h0⟩ | ⟨g',cc,cur,hv,hge,hh,hle,hmx,hsz,htk⟩
  ·omega
  ·subst hv
   have hB:B≤w.heap.size:=Nat.le_trans hrow.new (Nat.le_of_lt hrow.lt)
   have hlt:g'<w'.heap.size:=by
    rcases Nat.lt_or_ge g' w'.heap.size with h | h
    ·exact h
    ·rw [Array.getElem?_eq_none h] at hh; cases hh
   refine hK g' cc w' ⟨Nat.le_trans hB hge,hlt,by simp [hrow.len],hle,hmx,fun j v hj=>?_,fun j hj=>?_⟩ (Keep.of _ ((Below.refl _ _).grown hgb (Nat.le_refl _) (fun k hk=>by cases hk))) (.inr hge)
   ·have hj2:=hown.cells (g:=g') rfl j v hj
    rw [Addr.add_lit,Nat.zero_add] at hj2; exact hj2
   ·have hjc:j<cur.size:=by omega
    simp [World.cell?,World.frozen?,hh,hjc]
def Apart (v u:Value):Prop:=∀ g o n c,v=.slice (some ⟨g,o,none⟩) n c→NotIn u g
section
variable {n c N gh gv gs gd b1 b2 b3 : Nat} {r : Rul} {p : Pub} {v vt : Value} {toks : List ByteArray} {S F : Int → Option Value} {G : List UInt8 → Option Value} {w0 w w' : World}
end
end Go.Proofs.YtlailakofhenkabGreatDoor
namespace Go.Proofs.YtlailakofhenkabGreatDoor
open Go Go.RowKit Tok Sc Ev
def Rows1 (B:Nat) (w:World) (v:Value) (cs:List Value):Prop:=
 (v=.slice none 0 0∧cs= [])∨∃ g c,v=.slice (some ⟨g,0,none⟩) cs.length c∧RowAt B w g c cs.length cs
theorem Rows1.keepOut {l:List Nat} {B:Nat} {w w':World} {v:Value} {cs:List Value} (h:Rows1 B w v cs) (hk:Keep l w w') (hl:∀ x∈l,NotIn v x):Rows1 B w' v cs:=by
 rcases h with h1 | ⟨g,c,rfl,hr⟩
 ·exact .inl h1
 ·exact .inr ⟨g,c,rfl,hr.block hk.size (hk.block g hr.lt (fun hx=>hl g hx g 0 _ c rfl rfl))⟩
theorem Rows1.on {B:Nat} {w w':World} {v:Value} {cs:List Value} (h:Rows1 B w v cs) (hb:Below w.heap.size w w'):Rows1 B w' v cs:=h.keepOut (Keep.of [] hb) (by simp)
theorem Rows1.notIn {B:Nat} {w:World} {v:Value} {cs:List Value} (h:Rows1 B w v cs) {b:Nat} (hb:b<B):NotIn v b:=by
 rcases h with ⟨rfl,-⟩ | ⟨g,c,rfl,hr⟩
 ·exact NotIn.nil _ _ _
 ·intro g' o n' c' he
  have:=hr.new;simp only [Value.slice.injEq,Option.some.injEq,Addr.mk.injEq] at he;omega
theorem Rows1.past {B:Nat} {w:World} {v:Value} {cs:List Value} (h:Rows1 B w v cs) {b:Nat} (hb:w.heap.size≤b):NotIn v b:=by
 rcases h with ⟨rfl,-⟩ | ⟨g,c,rfl,hr⟩
 ·exact NotIn.nil _ _ _
 ·intro g' o n' c' he
  have:=hr.lt;simp only [Value.slice.injEq,Option.some.injEq,Addr.mk.injEq] at he;omega
theorem Rows1.slice {B:Nat} {w:World} {v:Value} {cs:List Value} (h:Rows1 B w v cs):∃ b c,v=.slice b cs.length c:=by
 rcases h with ⟨rfl,rfl⟩ | ⟨g,c,rfl,-⟩
 ·exact ⟨none,0,rfl⟩
 ·exact ⟨_,c,rfl⟩
theorem Rows1.words {B:Nat} {w:World} {v:Value} {xs:List ByteArray} (h:Words B w v xs):Rows1 B w v (xs.map Value.string):=by
 rcases h with ⟨rfl,rfl⟩ | ⟨g,c,rfl,hr⟩
 ·exact .inl ⟨rfl,rfl⟩
 ·exact .inr ⟨g,c,by simp,by simpa using hr⟩
theorem wpList_append_rows1 {P:Program} (w:World) {ops:Array Oper} {rest:List Oper} {o:Oper} {a:Act} {Q:Exit→Act→World→Prop}
 (hg:o.guard=none) (s x:Operand) (t:TypeId) (hop:o.op=Op.call { callee:=Callee.builtin Builtin.append,args:=#[s,x],argTypes:=#[t,t] })
 (e:TypeId) (i:TypeInfo) (z:Value) (bytes:Nat) (h1:P.underlying t=some (.slice e)) (h2:P.info? e=some i) (h3:i.zero=some z) (h4:i.size=1) (h5:i.bytes=bytes) (h6:z.cells=#[z]) (h7:bytes≤16)
 (B:Nat) (v:Value) (cs:List Value) (hs:a.eval s=v) (h:Rows1 B w v cs) (hB:B≤w.heap.size)
 (ad:Addr) (c':Nat) (u:Value) (hx:a.eval x=.slice (some ad) 1 c') (hc:w.cell? ad=some u) (h1c:u.oneCell'=true) (hn:cs.length≤1000000)
 (hK:∀ v' w',Rows1 B w' v' (cs ++ [u])→w.heap.size≤w'.heap.size→(∀ l:List Nat,(∀ g o n c,v=.slice (some ⟨g,o,none⟩) n c→g∈l)→Keep l w w')→(∀ b,b<w.heap.size→NotIn v b→NotIn v' b)→(∀ y,Apart v y→(∀ b,w.heap.size≤b→NotIn y b)→Apart v' y)→wpList P ops Q rest (a.put o.dst v') w') :
 wpList P ops Q (o::rest) a w:=by
 have hb1:(cs.length+1)*bytes≤140737488355328:=Nat.le_trans (Nat.mul_le_mul_left _ h7) (by omega)
 rcases h with ⟨rfl,rfl⟩ | ⟨g,c,rfl,hr⟩
 ·have hsrc:Src P i.size t (.slice (some ad) 1 c') 1 [u] w:=by
   rw [h4];refine Src.ofSlice w h1 ad 1 c' [u] rfl (fun j y hj=>?_) (by intro y hy; simp at hy; subst hy; exact h1c)
   match j,hj with
   |0,hj=>simp at hj; subst hj; simpa [Addr.add] using hc
   |j+1,hj=>simp at hj
  have hrun:=run_append_grow_src w t t o.type e i _ h1 h2 h3 none 0 0 [] (run_firstCells_none w.drew i.size 0 0 0) _ 1 [u] hsrc (by omega) (by omega) (by rw [h5]; exact growslice_fits (by omega) (by omega))
  rw [h6] at hrun;refine Lib.wpList_append_run w hg s x t t hop _ _ hs hx _ _ hrun ?_;have hm:=grownCap_le_maxLen w (0+1) 0 e (by unfold maxLen; omega)
  have hm1:=grownCap_ge w (0+1) 0 e;have hbl:Below w.heap.size w (w.drew.alloc (.cells (#[u] ++ Builtin.zeroCells #[z] (grownCap w (0+1) 0 e - 1)) e)):=((Below.refl _ w).drew).alloc (Nat.le_refl _) _;refine hK _ _ (.inr ⟨_,_,rfl,rowAt_new (B:=B) (w:=w.drew) hB [u] 1 rfl z _ e hm hm1⟩) hbl.size (fun l _=>Keep.of l hbl) (fun b hb _=>?_) (fun y _ hy=>?_)
  ·intro g o n c he
   simp only [Value.slice.injEq,Option.some.injEq,Addr.mk.injEq] at he
   have:w.drew.heap.size=w.heap.size:=rfl;omega
  ·intro g o n c he
   simp only [Value.slice.injEq,Option.some.injEq,Addr.mk.injEq] at he;exact hy g (by have:w.drew.heap.size=w.heap.size:=rfl; omega)
 ·refine wpList_append_rowK w hg s x t hop e i z bytes h1 h2 h3 h4 h5 (by rw [h6]; rfl) B g cs.length c _ hs hr ad c' u hx hc h1c (by unfold maxLen; omega) hb1 (fun g' cc w' hr' hk hg'=>?_)
  have e1:cs.length+1=(cs ++ [u]).length:=by simp
  rw [e1];refine hK _ _ (.inr ⟨g',cc,rfl,?_⟩) hk.size (fun l hl=>hk.mono (fun x hx=>by simp at hx; subst hx; exact hl _ _ _ _ rfl)) (fun b hb hn=>?_) (fun y hy hy2=>?_)
  ·rw [← e1]
   exact hr'
  ·intro g2 o n c he
   simp only [Value.slice.injEq,Option.some.injEq,Addr.mk.injEq] at he;rcases hg' with e | e
   ·have:=hn g 0 _ _ rfl; omega
   ·omega
  ·intro g2 o n c he
   simp only [Value.slice.injEq,Option.some.injEq,Addr.mk.injEq] at he;rcases hg' with e | e
   ·have:=hy g 0 _ _ rfl
    rw [← he.1.1,e]; exact this
   ·exact hy2 g2 (by omega)
def OnlyN (K:Act→World→Prop):Exit→Act→World→Prop
 |.normal,a,w=>K a w
 |_,_,_=>False
theorem onlyN_out (K:Act→World→Prop):¬ LetsOut (OnlyN K):=fun ⟨_,_,h⟩=>h
theorem oper_any {P:Program} {o:Oper} {a:Act} {w:World} {K:Act→World→Prop} {Q:Exit→Act→World→Prop} (h:o.wp P a w K (OnlyN K)):o.wp P a w K Q:=by
 unfold Oper.wp at *;generalize (execOp a.eval o).run P w=r at *;match r,h with
 |.ok (.value v) w',h=>exact h
 |.ok .skip w',h=>exact h
 |.ok (.defer d) w',h=>exact h
 |.ok (.enter f args) w',h=>
  refine Calls.mono h ?_;intro e w'' he;match e,he with
  |.returned v,he=>exact he
  |.panicked c,he=>exact False.elim he
  |.outgrown,he=>exact absurd he (onlyN_out K)
 |.ok (.row row args) w',h=>exact h
 |.halt (.panic v) w',h=>exact False.elim h
theorem oper_list {P:Program} {ops:Array Oper} {o:Oper} {a:Act} {w:World} {K:Act→World→Prop} {Q:Exit→Act→World→Prop} (hw:Region.wanted o (yielded ops a.tmps)=true) (h:wpList P ops (OnlyN K) [o] a w):o.wp P a w K Q:=by
 unfold wpList at h;rw [if_pos hw] at h;rcases h with h | h
 ·exact oper_any h
 ·exact absurd h.2 (onlyN_out K)
end Go.Proofs.YtlailakofhenkabGreatDoor
