import Derived.Test.YtlailakofhenkabGreatDoorB34
set_option maxRecDepth 100000
set_option maxHeartbeats 8000000
namespace Go.Proofs.YtlailakofhenkabGreatDoor
open Go Go.RowKit Tok Sc Ev
theorem refKill_is (N:Nat) (w:World) (gx gr:Nat) (r:Rul) (p:Pub) (v:Value) (i:Int) (h:RvIs N w gx gr r p v) (hN:N<98000) :
 Calls Tryz.prog 34 #[.pointer (some ⟨gx,0,none⟩),.int .i64 i] w fun e w'=>e=.returned (.int .i64 ((killM p i).2:Nat))∧∃ v',RTo N gr v w w' (killM p i).1 v':=by
 obtain ⟨ba,ca,rfl⟩:=RowsK.slice h.doc.fam;have HS:Hid (RvIs N w gx gr r p (.slice ba p.st.fams.length ca)):=h;have HMF:Hid (∀ f∈p.st.fams,mayF f):=fun f hf=>(h.ok.good.may f hf).1;have HLE:Hid (p.st.fams.length≤5000):=by show _≤_; have:=h.ok.good.len; omega
 have HLN:Hid (findF p.st.fams i=none→killM p i=(p,7)):=fun hf=>by show killM p i=_; unfold killM; rw [hf]
 have HLS:Hid (∀ f,findF p.st.fams i=some f→killM p i=if f.dead=true then (p,6) else addP p (putE (deadF f)) true):=fun f hf=>by show killM p i=_; unfold killM; rw [hf]
 have HPU:Hid (∀ f,mayF f→∀ (W:World),RvIs N W gx gr r p (.slice ba p.st.fams.length ca)→Calls Tryz.prog 69 #[.pointer (some ⟨gx,0,none⟩),famV (deadF f)] W fun e w'=>e=.returned (.int .i64 ((addP p (putE (deadF f)) true).2:Nat))∧∃ v',RTo N gr (.slice ba p.st.fams.length ca) W w' (addP p (putE (deadF f)) true).1 v'):=fun f hf W hW=>refPut_is N W gx gr r p _ (deadF f) hW (may_dead hf) (by omega)
 generalize killM p i=K at *;clear h;go_enter Tryz.func34,Tryz.ntmps34
 have c0:=HS.out.box.c0;have d2:=HS.out.doc.c2;have hle:=HLE.out;obtain ⟨FL,hFL⟩:∃ FL,p.st.fams.length=FL:=⟨_,rfl⟩;have HFL:Hid (p.st.fams.length=FL):=hFL;rw [hFL] at d2 hle;clear hFL;go_wp2_with fail
 clear c0 d2;go_loopg [16] FL (fun gk iv wr=>∃ k:Nat,k+gk=FL∧iv=.int .i64 k∧Hid (Below w.heap.size w wr)∧Hid (∀ j (hj:j<p.st.fams.length),j<k→isF i p.st.fams[j]=false))
 case atStart=>exact ⟨0,by omega,rfl,Below.refl _ _,fun j _ h=>absurd h (Nat.not_lt_zero _)⟩
 case round=>
  obtain ⟨k,hk,rfl,HB,HA⟩:=hrel;have HK:Hid (k+gk=FL):=hk;clear hk;by_cases hlt:k<FL
  ·have hltI:(k:Int)<(FL:Int):=by omega
   have hlp:k<p.st.fams.length:=by have:=HFL.out; omega
   have hfw:Fams (gr+1) wr (.slice ba p.st.fams.length ca) p.st.fams:=RowsK.below HS.out.doc.fam HB.out (Nat.le_refl _);obtain ⟨gq,rfl,hgq,hfa⟩:=hfw.fam k hlp;clear hfw
   have HE0:Hid (∀ b:Bool,isF i p.st.fams[k]=b→(b=true→p.st.fams.find? (isF i)=some p.st.fams[k])∧(b=false→∀ j (hj:j<p.st.fams.length),j<k+1→isF i p.st.fams[j]=false)):=fun b hb=>by
    refine ⟨fun h=>find_some_of hlp (hb.trans h) HA.out,fun h j hj hjk=>?_⟩;by_cases e:j=k
    ·subst e; exact hb.trans h
    ·exact HA.out j hj (by omega)
   have HMY:Hid (mayF p.st.fams[k]):=HMF.out _ (List.getElem_mem hlp);generalize hy:p.st.fams[k]=y at hfa HE0 HMY;clear hy;obtain ⟨y1,y2,y3,y4,y5,y6,y7,y8,y9⟩:=y;have c0:=hfa.c0; have c1:=hfa.c1; have c2:=hfa.c2; have c3:=hfa.c3; have c4:=hfa.c4; have c5:=hfa.c5; have c6:=hfa.c6; have c7:=hfa.c7; have c8:=hfa.c8;simp only at c0 c1 c2 c3 c4 c5 c6 c7 c8;clear hfa hgq;have HBc:Hid (Below w.heap.size w (wr.alloc (.cells #[.int .i64 y1,.string y2,.string y3,.string y4,.int .i64 y5,.int .i64 y6,.int .i64 y7,.string y8,.bool y9] 40))):=HB.out.trans (((Below.refl _ _).alloc (Nat.le_refl _) _:Below wr.heap.size wr (wr.alloc (.cells #[.int .i64 y1,.string y2,.string y3,.string y4,.int .i64 y5,.int .i64 y6,.int .i64 y7,.string y8,.bool y9] 40))).mono HB.out.size);have HSc:Hid _:=HS.out.on HBc.out
   have HYc:Hid (FB (wr.alloc (.cells #[.int .i64 y1,.string y2,.string y3,.string y4,.int .i64 y5,.int .i64 y6,.int .i64 y7,.string y8,.bool y9] 40)) wr.heap.size ⟨y1,y2,y3,y4,y5,y6,y7,y8,y9⟩):=FB.made wr ⟨y1,y2,y3,y4,y5,y6,y7,y8,y9⟩ _;have HGy:Hid (gr<wr.heap.size∧w.heap.size≤wr.heap.size):=by show _∧_; have h1:=HB.out.size; have h2:=HS.out.doc.lt; omega
   by_cases hid:y1=i
   ·have HE:Hid _:=HLS.out _ ((HE0.out true (by show decide (_=_)=true; rw [decide_eq_true_iff]; exact hid)).1 rfl)
    have hidb:(y1 == i)=true:=by rw [beq_iff_eq]; exact hid
    clear hid HLS HLN HA HE0 HMF
    cases y9 with
    |true=>
     have HE2:Hid (K=(p,6)):=HE.out;go_upto_region 4 with fail
     generalize hWF:(wr.alloc (.cells #[.int .i64 y1,.string y2,.string y3,.string y4,.int .i64 y5,.int .i64 y6,.int .i64 y7,.string y8,.bool true] 40))=WC at *;clear hWF c0 c1 c2 c3 c4 c5 c6 c7 c8;generalize wr.heap.size=gy at *;have f0:=HYc.out.c0; have f1:=HYc.out.c1; have f2:=HYc.out.c2; have f3:=HYc.out.c3; have f4:=HYc.out.c4; have f5:=HYc.out.c5; have f6:=HYc.out.c6; have f7:=HYc.out.c7; have f8:=HYc.out.c8; have fz:=HYc.out.fz;simp only at f0 f1 f2 f3 f4 f5 f6 f7 f8;go_wp2_with fail
     go_ret;rw [HE2.out];exact ⟨rfl,_,RTo.same HS.out.doc HS.out.ok HBc.out⟩
    |false=>
     have hpu:=HPU.out ⟨y1,y2,y3,y4,y5,y6,y7,y8,false⟩ HMY.out;have HE2:Hid (K=addP p (putE (deadF ⟨y1,y2,y3,y4,y5,y6,y7,y8,false⟩)) true):=HE.out;rw [← HE2.out] at hpu;unfold deadF famV famCs at hpu;simp only at hpu;have HPV:Hid _:=hpu;clear hpu HPU HE HE2;go_upto_region 4 with fail
     generalize hWF:(wr.alloc (.cells #[.int .i64 y1,.string y2,.string y3,.string y4,.int .i64 y5,.int .i64 y6,.int .i64 y7,.string y8,.bool false] 40))=WC at *;clear hWF c0 c1 c2 c3 c4 c5 c6 c7 c8;generalize wr.heap.size=gy at *;have f0:=HYc.out.c0; have f1:=HYc.out.c1; have f2:=HYc.out.c2; have f3:=HYc.out.c3; have f4:=HYc.out.c4; have f5:=HYc.out.c5; have f6:=HYc.out.c6; have f7:=HYc.out.c7; have f8:=HYc.out.c8; have fz:=HYc.out.fz;simp only at f0 f1 f2 f3 f4 f5 f6 f7 f8;have HBd:Hid (Below w.heap.size w (WC.setCell ⟨gy,8,none⟩ (.bool true))):=HBc.out.trans (below_setCellsW HGy.out.2 [.bool true] 8 WC);have HYd:Hid (FB (WC.setCell ⟨gy,8,none⟩ (.bool true)) gy ⟨y1,y2,y3,y4,y5,y6,y7,y8,true⟩):=HYc.out.dead;have HSd:Hid _:=HS.out.on HBd.out;go_upto_region 8 with fail
     generalize hWC:WC.setCell ⟨gy,8,none⟩ (.bool true)=WD at *;clear hWC f0 f1 f2 f3 f4 f5 f6 f7 f8 fz;have f0:=HYd.out.c0; have f1:=HYd.out.c1; have f2:=HYd.out.c2; have f3:=HYd.out.c3; have f4:=HYd.out.c4; have f5:=HYd.out.c5; have f6:=HYd.out.c6; have f7:=HYd.out.c7; have f8:=HYd.out.c8;simp only at f0 f1 f2 f3 f4 f5 f6 f7 f8;go_wp2_with fail
     refine (HPV.out _ HSd.out).mono ?_;rintro e5 w5 ⟨rfl,v5,hto⟩;have HTO:Hid _:=hto.pre HBd.out;clear hto f0 f1 f2 f3 f4 f5 f6 f7 f8;go_wp2_with fail
     go_ret;exact ⟨rfl,_,HTO.out⟩
   ·have HA2:Hid _:=(HE0.out false (by show decide (_=_)=false; rw [decide_eq_false_iff_not]; exact hid)).2 rfl
    have hidb:(y1 == i)=false:=by rw [beq_eq_false_iff_ne]; exact hid
    clear hid;go_wp2_with fail
    go_roundg (gk - 1)
    case measure=>have:=HK.out; omega
    case rel=>exact ⟨k+1,by have:=HK.out; omega,by go_num,HBc.out,HA2.out⟩
  ·obtain rfl:k=FL:=by have:=HK.out; omega
   have HE:Hid (K=(p,7)):=HLN.out (find_none_of (fun j hj=>HA.out j hj (by have:=HFL.out; omega)))
   go_wp2_with fail
   go_ret;rw [HE.out];exact ⟨rfl,_,RTo.same HS.out.doc HS.out.ok HB.out⟩
theorem refTick_is (N:Nat) (w:World) (gx gr:Nat) (r:Rul) (p:Pub) (v:Value) (n:Int) (h:RvIs N w gx gr r p v) (hN:N<98000) :
 Calls Tryz.prog 36 #[.pointer (some ⟨gx,0,none⟩),.int .i64 n] w fun e w'=>e=.returned (.int .i64 ((tickM p n).2:Nat))∧∃ v',RTo N gr v w w' (tickM p n).1 v':=by
 have HS:Hid (RvIs N w gx gr r p v):=h;have HN:Hid (N<99000):=by show _<_; omega
 have HCK:Hid (okN p.st.clock):=h.ok.good.clock;clear h;unfold tickM
 cases hb:okB n with
 |false=>
  rw [if_pos rfl];have HIB:Hid (∀ W:World,Calls Tryz.prog 66 #[.int .i64 n,.int .i64 0,.int .i64 1099511627776] W fun e w'=>e=.returned (.bool false)∧w'=W):=fun W=>by rw [← hb]; exact in_is n W
  clear hb;go_enter Tryz.func36,Tryz.ntmps36
  go_wp2_with fail
  refine (HIB.out _).mono ?_;rintro e1 w1 ⟨rfl,hw⟩;obtain rfl:w=w1:=hw.symm;go_wp2_with fail
  go_ret;exact ⟨rfl,_,RTo.same HS.out.doc HS.out.ok (Below.refl _ _)⟩
 |true=>
  rw [if_neg (by simp)]
  have HNN:Hid (okN n):=okB_iff.1 hb;have HIB:Hid (∀ W:World,Calls Tryz.prog 66 #[.int .i64 n,.int .i64 0,.int .i64 1099511627776] W fun e w'=>e=.returned (.bool true)∧w'=W):=fun W=>by rw [← hb]; exact in_is n W
  clear hb;go_enter Tryz.func36,Tryz.ntmps36
  go_wp2_with fail
  refine (HIB.out _).mono ?_;rintro e1 w1 ⟨rfl,hw⟩;obtain rfl:w=w1:=hw.symm;go_upto_region 3 with fail
  refine RegD.R_ (fun W=>RvIs N W gx gr r p v) 15 (by kernel_rfl) (HS.out.on (Below.refl _ _).drew) (fun hH=>?_)
  refine RegD.T_ 0 (v:=.pointer (some ⟨gx,0,none⟩)) rfl (by kernel_rfl) (fun _ _ _ h=>h) (.inl ⟨by rfl,fun W hW=>by go_simp⟩) hH ?_
  simp only [Act.put,pS1,pS2,pS3];refine RegD.T_ 1 (v:=.pointer (some ⟨gx,0,none⟩)) rfl (by kernel_rfl) (fun _ _ _ h=>h) (.inl ⟨by rfl,fun W hW=>by go_simp⟩) hH ?_
  simp only [Act.put,pS1,pS2,pS3];refine RegD.T_ 2 (v:=.pointer (some ⟨gx,0,none⟩)) rfl (by kernel_rfl) (fun _ _ _ h=>h) (.inl ⟨by rfl,fun W hW=>by go_simp⟩) hH ?_
  simp only [Act.put,pS1,pS2,pS3];refine RegD.T_ 3 (v:=.pointer (some ⟨gr,0,none⟩)) rfl (by kernel_rfl) (fun _ _ _ h=>h) (.inl ⟨by rfl,fun W hW=>by have a0:=hW.box.c0; go_simp⟩) hH ?_
  simp only [Act.put,pS1,pS2,pS3];refine RegD.T_ 4 (v:=.pointer (some ⟨gx,0,none⟩)) rfl (by kernel_rfl) (fun _ _ _ h=>h) (.inl ⟨by rfl,fun W hW=>by go_simp⟩) hH ?_
  simp only [Act.put,pS1,pS2,pS3];refine RegD.T_ 5 (v:=.pointer (some ⟨gx,0,none⟩)) rfl (by kernel_rfl) (fun _ _ _ h=>h) (.inl ⟨by rfl,fun W hW=>by go_simp⟩) hH ?_
  simp only [Act.put,pS1,pS2,pS3];refine RegD.T_ 6 (v:=.pointer (some ⟨gx,0,none⟩)) rfl (by kernel_rfl) (fun _ _ _ h=>h) (.inl ⟨by rfl,fun W hW=>by go_simp⟩) hH ?_
  simp only [Act.put,pS1,pS2,pS3];refine RegD.T_ 7 (v:=.pointer (some ⟨gr,0,none⟩)) rfl (by kernel_rfl) (fun _ _ _ h=>h) (.inl ⟨by rfl,fun W hW=>by have a0:=hW.box.c0; go_simp⟩) hH ?_
  simp only [Act.put,pS1,pS2,pS3];refine RegD.T_ 8 (v:=.pointer (some ⟨gr,0,none⟩)) rfl (by kernel_rfl) (fun _ _ _ h=>h) (.inl ⟨by rfl,fun W hW=>by go_simp⟩) hH ?_
  simp only [Act.put,pS1,pS2,pS3];refine RegD.T_ 9 (v:=.pointer (some ⟨gr,0,none⟩)) rfl (by kernel_rfl) (fun _ _ _ h=>h) (.inl ⟨by rfl,fun W hW=>by go_simp⟩) hH ?_
  simp only [Act.put,pS1,pS2,pS3];refine RegD.T_ 10 (v:=.pointer (some ⟨gr,0,none⟩)) rfl (by kernel_rfl) (fun _ _ _ h=>h) (.inl ⟨by rfl,fun W hW=>by go_simp⟩) hH ?_
  simp only [Act.put,pS1,pS2,pS3];refine RegD.T_ 11 (v:=.int .i64 p.st.clock) rfl (by kernel_rfl) (fun _ _ _ h=>h) (.inl ⟨by rfl,fun W hW=>by have a0:=hW.doc.c0; go_simp⟩) hH ?_
  simp only [Act.put,pS1,pS2,pS3];refine RegD.T_ 12 (v:=.int .i64 n) rfl (by kernel_rfl) (fun _ _ _ h=>h) (.inl ⟨by rfl,fun W hW=>by go_simp⟩) hH ?_
  simp only [Act.put,pS1,pS2,pS3];refine RegD.O_ 13 rfl (by kernel_rfl) ?_; intro K hK; go_simp
  go_at_call 80
  refine (refAdd_is _ _ HCK.out HNN.out _).mono ?_;rintro e2 w2 ⟨rfl,rfl⟩;go_wp2_with fail
  refine hK.out _ _ (hH) ?_;clear hK hH;intro hH;clear K;refine RegD.T_ 14 (v:=.agg #[.int .i64 3,.int .i64 0,.string ⟨#[]⟩,.string ⟨#[]⟩,.string ⟨#[]⟩,.int .i64 0,.int .i64 0,.int .i64 0,.string ⟨#[]⟩,.bool false,.int .i64 0,.int .i64 (laterI p.st.clock n)]) rfl (by kernel_rfl) (fun _ _ _ h=>h) (.inl ⟨by rfl,fun W hW=>by go_simp⟩) hH ?_
  simp only [Act.put,pS1,pS2,pS3];have hadd:=refAddM N _ gr p v (clockE (laterI p.st.clock n)) (may_clock (later_ok HCK.out HNN.out)) hH.doc hH.ok HN.out;have HADD:Hid _:=hadd;clear hadd hH;refine RegD.L_ 15 rfl (by kernel_rfl) (by kernel_rfl) ?_; intro K hK; go_simp
  go_at_call 86
  refine Calls.mono HADD.out ?_;rintro e3 w3 ⟨rfl,v3,hto⟩;have HTO:Hid _:=RTo.pre (Below.refl _ _).drew hto;clear hto;go_wp2_with fail
  refine hK.out _ _ ?_;clear hK K;refine RegD.L_ 16 rfl (by kernel_rfl) (by kernel_rfl) ?_; intro K hK; go_simp
  refine hK.out _ _ ?_;clear hK K;refine RegD.D_ (by kernel_rfl) ?_ _
  go_wp2_with fail
  go_ret;exact ⟨rfl,_,HTO.out⟩
theorem refSweep_is (N:Nat) (w:World) (gx gr:Nat) (r:Rul) (p:Pub) (v:Value) (h:RvIs N w gx gr r p v) (hN:N<98000) :
 Calls Tryz.prog 38 #[.pointer (some ⟨gx,0,none⟩)] w fun e w'=>e=.returned (.tuple #[.int .i64 (sweepM r p).2.1,.int .i64 ((sweepM r p).2.2:Nat)])∧∃ v',RTo N gr v w w' (sweepM r p).1 v':=by
 obtain ⟨ba,ca,rfl⟩:=RowsK.slice h.doc.fam;have HS:Hid (RvIs N w gx gr r p (.slice ba p.st.fams.length ca)):=h;have HMF:Hid (∀ f∈p.st.fams,mayF f):=fun f hf=>(h.ok.good.may f hf).1;have HLE:Hid (p.st.fams.length≤5000):=by show _≤_; have:=h.ok.good.len; omega
 have HLN:Hid (p.st.fams.find? (overB r p.st.clock)=none→sweepM r p=(p,0,8)):=fun hf=>by show sweepM r p=_; unfold sweepM; rw [hf]
 have HLS:Hid (∀ f,p.st.fams.find? (overB r p.st.clock)=some f→sweepM r p=((addP p (dropE f.id) true).1,if (addP p (dropE f.id) true).2=0 then f.id else 0,(addP p (dropE f.id) true).2)):=fun f hf=>by show sweepM r p=_; unfold sweepM; rw [hf]
 have HAD:Hid (∀ i,okN i→∀ (W:World),RvIs N W gx gr r p (.slice ba p.st.fams.length ca)→Calls Tryz.prog 86 #[.pointer (some ⟨gr,0,none⟩),evV (dropE i)] W fun e w'=>e=.returned (.int .i64 ((addP p (dropE i) true).2:Nat))∧∃ v',RTo N gr (.slice ba p.st.fams.length ca) W w' (addP p (dropE i) true).1 v'):=fun i hi W hW=>refAddM N W gr p _ (dropE i) (may_drop hi) hW.doc hW.ok (by omega)
 generalize sweepM r p=K at *;clear h;go_enter Tryz.func38,Tryz.ntmps38
 have c0:=HS.out.box.c0;have d2:=HS.out.doc.c2;have hle:=HLE.out;obtain ⟨FL,hFL⟩:∃ FL,p.st.fams.length=FL:=⟨_,rfl⟩;have HFL:Hid (p.st.fams.length=FL):=hFL;rw [hFL] at d2 hle;clear hFL;go_wp2_with fail
 clear c0 d2;go_loopg [16] FL (fun gk iv wr=>∃ k:Nat,k+gk=FL∧iv=.int .i64 k∧Hid (Below w.heap.size w wr)∧Hid (∀ j (hj:j<p.st.fams.length),j<k→overB r p.st.clock p.st.fams[j]=false))
 case atStart=>exact ⟨0,by omega,rfl,Below.refl _ _,fun j _ h=>absurd h (Nat.not_lt_zero _)⟩
 case round=>
  obtain ⟨k,hk,rfl,HB,HA⟩:=hrel;have HK:Hid (k+gk=FL):=hk;clear hk;by_cases hlt:k<FL
  ·have hltI:(k:Int)<(FL:Int):=by omega
   have hlp:k<p.st.fams.length:=by have:=HFL.out; omega
   have hfw:Fams (gr+1) wr (.slice ba p.st.fams.length ca) p.st.fams:=RowsK.below HS.out.doc.fam HB.out (Nat.le_refl _);obtain ⟨gq,rfl,hgq,hfa⟩:=hfw.fam k hlp;clear hfw
   have HE0:Hid (∀ b:Bool,overB r p.st.clock p.st.fams[k]=b→(b=true→p.st.fams.find? (overB r p.st.clock)=some p.st.fams[k])∧(b=false→∀ j (hj:j<p.st.fams.length),j<k+1→overB r p.st.clock p.st.fams[j]=false)):=fun b hb=>by
    refine ⟨fun h=>find_some_of hlp (hb.trans h) HA.out,fun h j hj hjk=>?_⟩;by_cases e:j=k
    ·subst e; exact hb.trans h
    ·exact HA.out j hj (by omega)
   have HMY:Hid (mayF p.st.fams[k]):=HMF.out _ (List.getElem_mem hlp);generalize hy:p.st.fams[k]=y at hfa HE0 HMY;clear hy;obtain ⟨y1,y2,y3,y4,y5,y6,y7,y8,y9⟩:=y;have c0:=hfa.c0; have c1:=hfa.c1; have c2:=hfa.c2; have c3:=hfa.c3; have c4:=hfa.c4; have c5:=hfa.c5; have c6:=hfa.c6; have c7:=hfa.c7; have c8:=hfa.c8;simp only at c0 c1 c2 c3 c4 c5 c6 c7 c8;clear hfa hgq;have HBc:Hid (Below w.heap.size w (wr.alloc (.cells #[.int .i64 y1,.string y2,.string y3,.string y4,.int .i64 y5,.int .i64 y6,.int .i64 y7,.string y8,.bool y9] 40))):=HB.out.trans (((Below.refl _ _).alloc (Nat.le_refl _) _:Below wr.heap.size wr (wr.alloc (.cells #[.int .i64 y1,.string y2,.string y3,.string y4,.int .i64 y5,.int .i64 y6,.int .i64 y7,.string y8,.bool y9] 40))).mono HB.out.size);have HSc:Hid _:=HS.out.on HBc.out
   have HYc:Hid (FB (wr.alloc (.cells #[.int .i64 y1,.string y2,.string y3,.string y4,.int .i64 y5,.int .i64 y6,.int .i64 y7,.string y8,.bool y9] 40)) wr.heap.size ⟨y1,y2,y3,y4,y5,y6,y7,y8,y9⟩):=FB.made wr ⟨y1,y2,y3,y4,y5,y6,y7,y8,y9⟩ _;have HGy:Hid (gr<wr.heap.size∧w.heap.size≤wr.heap.size):=by show _∧_; have h1:=HB.out.size; have h2:=HS.out.doc.lt; omega
   cases y9 with
   |true=>
    have HFF:Hid _:=(HE0.out true (by unfold overB; rfl)).1 rfl
    go_upto_region 4 with fail
    generalize hWF:(wr.alloc (.cells #[.int .i64 y1,.string y2,.string y3,.string y4,.int .i64 y5,.int .i64 y6,.int .i64 y7,.string y8,.bool true] 40))=WC at *;clear hWF c0 c1 c2 c3 c4 c5 c6 c7 c8;generalize wr.heap.size=gy at *;have f0:=HYc.out.c0; have f1:=HYc.out.c1; have f2:=HYc.out.c2; have f3:=HYc.out.c3; have f4:=HYc.out.c4; have f5:=HYc.out.c5; have f6:=HYc.out.c6; have f7:=HYc.out.c7; have f8:=HYc.out.c8; have fz:=HYc.out.fz;simp only at f0 f1 f2 f3 f4 f5 f6 f7 f8;go_upto_region 5 with fail
    clear f0 f1 f2 f3 f4 f5 f6 f7 f8 fz;have HE:Hid _:=HLS.out _ HFF.out;have had:=HAD.out y1 HMY.out.1.1;simp only at HE;unfold evV evCs dropE zeroF at had;unfold dropE zeroF at HE;simp only at had;generalize addP p ⟨2,⟨0,⟨#[]⟩,⟨#[]⟩,⟨#[]⟩,0,0,0,⟨#[]⟩,false⟩,y1,0⟩ true=Q at *;obtain ⟨q,n⟩:=Q;simp only at had HE;have HAV:Hid _:=had;clear had HAD HLS HLN HA HE0 HMF HFF;refine RegD.R_ (fun W=>FB W gy ⟨y1,y2,y3,y4,y5,y6,y7,y8,true⟩∧RvIs N W gx gr r p (.slice (some ⟨gq,0,none⟩) p.st.fams.length ca)) 7 (by kernel_rfl) (⟨HYc.out.on (Below.refl _ _).drew,HSc.out.on (Below.refl _ _).drew⟩) (fun hH=>?_)
    refine RegD.T_ 0 (v:=.pointer (some ⟨gx,0,none⟩)) rfl (by kernel_rfl) (fun _ _ _ h=>h) (.inl ⟨by rfl,fun W hW=>by go_simp⟩) hH ?_
    simp only [Act.put,pS1,pS2,pS3];refine RegD.T_ 1 (v:=.pointer (some ⟨gx,0,none⟩)) rfl (by kernel_rfl) (fun _ _ _ h=>h) (.inl ⟨by rfl,fun W hW=>by go_simp⟩) hH ?_
    simp only [Act.put,pS1,pS2,pS3];refine RegD.T_ 2 (v:=.pointer (some ⟨gx,0,none⟩)) rfl (by kernel_rfl) (fun _ _ _ h=>h) (.inl ⟨by rfl,fun W hW=>by go_simp⟩) hH ?_
    simp only [Act.put,pS1,pS2,pS3];refine RegD.T_ 3 (v:=.pointer (some ⟨gr,0,none⟩)) rfl (by kernel_rfl) (fun _ _ _ h=>h) (.inl ⟨by rfl,fun W hW=>by have a0:=hW.2.box.c0; go_simp⟩) hH ?_
    simp only [Act.put,pS1,pS2,pS3];refine RegD.T_ 4 (v:=.pointer (some ⟨gy,0,none⟩)) rfl (by kernel_rfl) (fun _ _ _ h=>h) (.inl ⟨by rfl,fun W hW=>by go_simp⟩) hH ?_
    simp only [Act.put,pS1,pS2,pS3];refine RegD.T_ 5 (v:=.int .i64 y1) rfl (by kernel_rfl) (fun _ _ _ h=>h) (.inl ⟨by rfl,fun W hW=>by have a0:=hW.1.c0; simp only at a0; go_simp⟩) hH ?_
    simp only [Act.put,pS1,pS2,pS3];refine RegD.T_ 6 (v:=.agg #[.int .i64 2,.int .i64 0,.string ⟨#[]⟩,.string ⟨#[]⟩,.string ⟨#[]⟩,.int .i64 0,.int .i64 0,.int .i64 0,.string ⟨#[]⟩,.bool false,.int .i64 y1,.int .i64 0]) rfl (by kernel_rfl) (fun _ _ _ h=>h) (.inl ⟨by rfl,fun W hW=>by go_simp⟩) hH ?_
    simp only [Act.put,pS1,pS2,pS3];have HHH:Hid _:=hH;clear hH;refine RegD.L_ 7 rfl (by kernel_rfl) (by kernel_rfl) ?_; intro K hK; go_simp
    go_at_call 86
    refine (HAV.out _ HHH.out.2).mono ?_;rintro e3 w3 ⟨rfl,v3,hto⟩;have HTO:Hid _:=RTo.pre HBc.out.drew hto;have HYe:Hid _:=HHH.out.1.keep hto.keep (by have:=HGy.out; simp; omega)
    clear hto;go_wp2_with fail
    refine hK.out _ _ ?_;clear hK K;refine RegD.L_ 8 rfl (by kernel_rfl) (by kernel_rfl) ?_; intro K hK; go_simp
    refine hK.out _ _ ?_;clear hK K;refine RegD.D_ (by kernel_rfl) ?_ _
    have g0:=HYe.out.c0;simp only at g0;by_cases hn:n=0
    ·subst hn
     go_wp2_with fail
     go_ret2;rw [HE.out];exact ⟨rfl,_,HTO.out⟩
    ·have hnI:¬ (n:Int)=0:=by omega
     go_wp2_with fail
     go_ret2;rw [HE.out,if_neg hn];exact ⟨rfl,_,HTO.out⟩
   |false=>
    have hol:=refOld_is N (wr.alloc (.cells #[.int .i64 y1,.string y2,.string y3,.string y4,.int .i64 y5,.int .i64 y6,.int .i64 y7,.string y8,.bool false] 40)) gx gr r p _ ⟨y1,y2,y3,y4,y5,y6,y7,y8,false⟩ HSc.out HMY.out;unfold famV famCs at hol;simp only at hol;go_upto_region 4 with fail
    generalize hWF:(wr.alloc (.cells #[.int .i64 y1,.string y2,.string y3,.string y4,.int .i64 y5,.int .i64 y6,.int .i64 y7,.string y8,.bool false] 40))=WC at *;clear hWF c0 c1 c2 c3 c4 c5 c6 c7 c8;generalize wr.heap.size=gy at *;have f0:=HYc.out.c0; have f1:=HYc.out.c1; have f2:=HYc.out.c2; have f3:=HYc.out.c3; have f4:=HYc.out.c4; have f5:=HYc.out.c5; have f6:=HYc.out.c6; have f7:=HYc.out.c7; have f8:=HYc.out.c8; have fz:=HYc.out.fz;simp only at f0 f1 f2 f3 f4 f5 f6 f7 f8
    cases ho:oldF r p.st.clock ⟨y1,y2,y3,y4,y5,y6,y7,y8,false⟩ with
    |true=>
     have HFF:Hid _:=(HE0.out true (by unfold overB; rw [ho]; rfl)).1 rfl
     rw [ho] at hol;clear ho;go_wp2_with fail
     refine hol.mono ?_;rintro e4 WE ⟨rfl,hb4⟩;have HBd:Hid _:=HBc.out.trans (hb4.mono HBc.out.size);have HYd:Hid _:=HYc.out.on hb4;have HSd:Hid _:=HSc.out.on hb4;clear hb4 hol f0 f1 f2 f3 f4 f5 f6 f7 f8 fz HBc HYc HSc;have HBc:Hid _:=HBd;have HYc:Hid _:=HYd;have HSc:Hid _:=HSd;clear HBd HYd HSd;go_upto_region 5 with fail
     have HE:Hid _:=HLS.out _ HFF.out;have had:=HAD.out y1 HMY.out.1.1;simp only at HE;unfold evV evCs dropE zeroF at had;unfold dropE zeroF at HE;simp only at had;generalize addP p ⟨2,⟨0,⟨#[]⟩,⟨#[]⟩,⟨#[]⟩,0,0,0,⟨#[]⟩,false⟩,y1,0⟩ true=Q at *;obtain ⟨q,n⟩:=Q;simp only at had HE;have HAV:Hid _:=had;clear had HAD HLS HLN HA HE0 HMF HFF;refine RegD.R_ (fun W=>FB W gy ⟨y1,y2,y3,y4,y5,y6,y7,y8,false⟩∧RvIs N W gx gr r p (.slice (some ⟨gq,0,none⟩) p.st.fams.length ca)) 7 (by kernel_rfl) (⟨HYc.out.on (Below.refl _ _).drew,HSc.out.on (Below.refl _ _).drew⟩) (fun hH=>?_)
     refine RegD.T_ 0 (v:=.pointer (some ⟨gx,0,none⟩)) rfl (by kernel_rfl) (fun _ _ _ h=>h) (.inl ⟨by rfl,fun W hW=>by go_simp⟩) hH ?_
     simp only [Act.put,pS1,pS2,pS3];refine RegD.T_ 1 (v:=.pointer (some ⟨gx,0,none⟩)) rfl (by kernel_rfl) (fun _ _ _ h=>h) (.inl ⟨by rfl,fun W hW=>by go_simp⟩) hH ?_
     simp only [Act.put,pS1,pS2,pS3];refine RegD.T_ 2 (v:=.pointer (some ⟨gx,0,none⟩)) rfl (by kernel_rfl) (fun _ _ _ h=>h) (.inl ⟨by rfl,fun W hW=>by go_simp⟩) hH ?_
     simp only [Act.put,pS1,pS2,pS3];refine RegD.T_ 3 (v:=.pointer (some ⟨gr,0,none⟩)) rfl (by kernel_rfl) (fun _ _ _ h=>h) (.inl ⟨by rfl,fun W hW=>by have a0:=hW.2.box.c0; go_simp⟩) hH ?_
     simp only [Act.put,pS1,pS2,pS3];refine RegD.T_ 4 (v:=.pointer (some ⟨gy,0,none⟩)) rfl (by kernel_rfl) (fun _ _ _ h=>h) (.inl ⟨by rfl,fun W hW=>by go_simp⟩) hH ?_
     simp only [Act.put,pS1,pS2,pS3];refine RegD.T_ 5 (v:=.int .i64 y1) rfl (by kernel_rfl) (fun _ _ _ h=>h) (.inl ⟨by rfl,fun W hW=>by have a0:=hW.1.c0; simp only at a0; go_simp⟩) hH ?_
     simp only [Act.put,pS1,pS2,pS3];refine RegD.T_ 6 (v:=.agg #[.int .i64 2,.int .i64 0,.string ⟨#[]⟩,.string ⟨#[]⟩,.string ⟨#[]⟩,.int .i64 0,.int .i64 0,.int .i64 0,.string ⟨#[]⟩,.bool false,.int .i64 y1,.int .i64 0]) rfl (by kernel_rfl) (fun _ _ _ h=>h) (.inl ⟨by rfl,fun W hW=>by go_simp⟩) hH ?_
     simp only [Act.put,pS1,pS2,pS3];have HHH:Hid _:=hH;clear hH;refine RegD.L_ 7 rfl (by kernel_rfl) (by kernel_rfl) ?_; intro K hK; go_simp
     go_at_call 86
     refine (HAV.out _ HHH.out.2).mono ?_;rintro e3 w3 ⟨rfl,v3,hto⟩;have HTO:Hid _:=RTo.pre HBc.out.drew hto;have HYe:Hid _:=HHH.out.1.keep hto.keep (by have:=HGy.out; simp; omega)
     clear hto;go_wp2_with fail
     refine hK.out _ _ ?_;clear hK K;refine RegD.L_ 8 rfl (by kernel_rfl) (by kernel_rfl) ?_; intro K hK; go_simp
     refine hK.out _ _ ?_;clear hK K;refine RegD.D_ (by kernel_rfl) ?_ _
     have g0:=HYe.out.c0;simp only at g0;by_cases hn:n=0
     ·subst hn
      go_wp2_with fail
      go_ret2;rw [HE.out];exact ⟨rfl,_,HTO.out⟩
     ·have hnI:¬ (n:Int)=0:=by omega
      go_wp2_with fail
      go_ret2;rw [HE.out,if_neg hn];exact ⟨rfl,_,HTO.out⟩
    |false=>
     have HA2:Hid _:=(HE0.out false (by unfold overB; rw [ho]; rfl)).2 rfl
     rw [ho] at hol;clear ho;go_wp2_with fail
     refine hol.mono ?_;rintro e4 WE ⟨rfl,hb4⟩;have HBd:Hid _:=HBc.out.trans (hb4.mono HBc.out.size);clear hb4 hol f0 f1 f2 f3 f4 f5 f6 f7 f8 fz;go_wp2_with fail
     go_roundg (gk - 1)
     case measure=>have:=HK.out; omega
     case rel=>exact ⟨k+1,by have:=HK.out; omega,by go_num,HBd.out,HA2.out⟩
  ·obtain rfl:k=FL:=by have:=HK.out; omega
   have HE:Hid (K=(p,0,8)):=HLN.out (find_none_of (fun j hj=>HA.out j hj (by have:=HFL.out; omega)))
   go_wp2_with fail
   go_ret2;rw [HE.out];exact ⟨rfl,_,RTo.same HS.out.doc HS.out.ok HB.out⟩
end Go.Proofs.YtlailakofhenkabGreatDoor
