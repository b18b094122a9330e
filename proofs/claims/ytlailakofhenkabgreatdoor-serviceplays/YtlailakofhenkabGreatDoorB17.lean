import Derived.Test.YtlailakofhenkabGreatDoorB16
set_option maxRecDepth 100000
set_option maxHeartbeats 16000000
namespace Go.Proofs.YtlailakofhenkabGreatDoor
open Go Go.RowKit Tok Sc Ev
structure SL (w0:World) (g:Nat) (A:AD) (bs:Nat) (st:St) (v:Value) (wr:World):Prop where
 disk:DiskIs wr g A
 libs:LibsA wr
 z0:wr.cell? ⟨w0.heap.size,0,none⟩=some (.int .i64 0)
 z1:wr.cell? ⟨w0.heap.size,1,none⟩=some (.int .i64 0)
 z2:wr.cell? ⟨w0.heap.size,2,none⟩=some (.slice none 0 0)
 zf:∀ i,wr.frozen? ⟨w0.heap.size,i,none⟩=false
 s0:wr.cell? ⟨bs,0,none⟩=some (.int .i64 st.clock)
 s1:wr.cell? ⟨bs,1,none⟩=some (.int .i64 st.next)
 s2:wr.cell? ⟨bs,2,none⟩=some v
 sf:∀ i,wr.frozen? ⟨bs,i,none⟩=false
 fam:Fams (bs+1) wr v st.fams
 lt:bs<wr.heap.size
 ord:w0.heap.size<bs
 old:g<w0.heap.size
 below:Below w0.heap.size w0 wr
theorem SL.on {w0:World} {g:Nat} {A:AD} {bs:Nat} {st:St} {v:Value} {w w':World} (h:SL w0 g A bs st v w) (hb:Below w.heap.size w w'):SL w0 g A bs st v w':=by
 have h1:=h.lt;have h2:=h.ord;have hc:∀ b i,b<w.heap.size→w'.cell? ⟨b,i,none⟩=w.cell? ⟨b,i,none⟩:=fun b i hl=>hb.cell (p:=⟨b,i,none⟩) hl;have hf:∀ b i,b<w.heap.size→w'.frozen? ⟨b,i,none⟩=w.frozen? ⟨b,i,none⟩:=fun b i hl=>hb.frozen (p:=⟨b,i,none⟩) hl
 exact ⟨h.disk.on hb,h.libs.below hb,(hc _ _ (by omega)).trans h.z0,(hc _ _ (by omega)).trans h.z1,(hc _ _ (by omega)).trans h.z2,fun i=>(hf _ _ (by omega)).trans (h.zf i),(hc _ _ h1).trans h.s0,(hc _ _ h1).trans h.s1,(hc _ _ h1).trans h.s2,fun i=>(hf _ _ h1).trans (h.sf i),
  RowsK.below h.fam hb (Nat.le_refl _),Nat.lt_of_lt_of_le h1 hb.size,h2,h.old,h.below.trans (hb.mono h.below.size)⟩
theorem SL.put {w0:World} {g:Nat} {A:AD} {bs:Nat} {st st':St} {v v':Value} {w:World} (h:SL w0 g A bs st v w) (hL:LibsA w0) (hf:Fams (bs+1) w v' st'.fams):SL w0 g A bs st' v' (((w.setCell ⟨bs,0,none⟩ (.int .i64 st'.clock)).setCell ⟨bs,1,none⟩ (.int .i64 st'.next)).setCell ⟨bs,2,none⟩ v'):=by
 have h1:=h.lt;have h2:=h.ord;have h3:=h.old;obtain ⟨q0,q1,q2⟩:=@three_set w bs (.int .i64 st'.clock) (.int .i64 st'.next) v' _ _ _ h.s0 h.s1 h.s2
 have hbs:∀ B,B≤bs→Below B w (((w.setCell ⟨bs,0,none⟩ (.int .i64 st'.clock)).setCell ⟨bs,1,none⟩ (.int .i64 st'.next)).setCell ⟨bs,2,none⟩ v'):=fun B hB=>
  (((Below.refl B w).setCell (p:=⟨bs,0,none⟩) hB _).setCell (p:=⟨bs,1,none⟩) hB _).setCell (p:=⟨bs,2,none⟩) hB _
 have hb:=hbs bs (Nat.le_refl _);have hbl:=h.below.trans (hbs w0.heap.size (by omega))
 refine ⟨h.disk.below hb (by omega),hL.below hbl,(hb.cell (p:=⟨w0.heap.size,0,none⟩) h2).trans h.z0,(hb.cell (p:=⟨w0.heap.size,1,none⟩) h2).trans h.z1,(hb.cell (p:=⟨w0.heap.size,2,none⟩) h2).trans h.z2,fun i=>(hb.frozen (p:=⟨w0.heap.size,i,none⟩) h2).trans (h.zf i),q0,q1,q2,fun i=>by simp only [World.frozen?_setCell]; exact h.sf i,?_,by simpa using h1,h2,h3,hbl⟩
 exact ((hf.other (a:=⟨bs,0,none⟩) (Nat.lt_succ_self _) _).other (a:=⟨bs,1,none⟩) (Nat.lt_succ_self _) _).other (a:=⟨bs,2,none⟩) (Nat.lt_succ_self _) _
theorem evOf_step (A:AD) (b s i r:Nat) (st:St):(∃ e,A.blk (b+i)=some (s,e)∧slotGo A b s i (r+1) st=slotGo A b s (i+1) r (applyP st e))∨(evOf (A.blk (b+i)) s=(zeroE,false)∧slotGo A b s i (r+1) st=none):=by
 cases h:A.blk (b+i) with
 |none=>exact .inr ⟨rfl,by rw [slotGo,h]⟩
 |some p=>
  obtain ⟨s',e⟩:=p;by_cases hs:s'=s
  ·subst hs
   exact .inl ⟨e,rfl,by rw [slotGo,h]; simp⟩
  ·exact .inr ⟨by unfold evOf; simp only [if_neg hs],by rw [slotGo,h]; simp only [if_neg hs]⟩
theorem readSlot_some (g:Nat) (A:AD) (k s:Nat) (c nx:Int) (n:Nat) (hk:k<2) (w:World) (hh:A.head k=some (s,c,nx,n)) (hD:DiskIs w g A) (hL:LibsA w) :
 Calls Tryz.prog 52 #[.pointer (some ⟨g,0,none⟩),.int .i64 k] w fun r w'=>∃ v,r=.returned (.tuple #[stV (slotM A k).1.clock (slotM A k).1.next v,.int .i64 ((slotM A k).2:Nat)])∧Fams w.heap.size w' v (slotM A k).1.fams∧Below w.heap.size w w':=by
 obtain ⟨q1,q2,q3,q4,q5⟩:=hD.heads k s c nx n hh;have HMS:Hid (∀ st,slotGo A (17+21*k) s 0 n ⟨c,nx,[]⟩=some st→slotM A k=(st,s)):=fun st h=>by unfold slotM; rw [hh]; simp only [h]
 have HMN:Hid (slotGo A (17+21*k) s 0 n ⟨c,nx,[]⟩=none→slotM A k=(⟨0,0,[]⟩,0)):=fun h=>by unfold slotM; rw [hh]; simp only [h]
 have HB0:Hid (Below w.heap.size w (w.alloc (.cells #[.int .i64 0,.int .i64 0,.slice none 0 0] 36))):=(Below.refl _ _).alloc (Nat.le_refl _) _;have HL:Hid (LibsA w):=hL;have HD:Hid (DiskIs w g A):=hD;have HK:Hid (k<2):=hk;have HOS:Hid (okN s):=q1;have hsb:=fun (W:World)=>slotBlock_is k W hk
 have HRH:Hid (∀ W,DiskIs W g A→LenOk W→Calls Tryz.prog 111 #[.pointer (some ⟨g,0,none⟩),.int .i64 ((16+21*k:Nat):Int)] W fun r w'=>r=.returned (.string (bs8 (hdL s c nx n)))∧Below W.heap.size W w'):=fun W hW hl=>by
  have:=hW.readHead k hk hl;rw [hh] at this;exact this
 have hlen:(hdL s c nx n).length≤5000:=by
  rw [hdL_is];have d1:=digits13 q1;have d2:=digits13 q2;have d3:=digits13 (n:=(n:Int)) ⟨by omega,by omega⟩
  have d4:(Lib.itoa nx).length≤13:=by
   by_cases hx:nx≤1099511627776
   ·exact digits13 ⟨q3,hx⟩
   ·obtain rfl:nx=1099511627777:=by omega
    decide +kernel
  simp only [List.length_append,List.length_cons];omega
 have hsp:=fun (W:World) (h:LenOk W)=>split_is (hdL s c nx n) (hdWs s c nx n) (parts_hd q2.1 q3) hlen W h
 have HNF:Hid (∀ (b:Nat) (W:World),WordsAt W b ((hdWs s c nx n).map bs8)→Calls Tryz.prog 110 #[.slice (some ⟨b,0,none⟩) 4 4] W fun r w'=>∃ b',r=.returned (.slice (some ⟨b',0,none⟩) 4 4)∧NumsAt w' b' [(s:Int),c,nx,n]∧Below W.heap.size W w'):=fun b W hW=>numbers_four s c nx n b 4 W hW (fun m hm=>by
  have b13:∀ x:Int,okN x→0≤x∧x≤9223372036854775807∧(Lib.itoa x).length≤5000:=fun x hx=>⟨hx.1,by have:=hx.2; omega,by have:=digits13 hx; omega⟩
  simp only [List.mem_cons,List.not_mem_nil,or_false] at hm;rcases hm with rfl | rfl | rfl | rfl
  ·exact b13 _ q1
  ·exact b13 _ q2
  ·refine ⟨q3,by omega,?_⟩
   by_cases hx:m≤1099511627776
   ·exact (b13 _ ⟨q3,hx⟩).2.2
   ·obtain rfl:m=1099511627777:=by omega
    decide +kernel
  ·exact b13 _ ⟨by omega,by omega⟩)
 have HN20:Hid (n≤20):=q5;rw [show (hdWs s c nx n).length=4 from rfl] at hsp
 generalize bs8 (hdL s c nx n)=HT at *;generalize (hdWs s c nx n).map bs8=WS4 at *;have HKI:Hid (((16+21*k:Nat):Int)=16+21*k):=by push_cast; rfl
 generalize hKK:((16+21*k:Nat):Int)=K at *;have HKK:Hid (K=((16+21*k:Nat):Int)):=hKK.symm;have hK0:0≤K∧K≤37:=by omega
 clear hD hL hh hk q1 q2 q3 q4 q5 hlen hKK;unfold stV;go_enter Tryz.func52,Tryz.ntmps52
 go_wp2_with fail
 refine (hsb _).mono ?_;rintro e1 w1 ⟨rfl,rfl⟩;go_wp2_with fail
 refine (HRH.out _ (HD.out.on HB0.out) (HL.out.below HB0.out).base.len).mono ?_;rintro e2 w2 ⟨rfl,hb2⟩;have HB2:Hid (Below w.heap.size w w2):=HB0.out.trans (hb2.mono HB0.out.size);have HC2:Hid (∀ i,w2.cell? ⟨w.heap.size,i,none⟩=(w.alloc (.cells #[.int .i64 0,.int .i64 0,.slice none 0 0] 36)).cell? ⟨w.heap.size,i,none⟩∧w2.frozen? ⟨w.heap.size,i,none⟩=false):=fun i=>⟨hb2.cell (p:=⟨w.heap.size,i,none⟩) (by simp),(hb2.frozen (p:=⟨w.heap.size,i,none⟩) (by simp)).trans (World.frozen?_alloc_at _ _ _ _ rfl)⟩
 have hlt:w.heap.size<w2.heap.size:=by have:=hb2.size; simp at this; omega
 have HLT2:Hid (w.heap.size<w2.heap.size):=hlt;clear hb2;go_wp2_with fail
 refine (hsp _ (HL.out.below HB2.out).base.len).mono ?_;rintro e3 w3 ⟨rfl,hwa,hb3⟩;have HB3:Hid (Below w.heap.size w w3):=HB2.out.trans (hb3.mono HB2.out.size);have HC3:Hid (∀ i,w3.cell? ⟨w.heap.size,i,none⟩=(w.alloc (.cells #[.int .i64 0,.int .i64 0,.slice none 0 0] 36)).cell? ⟨w.heap.size,i,none⟩∧w3.frozen? ⟨w.heap.size,i,none⟩=false):=fun i=>⟨(hb3.cell (p:=⟨w.heap.size,i,none⟩) HLT2.out).trans (HC2.out i).1,(hb3.frozen (p:=⟨w.heap.size,i,none⟩) HLT2.out).trans (HC2.out i).2⟩;have HLT3:Hid (w.heap.size<w3.heap.size):=Nat.lt_of_lt_of_le hlt hb3.size;have hnn:=HNF.out w2.heap.size w3 hwa;clear hb3 hwa hlt hsp;go_wp2_with fail
 refine hnn.mono ?_;rintro e4 w4 ⟨b,rfl,hna,hb4⟩;have HB4:Hid (Below w.heap.size w w4):=HB3.out.trans (hb4.mono HB3.out.size);have HC4:Hid (∀ i,w4.cell? ⟨w.heap.size,i,none⟩=(w.alloc (.cells #[.int .i64 0,.int .i64 0,.slice none 0 0] 36)).cell? ⟨w.heap.size,i,none⟩∧w4.frozen? ⟨w.heap.size,i,none⟩=false):=fun i=>⟨(hb4.cell (p:=⟨w.heap.size,i,none⟩) HLT3.out).trans (HC3.out i).1,(hb4.frozen (p:=⟨w.heap.size,i,none⟩) HLT3.out).trans (HC3.out i).2⟩;have HLT4:Hid (w.heap.size<w4.heap.size):=Nat.lt_of_lt_of_le HLT3.out hb4.size;have n0:=hna.2 0 _ rfl;have n1:=hna.2 1 _ rfl;have n2:=hna.2 2 _ rfl;have n3:=hna.2 3 _ rfl;have m1:=Lib.cell?_alloc_some (.cells #[.int .i64 0,.int .i64 0,.slice none 0 0] 36) n1;have m2:=Lib.cell?_alloc_some (.cells #[.int .i64 0,.int .i64 0,.slice none 0 0] 36) n2;clear hb4 hna hnn;go_wp2_with fail
 go_region
 go_wp2_with fail
 go_region
 go_wp2_with fail
 have HSL0:SL w g A w4.heap.size ⟨c,nx,[]⟩ (.slice none 0 0) (w4.alloc (.cells #[.int .i64 c,.int .i64 nx,.slice none 0 0] 36)).drew.drew:=by
  have hbd:Below w4.heap.size w4 (w4.alloc (.cells #[.int .i64 c,.int .i64 nx,.slice none 0 0] 36)).drew.drew:=(((Below.refl _ _).alloc (Nat.le_refl _) _).drew).drew;have hbl:=HB4.out.trans (hbd.mono HB4.out.size);have hc:∀ i,(w4.alloc (.cells #[.int .i64 c,.int .i64 nx,.slice none 0 0] 36)).drew.drew.cell? ⟨w.heap.size,i,none⟩=(w.alloc (.cells #[.int .i64 0,.int .i64 0,.slice none 0 0] 36)).cell? ⟨w.heap.size,i,none⟩:=fun i=>(hbd.cell (p:=⟨w.heap.size,i,none⟩) HLT4.out).trans (HC4.out i).1
  exact ⟨HD.out.on hbl,HL.out.below hbl,(hc 0).trans ((World.cell?_alloc_at _ _ _ _ rfl).trans rfl),(hc 1).trans ((World.cell?_alloc_at _ _ _ _ rfl).trans rfl),(hc 2).trans ((World.cell?_alloc_at _ _ _ _ rfl).trans rfl),fun i=>(hbd.frozen (p:=⟨w.heap.size,i,none⟩) HLT4.out).trans (HC4.out i).2,
   (show (w4.alloc (.cells #[.int .i64 c,.int .i64 nx,.slice none 0 0] 36)).cell? ⟨w4.heap.size,0,none⟩=some (.int .i64 c) from (World.cell?_alloc_at _ _ _ _ rfl).trans rfl),(show (w4.alloc (.cells #[.int .i64 c,.int .i64 nx,.slice none 0 0] 36)).cell? ⟨w4.heap.size,1,none⟩=some (.int .i64 nx) from (World.cell?_alloc_at _ _ _ _ rfl).trans rfl),(show (w4.alloc (.cells #[.int .i64 c,.int .i64 nx,.slice none 0 0] 36)).cell? ⟨w4.heap.size,2,none⟩=some (.slice none 0 0) from (World.cell?_alloc_at _ _ _ _ rfl).trans rfl),fun i=>(show (w4.alloc (.cells #[.int .i64 c,.int .i64 nx,.slice none 0 0] 36)).frozen? ⟨w4.heap.size,i,none⟩=false from World.frozen?_alloc_at _ _ _ _ rfl),Fams.nil _ _,by show w4.heap.size<(w4.heap.push _).size; simp,HLT4.out,HD.out.lt,hbl⟩
 have HS0:Hid _:=HSL0;clear HSL0 n0 n1 n2 n3 m1 m2 hsb;generalize hW:(w4.alloc (.cells #[.int .i64 c,.int .i64 nx,.slice none 0 0] 36)).drew.drew=W5 at *;clear hW;generalize w4.heap.size=bs at *;generalize hb17:17+21*k=b17 at *;have HB17:Hid (17+21*k=b17):=hb17;have HKB:Hid (K+1=(b17:Int)):=by show K+1=(b17:Int); have:=HKI.out; omega
 clear hb17;have hs9:0≤K∧K≤37:=hK0;clear hK0;have HNI:Hid (n≤20):=HN20.out;go_loopg [39] n (fun gk iv wr=>∃ (i:Nat) (st:St) (v:Value),i+gk=n∧iv=.int .i64 i∧Hid (slotGo A b17 s 0 n ⟨c,nx,[]⟩=slotGo A b17 s i gk st)∧Hid (Rising st.fams∧st.fams.length≤i)∧Hid (SL w g A bs st v wr))
 case atStart=>exact ⟨0,⟨c,nx,[]⟩,_,by omega,rfl,rfl,⟨List.Pairwise.nil,Nat.le_refl _⟩,HS0⟩
 case round=>
  obtain ⟨i,st,v,hj,rfl,HGO,HRI,HSL⟩:=hrel;have HJ:Hid (i+gk=n):=hj;clear hj HS0;by_cases hlt:i<n
  ·have hltI:(i:Int)<(n:Int):=by omega
   have hi20:(i:Int)<20:=by have:=HNI.out; omega
   obtain ⟨r,hr⟩:∃ r,gk=r+1:=⟨gk - 1,by have:=HJ.out; omega⟩
   have HR:Hid (gk=r+1):=hr;clear hr;have hre:=fun (W:World) (hd:DiskIs W g A) (hl:LibsA W)=>hd.readEv (b17+i) s (by have:=HB17.out; have:=HNI.out; have:=HK.out; omega) (by have:=HB17.out; have:=HNI.out; have:=HK.out; omega) (by have:=HB17.out; have:=HNI.out; have:=HK.out; omega) HOS.out hl
   have HKE:Hid (((b17+i:Nat):Int)=K+1+i):=by show ((b17+i:Nat):Int)=K+1+i; rw [HKB.out]; push_cast; rfl
   rw [HKE.out] at hre;rcases evOf_step A b17 s i r st with ⟨e,h1,h2⟩ | ⟨h1,h2⟩
   ·rw [h1] at hre
    have hev:evOf (some (s,e)) s=(e,true):=by unfold evOf; simp
    rw [hev] at hre;have HM:Hid (Ev.may e):=(HD.out.blks _ _ _ h1).1;have HG2:Hid (slotGo A b17 s 0 n ⟨c,nx,[]⟩=slotGo A b17 s (i+1) r (applyP st e)):=by show _=_; rw [HGO.out,HR.out,h2]
    have HAP:Hid (∀ (W:World),Fams (bs+1) W v st.fams→Calls Tryz.prog 19 #[stV st.clock st.next v,evV e] W fun r w'=>∃ v',r=.returned (stV (applyP st e).clock (applyP st e).next v')∧Fams W.heap.size w' v' (applyP st e).fams∧Below W.heap.size W w'):=fun W hW=>apply_is st e HM.out hW HRI.out.1 (by have:=HRI.out.2; have:=HNI.out; omega)
    have HR2:Hid (Rising (applyP st e).fams∧(applyP st e).fams.length≤i+1):=⟨rising_apply HRI.out.1,Nat.le_trans (apply_len st e) (by have:=HRI.out.2; omega)⟩
    have HME:Hid (∀ W:World,EvAt (W.alloc (.cells #[.int .i64 e.kind,.int .i64 e.fam.id,.string e.fam.client,.string e.fam.subject,.string e.fam.scope,.int .i64 e.fam.gen,.int .i64 e.fam.made,.int .i64 e.fam.used,.string e.fam.request,.bool e.fam.dead,.int .i64 e.id,.int .i64 e.time] 42)) W.heap.size e):=fun W=>evAt_made W e 42 _ rfl;generalize applyP st e=st' at *;clear h1 h2 hev;obtain ⟨kk,⟨f1,f2,f3,f4,f5,f6,f7,f8,f9⟩,ei,et⟩:=e;have HAP2:=HAP.out;unfold evV evCs stV at HAP2;unfold evV evCs at hre;simp only at hre HAP2;clear HAP;go_wp2_with fail
    refine (hre _ HSL.out.disk HSL.out.libs).mono ?_;rintro e6 w6 ⟨rfl,hb6⟩;have HS6:Hid _:=(HSL.out.on hb6).on (w':=w6.alloc (.cells #[.int .i64 kk,.int .i64 f1,.string f2,.string f3,.string f4,.int .i64 f5,.int .i64 f6,.int .i64 f7,.string f8,.bool f9,.int .i64 ei,.int .i64 et] 42)) ((Below.refl _ _).alloc (Nat.le_refl _) _);have he:=HME.out w6;have d0:=he.c0; have d1:=he.fam.c0; have d2:=he.fam.c1; have d3:=he.fam.c2; have d4:=he.fam.c3; have d5:=he.fam.c4; have d6:=he.fam.c5; have d7:=he.fam.c6; have d8:=he.fam.c7; have d9:=he.fam.c8; have d10:=he.c10; have d11:=he.c11;simp only at d0 d1 d2 d3 d4 d5 d6 d7 d8 d9 d10 d11;have s0:=HS6.out.s0;have s1:=HS6.out.s1;have s2:=HS6.out.s2;have sf:=HS6.out.sf;clear hre hb6 he HME HSL;go_wp2_with fail
    refine (HAP2 _ HS6.out.fam).mono ?_;rintro e7 w7 ⟨v7,rfl,hf7,hb7⟩;have HS7:Hid _:=HS6.out.on hb7;obtain ⟨ba,ca,rfl⟩:=RowsK.slice hf7;have HF7:Hid (Fams (bs+1) w7 (.slice ba st'.fams.length ca) st'.fams):=RowsK.mono hf7 HS6.out.lt;have HSP:Hid _:=HS7.out.put HL.out HF7.out;clear s0 s1 s2 sf hf7 hb7 HAP2 d0 d1 d2 d3 d4 d5 d6 d7 d8 d9 d10 d11;have s0:=HS7.out.s0;have s1:=HS7.out.s1;have s2:=HS7.out.s2;have sf:=HS7.out.sf;go_wp2_with fail
    go_roundg r
    case measure=>have:=HR.out; omega
    case rel=>exact ⟨i+1,st',_,by have:=HJ.out; have:=HR.out; omega,by go_num,HG2,HR2,HSP⟩
   ·rw [h1] at hre
    have HNONE:slotM A k=(⟨0,0,[]⟩,0):=HMN.out (by rw [HGO.out,HR.out,h2])
    unfold evV evCs zeroE zeroF at hre;simp only at hre;have HN2:Hid (slotM A k=(⟨0,0,[]⟩,0)):=HNONE;clear h1 h2 HNONE;go_wp2_with fail
    refine (hre _ HSL.out.disk HSL.out.libs).mono ?_;rintro e6 w6 ⟨rfl,hb6⟩;have HS6:Hid _:=(HSL.out.on hb6).on (w':=w6.alloc (.cells #[.int .i64 0,.int .i64 0,.string ⟨#[]⟩,.string ⟨#[]⟩,.string ⟨#[]⟩,.int .i64 0,.int .i64 0,.int .i64 0,.string ⟨#[]⟩,.bool false,.int .i64 0,.int .i64 0] 42)) ((Below.refl _ _).alloc (Nat.le_refl _) _);clear hre hb6 HSL;have z0:=HS6.out.z0;have z1:=HS6.out.z1;have z2:=HS6.out.z2;have zf:=HS6.out.zf;have HBL:Hid (Below w.heap.size w (w6.alloc (.cells #[.int .i64 0,.int .i64 0,.string ⟨#[]⟩,.string ⟨#[]⟩,.string ⟨#[]⟩,.int .i64 0,.int .i64 0,.int .i64 0,.string ⟨#[]⟩,.bool false,.int .i64 0,.int .i64 0] 42))):=HS6.out.below
    have HBF:Hid (Below w.heap.size w ((((w6.alloc (.cells #[.int .i64 0,.int .i64 0,.string ⟨#[]⟩,.string ⟨#[]⟩,.string ⟨#[]⟩,.int .i64 0,.int .i64 0,.int .i64 0,.string ⟨#[]⟩,.bool false,.int .i64 0,.int .i64 0] 42)).setCell ⟨w.heap.size,0,none⟩ (.int .i64 0)).setCell ⟨w.heap.size,1,none⟩ (.int .i64 0)).setCell ⟨w.heap.size,2,none⟩ (.slice none 0 0))):=((HBL.out.setCell (p:=⟨w.heap.size,0,none⟩) (Nat.le_refl _) _).setCell (p:=⟨w.heap.size,1,none⟩) (Nat.le_refl _) _).setCell (p:=⟨w.heap.size,2,none⟩) (Nat.le_refl _) _;obtain ⟨q0,q1,q2⟩:=@three_set (w6.alloc (.cells #[.int .i64 0,.int .i64 0,.string ⟨#[]⟩,.string ⟨#[]⟩,.string ⟨#[]⟩,.int .i64 0,.int .i64 0,.int .i64 0,.string ⟨#[]⟩,.bool false,.int .i64 0,.int .i64 0] 42)) w.heap.size (.int .i64 0) (.int .i64 0) (.slice none 0 0) _ _ _ z0 z1 z2;go_wp2_with fail
    have HBF2:=HBF.out;clear HBF;generalize World.setCell _ ⟨w.heap.size,2,none⟩ _=WW at *;have HNONE:=HN2.out;exact bodyPost_ret (v:=.tuple #[.agg #[.int .i64 0,.int .i64 0,.slice none 0 0],.int .i64 0]) (by simp [results,Tryz.results52,go_sem,q0,q1,q2]) rfl ⟨.slice none 0 0,by rw [HNONE]; rfl,by rw [HNONE]; exact Fams.nil _ _,HBF2⟩
  ·obtain rfl:i=n:=by have:=HJ.out; omega
   obtain rfl:gk=0:=by have:=HJ.out; omega
   have HMV:Hid (slotM A k=(st,s)):=HMS.out st (by rw [HGO.out]; rfl)
   have z0:=HSL.out.z0;have z1:=HSL.out.z1;have z2:=HSL.out.z2;have zf:=HSL.out.zf;have s0:=HSL.out.s0;have s1:=HSL.out.s1;have s2:=HSL.out.s2;obtain ⟨ba,ca,rfl⟩:=RowsK.slice HSL.out.fam;have HBF:Hid (Below w.heap.size w (((wr.setCell ⟨w.heap.size,0,none⟩ (.int .i64 st.clock)).setCell ⟨w.heap.size,1,none⟩ (.int .i64 st.next)).setCell ⟨w.heap.size,2,none⟩ (.slice ba st.fams.length ca))):=((HSL.out.below.setCell (p:=⟨w.heap.size,0,none⟩) (Nat.le_refl _) _).setCell (p:=⟨w.heap.size,1,none⟩) (Nat.le_refl _) _).setCell (p:=⟨w.heap.size,2,none⟩) (Nat.le_refl _) _
   have HFF:Hid (Fams w.heap.size (((wr.setCell ⟨w.heap.size,0,none⟩ (.int .i64 st.clock)).setCell ⟨w.heap.size,1,none⟩ (.int .i64 st.next)).setCell ⟨w.heap.size,2,none⟩ (.slice ba st.fams.length ca)) (.slice ba st.fams.length ca) st.fams):=RowsK.mono (((HSL.out.fam.other (a:=⟨w.heap.size,0,none⟩) (Nat.lt_succ_of_lt HSL.out.ord) _).other (a:=⟨w.heap.size,1,none⟩) (Nat.lt_succ_of_lt HSL.out.ord) _).other (a:=⟨w.heap.size,2,none⟩) (Nat.lt_succ_of_lt HSL.out.ord) _) (Nat.le_succ_of_le (Nat.le_of_lt HSL.out.ord));obtain ⟨q0,q1,q2⟩:=@three_set wr w.heap.size (.int .i64 st.clock) (.int .i64 st.next) (.slice ba st.fams.length ca) _ _ _ z0 z1 z2;go_wp2_with fail
   have HBF2:=HBF.out;have HFF2:=HFF.out;clear HBF HFF;generalize World.setCell _ ⟨w.heap.size,2,none⟩ _=WW at *;have HMV2:=HMV.out;exact bodyPost_ret (v:=.tuple #[.agg #[.int .i64 st.clock,.int .i64 st.next,.slice ba st.fams.length ca],.int .i64 s]) (by simp [results,Tryz.results52,go_sem,q0,q1,q2]) rfl ⟨_,by rw [HMV2],by rw [HMV2]; exact HFF2,HBF2⟩
end Go.Proofs.YtlailakofhenkabGreatDoor
namespace Go.Proofs.YtlailakofhenkabGreatDoor
open Go Go.RowKit Ev
structure Keep (l:List Nat) (w w':World):Prop where
 os:w'.os=w.os
 tape:w'.tape=w.tape
 output:w'.output=w.output
 size:w.heap.size≤w'.heap.size
 block:∀ b,b<w.heap.size→b∉l→w'.heap[b]?=w.heap[b]?
theorem Keep.refl (l:List Nat) (w:World):Keep l w w:=⟨rfl,rfl,rfl,Nat.le_refl _,fun _ _ _=>rfl⟩
theorem Keep.trans {l:List Nat} {a b c:World} (h:Keep l a b) (k:Keep l b c):Keep l a c:=
 ⟨k.os.trans h.os,k.tape.trans h.tape,k.output.trans h.output,Nat.le_trans h.size k.size,fun i hi hn=>(k.block i (Nat.lt_of_lt_of_le hi h.size) hn).trans (h.block i hi hn)⟩
theorem Keep.mono {l l':List Nat} {w w':World} (h:Keep l w w') (hl:∀ x∈l,x∈l'):Keep l' w w':=⟨h.os,h.tape,h.output,h.size,fun i hi hn=>h.block i hi (fun hx=>hn (hl i hx))⟩
theorem Keep.of (l:List Nat) {w w':World} (h:Below w.heap.size w w'):Keep l w w':=⟨h.os,h.tape,h.output,h.size,fun i hi _=>h.block i hi⟩
theorem Keep.then {l:List Nat} {a w w':World} (h:Keep l a w) (k:Below w.heap.size w w'):Keep l a w':=h.trans (.of l k)
theorem Keep.drew {l:List Nat} {a w:World} (h:Keep l a w):Keep l a w.drew:=h.then (Below.refl _ _).drew
theorem Keep.setCell {l:List Nat} {a w:World} (h:Keep l a w) {p:Addr} (hp:p.block∈l∨a.heap.size≤p.block) (u:Value):Keep l a (w.setCell p u):=
 ⟨h.os,h.tape,h.output,by simpa using h.size,fun i hi hn=>(Below.heap_setCell w p u i (by rintro rfl; rcases hp with hp | hp; exact hn hp; omega)).trans (h.block i hi hn)⟩
theorem Keep.grown {w w':World} {g:Nat} (h:w.grownBy w' (some g)):Keep [g] w w':=by
 obtain ⟨h1,h2,h3,h4,h5⟩:=h;exact ⟨h1,h2,h3,h4,fun i hi hn=>h5 i hi (by simpa using (fun e:i=g=>hn (by simp [e])))⟩
theorem Keep.cell {l:List Nat} {w w':World} (h:Keep l w w') {p:Addr} (hp:p.block<w.heap.size) (hn:p.block∉l):w'.cell? p=w.cell? p:=World.cell?_of_block (w:=w) (h.block p.block hp hn)
theorem Keep.frozen {l:List Nat} {w w':World} (h:Keep l w w') {p:Addr} (hp:p.block<w.heap.size) (hn:p.block∉l):w'.frozen? p=w.frozen? p:=World.frozen?_of_block (w:=w) (h.block p.block hp hn)
theorem Keep.below {l:List Nat} {B:Nat} {w w':World} (h:Keep l w w') (hB:B≤w.heap.size) (hl:∀ x∈l,B≤x):Below B w w':=⟨h.os,h.tape,h.output,h.size,fun i hi=>h.block i (by omega) (fun hx=>by have:=hl i hx; omega)⟩
theorem Keep.rows {l:List Nat} {k B:Nat} {w w':World} {v:Value} {n:Nat} {cs:List Value} (h:Keep l w w') (hr:RowsK k B w v n cs) (hl:∀ x∈l,x<B):RowsK k B w' v n cs:=by
 rcases hr with h1 | ⟨g,c,h1,h2⟩
 ·exact .inl h1
 ·exact .inr ⟨g,c,h1,h2.block h.size (h.block g h2.lt (fun hx=>by have:=hl g hx; have:=h2.new; omega))⟩
end Go.Proofs.YtlailakofhenkabGreatDoor
namespace Go.RegD
open Go
section
variable {P : Program} {ops : Array Oper} {Q : Exit → Act → World → Prop} {md : Region.Mode} {S : World → Prop} {d : Nat}
def waits (md:Region.Mode) (ops:Array Oper) (d:Nat):List Nat:=match ops[d]? with
 |some o=>o.after.toList.filterMap fun e=>if Region.binds md e=true then some e.on else none
 |none=> []
def adds (s:List Nat):List Nat→List Nat
 |[]=>s
 |x::l=>adds (if s.contains x then s else x::s) l
def anc (md:Region.Mode) (ops:Array Oper):Nat→List Nat→List Nat
 |0,s=>s
 |j+1,s=>anc md ops j (if s.contains j then adds s (waits md ops j) else s)
def Closed (md:Region.Mode) (ops:Array Oper) (listed:Array Bool):Prop:=
 ∀ j oj,ops[j]?=some oj→listed.getD j false=true→∀ e∈oj.after,Region.binds md e=true→listed.getD e.on false=true
def closedB (md:Region.Mode) (ops:Array Oper) (listed:Array Bool):Bool:=
 (List.range ops.size).all fun j=>!listed.getD j false || match ops[j]? with
  |some oj=>oj.after.all fun e=>!Region.binds md e || listed.getD e.on false
  |none=>true
theorem closed_of {listed:Array Bool} (h:closedB md ops listed=true):Closed md ops listed:=by
 intro j oj hj hl e he hb;have h1:=List.all_eq_true.1 h j (List.mem_range.2 (Array.getElem?_eq_some_iff.1 hj).1);simp only [hl,Bool.not_true,Bool.false_or,hj] at h1;have h2:=Array.all_eq_true_iff_forall_mem.1 h1 e he;simpa [hb] using h2
theorem Closed.set {i:Nat} {listed:Array Bool} (inv:Closed md ops listed) (hi:i∈Region.ready md ops listed):Closed md ops (listed.setIfInBounds i true):=by
 obtain ⟨_,oi,hoi,hall⟩:=mem_ready.1 hi;intro j oj hj hl e he hb;by_cases hij:i=j
 ·subst hij
  have:oj=oi:=Option.some.inj (hj.symm.trans hoi);subst this;exact getD_set_true (hall e he hb)
 ·rw [getD_set_ne false hij] at hl
  exact getD_set_true (inv j oj hj hl e he hb)
theorem waits_mem {d x:Nat} {o:Oper} (ho:ops[d]?=some o) (hx:x∈waits md ops d):∃ e∈o.after,Region.binds md e=true∧e.on=x:=by
 unfold waits at hx;simp only [ho,List.mem_filterMap,Option.ite_none_right_eq_some,Option.some.injEq] at hx;obtain ⟨e,h1,h2,h3⟩:=hx;exact ⟨e,by simpa using h1,h2,h3⟩
theorem adds_all {q:Nat→Prop}:∀ (l s:List Nat),(∀ x∈s,q x)→(∀ x∈l,q x)→∀ x∈adds s l,q x
 |[],s,hs,_=>hs
 |y::l,s,hs,hl=>by
  refine adds_all l _ ?_ (fun x hx=>hl x (by simp [hx]))
  split
  ·exact hs
  ·intro x hx
   rcases List.mem_cons.1 hx with rfl | hx
   ·exact hl _ (by simp)
   ·exact hs x hx
theorem anc_listed {listed:Array Bool} (inv:Closed md ops listed):∀ (n:Nat) (s:List Nat),(∀ x∈s,listed.getD x false=true)→∀ x∈anc md ops n s,listed.getD x false=true
 |0,_,hs=>hs
 |j+1,s,hs=>by
  refine anc_listed inv j _ ?_;split
  ·rename_i hj
   have hlj:=hs j (by simpa using hj)
   refine adds_all _ _ hs (fun x hx=>?_)
   cases ho:ops[j]? with
   |none=>unfold waits at hx; simp [ho] at hx
   |some o=>
    obtain ⟨e,h1,h2,rfl⟩:=waits_mem ho hx;exact inv j o ho hlj e h1 h2
  ·exact hs
theorem reach_listed {listed:Array Bool} (inv:Closed md ops listed) {i:Nat} (n d:Nat) (od:Oper) (hd:ops[d]?=some od) (hall:∀ e∈od.after,Region.binds md e=true→listed.getD e.on false=true) (h:(anc md ops n (waits md ops d)).contains i=true):listed.getD i false=true:=by
 refine anc_listed inv n _ (fun x hx=>?_) i (by simpa using h)
 obtain ⟨e,h1,h2,rfl⟩:=waits_mem hd hx;exact hall e h1 h2
theorem both {listed:Array Bool} {i:Nat} (h:listed.getD i true=false):listed.getD i false=false:=by
 rcases Nat.lt_or_ge i listed.size with h' | h'
 ·simp [h'] at h ⊢; exact h
 ·simp [Array.getElem?_eq_none h'] at h
theorem at_list {l:List Oper} {i:Nat} {o:Oper} (h:l[i]?=some o):l.toArray[i]?=some o:=by rw [List.getElem?_toArray]; exact h
def wpAnyD (P:Program) (md:Region.Mode) (ops:Array Oper) (Q:Exit→Act→World→Prop) (S:World→Prop) (d:Nat):Nat→Array Bool→Act→World→Prop
 |0,listed,a,w=>Region.ready md ops listed= []∧Q .normal a w
 |fuel+1,listed,a,w=>
  (Region.ready md ops listed= []→Q .normal a w)∧
  ∀ i∈Region.ready md ops listed,wpOp P ops Q i (fun a' w'=>((listed.setIfInBounds i true).getD d false=false→S w')∧wpAnyD P md ops Q S d fuel (listed.setIfInBounds i true) a' w') a w
theorem wpAny_of_D:∀ (fuel:Nat) (listed:Array Bool) (a:Act) (w:World),wpAnyD P md ops Q S d fuel listed a w→wpAny P md ops Q fuel listed a w
 |0,_,_,_,h=>h
 |fuel+1,_,_,_,h=>⟨h.1,fun i hi=>wpOp_mono (fun a' w' h'=>wpAny_of_D fuel _ a' w' h'.2) (h.2 i hi)⟩
theorem wpAnyD_first {i n:Nat} {oi od:Oper} {v:Value} (hi:ops[i]?=some oi) (hd:ops[d]?=some od) (hid:i≠d) (hre:(anc md ops n (waits md ops d)).contains i=true) (hsel:∀ (j:Nat) (o:Oper) cs b,ops[j]?=some o→o.op≠.select cs b)
 (hQ:∀ c a w,Q (.panic c) (a.put oi.dst v) w→Q (.panic c) a w) :
 ∀ (fuel:Nat) (listed:Array Bool) (a:Act) (w:World),Closed md ops listed→
  (∀ j oj,ops[j]?=some oj→j≠i→listed.getD j true=false→(∀ e∈oj.after,Region.binds md e=true→e.on≠i)→oi.apart ops oj=true)→
  i∈Region.ready md ops listed→YieldsIf P ops S oi v a→S w→
  wpAnyD P md ops Q S d fuel (listed.setIfInBounds i true) (a.put oi.dst v) w→wpAnyD P md ops Q S d (fuel+1) listed a w:=by
 intro fuel;induction fuel with
 |zero=>
  intro listed a w inv _ hr hy hS H;refine ⟨fun h=>(by rw [h] at hr; cases hr),fun j hj=>?_⟩
  by_cases hji:j=i
  ·subst hji; exact hy.wpOp hi hS ⟨fun _=>hS,H⟩
  ·have:=ready_mono hj hji
   rw [H.1] at this
   cases this
 |succ fuel ih=>
  intro listed a w inv hfree hr hy hS H;have hun:=(mem_ready.1 hr).1;refine ⟨fun h=>(by rw [h] at hr; cases hr),fun j hj=>?_⟩
  by_cases hji:j=i
  ·subst hji; exact hy.wpOp hi hS ⟨fun _=>hS,H⟩
  ·have h1:=H.2 j (ready_mono hj hji)
   obtain ⟨hjun,oj,hoj,hall⟩:=mem_ready.1 hj
   have hjd:j≠d:=by
    rintro rfl;have h0:=reach_listed inv n j oj hoj hall hre;rw [both hun] at h0
    cases h0
   have hd0:listed.getD d false=false:=by
    cases hh:listed.getD d false with
    |false=>rfl
    |true=>
     have h0:=reach_listed inv n d od hd (inv d od hd hh) hre;rw [both hun] at h0
     cases h0
   have hf:((listed.setIfInBounds i true).setIfInBounds j true).getD d false=false:=by
    rw [getD_set_ne false hjd,getD_set_ne false hid]; exact hd0
   have hnot:∀ e∈oj.after,Region.binds md e=true→e.on≠i:=fun e he hb heq=>by
    have h1:=hall e he hb;rw [heq,both hun] at h1
    cases h1
   have h2:=wpOp_putIf hoj (hfree j oj hoj hji hjun hnot) (fun cs b=>hsel i oi cs b hi) (fun cs b=>hsel j oj cs b hoj) hQ hy h1
   have hfree':∀ k ok,ops[k]?=some ok→k≠i→(listed.setIfInBounds j true).getD k true=false→
    (∀ e∈ok.after,Region.binds md e=true→e.on≠i)→oi.apart ops ok=true:=fun k ok hk hki hun hno=>by
    refine hfree k ok hk hki ?_ hno;by_cases hjk:j=k
    ·subst hjk; exact hjun
    ·rw [getD_set_ne true hjk] at hun; exact hun
   refine wpOp_mono (fun a' w' h3=>⟨fun _=>h3.2.1 hf,ih (listed.setIfInBounds j true) a' w' (inv.set hj) hfree' (ready_mono hr (Ne.symm hji)) h3.1 (h3.2.1 hf) ?_⟩) h2;rw [Array.setIfInBounds_comm _ _ hji];exact h3.2.2
def takeB (md:Region.Mode) (ops:Array Oper) (d:Nat) (listed:Array Bool) (i:Nat):Bool:=
 Region.noSelect ops && Region.free md ops listed i && (Region.ready md ops listed).contains i && closedB md ops listed && (anc md ops d (waits md ops d)).contains i && decide (d<ops.size) && (i != d)
theorem T_ {l:List Oper} (i:Nat) {oi:Oper} {v:Value} {fuel:Nat} {listed:Array Bool} {a:Act} {w:World} (hi0:l[i]?=some oi) (hB:takeB md l.toArray d listed i=true)
 (hQ:∀ c a w,Q (.panic c) (a.put oi.dst v) w→Q (.panic c) a w) (hy:YieldsIf P l.toArray S oi v a) (hS:S w)
 (h:wpAnyD P md l.toArray Q S d fuel (listed.setIfInBounds i true) (a.put oi.dst v) w):wpAnyD P md l.toArray Q S d (fuel+1) listed a w:=by
 have hi:=at_list hi0;generalize l.toArray=ops at *;simp only [takeB,Bool.and_eq_true,bne_iff_ne,ne_eq] at hB;obtain ⟨⟨⟨⟨⟨⟨h1,h2⟩,h3⟩,h4⟩,h5⟩,h7⟩,h6⟩:=hB;have h8:d<ops.size:=by simpa using h7
 obtain ⟨od,hd⟩:∃ od,ops[d]?=some od:=⟨_,Array.getElem?_eq_getElem h8⟩;exact wpAnyD_first hi hd h6 h5 (Region.noSelect_spec h1) hQ fuel listed a w (closed_of h4) (Region.free_spec hi h2) (by simpa using h3) hy hS h
theorem O_ {l:List Oper} (i:Nat) {o:Oper} {fuel:Nat} {listed:Array Bool} {a:Act} {w:World} (ho0:l[i]?=some o) (hr:Region.ready md l.toArray listed= [i])
 (h:∀ K':Act→World→Prop,Shut (∀ a w,S w→(S w→wpAnyD P md l.toArray Q S d fuel (listed.setIfInBounds i true) a w)→K' a w)→if Region.wanted o (yielded l.toArray a.tmps)=true then Oper.wp P o a w K' Q else K' (a.put o.dst undef) w):wpAnyD P md l.toArray Q S d (fuel+1) listed a w:=
 ⟨fun h0=>absurd (hr ▸ h0) (by simp),fun j hj=>by
  rw [hr] at hj;obtain rfl:j=i:=by simpa using hj
  exact wpOp_step (at_list ho0) (fun K' hK=>h K' (fun a w hS hW=>hK a w ⟨fun _=>hS,hW hS⟩))⟩
theorem L_ {l:List Oper} (i:Nat) {o:Oper} {fuel:Nat} {listed:Array Bool} {a:Act} {w:World} (ho0:l[i]?=some o) (hr:Region.ready md l.toArray listed= [i]) (hd:(listed.setIfInBounds i true).getD d false=true)
 (h:∀ K':Act→World→Prop,Shut (∀ a w,wpAnyD P md l.toArray Q S d fuel (listed.setIfInBounds i true) a w→K' a w)→if Region.wanted o (yielded l.toArray a.tmps)=true then Oper.wp P o a w K' Q else K' (a.put o.dst undef) w):wpAnyD P md l.toArray Q S d (fuel+1) listed a w:=
 ⟨fun h0=>absurd (hr ▸ h0) (by simp),fun j hj=>by
  rw [hr] at hj;obtain rfl:j=i:=by simpa using hj
  exact wpOp_step (at_list ho0) (fun K' hK=>h K' (fun a w hW=>hK a w ⟨fun h0=>(by rw [hd] at h0; cases h0),hW⟩))⟩
theorem D_ {listed:Array Bool} {a:Act} {w:World} (hr:Region.ready md ops listed= []) (h:Q .normal a w):∀ fuel,wpAnyD P md ops Q S d fuel listed a w
 |0=>⟨hr,h⟩
 |_+1=>⟨fun _=>h,by rw [hr]; simp⟩
theorem R_ {id:Nat} {a:Act} {w:World} (S:World→Prop) (d:Nat) (hm:P.follows .mixedOrders=true) (hS:S w.drew)
 (h:S w.drew→wpAnyD P .any ops Q S d ops.size (Array.replicate ops.size false) a w.drew):(Code.region id ops true).wp P Q a w:=
 wp_region_any hm (wpAny_of_D _ _ _ _ (h hS))
end
end Go.RegD
namespace Go.Proofs.YtlailakofhenkabGreatDoor
theorem pS1 {α : Type} (l : List α) (i : Nat) (a : α) : l.toArray.setIfInBounds i a = (l.set i a).toArray := List.setIfInBounds_toArray l i a
theorem pS2 {α : Type} (a b : α) (l : List α) : (a :: l).set 0 b = b :: l := rfl
theorem pS3 {α : Type} (a b : α) (l : List α) (n : Nat) : (a :: l).set (n + 1) b = a :: l.set n b := rfl
end Go.Proofs.YtlailakofhenkabGreatDoor
