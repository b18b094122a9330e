import Derived.Test.YtlailakofhenkabGreatDoorB25
set_option maxRecDepth 100000
set_option maxHeartbeats 8000000
namespace Go.Proofs.YtlailakofhenkabGreatDoor
open Go Go.RowKit Tok Sc Ev Tryz RegD
attribute [local go_sem] rA oA
structure RR (w:World) (g:Nat):Prop where
 c0:∃v,w.cell? ⟨g,0,none⟩=some v
 c1:∃v,w.cell? ⟨g,1,none⟩=some v
 fz:∀i,w.frozen? ⟨g,i,none⟩=false
 lt:g<w.heap.size
variable {cn ct g gd gk gm gs gv nn nt:Nat}{l:List Nat}{w w':World}
theorem RR.keep(h:RR w g)(hk:af l w w')(hn:g∉l):RR w' g:=by
 obtain⟨⟨v0,h0⟩,⟨v1,h1⟩,h2,h3⟩:=h;exact⟨⟨v0,(hk.cell (p:=(a_ g 0)) h3 hn).trans h0⟩,⟨v1,(hk.cell (p:=(a_ g 1)) h3 hn).trans h1⟩,fun i=>(hk.frozen (p:=(a_ g i)) h3 hn).trans (h2 i),Fd h3 hk.size⟩
theorem RR.on(h:RR w g)(hb:Below w.heap.size w w'):RR w' g:=h.keep (af.of [] hb) (by simp)
theorem sw(WB:World):RdI WB (WB.heap.size+1) (.slice none 0 0) (.slice none 0 0) [] [] ((WB.alloc (.cells #[.slice none 0 0,.slice none 0 0] 256)).alloc (.cells #[.slice none 0 0,.slice none 0 0] 256))∧RR ((WB.alloc (.cells #[.slice none 0 0,.slice none 0 0] 256)).alloc (.cells #[.slice none 0 0,.slice none 0 0] 256)) WB.heap.size:=by
 have b:(WB.alloc (.cells #[.slice none 0 0,.slice none 0 0] 256)).heap.size=WB.heap.size+1:=by simp
 have f:∀j:Nat,((WB.alloc (.cells #[.slice none 0 0,.slice none 0 0] 256)).alloc (.cells #[.slice none 0 0,.slice none 0 0] 256)).c_ (WB.heap.size+1) j=(#[.slice none 0 0,.slice none 0 0]:Array Value)[j]?:=by
  rw[<- b]; exact fun j=>Fb _ _ _ _ rfl
 have k:RR (WB.alloc (.cells #[.slice none 0 0,.slice none 0 0] 256)) WB.heap.size:=⟨⟨_,(World.cell?_alloc_at _ _ _ _ rfl).trans rfl⟩,⟨_,(World.cell?_alloc_at _ _ _ _ rfl).trans rfl⟩,fun i=>World.frozen?_alloc_at _ _ _ _ rfl,by simp⟩
 refine⟨⟨(f 0).trans rfl,(f 1).trans rfl,fun i=>World.frozen?_alloc_at _ _ _ _ (by rw[b]),by simp,.inl ⟨rfl,rfl⟩,.inl ⟨rfl,rfl⟩,fun g o n c e=>(by cases e),fun g o n c e=>(by cases e),(bA _ _).alloc (by simp) _,Nat.lt_succ_self _⟩,k.on (bA _ _)⟩
theorem Ar{w WB wr:World}{ga go:Nat}{vt vn:Value}{ts:List ByteArray}{ns:List Int}(hb:Below go w WB)(h:RdI WB ga vt vn ts ns wr)(hr:RR wr (go+1))(hg:w.heap.size=go)(hs:WB.heap.size=go+1)(hgg:WB.heap.size<ga):
 ((wr.setCell ⟨go+1,0,none⟩ vt).setCell ⟨go+1,1,none⟩ vn).cell? ⟨go+1,0,none⟩=some vt∧((wr.setCell ⟨go+1,0,none⟩ vt).setCell ⟨go+1,1,none⟩ vn).cell? ⟨go+1,1,none⟩=some vn∧Below w.heap.size w ((wr.setCell ⟨go+1,0,none⟩ vt).setCell ⟨go+1,1,none⟩ vn)∧aE w.heap.size ((wr.setCell ⟨go+1,0,none⟩ vt).setCell ⟨go+1,1,none⟩ vn) vt (ts.map Value.string)∧aE w.heap.size ((wr.setCell ⟨go+1,0,none⟩ vt).setCell ⟨go+1,1,none⟩ vn) vn (ns.map (Value.int .i64)):=by
 subst hg;have c:af [w.heap.size+1] wr ((wr.setCell (a_ (w.heap.size+1) 0) vt).setCell (a_ (w.heap.size+1) 1) vn):=((af.refl _ wr).setCell (p:=(a_ (w.heap.size+1) 0)) (.inl (by simp)) vt).setCell (p:=(a_ (w.heap.size+1) 1)) (.inl (by simp)) vn
 obtain⟨⟨q0,c0⟩,⟨q1,c1⟩,z,lt⟩:=hr;have b:Below w.heap.size w wr:=hb.tm h.bel;refine⟨al (World.cell?_setCell_same _ _ _ c0) (by simp),World.cell?_setCell_same _ _ _ (al c1 (by simp)),b.trans (c.below b.size (by simp)),?_,?_⟩
 ·exact (h.rt.keepOut c (by simp; exact h.rt.notIn (by omega))).lower (by omega)
 ·exact (h.rn.keepOut c (by simp; exact h.rn.notIn (by omega))).lower (by omega)
theorem Dj:(prog.info? 3).map (fun i=>(i.zero,i.size,i.bytes))=some (some (.int .i64 0),1,8):=by kernel_rfl
theorem CO:∃i,prog.info? 3=some i∧i.zero=some (.int .i64 0)∧i.size=1∧i.bytes=8:=by
 have h:=Dj
 cases hi:prog.info? 3 with
 |none=>rw[hi] at h; cases h
 |some i=>
  rw[hi] at h;simp only[Option.map_some,Option.some.injEq,Prod.mk.injEq] at h;exact⟨i,rfl,h.1,h.2.1,h.2.2⟩
theorem Dl:(prog.info? 9).map (fun i=>(i.zero,i.size,i.bytes))=some (some (.string ⟨#[]⟩),1,16):=by kernel_rfl
theorem vX:∃i,prog.info? 9=some i∧i.zero=some (.string ⟨#[]⟩)∧i.size=1∧i.bytes=16:=by
 have h:=Dl
 cases hi:prog.info? 9 with
 |none=>rw[hi] at h; cases h
 |some i=>
  rw[hi] at h;simp only[Option.map_some,Option.some.injEq,Prod.mk.injEq] at h;exact⟨i,rfl,h.1,h.2.1,h.2.2⟩
theorem Cc(F gd:Nat)(ka:Option Addr)(ks:List Int)(kc:Nat)(ba:Option Addr)(xs:List Word)(c gks gb off:Nat)(w:World)(hlen:xs.length=ks.length)(hka:0<ks.length->ka=some ⟨gks,0,none⟩)(hks:∀(i:Nat) (k:Int),ks[i]?=some k->w.cell? ⟨gks,i,none⟩=some (.int .i64 k))(hgk:gks<w.heap.size)(hk3:∀k∈ks,k=0∨k=1∨k=2)(hba:0<xs.length->ba=some ⟨gb,off,none⟩)(hws:∀(i:Nat) (x:Word),xs[i]?=some x->w.cell? ⟨gb,off+i,none⟩=some (.string (Ev.bs x)))(hxs:∀x∈xs,x.length<=10000)(hn:xs.length<=30000)(hL:av w):
 Calls prog 156 #[.agg #[.func (.func F) #[p_ gd 0] #[],.slice ka ks.length kc],.slice ba xs.length c] w fun e w'=>Below w.heap.size w w'∧((∃vt vn,e=.returned (.agg #[vt,vn])∧aE w.heap.size w' vt ((cD ks xs xs.length).map Value.string)∧aE w.heap.size w' vn ((bI ks xs xs.length).map (Value.int .i64))∧∀(j:Nat) (k:Int) (x:Word),ks[j]?=some k->xs[j]?=some x->nkW k x≠none)∨(e=aM 3∧∃(j:Nat) (k:Int) (x:Word),ks[j]?=some k∧xs[j]?=some x∧nkW k x=none)):=by
 have B:=bA w (.cells #[.func (.func F) #[p_ gd 0] #[],.slice ka ks.length kc] 253);have Ee:Hid _:=B;have HO:Hid ((w.alloc (.cells #[.func (.func F) #[p_ gd 0] #[],.slice ka ks.length kc] 253)).c_ w.heap.size 1=some (.slice ka ks.length kc)):=(Fb _ _ _ _ rfl).trans rfl;have C:Hid ((w.alloc (.cells #[.func (.func F) #[p_ gd 0] #[],.slice ka ks.length kc] 253)).heap.size=w.heap.size+1):=by show _=_; simp
 have Ef:Hid (w.heap.size<(w.alloc (.cells #[.func (.func F) #[p_ gd 0] #[],.slice ka ks.length kc] 253)).heap.size):=by show _<_; simp
 have Ej:Hid (∀(i:Nat) (k:Int),ks[i]?=some k->(w.alloc (.cells #[.func (.func F) #[p_ gd 0] #[],.slice ka ks.length kc] 253)).c_ gks i=some (.i_ k)):=fun i k h=>(B.cell (p:=(a_ gks i)) hgk).trans (hks i k h);have Ek:Hid _:=Fd hgk B.size;have El:Hid (∀(i:Nat) (x:Word),xs[i]?=some x->(w.alloc (.cells #[.func (.func F) #[p_ gd 0] #[],.slice ka ks.length kc] 253)).c_ gb (off+i)=some (.string (Ev.bs x))):=fun i x h=>(B.cell (p:=(a_ gb (off+i))) (Fc _ _ (hws i x h))).trans (hws i x h);have HL:Hid _:=hL.below B rfl;have Em:Hid _:=hlen;have En:Hid _:=hxs;have Eo:Hid _:=hk3;have HN:Hid _:=hn
 have hb:((xs.length:Int) != (ks.length:Int))=false:=by
  rw[bne_eq_false_iff_eq]; omega
 clear hks hws hL hlen hxs hk3 B hgk hn;go_enter func156,ntmps156
 go_upto_region 1 with fail;generalize hWB:(w.alloc _)=WB at *;clear hWB;generalize hgo:w.heap.size=go at *;have Eg:Hid _:=hgo;clear hgo;have Ep:(WB.alloc (.cells #[.slice none 0 0,.slice none 0 0] 256)).c_ go 1=some (.slice ka ks.length kc):=(World.cell?_alloc_lt _ _ _ Ef.o).trans HO.o;go_upto_region 4 with fail;have O:Hid _:=(sw WB).1
 have R:Hid (RR ((WB.alloc (.cells #[.slice none 0 0,.slice none 0 0] 256)).alloc (.cells #[.slice none 0 0,.slice none 0 0] 256)) (go+1)):=by
  have h:=(sw WB).2;rw[C.o] at h;exact h
 clear Ep hb;generalize hW2:((WB.alloc _).alloc _)=W2 at *;clear hW2;generalize hga:WB.heap.size+1=ga at *;have L:Hid (WB.heap.size<ga):=by show _<_; omega
 clear hga;go_wp2_with fail;go_loopg [17] xs.length (fun gk iv wr=>∃(j:Nat) (vt vn:Value),j+gk=xs.length∧iv=.i_ j∧Hid (RdI WB ga vt vn (cD ks xs j) (bI ks xs j) wr)∧Hid (RR wr (go+1))∧Hid (∀(i:Nat) (k:Int) (x:Word),i<j->ks[i]?=some k->xs[i]?=some x->nkW k x≠none))
 case atStart=>exact⟨0,_,_,by omega,rfl,O,R,fun i k x h=>absurd h (by omega)⟩
 case round=>
  obtain⟨j,vt,vn,hj,rfl,HR,HRR,HAL⟩:=hrel;have X:Hid _:=hj;clear O R hj;by_cases hlt:j<xs.length
  ·have Ex:(j:Int)<(xs.length:Int):=by omega
   have T:j<ks.length:=by have:=Em.o; omega
   have Er:(j:Int)<(ks.length:Int):=by omega
   obtain rfl:=hka (by omega)
   obtain⟨x,hx⟩:∃x,xs[j]?=some x:=⟨_,Fh hlt⟩;obtain⟨k,hk⟩:∃k,ks[j]?=some k:=⟨_,Fh T⟩;obtain rfl:=hba (by omega)
   have Y:=El.o j x hx;have c1:=(HR.out.bel.cell (p:=(a_ gb (off+j))) (Fc _ _ Y)).trans Y;have c2:=(HR.out.bel.cell (p:=(a_ gks j)) Ek.o).trans (Ej.o j k hk);have c3:=(HR.out.bel.cell (p:=(a_ go 1)) Ef.o).trans HO.o;clear Y;have HX:Hid _:=En.o x (FE hx);have s:Hid _:=hx;have q:Hid _:=hk;have D:Hid (j<30000):=by have:=HN.o; show j<30000; omega
   obtain⟨bt,ct,hvt⟩:=HR.out.rt.slice;rw[List.length_map] at hvt;obtain rfl:=hvt;obtain⟨bn,cn,hvn⟩:=HR.out.rn.slice;rw[List.length_map] at hvn;obtain rfl:=hvn;have M:=HR.out.c0;have a1:=HR.out.c1;have Eh:Hid ((cD ks xs j).length<=30000):=by have A:=sq ks xs j; have U:=D.o; show _<=30000; omega
   have Es:Hid ((bI ks xs j).length<=30000):=by have A:=sr ks xs j; have U:=D.o; show _<=30000; omega
   have Ei:=Eo.o k (FE hk);clear hx hk hlt T;rcases Ei with rfl | rfl | rfl
   ·have E:Hid (cD ks xs (j+1)=cD ks xs j ++ [Ev.bs x]):=by show _=_; rw[iS q.o s.o]; rfl
    have G:Hid (bI ks xs (j+1)=bI ks xs j):=by show _=_; rw[iT q.o s.o]; simp[nkW]
    have f:=bA wr (.cells #[.string (Ev.bs x)] 9);have r:Hid _:=HR.out.on f;have m:Hid _:=HRR.out.on f;clear f;obtain⟨i0,hi,hz0,hz1,hz2⟩:=vX;have Et:Hid _:=r.o.lt;have t:((cD ks xs j).map Value.string).length<=1000000:=by have:=Eh.o; simp; omega
    go_wp2_with (at_builtin; refine cL _ rfl _ _ 66 rfl 9 i0 (.e_) 16 underlying66 hi hz0 hz1 hz2 rfl (by decide) (ga+1) _ _ rfl r.o.rt Et.o (a_ wr.heap.size 0) 1 (.string (Ev.bs x)) rfl ((Fb _ _ _ _ rfl).trans rfl) rfl t ?_)
    intro vq wq hwq hsq hkq hnq haq;obtain⟨bq,cq,hvq⟩:=hwq.slice;have V:((cD ks xs j).map Value.string ++ [Value.string (Ev.bs x)]).length=(cD ks xs j).length+1:=by simp
    rw[V] at hvq;obtain rfl:=hvq;clear V;obtain⟨hR2,hc0,hf0,l,hl,hkl⟩:=r.o.addT hwq (fun l hl=>hkq l (fun g o e=>hl g o _ _ (by rw[e]))) (fun b hb=>hnq b (by simpa using hb)) (fun y A U=>haq y A (fun b hb=>U b (by simpa using hb)))
    have H:Hid _:=hR2;have z:Hid _:=m.o.keep hkl (fun hx=>by have A:=hl _ hx; have U:=L.o; have h3:=C.o; omega)
    obtain⟨v0,hc0⟩:=Option.isSome_iff_exists.1 hc0;clear hR2 hwq hsq hkq hnq haq hkl hl hi hz0 hz1 hz2 t M a1;go_wp2_with fail;go_roundg (gk - 1)
    case measure=>have:=X.o; omega
    case rel=>
     refine⟨j+1,_,_,by have:=X.o; omega,by have:=D.o; congr 1; unfold wrap64; omega,(by rw[E.o,G.o]; exact H.o),z,?_⟩
     intro i k y hi hk hy;by_cases hij:i<j
     ·exact HAL.out i k y hij hk hy
     ·obtain rfl:i=j:=by omega
      have A:some k=some 0:=hk.symm.trans q.o;obtain rfl:=Option.some.inj A;simp[nkW]
   ·have E:Hid (cD ks xs (j+1)=cD ks xs j ++ [Ev.bs (aG x)]):=by show _=_; rw[iS q.o s.o]; rfl
    have G:Hid (bI ks xs (j+1)=bI ks xs j):=by show _=_; rw[iT q.o s.o]; simp[nkW]
    clear M a1;go_upto_region 11 with fail;refine region_ (fun W=>RdI WB ga (.slice bt (cD ks xs j).length ct) (.slice bn (bI ks xs j).length cn) (cD ks xs j) (bI ks xs j) W∧RR W (go+1)) 5 ⟨HR.out.on (E9 _ _).drew,HRR.out.on (E9 _ _).drew⟩ fun hH=>?_;refine an [(0,p_ ga 0),(1,.slice bt (cD ks xs j).length ct),(2,.string (Ev.bs x))] hH (fun W hW=>by have M:=hW.1.c0;go_simp) ?_;simp only[pA,oA,Act.put,pS1]
    refine one_ 3 ?_; intro K hK; go_simp;go_at_call 248;refine (sh _ _).mono ?_;rintro e6 w6 ⟨rfl,rfl⟩;rw[uy];go_wp2_with fail;refine hK.out _ _ (hH) ?_;clear hK hH;intro hH;clear K;refine one_ 4 ?_; intro K hK; go_simp;have f:=fun (W:World)=>(E9 W.heap.size W).alloc (Fa _) (.cells #[.string (Ev.bs (aG x))] 9);have r:Hid _:=hH.1.on (f _);have m:Hid _:=hH.2.on (f _);refine hK.out _ _ (⟨r.o,m.o⟩) ?_;clear hK hH;intro hH;clear K;clear f;have N:Hid _:=hH;clear hH r m;obtain⟨i0,hi,hz0,hz1,hz2⟩:=vX;generalize hWA:(wr.alloc _).drew=WA at *
    have Z:Hid (WA.c_ wr.heap.size 0=some (.string (Ev.bs (aG x)))):=by
     subst hWA;exact (Fb _ _ _ _ rfl).trans rfl
    clear hWA;have t:((cD ks xs j).map Value.string).length<=1000000:=by have:=Eh.o; simp; omega
    have I:aE (ga+1) WA (.slice bt (cD ks xs j).length ct) ((cD ks xs j).map Value.string):=N.o.1.rt;refine late_ 5 ?_;intro K hK;rw[if_pos (by rfl)]
    refine oB (ops:=#[]) (by rfl) ?_;refine cL _ rfl _ _ 66 rfl 9 i0 (.e_) 16 underlying66 hi hz0 hz1 hz2 rfl (by decide) (ga+1) _ _ rfl I N.o.1.lt (a_ wr.heap.size 0) 1 (.string (Ev.bs (aG x))) rfl Z.o rfl t ?_;intro vq wq hwq hsq hkq hnq haq;obtain⟨bq,cq,hvq⟩:=hwq.slice;have V:((cD ks xs j).map Value.string ++ [Value.string (Ev.bs (aG x))]).length=(cD ks xs j).length+1:=by simp
    rw[V] at hvq;obtain rfl:=hvq;clear V;obtain⟨hR2,hc0,hf0,l,hl,hkl⟩:=N.o.1.addT hwq hkq hnq haq;have H:Hid _:=hR2;have z:Hid _:=N.o.2.keep hkl (fun hx=>by have A:=hl _ hx; have U:=L.o; have h3:=C.o; omega)
    obtain⟨v0,hc0⟩:=Option.isSome_iff_exists.1 hc0;clear hR2 hwq hsq hkq hnq haq hkl hl hi hz0 hz1 hz2 t I;show K _ _
    simp only[Act.put,pS1,pS2,pS3];refine hK.out _ _ ?_;clear hK K;refine late_ 6 ?_; intro K hK; go_simp;refine hK.out _ _ ?_;clear hK K;refine late_ 7 ?_; intro K hK; go_simp;refine hK.out _ _ ?_;clear hK K;refine done_ ?_;go_wp2_with fail;go_roundg (gk - 1)
    case measure=>have:=X.o; omega
    case rel=>
     refine⟨j+1,_,_,by have:=X.o; omega,by have:=D.o; congr 1; unfold wrap64; omega,(by rw[E.o,G.o]; exact H.o),z,?_⟩
     intro i k y hi hk hy;by_cases hij:i<j
     ·exact HAL.out i k y hij hk hy
     ·obtain rfl:i=j:=by omega
      have A:some k=some 1:=hk.symm.trans q.o;obtain rfl:=Option.some.inj A;simp[nkW]
   ·cases hnw:numW x with
    |some n=>
     have E:Hid (cD ks xs (j+1)=cD ks xs j):=by show _=_; rw[iS q.o s.o]; simp[tkW]
     have G:Hid (bI ks xs (j+1)=bI ks xs j ++ [n]):=by show _=_; rw[iT q.o s.o]; simp[nkW,hnw]
     have J:Hid _:=hnw;clear hnw;clear M a1;go_upto_region 13 with fail;refine region_ (fun W=>RdI WB ga (.slice bt (cD ks xs j).length ct) (.slice bn (bI ks xs j).length cn) (cD ks xs j) (bI ks xs j) W∧RR W (go+1)) 5 ⟨HR.out.on (E9 _ _).drew,HRR.out.on (E9 _ _).drew⟩ fun hH=>?_;refine an [(0,p_ ga 1),(1,.slice bn (bI ks xs j).length cn),(2,.string (Ev.bs x))] hH (fun W hW=>by have M:=hW.1.c1;go_simp) ?_;simp only[pA,oA,Act.put,pS1]
     refine one_ 3 ?_; intro K hK; go_simp;go_at_call 249;refine (pU (Ev.bs x) n _ HX.o (HL.o.below hH.1.bel rfl) J.o).mono ?_;rintro e6 w6 ⟨rfl,hb6⟩;go_wp2_with fail;refine hK.out _ _ (⟨hH.1.on hb6,hH.2.on hb6⟩) ?_;clear hK hH;intro hH;clear K;clear hb6;refine one_ 4 ?_; intro K hK; go_simp;have f:=fun (W:World)=>(E9 W.heap.size W).alloc (Fa _) (.cells #[.i_ n] 3);have r:Hid _:=hH.1.on (f _);have m:Hid _:=hH.2.on (f _);refine hK.out _ _ (⟨r.o,m.o⟩) ?_;clear hK hH;intro hH;clear K;clear f;have N:Hid _:=hH;clear hH r m;obtain⟨i0,hi,hz0,hz1,hz2⟩:=CO;generalize hWA:(w6.alloc _)=WA at *
     have Z:Hid (WA.c_ w6.heap.size 0=some (.i_ n)):=by
      subst hWA;exact (Fb _ _ _ _ rfl).trans rfl
     clear hWA;have t:((bI ks xs j).map (Value.int .i64)).length<=1000000:=by have:=Es.o; simp; omega
     have I:aE (ga+1) WA (.slice bn (bI ks xs j).length cn) ((bI ks xs j).map (Value.int .i64)):=N.o.1.rn;refine late_ 5 ?_;intro K hK;rw[if_pos (by rfl)]
     refine oB (ops:=#[]) (by rfl) ?_;refine cL _ rfl _ _ 23 rfl 3 i0 (.i_ 0) 8 underlying23 hi hz0 hz1 hz2 rfl (by decide) (ga+1) _ _ rfl I N.o.1.lt (a_ w6.heap.size 0) 1 (.i_ n) rfl Z.o rfl t ?_;intro vq wq hwq hsq hkq hnq haq;obtain⟨bq,cq,hvq⟩:=hwq.slice;have V:((bI ks xs j).map (Value.int .i64) ++ [Value.i_ n]).length=(bI ks xs j).length+1:=by simp
     rw[V] at hvq;obtain rfl:=hvq;clear V;obtain⟨hR2,hc0,hf0,l,hl,hkl⟩:=N.o.1.addN hwq hkq hnq haq;have H:Hid _:=hR2;have z:Hid _:=N.o.2.keep hkl (fun hx=>by have A:=hl _ hx; have U:=L.o; have h3:=C.o; omega)
     obtain⟨v0,hc0⟩:=Option.isSome_iff_exists.1 hc0;clear hR2 hwq hsq hkq hnq haq hkl hl hi hz0 hz1 hz2 t I;show K _ _
     simp only[Act.put,pS1,pS2,pS3];refine hK.out _ _ ?_;clear hK K;refine late_ 6 ?_; intro K hK; go_simp;refine hK.out _ _ ?_;clear hK K;refine late_ 7 ?_; intro K hK; go_simp;refine hK.out _ _ ?_;clear hK K;refine done_ ?_;go_wp2_with fail;go_roundg (gk - 1)
     case measure=>have:=X.o; omega
     case rel=>
      refine⟨j+1,_,_,by have:=X.o; omega,by have:=D.o; congr 1; unfold wrap64; omega,(by rw[E.o,G.o]; exact H.o),z,?_⟩
      intro i k y hi hk hy;by_cases hij:i<j
      ·exact HAL.out i k y hij hk hy
      ·obtain rfl:i=j:=by omega
       have A:some k=some 2:=hk.symm.trans q.o;obtain rfl:=Option.some.inj A;have U:some y=some x:=hy.symm.trans s.o;obtain rfl:=Option.some.inj U;simp[nkW,J.o]
    |none=>
     have J:Hid _:=hnw;clear hnw M a1;go_upto_region 13 with fail;refine region_ (fun W=>RdI WB ga (.slice bt (cD ks xs j).length ct) (.slice bn (bI ks xs j).length cn) (cD ks xs j) (bI ks xs j) W∧RR W (go+1)) 5 ⟨HR.out.on (E9 _ _).drew,HRR.out.on (E9 _ _).drew⟩ fun hH=>?_;refine an [(0,p_ ga 1),(1,.slice bn (bI ks xs j).length cn),(2,.string (Ev.bs x))] hH (fun W hW=>by have M:=hW.1.c1;go_simp) ?_;simp only[pA,oA,Act.put,pS1]
     refine one_ 3 ?_; intro K hK; go_simp;go_at_call 249;refine (so (Ev.bs x) _ HX.o (HL.o.below hH.1.bel rfl) J.o).mono ?_;rintro e6 w6 ⟨rfl,hb6⟩;have Eu:Hid _:=(hH.1.on hb6).bel;unfold aM;go_wp2_with fail;have Ew:Below w.heap.size w w6:=by
      have h:=Ee.o;rw[<- Eg.o] at h;exact h.tm Eu.o
     exact⟨rfl,Ew,.inr ⟨rfl,j,2,x,q.o,s.o,by simp[nkW,J.o]⟩⟩
  ·obtain rfl:j=xs.length:=by have:=X.o; omega
   obtain⟨bt,ct,hvt⟩:=HR.out.rt.slice;rw[List.length_map] at hvt;obtain rfl:=hvt;obtain⟨bn,cn,hvn⟩:=HR.out.rn.slice;rw[List.length_map] at hvn;obtain rfl:=hvn;have M:=HR.out.c0;have a1:=HR.out.c1;obtain⟨q0,r0⟩:=HRR.out.c0;obtain⟨q1,r1⟩:=HRR.out.c1;have rz:=HRR.out.fz;have Ed:=Ar (Ee.o) HR.out HRR.out Eg.o C.o L.o;have Ed:Hid _:=Ed;go_wp2_with fail;clear M a1 r0 r1 rz;obtain⟨f0,f1,hbf,ht1,hn1⟩:=Ed.o;exact bodyPost_ret (v:=.agg #[.slice bt (cD ks xs xs.length).length ct,.slice bn (bI ks xs xs.length).length cn]) (by simp[results,results156,go_sem,f0,f1]) rfl ⟨hbf,.inl ⟨_,_,rfl,ht1,hn1,fun j k x hk hx=>HAL.out j k x (by obtain⟨A,-⟩:=List.getElem?_eq_some_iff.1 hx; exact A) hk hx⟩⟩
structure AgB (w:World) (g:Nat) (bt bn:Option Addr) (nt ct nn cn:Nat):Prop where
 c0:w.cell? ⟨g,0,none⟩=some (.slice bt nt ct)
 c1:w.cell? ⟨g,1,none⟩=some (.slice bn nn cn)
 lt:g<w.heap.size
variable {bn bt:Option Addr}
theorem AgB.keep(h:AgB w g bt bn nt ct nn cn)(hk:af l w w')(hn:g∉l):AgB w' g bt bn nt ct nn cn:=
 ⟨(hk.cell (p:=(a_ g 0)) h.lt hn).trans h.c0,(hk.cell (p:=(a_ g 1)) h.lt hn).trans h.c1,Fd h.lt hk.size⟩
theorem AgB.on(h:AgB w g bt bn nt ct nn cn)(hb:Below w.heap.size w w'):AgB w' g bt bn nt ct nn cn:=h.keep (af.of [] hb) (by simp)
theorem AgB.made(w:World)(bt bn:Option Addr)(nt ct nn cn:Nat)(t:TypeId):AgB (w.alloc (.cells #[.slice bt nt ct,.slice bn nn cn] t)) w.heap.size bt bn nt ct nn cn:=by
 refine⟨?_,?_,by simp⟩ <;> exact (Fb _ _ _ _ rfl).trans rfl
theorem Cd(pd:Value)(gt gn nt ct nn cn:Nat)(x:ByteArray)(n:Int)(w:World)(ht:w.cell? ⟨gt,0,none⟩=some (.string x))(hn:w.cell? ⟨gn,0,none⟩=some (.int .i64 n))(h1:0<nt)(h2:0<nn)(hx:x.size<=100000):
 Calls prog 242 #[pd,.agg #[.slice (o_ gt 0) nt ct,.slice (o_ gn 0) nn cn]] w fun e w'=>e=.returned (.string ⟨(mR n x.data.toList).toArray⟩)∧Below w.heap.size w w':=by
 have b:=bA w (.cells #[.slice (o_ gt 0) nt ct,.slice (o_ gn 0) nn cn] 256);have m:J _:=b;have j:J _:=AgB.made w (o_ gt 0) (o_ gn 0) nt ct nn cn 256;have o:J _:=(b.cell (p:=(a_ gt 0)) (Fc _ _ ht)).trans ht;have q:J _:=Fd (Fc _ _ ht) b.size;have r:J _:=(b.cell (p:=(a_ gn 0)) (Fc _ _ hn)).trans hn;have s:¬ nt=0:=by omega
 have t:¬ nn=0:=by omega
 have v:J (x.size<=9223372036854775807):=by show _<=_; omega
 clear ht hn b h1 h2 hx;go_enter func242,ntmps242
 go_upto_region 1 with fail;generalize hW:(w.alloc _)=W at *;clear hW;generalize hg:w.heap.size=g at *;have z:J _:=hg;clear hg;refine region_ (fun V=>AgB V g (o_ gt 0) (o_ gn 0) nt ct nn cn∧V.c_ gt 0=some (.string x)∧V.c_ gn 0=some (.i_ n)∧Below W.heap.size W V) 8 ⟨j.o.on (E9 _ _).drew,o.o,r.o,(E9 _ _).drew⟩ fun hH=>?_;refine an [(0,p_ g 1),(1,.slice (o_ gn 0) nn cn),(2,p_ gn 0),(3,.i_ n),(4,p_ g 0),(5,.slice (o_ gt 0) nt ct),(6,p_ gt 0),(7,.string x)] hH (fun W hW=>by have c:=hW.1.c1; have c:=hW.2.2.1; have c:=hW.1.c0; have c:=hW.2.1;go_simp) ?_;simp only[pA,oA,Act.put,pS1]
 refine late_ 8 ?_; intro K hK; go_simp;go_at_call 137;refine (jl n x _ v.o).mono ?_;rintro e1 w1 ⟨rfl,hb1⟩;have f:J _:=hH.2.2.2.tm hb1;clear hH hb1;go_wp2_with fail;refine hK.out _ _ ?_;clear hK K;refine late_ 9 ?_; intro K hK; go_simp;refine hK.out _ _ ?_;clear hK K;refine done_ ?_;go_wp2_with fail;go_ret;have k:=m.o.trans (f.o.mono (Fx j.o.lt));rw[<- z.o] at k;exact⟨rfl,k⟩
structure DAt (w:World) (gk gd gs gv gm:Nat) (r:Rul):Prop where
 c0:w.cell? ⟨gk,0,none⟩=some (.pointer (some ⟨gd,0,none⟩))
 c1:w.cell? ⟨gk,1,none⟩=some (.pointer (some ⟨gs,0,none⟩))
 c2:w.cell? ⟨gk,2,none⟩=some (.pointer (some ⟨gv,0,none⟩))
 c3:w.cell? ⟨gk,3,none⟩=some (.int .i64 r.key)
 c4:w.cell? ⟨gk,4,none⟩=some (.int .i64 r.idle)
 c5:w.cell? ⟨gk,5,none⟩=some (.int .i64 r.life)
 c6:w.cell? ⟨gk,6,none⟩=some (.int .i64 r.access)
 c7:w.cell? ⟨gk,7,none⟩=some (.map (some gm))
 fz:∀i,w.frozen? ⟨gk,i,none⟩=false
 lt:gk<w.heap.size
variable {r:Rul}
theorem DAt.keep(h:DAt w gk gd gs gv gm r)(hk:af l w w')(hn:gk∉l):DAt w' gk gd gs gv gm r:=by
 have b:∀i,w'.cell? (a_ gk i)=w.c_ gk i:=fun i=>hk.cell (p:=(a_ gk i)) h.lt hn;exact⟨(b 0).trans h.c0,(b 1).trans h.c1,(b 2).trans h.c2,(b 3).trans h.c3,(b 4).trans h.c4,(b 5).trans h.c5,(b 6).trans h.c6,(b 7).trans h.c7,fun i=>(hk.frozen (p:=(a_ gk i)) h.lt hn).trans (h.fz i),Fd h.lt hk.size⟩
theorem DAt.on(h:DAt w gk gd gs gv gm r)(hb:Below w.heap.size w w'):DAt w' gk gd gs gv gm r:=h.keep (af.of [] hb) (by simp)
structure DkI (N:Nat) (w:World) (gk gd gs gv gm:Nat) (r:Rul) (p:Pub) (v:Value):Prop where
 sv:be N w gv gs gd r p v
 box:DAt w gk gd gs gv gm r
 ne:gk≠gd∧gk≠gs∧gm≠gd∧gm≠gs
 out:az v gk∧az v gm
 ml:gm<w.heap.size
theorem DkI.on{N:Nat}{w w':World}{gk gd gs gv gm:Nat}{r:Rul}{p:Pub}{v:Value}(h:DkI N w gk gd gs gv gm r p v)(hb:Below w.heap.size w w'):DkI N w' gk gd gs gv gm r p v:=
 ⟨h.sv.on hb,h.box.on hb,h.ne,h.out,Fd h.ml hb.size⟩
theorem DkI.to{N:Nat}{w w':World}{gk gd gs gv gm:Nat}{r:Rul}{p q:Pub}{v v':Value}(h:DkI N w gk gd gs gv gm r p v)(ht:aD N gs gd v w w' q v'):DkI (N+22) w' gk gd gs gv gm r q v':=
 ⟨h.sv.to ht,h.box.keep ht.keep (by have:=h.ne; simp; omega),h.ne,⟨ht.notIn h.out.1 h.box.lt,ht.notIn h.out.2 h.ml⟩,Fd h.ml ht.keep.size⟩
theorem DkI.mono{N M:Nat}{w:World}{gk gd gs gv gm:Nat}{r:Rul}{p:Pub}{v:Value}(h:DkI N w gk gd gs gv gm r p v)(hm:N<=M):DkI M w gk gd gs gv gm r p v:=
 ⟨h.sv.mono hm,h.box,h.ne,h.out,h.ml⟩
def fY(x:ByteArray)(n:Nat):Ending:=if n=0 then .returned (.string x) else aM (n:Nat)
theorem fZ(x:ByteArray):fY x 0=.returned (.string x):=rfl
theorem As(x:ByteArray)(n:Nat):fY x (n+1)=.panicked [{ v:=.iface 47 (.int .i64 ((n+1:Nat):Int)),recovered:=false }]:=rfl
theorem Dm(w:World)(gs:Nat)(k i l a:Int)(hr:dB ⟨k,i,l,a⟩=false):
 Calls prog 22 #[p_ gs 0,.agg #[.i_ k,.i_ i,.i_ l,.i_ a]] w fun e w'=>e=.returned (.tuple #[.pointer none,aB 2])∧Below w.heap.size w w':=by
 have f:J _:=bA w (.cells (Q_ k i l a) 54);have b:=fun (W:World)=>fH k W;have c:=fun (W:World)=>fH i W;have g:=fun (W:World)=>fH l W;have j:=fun (W:World)=>fH a W;unfold dB at hr;simp only at hr
 cases h1:okB k with
 |false=>
  rw[h1] at b;clear hr h1;go_enter func22,ntmps22
  go_wp2_with fail;refine (b _).mono ?_;rintro e1 w1 ⟨rfl,rfl⟩;go_wp2_with fail;go_ret2;exact⟨rfl,f.o⟩
 |true=>
  rw[h1] at b hr
  cases h2:okB i with
  |false=>
   rw[h2] at c;clear hr h1 h2;go_enter func22,ntmps22
   go_wp2_with fail;refine (b _).mono ?_;rintro e1 w1 ⟨rfl,rfl⟩;go_wp2_with fail;refine (c _).mono ?_;rintro e1 w1 ⟨rfl,rfl⟩;go_wp2_with fail;go_ret2;exact⟨rfl,f.o⟩
  |true=>
   rw[h2] at c hr
   cases h3:okB l with
   |false=>
    rw[h3] at g;clear hr h1 h2 h3;go_enter func22,ntmps22
    go_wp2_with fail;refine (b _).mono ?_;rintro e1 w1 ⟨rfl,rfl⟩;go_wp2_with fail;refine (c _).mono ?_;rintro e1 w1 ⟨rfl,rfl⟩;go_wp2_with fail;refine (g _).mono ?_;rintro e1 w1 ⟨rfl,rfl⟩;go_wp2_with fail;go_ret2;exact⟨rfl,f.o⟩
   |true=>
    rw[h3] at g hr;have m:okB a=false:=by simpa using hr
    rw[m] at j;clear hr h1 h2 h3 m;go_enter func22,ntmps22
    go_wp2_with fail;refine (b _).mono ?_;rintro e1 w1 ⟨rfl,rfl⟩;go_wp2_with fail;refine (c _).mono ?_;rintro e1 w1 ⟨rfl,rfl⟩;go_wp2_with fail;refine (g _).mono ?_;rintro e1 w1 ⟨rfl,rfl⟩;go_wp2_with fail;refine (j _).mono ?_;rintro e1 w1 ⟨rfl,rfl⟩;go_wp2_with fail;go_ret2;exact⟨rfl,f.o⟩
structure Bx (w:World) (g:Nat) (c:Nat->Value):Prop where
 at':∀i,i<8->w.cell? ⟨g,i,none⟩=some (c i)
 fz:∀i,w.frozen? ⟨g,i,none⟩=false
 lt:g<w.heap.size
variable {c:Nat->Value}
theorem Bx.set(h:Bx w g c)(j:Nat)(v:Value):Bx (w.setCell ⟨g,j,none⟩ v) g (fun i=>if i=j then v else c i):=by
 refine⟨fun i hi=>?_,fun i=>by rw[World.frozen?_setCell]; exact h.fz i,by simpa using h.lt⟩
 by_cases e:i=j
 ·subst e
  rw[if_pos rfl];exact Fr _ _ _ (h.at' i hi)
 ·rw[if_neg e,World.cell?_setCell_other _ _ _ _ (by intro q; injection q with _ q2; exact e q2.symm)]
  exact h.at' i hi
theorem Bx.keep(h:Bx w g c)(hk:af l w w')(hn:g∉l):Bx w' g c:=
 ⟨fun i hi=>(hk.cell (p:=(a_ g i)) h.lt hn).trans (h.at' i hi),fun i=>(hk.frozen (p:=(a_ g i)) h.lt hn).trans (h.fz i),Fd h.lt hk.size⟩
theorem Bx.on(h:Bx w g c)(hb:Below w.heap.size w w'):Bx w' g c:=h.keep (af.of [] hb) (by simp)
theorem Bx.dat(h:Bx w gk c)(h0:c 0=.pointer (some ⟨gd,0,none⟩))(h1:c 1=.pointer (some ⟨gs,0,none⟩))(h2:c 2=.pointer (some ⟨gv,0,none⟩))(h3:c 3=.int .i64 r.key)(h4:c 4=.int .i64 r.idle)(h5:c 5=.int .i64 r.life)(h6:c 6=.int .i64 r.access)(h7:c 7=.map (some gm)):DAt w gk gd gs gv gm r:=
 ⟨(h.at' 0 (by omega)).trans (congrArg some h0),(h.at' 1 (by omega)).trans (congrArg some h1),(h.at' 2 (by omega)).trans (congrArg some h2),(h.at' 3 (by omega)).trans (congrArg some h3),(h.at' 4 (by omega)).trans (congrArg some h4),(h.at' 5 (by omega)).trans (congrArg some h5),(h.at' 6 (by omega)).trans (congrArg some h6),(h.at' 7 (by omega)).trans (congrArg some h7),h.fz,h.lt⟩
structure RuB (w:World) (g:Nat) (r:Rul):Prop where
 c0:w.cell? ⟨g,0,none⟩=some (.int .i64 r.key)
 c1:w.cell? ⟨g,1,none⟩=some (.int .i64 r.idle)
 c2:w.cell? ⟨g,2,none⟩=some (.int .i64 r.life)
 c3:w.cell? ⟨g,3,none⟩=some (.int .i64 r.access)
 lt:g<w.heap.size
theorem RuB.keep(h:RuB w g r)(hk:af l w w')(hn:g∉l):RuB w' g r:=by
 have b:∀i,w'.cell? (a_ g i)=w.c_ g i:=fun i=>hk.cell (p:=(a_ g i)) h.lt hn;exact⟨(b 0).trans h.c0,(b 1).trans h.c1,(b 2).trans h.c2,(b 3).trans h.c3,Fd h.lt hk.size⟩
theorem RuB.on(h:RuB w g r)(hb:Below w.heap.size w w'):RuB w' g r:=h.keep (af.of [] hb) (by simp)
theorem RuB.other(h:RuB w g r)(hn:gk≠g)(j:Nat)(v:Value):RuB (w.setCell ⟨gk,j,none⟩ v) g r:=by
 have b:∀i,(w.setCell (a_ gk j) v).c_ g i=w.c_ g i:=fun i=>Fm _ _ _ _ (by intro q; injection q with q1; exact hn q1)
 exact⟨(b 0).trans h.c0,(b 1).trans h.c1,(b 2).trans h.c2,(b 3).trans h.c3,by simpa using h.lt⟩
theorem RuB.made(w:World)(k i l a:Int)(t:TypeId):RuB (w.alloc (.cells #[.int .i64 k,.int .i64 i,.int .i64 l,.int .i64 a] t)) w.heap.size ⟨k,i,l,a⟩:=by
 refine⟨?_,?_,?_,?_,by simp⟩ <;> exact (Fb _ _ _ _ rfl).trans rfl
theorem DB.onL{N:Nat}{p:Pub}(h:DB N w gd p)(hb:Below w.heap.size w w'):DB N w' gd p:=by
 obtain⟨A,sv,b,es,h1,h2,F,l',d1,d2,d3⟩:=h.run;exact⟨h.ok,⟨A,sv,b,es,h1,h2,F,l',d1.below hb h.lt,d2,d3⟩,h.libs.below hb,h.err.on hb,h.olds,h.oldE,Fd h.lt hb.size⟩
theorem pW(N:Nat)(w:World)(gk gd:Nat)(k i l a:Int)(c:Nat->Value)(p:Pub)(h:DB N w gd p)(hN:N<99000)(hL:av w)(hr:fA ⟨k,i,l,a⟩)(ho:bE gd)(hx:Bx w gk c)(hk:gk≠gd):
 Calls prog 146 #[p_ gk 0,p_ gd 0,.agg #[.i_ k,.i_ i,.i_ l,.i_ a]] w fun e w'=>e=.returned (.tuple #[])∧∃gs gv v w3,be N w3 gv gs gd ⟨k,i,l,a⟩ ⟨p.st,p.lg,p.n,p.c,p.l,false⟩ v∧Below w.heap.size w w3∧af [gk] w3 w'∧w.heap.size<=gs∧w.heap.size<=gv∧∃c',Bx w' gk c'∧c' 0=.pointer (some ⟨gd,0,none⟩)∧c' 1=.pointer (some ⟨gs,0,none⟩)∧c' 2=.pointer (some ⟨gv,0,none⟩)∧c' 3=.int .i64 k∧c' 4=.int .i64 i∧c' 5=.int .i64 l∧c' 6=.int .i64 a∧c' 7=c 7:=by
 have t:=bA w (.cells (Q_ k i l a) 54);have HB:Hid _:=t;have D:Hid _:=h.onL t;have E:Hid _:=hL.on t;have F:Hid _:=RuB.made w k i l a 54;have G:Hid _:=hx.on t;have HR:Hid _:=hr;have HO:Hid _:=ho;have HKN:Hid _:=hk;have H:Hid (N<99000):=(show _<_ by omega)
 have I:Hid _:=hx.lt;have j:Hid _:=t.size;go_enter func146,ntmps146
 go_wp2_with fail;go_at_call 12;refine (rM N _ gd p D.o H.o).mono ?_;rintro e1 w1 ⟨gs,v,rfl,hle,hsp,hb1⟩;have J:Hid _:=hsp;have L:Hid _:=hle;have f:Hid _:=hb1;have z:Hid _:=E.o.on hb1;go_wp2_with fail;go_at_call 225;refine (si _ _).mono ?_;rintro e2 w2 ⟨rfl,rfl⟩;have m:Hid _:=F.o.on f.o;obtain⟨a0,a1,a2,a3,-⟩:=m.o;go_wp2_with fail;go_at_call 22;refine (Di N _ gs gd k i l a _ v J.o z.o HR.o HO.o).mono ?_;rintro e3 w3 ⟨gv,rfl,hle3,hsv,hb3⟩;have M:Hid _:=hsv;have A:Hid _:=hle3;have O:Hid _:=hb3;have B:Hid _:=m.o.on hb3;have b:Hid _:=(G.o.on f.o).on hb3;go_wp2_with fail;go_at_call 226;refine (An _ _).mono ?_;rintro e4 w4 ⟨rfl,rfl⟩;have o:Hid _:=b.o.on (E9 _ _).drew;have q:Hid (gk≠w.heap.size):=(show gk≠w.heap.size by have:=I.o; omega)
 go_upto_region 3 with fail;generalize hg:w.heap.size=g at *;have R:Hid _:=hg;refine region_ (fun V=>RuB V g ⟨k,i,l,a⟩∧∃c,Bx V gk c) 17 ⟨B.o.on (E9 _ _).drew,c,o.o⟩ fun hH=>?_;refine an [(0,p_ gk 0),(1,p_ gk 0),(2,p_ gk 0),(3,p_ gk 0),(4,p_ gd 0),(5,p_ gs 0),(6,p_ gv 0),(7,.agg (Q_ k i l a)),(8,p_ gk 0),(9,p_ gk 0)] hH (fun W hW=>by obtain⟨a0,a1,a2,a3,-⟩:=hW.1;go_simp) ?_;simp only[pA,oA,Act.put,pS1]
 refine one_ 10 ?_; intro K hK; go_simp;have s0:=o.o.at' 0 (by omega)
 have f0:=b.o.fz 0;have r0:=b.o.at' 0 (by omega)
 go_wp2_with fail
 ·exact absurd (‹w4.frozen? (a_ gk 0)=true›) (by rw[f0]; decide)
 have r:Hid _:=o.o.set 0 (p_ gd 0);refine hK.out _ _ (⟨hH.1.other q.o 0 _,_,r.o⟩) ?_;intro hH;refine an [(11,p_ gk 0),(12,p_ gk 1)] hH (fun W hW=>by go_simp) ?_;simp only[pA,oA,Act.put,pS1]
 refine one_ 13 ?_; intro K hK; go_simp;have s1:=r.o.at' 1 (by omega)
 have f1:=b.o.fz 1;have r1:=b.o.at' 1 (by omega)
 go_wp2_with fail
 ·exact absurd (‹w4.frozen? (a_ gk 1)=true›) (by rw[f1]; decide)
 have s:Hid _:=r.o.set 1 (p_ gs 0);refine hK.out _ _ (⟨hH.1.other q.o 1 _,_,s.o⟩) ?_;intro hH;refine an [(14,p_ gk 0),(15,p_ gk 2)] hH (fun W hW=>by go_simp) ?_;simp only[pA,oA,Act.put,pS1]
 refine one_ 16 ?_; intro K hK; go_simp;have s2:=s.o.at' 2 (by omega)
 have f2:=b.o.fz 2;have r2:=b.o.at' 2 (by omega)
 go_wp2_with fail
 ·exact absurd (‹w4.frozen? (a_ gk 2)=true›) (by rw[f2]; decide)
 have C:Hid _:=s.o.set 2 (p_ gv 0);refine hK.out _ _ (⟨hH.1.other q.o 2 _,_,C.o⟩) ?_;intro hH;have f3:=b.o.fz 3;have f4:=b.o.fz 4;have f5:=b.o.fz 5;have f6:=b.o.fz 6;have fz:=b.o.fz;have r3:=b.o.at' 3 (by omega)
 have r4:=b.o.at' 4 (by omega)
 have r5:=b.o.at' 5 (by omega)
 have r6:=b.o.at' 6 (by omega)
 refine late_ 17 ?_; intro K hK; go_simp;refine hK.out _ _ ?_;refine late_ 18 ?_; intro K hK; go_simp;refine hK.out _ _ ?_;refine late_ 19 ?_; intro K hK; go_simp;go_wp2_with fail;refine hK.out _ _ ?_;refine done_ ?_;go_wp2_with fail;have T:Hid _:=(((C.o.set 3 (.i_ k)).set 4 (.i_ i)).set 5 (.i_ l)).set 6 (.i_ a);have U:Hid _:=((((((((af.refl [gk] w4).drew.setCell (p:=(a_ gk 0)) (.inl (by simp)) (p_ gd 0)).setCell (p:=(a_ gk 1)) (.inl (by simp)) (p_ gs 0)).setCell (p:=(a_ gk 2)) (.inl (by simp)) (p_ gv 0)).setCell (p:=(a_ gk 3)) (.inl (by simp)) (.i_ k)).setCell (p:=(a_ gk 4)) (.inl (by simp)) (.i_ i)).setCell (p:=(a_ gk 5)) (.inl (by simp)) (.i_ l)).setCell (p:=(a_ gk 6)) (.inl (by simp)) (.i_ a))
 have X:Hid (Below w.heap.size w w4):=by
  have h1:=(HB.o.trans (f.o.mono j.o)).trans (O.o.mono (Fe j.o f.o.size));rw[<- R.o] at h1;exact h1
 have Y:Hid (w.heap.size<=gs):=(show w.heap.size<=gs by rw[R.o]; exact Fe j.o L.o)
 have Z:Hid (w.heap.size<=gv):=(show w.heap.size<=gv by rw[R.o]; exact Fe (Fe j.o f.o.size) A.o)
 go_end0
 have q7:=T.o;have qk:=U.o;simp only[World.setCell_drew] at q7 qk;exact⟨rfl,gs,gv,v,w4,M.o,X.o,qk,Y.o,Z.o,_,q7,rfl,rfl,rfl,rfl,rfl,rfl,rfl,rfl⟩
theorem Dn(N:Nat)(w:World)(gk gd:Nat)(k i l a:Int)(p:Pub)(h:DB N w gd p)(hN:N<99000)(hr:dB ⟨k,i,l,a⟩=false):
 Calls prog 146 #[p_ gk 0,p_ gd 0,.agg #[.i_ k,.i_ i,.i_ l,.i_ a]] w fun e w'=>e=aM (2:Nat)∧Below w.heap.size w w':=by
 have j:Below w.heap.size w (w.alloc (.cells (Q_ k i l a) 54)):=(E9 _ _).alloc (Fa _) _;have t:J _:=j;have m:J _:=h.onL j;have n:J _:=RuB.made w k i l a 54;have z:J _:=hr;have o:J (N<99000):=(show _<_ by omega)
 have A:J (ErrVar (w.alloc (.cells (Q_ k i l a) 54))):=h.err.on j;have f:J (w.heap.size<=(w.alloc (.cells (Q_ k i l a) 54)).heap.size):=j.size;go_enter func146,ntmps146
 go_wp2_with fail
 go_at_call 12
 refine (rM N _ gd p m.o o.o).mono ?_;rintro e1 w1 ⟨gs,v,rfl,hle,hsp,hb1⟩;have c:J _:=hb1;have q:J (ErrVar w1):=A.o.on hb1;go_wp2_with fail
 go_at_call 225
 refine (si _ _).mono ?_;rintro e2 w2 ⟨rfl,rfl⟩;have b:J _:=n.o.on c.o;have a0:=b.o.c0;have a1:=b.o.c1;have a2:=b.o.c2;have a3:=b.o.c3;go_wp2_with fail
 go_at_call 22
 refine (Dm _ gs k i l a z.o).mono ?_;rintro e3 w3 ⟨rfl,hb3⟩;have g:J _:=hb3;have r:J _:=q.o.on hb3;go_wp2_with fail
 go_at_call 226
 refine (Ao none 1 _ r.o).mono ?_;rintro e4 w4 ⟨rfl,hb4⟩;have s:J _:=((t.o.trans (c.o.mono f.o)).trans (g.o.mono (Fe f.o c.o.size))).trans (hb4.mono (Fe (Fe f.o c.o.size) g.o.size));unfold aM;go_wp2_with fail
 exact⟨rfl,rfl,s.o⟩
end Go.Proofs.YtlailakofhenkabGreatDoor
