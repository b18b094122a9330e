import Derived.Test.YtlailakofhenkabGreatDoorB35
set_option maxRecDepth 100000
set_option maxHeartbeats 16000000
namespace Go.Proofs.YtlailakofhenkabGreatDoor
open Go Go.RowKit Ev Tryz
variable {B g:Nat}{v:Value}{w w':World}
theorem uN{l:List Fam}(c n d:Int)(h:ah B w v l)(hn:l.length<=5000):
 Calls prog 141 #[stV c n v,evV ⟨3,zeroF,0,d⟩] w fun r w'=>∃v',r=.returned (stV d n v')∧ah w.heap.size w' v' l∧Below w.heap.size w w':=by
 obtain⟨i0,hi,hz0,hz1,hz2⟩:=dL;have k:J _:=qh w c n v l ⟨3,zeroF,0,d⟩ h 36 154 36 34;obtain⟨base,cap,rfl⟩:=h.slice;clear h;have j:=k.o.src.src;have m:=k.o.fl;have o:=k.o.ab.size;unfold zeroF at j m o;unfold evV aX stV;simp only[zeroF];simp only at j m o;go_enter func141,ntmps141
 go_wp2_with (at_builtin; refine bw _ rfl _ _ 34 rfl 40 i0 _ 9 i0.bytes underlying34 hi hz0 hz1 rfl df (w.heap.size+4) _ _ _ rfl m o _ l.length (aq l) rfl j (by first | omega | (simp; done) | (simp; omega)) (by first | omega | (simp; done) | (simp; omega)) ?_)
 intro v' w3 h7 h8 h9;have f:J _:=k.o.rb h8
 have p:ah (w.heap.size+4) w3 v' l:=by
  show ag _ _ _ _ _ _
  simpa[aq] using h7
 obtain⟨bl,cl,rfl⟩:=p.slice;have q:J _:=f.o.put p;have z1:=f.o.l0;have z2:=f.o.lf;clear h7 h8 h9 p j k m o;have s0:=f.o.ab.s0;have s1:=f.o.ab.s1;have s2:=f.o.ab.s2;have G:=f.o.ab.ev.c11;have H:=f.o.ab.fs;have fr:∀i,w3.frozen? (a_ (w.heap.size+1+1) i)=false:=f.o.ab.fr;have r0:w3.c_ (w.heap.size+1+1) 0=_:=f.o.ab.r0;have r1:w3.c_ (w.heap.size+1+1) 1=_:=f.o.ab.r1;have r2:w3.c_ (w.heap.size+1+1) 2=_:=f.o.ab.r2;simp only at G;have E:J _:=q.o.fl;have F:J _:=q.o.below;have s:J (∀(W:World) (g i:Nat) (u:Value),g<w.heap.size+4->ah (w.heap.size+4) W (.slice bl l.length cl) l->ah (w.heap.size+4) (W.setCell (a_ g i) u) (.slice bl l.length cl) l):=fun W g i u hg hw=>hw.other (a:=(a_ g i)) hg u;clear f q;generalize hb:w.heap.size=b at *;have t:J _:=hb;clear hb
 have z:J (ah b ((((((w3.setCell (a_ (b+1+1+1) 0) (.slice bl l.length cl)).setCell (a_ b 0) (.i_ d)).setCell (a_ b 2) (.slice bl l.length cl)).setCell (a_ (b+1+1) 0) (.i_ d)).setCell (a_ (b+1+1) 1) (.i_ n)).setCell (a_ (b+1+1) 2) (.slice bl l.length cl)) (.slice bl l.length cl) l):=by
  refine ag.mono (B:=b+4) ?_ (by omega)
  iterate 5 refine s.o _ _ _ _ (by omega) ?_
  exact E.o
 have A:J (Below b w ((((((w3.setCell (a_ (b+1+1+1) 0) (.slice bl l.length cl)).setCell (a_ b 0) (.i_ d)).setCell (a_ b 2) (.slice bl l.length cl)).setCell (a_ (b+1+1) 0) (.i_ d)).setCell (a_ (b+1+1) 1) (.i_ n)).setCell (a_ (b+1+1) 2) (.slice bl l.length cl))):=by
  show Below _ _ _
  iterate 5 refine Below.setCell ?_ (by simp; try omega) _
  exact F.o
 go_wp2_with fail;obtain⟨q0,q1,q2⟩:=@bB (((w3.setCell (a_ (b+1+1+1) 0) (.slice bl l.length cl)).setCell (a_ b 0) (.i_ d)).setCell (a_ b 2) (.slice bl l.length cl)) (b+1+1) (.i_ d) (.i_ n) (.slice bl l.length cl) _ _ _ (aj (aj (aj r0 (by omega)) (by omega)) (by omega)) (aj (aj (aj r1 (by omega)) (by omega)) (by omega)) (aj (aj (aj r2 (by omega)) (by omega)) (by omega))
 have C:=z.o;have D:=A.o;clear z A s0 s1 s2 H fr r0 r1 r2;generalize World.setCell _ (a_ (b+1+1) 2) _=WW at *;exact bodyPost_ret (v:=.agg (S_ d n bl l.length cl)) (by simp[results,results141,go_sem,q0,q1,q2]) rfl ⟨_,rfl,by rw[t.o]; exact C,by rw[t.o]; exact D⟩
theorem sV(s:St)(e:E)(hm:Ev.may e)(h:ah B w v s.fams)(hr:aP s.fams)(hn:s.fams.length<=5000):
 Calls prog 141 #[stV s.clock s.next v,evV e] w fun r w'=>∃v',r=.returned (stV (applyP s e).clock (applyP s e).next v')∧ah w.heap.size w' v' (applyP s e).fams∧Below w.heap.size w w':=by
 obtain⟨c,n,l⟩:=s;obtain⟨k,f,i,t⟩:=e;rcases hm with ⟨hk,hf,hi,ht⟩ | ⟨hk,hf,hi,ht⟩ | ⟨hk,hf,hi,ht⟩ <;> simp only at hk hf hi ht <;> subst hk
 ·subst hi; subst ht
  rw[iK _ rfl];exact uL c n f h hr hn hf.1.1
 ·subst hf; subst ht
  rw[jg _ rfl];exact uM c n i h hn
 ·subst hf; subst hi
  rw[ia _ rfl];exact uN c n t h hn
open Tok Sc
structure aF (w:World) (g:Nat) (p:Pub) (v:Value):Prop where
 c0:w.cell? ⟨g,0,none⟩=some (.int .i64 p.st.clock)
 c1:w.cell? ⟨g,1,none⟩=some (.int .i64 p.st.next)
 c2:w.cell? ⟨g,2,none⟩=some v
 c3:w.cell? ⟨g,3,none⟩=some (.int .i64 p.lg)
 c4:w.cell? ⟨g,4,none⟩=some (.int .i64 p.n)
 c5:w.cell? ⟨g,5,none⟩=some (.bool p.c)
 c6:∃l',w.cell? ⟨g,6,none⟩=some (.int .i64 l')∧(p.c=true->l'=p.l)
 c7:w.cell? ⟨g,7,none⟩=some (.bool p.dn)
 free:∀i,w.frozen? ⟨g,i,none⟩=false
 fam:ah (g+1) w v p.st.fams
 lt:g<w.heap.size
variable {p:Pub}
theorem aF.on(h:aF w g p v)(hb:Below w.heap.size w w'):aF w' g p v:=by
 have b:∀i,w'.cell? (a_ g i)=w.c_ g i:=fun i=>hb.cell (p:=(a_ g i)) h.lt;obtain⟨l',h1,h2⟩:=h.c6;exact⟨(b 0).trans h.c0,(b 1).trans h.c1,(b 2).trans h.c2,(b 3).trans h.c3,(b 4).trans h.c4,(b 5).trans h.c5,⟨l',(b 6).trans h1,h2⟩,(b 7).trans h.c7,fun i=>(hb.frozen (p:=(a_ g i)) h.lt).trans (h.free i),ag.below h.fam hb (Fa _),Fd h.lt hb.size⟩
theorem keepR(g i:Nat)(a:Value)(w:World):af [g] w (w.setCell ⟨g,i,none⟩ a):=(af.refl _ w).setCell (p:=(a_ g i)) (.inl (by simp)) a
theorem aF.putDown(h:aF w g p v):aF (w.setCell ⟨g,7,none⟩ (.bool true)) g (fy p) v:=by
 obtain⟨l',h1,h2⟩:=h.c6;exact⟨al h.c0 (by decide),al h.c1 (by decide),al h.c2 (by decide),al h.c3 (by decide),al h.c4 (by decide),al h.c5 (by decide),⟨l',al h1 (by decide),h2⟩,World.cell?_setCell_same _ _ _ h.c7,fun i=>by simp only[World.frozen?_setCell]; exact h.free i,h.fam.other (a:=(a_ g 7)) (Nat.lt_succ_self _) _,by simpa using h.lt⟩
theorem aF.putWrote(l1:Int)(h:aF w g p v)(hl:p.c=true->l1=p.l - 1):aF ((w.setCell ⟨g,6,none⟩ (.int .i64 l1)).setCell ⟨g,4,none⟩ (.int .i64 ((p.n+1:Nat):Int))) g (cN p) v:=by
 obtain⟨l',h1,h2⟩:=h.c6;exact⟨al (al h.c0 (by decide)) (by decide),al (al h.c1 (by decide)) (by decide),al (al h.c2 (by decide)) (by decide),al (al h.c3 (by decide)) (by decide),World.cell?_setCell_same _ _ _ (al h.c4 (by decide)),al (al h.c5 (by decide)) (by decide),⟨l1,al (World.cell?_setCell_same _ _ _ h1) (by decide),hl⟩,al (al h.c7 (by decide)) (by decide),fun i=>by simp only[World.frozen?_setCell]; exact h.free i,(h.fam.other (a:=(a_ g 6)) (Nat.lt_succ_self _) _).other (a:=(a_ g 4)) (Nat.lt_succ_self _) _,by simpa using h.lt⟩
theorem kY(w:World):Calls prog 25 #[] w fun r w'=>r=.returned (.pointer (some ⟨w.heap.size,0,none⟩))∧aF w' w.heap.size ⟨⟨0,1,[]⟩,0,0,false,0,false⟩ (.slice none 0 0)∧Below w.heap.size w w':=by
 have b:J (aF (w.alloc (.cells #[.i_ 0,.i_ 1,.slice none 0 0,.i_ 0,.i_ 0,.bool false,.i_ 0,.bool false] 87)) w.heap.size ⟨⟨0,1,[]⟩,0,0,false,0,false⟩ (.slice none 0 0)):=by
  refine⟨?_,?_,?_,?_,?_,?_,⟨0,?_,fun _=>rfl⟩,?_,fun i=>World.frozen?_alloc_at _ _ _ _ rfl,ah.nil _ _,by simp⟩ <;> exact (Fb _ _ _ _ rfl).trans rfl
 have c:J _:=bA w (.cells #[.i_ 0,.i_ 1,.slice none 0 0,.i_ 0,.i_ 0,.bool false,.i_ 0,.bool false] 87);go_enter func25,ntmps25
 go_wp2_with fail;go_ret;exact⟨rfl,b.o,c.o⟩
def m9(p:Pub):Pub × Bool:=if offP p then (fy p,false) else (cN p,true)
theorem jU(h:offP p=true):m9 p=(fy p,false):=if_pos h
theorem jV(h:offP p=false):m9 p=(cN p,true):=if_neg (by simp[h])
theorem ef(w:World)(g:Nat)(p:Pub)(v:Value)(h:aF w g p v)(hn:p.n<100000)(hl:p.c=true->0<=p.l∧p.l<=9223372036854775807):
 Calls prog 90 #[p_ g 0] w fun r w'=>r=.returned (.bool (m9 p).2)∧aF w' g (m9 p).1 v∧af [g] w w':=by
 obtain⟨st,lg,n,c,l,dn⟩:=p;obtain⟨l',h1,h2⟩:=h.c6;have c4:w.cell? (a_ g 4)=some (.i_ n):=h.c4;have c5:w.cell? (a_ g 5)=some (.bool c):=h.c5;have c7:w.cell? (a_ g 7)=some (.bool dn):=h.c7;have fz:=h.free;have q:J _:=h.putDown;have j:J (∀l1:Int,(c=true->l1=l - 1)->aF ((w.setCell (a_ g 6) (.i_ l1)).setCell (a_ g 4) (.i_ ((n+1:Nat):Int))) g (cN ⟨st,lg,n,c,l,dn⟩) v):=fun l1 hl1=>h.putWrote l1 hl1;simp only at hn hl h2;obtain⟨N,hN⟩:∃N:Int,N=(n:Int):=⟨_,rfl⟩;have s:0<=N:=by omega
 have t:N<100000:=by omega
 rw[<- hN] at c4;have o:J (((n+1:Nat):Int)=N+1):=by show ((n+1:Nat):Int)=_; rw[hN]; push_cast; rfl
 clear hn hN
 cases c with
 |false=>
  have k:J (m9 ⟨st,lg,n,false,l,dn⟩=(cN ⟨st,lg,n,false,l,dn⟩,true)):=jV rfl;have b:=j.o (wrap64 (l' - 1)) (fun hh=>by cases hh)
  rw[o.o] at b;have f:J _:=b;clear h h2 b j hl;go_enter func90,ntmps90
  go_wp2_with fail
  go_ret;rw[k.o];exact⟨rfl,f.o,(keepR g 6 _ _).trans (keepR g 4 _ _)⟩
 |true=>
  obtain rfl:=h2 rfl;have m:=hl rfl;by_cases h0:l'=0
  ·subst h0
   have k:J (m9 ⟨st,lg,n,true,0,dn⟩=(fy ⟨st,lg,n,true,0,dn⟩,false)):=jU rfl;clear h h2 j hl m;go_enter func90,ntmps90
   go_wp2_with fail
   go_ret;rw[k.o];exact⟨rfl,q.o,keepR g 7 _ _⟩
  ·have k:J (m9 ⟨st,lg,n,true,l',dn⟩=(cN ⟨st,lg,n,true,l',dn⟩,true)):=jV (by unfold offP; simp[h0])
   have b:=j.o (l' - 1) (fun _=>rfl);rw[o.o] at b;have f:J _:=b;have z:(l' == (0:Int))=false:=by simp[h0]
   obtain⟨hlb0,hlb1⟩:=m;clear h h2 b j hl;go_enter func90,ntmps90
   go_wp2_with fail
   go_ret;rw[k.o];exact⟨rfl,f.o,(keepR g 6 _ _).trans (keepR g 4 _ _)⟩
theorem aF.putCut(k:Int)(h:aF w g p v):aF ((w.setCell ⟨g,5,none⟩ (.bool (decide (0<=k)))).setCell ⟨g,6,none⟩ (.int .i64 k)) g (pL p k) v:=by
 obtain⟨l',h1,h2⟩:=h.c6;exact⟨al (al h.c0 (by decide)) (by decide),al (al h.c1 (by decide)) (by decide),al (al h.c2 (by decide)) (by decide),al (al h.c3 (by decide)) (by decide),al (al h.c4 (by decide)) (by decide),al (World.cell?_setCell_same _ _ _ h.c5) (by decide),⟨k,World.cell?_setCell_same _ _ _ (al h1 (by decide)),fun _=>rfl⟩,al (al h.c7 (by decide)) (by decide),fun i=>by simp only[World.frozen?_setCell]; exact h.free i,(h.fam.other (a:=(a_ g 5)) (Nat.lt_succ_self _) _).other (a:=(a_ g 6)) (Nat.lt_succ_self _) _,by simpa using h.lt⟩
theorem aF.putOpen(h:aF w g p v):aF ((w.setCell ⟨g,5,none⟩ (.bool false)).setCell ⟨g,7,none⟩ (.bool false)) g (oq p) v:=by
 obtain⟨l',h1,h2⟩:=h.c6;exact⟨al (al h.c0 (by decide)) (by decide),al (al h.c1 (by decide)) (by decide),al (al h.c2 (by decide)) (by decide),al (al h.c3 (by decide)) (by decide),al (al h.c4 (by decide)) (by decide),al (World.cell?_setCell_same _ _ _ h.c5) (by decide),⟨l',al (al h1 (by decide)) (by decide),fun hc=>by cases hc⟩,World.cell?_setCell_same _ _ _ (al h.c7 (by decide)),fun i=>by simp only[World.frozen?_setCell]; exact h.free i,(h.fam.other (a:=(a_ g 5)) (Nat.lt_succ_self _) _).other (a:=(a_ g 7)) (Nat.lt_succ_self _) _,by simpa using h.lt⟩
theorem aF.putEmpty(h:aF w g p v):aF (w.setCell ⟨g,3,none⟩ (.int .i64 0)) g (iQ p) v:=by
 obtain⟨l',h1,h2⟩:=h.c6;exact⟨al h.c0 (by decide),al h.c1 (by decide),al h.c2 (by decide),World.cell?_setCell_same _ _ _ h.c3,al h.c4 (by decide),al h.c5 (by decide),⟨l',al h1 (by decide),h2⟩,al h.c7 (by decide),fun i=>by simp only[World.frozen?_setCell]; exact h.free i,h.fam.other (a:=(a_ g 3)) (Nat.lt_succ_self _) _,by simpa using h.lt⟩
theorem xZ(w:World)(g:Nat)(p:Pub)(v:Value)(k:Int)(h:aF w g p v):Calls prog 41 #[p_ g 0,.i_ k] w fun r w'=>r=.returned (.tuple #[])∧aF w' g (pL p k) v∧af [g] w w':=by
 obtain⟨l',h1,-⟩:=h.c6;have c5:=h.c5;have fz:=h.free;have b:J _:=h.putCut k;go_enter func41,ntmps41
 go_wp2_with fail;go_end0
 exact⟨rfl,b.o,(keepR g 5 _ _).trans (keepR g 6 _ _)⟩
theorem uO(w:World)(g:Nat)(p:Pub)(v:Value)(h:aF w g p v):Calls prog 42 #[p_ g 0] w fun r w'=>r=.returned (.tuple #[])∧aF w' g (oq p) v∧af [g] w w':=by
 have c5:=h.c5;have c7:=h.c7;have fz:=h.free;have b:J _:=h.putOpen;go_enter func42,ntmps42
 go_wp2_with fail;go_end0
 exact⟨rfl,b.o,(keepR g 5 _ _).trans (keepR g 7 _ _)⟩
theorem jW(k:Nat)(p:Pub):aJ (k+1) p=if offP p then (fy p,false) else aJ k (cN p):=rfl
theorem na(w:World)(g:Nat)(p:Pub)(v:Value)(h:aF w g p v)(hn:p.n<99970)(hf:p.st.fams.length<=20)(hl:p.c=true->0<=p.l∧p.l<=9223372036854775807):
 Calls prog 40 #[p_ g 0] w fun r w'=>r=.returned (.int .i64 ((aH p).2:Nat))∧aF w' g (aH p).1 v∧af [g] w w':=by
 obtain⟨ba,ca,rfl⟩:=ag.slice h.fam;have G:Hid _:=h;have c7:=h.c7;have c2:=h.c2;have I:Hid _:=hn;have A:Hid _:=hl;have k:Hid _:=hf;obtain⟨FL,hFL⟩:∃FL,FL=p.st.fams.length:=⟨_,rfl⟩;have B:Hid _:=hFL;have J:(FL:Int)<=20:=by omega
 cases hd:p.dn with
 |true=>
  have m:Hid (aH p=(p,6)):=by show aH p=_; unfold aH; rw[if_pos hd]
  rw[hd] at c7;go_enter func40,ntmps40
  go_wp2_with fail;go_ret;rw[m.o];exact⟨rfl,G.o,af.refl _ _⟩
 |false=>
  have o:Hid (∀q b,aJ (FL+1) p=(q,b)->aH p=if b then (iQ q,0) else (q,14)):=fun q b hq=>by
   unfold aH;rw[if_neg (by simp[hd]),<- hFL,hq]
  rw[hd] at c7;rw[<- hFL] at c2;go_enter func40,ntmps40
  go_wp2_with fail;go_loopg [14] (FL+1) (fun gk iv wr=>∃(i:Nat) (q:Pub),i+gk=FL+1∧iv=.i_ i∧Hid (aJ (FL+1) p=aJ gk q)∧Hid (q.n<=p.n+i∧(q.c=true->0<=q.l∧q.l<=9223372036854775807))∧Hid (aF wr g q (.slice ba p.st.fams.length ca))∧Hid (af [g] w wr))
  case atStart=>exact⟨0,p,by omega,rfl,rfl,⟨Fa _,A.o⟩,G.o,af.refl _ _⟩
  case round=>
   obtain⟨i,q,hj,rfl,HW,HQ,HR,HKP⟩:=hrel;have t:Hid _:=hj;by_cases hlt:i<FL+1
   ·have H:(i:Int)<(FL:Int)+1:=by omega
    obtain⟨r,hr⟩:∃r,gk=r+1:=⟨gk - 1,by have:=t.o; omega⟩
    have f:Hid _:=hr;have z:=fun (W:World) (hW:aF W g q (.slice ba p.st.fams.length ca))=>ef W g q _ hW (by have:=HQ.out.1; have:=I.o; have:=k.o; have:=B.o; omega) HQ.out.2
    cases ho:offP q with
    |true=>
     have j:=jU ho;rw[j] at z;have m:Hid _:=o.o (fy q) false (by rw[HW.out,f.o,jW,if_pos ho])
     go_wp2_with fail;refine (z _ HR.out).mono ?_;rintro e1 w1 ⟨rfl,h1,h2⟩;have C:Hid _:=h1;have D:Hid _:=HKP.out.trans h2;go_wp2_with fail;go_ret;rw[m.o];exact⟨rfl,C.o,D.o⟩
    |false=>
     have j:=jV ho;rw[j] at z;have E:Hid (aJ (FL+1) p=aJ r (cN q)):=by show _=_; rw[HW.out,f.o,jW,if_neg (by simp[ho])]
     have F:Hid ((cN q).n<=p.n+(i+1)∧((cN q).c=true->0<=(cN q).l∧(cN q).l<=9223372036854775807)):=by
      refine⟨by show q.n+1<=_; have:=HQ.out.1; omega,fun hc=>?_⟩
      have s:q.c=true:=hc;have hh:=HQ.out.2 s;unfold offP at ho;rw[s] at ho;have h0:q.l≠0:=by simpa using ho
      show 0<=q.l - 1∧q.l - 1<=_
      omega
     go_wp2_with fail;refine (z _ HR.out).mono ?_;rintro e1 w1 ⟨rfl,h1,h2⟩;have C:Hid _:=h1;have D:Hid _:=HKP.out.trans h2;go_wp2_with fail;go_roundg r
     case measure=>have:=f.o; omega
     case rel=>exact⟨i+1,cN q,by have:=t.o; have:=f.o; omega,by go_num,E,F,C,D⟩
   ·obtain rfl:i=FL+1:=by have:=t.o; omega
    obtain rfl:gk=0:=by have:=t.o; omega
    have m:Hid _:=o.o q true (by rw[HW.out]; rfl)
    have c3:=HR.out.c3;have fz:=HR.out.free;have L:Hid _:=HR.out.putEmpty;go_wp2_with fail;go_ret;rw[m.o];exact⟨rfl,L.o,HKP.out.trans (keepR g 3 _ _)⟩
open RegD
attribute [local go_sem] rA oA
theorem dA.keepR{gs:Nat}{st:St}(h:dA B w g gs st v)(hk:af [gs] w w'):dA B w' g gs st v:=by
 have f:=h.new;have j:=h.past;have b:g∉ [gs]:=by simp; omega
 have c:∀i,w'.cell? (a_ g i)=w.c_ g i:=fun i=>hk.cell (p:=(a_ g i)) h.lt b;exact⟨(c 0).trans h.c0,(c 1).trans h.c1,(c 2).trans h.c2,hk.rows h.fam (fun x hx=>by simp at hx; omega),Nat.lt_of_lt_of_le h.lt hk.size,f,hk.rows h.fresh (fun x hx=>by simp at hx; omega),j⟩
theorem aF.putLogState{v':Value}{st':St}(h:aF w g p v)(hf:ah (g+1) w v' st'.fams):aF ((((w.setCell ⟨g,3,none⟩ (.int .i64 ((p.lg+1:Nat):Int))).setCell ⟨g,0,none⟩ (.int .i64 st'.clock)).setCell ⟨g,1,none⟩ (.int .i64 st'.next)).setCell ⟨g,2,none⟩ v') g ⟨st',p.lg+1,p.n,p.c,p.l,p.dn⟩ v':=by
 obtain⟨l',h1,h2⟩:=h.c6;have f:∀ {j:Nat} {x a b c d:Value},w.c_ g j=some x->3≠j->0≠j->1≠j->2≠j->((((w.setCell (a_ g 3) a).setCell (a_ g 0) b).setCell (a_ g 1) c).setCell (a_ g 2) d).c_ g j=some x:=fun hx n1 n2 n3 n4=>al (al (al (al hx n1) n2) n3) n4
 refine⟨al (al (World.cell?_setCell_same _ _ _ (al h.c0 (by decide))) (by decide)) (by decide),al (World.cell?_setCell_same _ _ _ (al (al h.c1 (by decide)) (by decide))) (by decide),World.cell?_setCell_same _ _ _ (al (al (al h.c2 (by decide)) (by decide)) (by decide)),al (al (al (World.cell?_setCell_same _ _ _ h.c3) (by decide)) (by decide)) (by decide),f h.c4 (by decide) (by decide) (by decide) (by decide),f h.c5 (by decide) (by decide) (by decide) (by decide),⟨l',f h1 (by decide) (by decide) (by decide) (by decide),h2⟩,f h.c7 (by decide) (by decide) (by decide) (by decide),fun i=>by simp only[World.frozen?_setCell]; exact h.free i,?_,by simpa using h.lt⟩
 exact (((hf.other (a:=(a_ g 3)) (Fj _) _).other (a:=(a_ g 0)) (Fj _) _).other (a:=(a_ g 1)) (Fj _) _).other (a:=(a_ g 2)) (Fj _) _
theorem sW(w:World)(g:Nat)(p:Pub)(v:Value)(e:E)(hd:p.dn=true)(h:aF w g p v):
 Calls prog 86 #[p_ g 0,evV e] w fun r w'=>r=.returned (.int .i64 6)∧aF w' g p v∧af [g] w w':=by
 obtain⟨kk,⟨f1,f2,f3,f4,f5,f6,f7,f8,f9⟩,ei,et⟩:=e;unfold evV aX;simp only;have b:J _:=h.on (w':=w.alloc (.cells (E_ kk f1 f2 f3 f4 f5 f6 f7 f8 f9 ei et) 154)) (bA _ _);have c:J (af [g] w (w.alloc (.cells (E_ kk f1 f2 f3 f4 f5 f6 f7 f8 f9 ei et) 154))):=.of _ (bA _ _);have f:=b.o.c7;rw[hd] at f;go_enter func86,ntmps86
 go_wp2_with fail;go_ret;exact⟨rfl,b.o,c.o⟩
theorem ya(w:World)(g:Nat)(st:St)(lg n:Nat)(c:Bool)(l:Int)(v:Value)(e:E)(m:Bool)(hm:m=true↔Ev.may e)(hs:Small 5000 e.fam)(h:aF w g ⟨st,lg,n,c,l,false⟩ v)(hn:n<99000)(hg:Ev.dy st)(hlg:lg<=16)(hl:c=true->0<=l∧l<=9223372036854775807):
 Calls prog 86 #[p_ g 0,evV e] w fun r w'=>r=.returned (.int .i64 ((addP ⟨st,lg,n,c,l,false⟩ e m).2:Nat))∧∃v',aF w' g (addP ⟨st,lg,n,c,l,false⟩ e m).1 v'∧af [g] w w'∧(v'=v∨ah w.heap.size w' v' (addP ⟨st,lg,n,c,l,false⟩ e m).1.st.fams):=by
 obtain⟨ba,ca,rfl⟩:=ag.slice h.fam;have H:=fun (W:World)=>wZ e m hm hs W;have HG:Hid _:=hg;have HN:Hid _:=hn;have X:Hid _:=hl;have EA:Hid _:=hlg;have q:Hid _:=h.lt;have Eo:Hid (m=true->∀(W:World),ah (g+1) W (.slice ba st.fams.length ca) st.fams->Calls prog 141 #[stV st.clock st.next (.slice ba st.fams.length ca),evV e] W fun r w'=>∃v',r=.returned (stV (applyP st e).clock (applyP st e).next v')∧ah W.heap.size w' v' (applyP st e).fams∧Below W.heap.size W w'):=fun hmt W hW=>sV st e (hm.1 hmt) hW hg.ris (by have:=hg.len; omega)
 have Y:=bU w e 154 _ rfl;obtain⟨kk,⟨f1,f2,f3,f4,f5,f6,f7,f8,f9⟩,ei,et⟩:=e;have t:=Eo.o;unfold evV aX stV at t;unfold evV aX at H ⊢;simp only at H Y t ⊢;have H1:Hid _:=h.on (w':=w.alloc (.cells (E_ kk f1 f2 f3 f4 f5 f6 f7 f8 f9 ei et) 154)) (bA _ _);have b:Hid _:=Y;have Z:Hid _:=bA w (.cells (E_ kk f1 f2 f3 f4 f5 f6 f7 f8 f9 ei et) 154);have p7:(w.alloc (.cells (E_ kk f1 f2 f3 f4 f5 f6 f7 f8 f9 ei et) 154)).c_ g 7=some (.bool false):=H1.o.c7;clear Y h Eo hm hs hn hg hlg hl;have x0:=b.o.c0; have x1:=b.o.fam.c0; have x2:=b.o.fam.c1; have x3:=b.o.fam.c2; have x4:=b.o.fam.c3; have x5:=b.o.fam.c4; have x6:=b.o.fam.c5; have x7:=b.o.fam.c6; have x8:=b.o.fam.c7; have x9:=b.o.fam.c8; have Ed:=b.o.c10; have Ee:=b.o.c11;simp only at x0 x1 x2 x3 x4 x5 x6 x7 x8 x9 Ed Ee
 cases m with
 |false=>
  have EB:Hid (addP ⟨st,lg,n,c,l,false⟩ ⟨kk,⟨f1,f2,f3,f4,f5,f6,f7,f8,f9⟩,ei,et⟩ false=(⟨st,lg,n,c,l,false⟩,1)):=by show _=_; unfold addP; simp
  clear t;go_enter func86,ntmps86
  go_wp2_with fail;refine (H _).mono ?_;rintro e1 w1 ⟨rfl,hb1⟩;have H2:Hid _:=H1.o.on hb1;have HK:Hid (af [g] w w1):=.of _ (Z.o.tm hb1);clear hb1 H p7 x0 x1 x2 x3 x4 x5 x6 x7 x8 x9 Ed Ee;go_wp2_with fail;go_ret;rw[EB.o];exact⟨rfl,_,H2.o,HK.o,.inl rfl⟩
 |true=>
  have F:=t rfl;clear t;go_enter func86,ntmps86
  go_wp2_with fail;refine (H _).mono ?_;rintro e1 W4 ⟨rfl,hb1⟩;have H4:Hid _:=H1.o.on hb1;have Ef:Hid _:=b.o.on hb1;have Eg:Hid (af [g] w W4):=.of _ (Z.o.tm hb1);clear hb1 H p7 x0 x1 x2 x3 x4 x5 x6 x7 x8 x9 Ed Ee;obtain⟨st',hst'⟩:∃st',st'=applyP st ⟨kk,⟨f1,f2,f3,f4,f5,f6,f7,f8,f9⟩,ei,et⟩:=⟨_,rfl⟩;rw[<- hst'] at F;have J:Hid _:=hst';clear hst' H1 b Z;go_upto_region 5 with fail;go_cut [5] from 14 to 20 (fun x wx=>∃gS v',x=p_ gS 0∧Hid (aF (wx) g ⟨st,lg,n,c,l,false⟩ (.slice ba st.fams.length ca)∧dA w.heap.size wx gS g st' v')∧Hid (af [g] w wx))
  case first=>
   have Ep:aF (W4.drew) g ⟨st,lg,n,c,l,false⟩ (.slice ba st.fams.length ca)∧cG W4.drew w.heap.size ⟨kk,⟨f1,f2,f3,f4,f5,f6,f7,f8,f9⟩,ei,et⟩:=⟨H4.o.on (E9 _ _).drew,Ef.o.on (E9 _ _).drew⟩;refine region_ (fun w'=>aF w' g ⟨st,lg,n,c,l,false⟩ (.slice ba st.fams.length ca)∧cG w' w.heap.size ⟨kk,⟨f1,f2,f3,f4,f5,f6,f7,f8,f9⟩,ei,et⟩) 7 Ep fun hH=>?_;clear Ep
   refine an [(0,p_ g 0),(1,p_ g 0),(2,p_ g 0),(3,.agg (S_ st.clock st.next ba st.fams.length ca)),(4,.agg (E_ kk f1 f2 f3 f4 f5 f6 f7 f8 f9 ei et))] hH (fun W hW=>by have a4:W.c_ g 0=some (.i_ st.clock):=hW.1.c0; have a5:W.c_ g 1=some (.i_ st.next):=hW.1.c1; have a6:=hW.1.c2; have k0:=hW.2.c0; have k1:=hW.2.fam.c0; have k2:=hW.2.fam.c1; have k3:=hW.2.fam.c2; have k4:=hW.2.fam.c3; have k5:=hW.2.fam.c4; have k6:=hW.2.fam.c5; have k7:=hW.2.fam.c6; have k8:=hW.2.fam.c7; have k9:=hW.2.fam.c8; have EC:=hW.2.c10; have ED:=hW.2.c11; simp only at k0 k1 k2 k3 k4 k5 k6 k7 k8 k9 EC ED;go_simp) ?_;simp only[pA,oA,Act.put,pS1]
   refine eW 5 6 (oi:=?oi5x) (oj:=?oj6x) ?ha5 ?ha6 ?hr56 ?h5x ?h6x
   case ha5=>rfl
   case ha6=>rfl
   case hr56=>kernel_rfl
   case h5x=>
    intro K hK;go_simp;go_at_call 141;refine (F _ hH.1.fam).mono ?_;rintro e7 w7 ⟨v7,rfl,hf7,hb7⟩;obtain⟨b7,c7,rfl⟩:=ag.slice hf7;go_wp2_with fail;have L:aF (w7) g ⟨st,lg,n,c,l,false⟩ (.slice ba st.fams.length ca)∧cG w7 w.heap.size ⟨kk,⟨f1,f2,f3,f4,f5,f6,f7,f8,f9⟩,ei,et⟩:=⟨hH.1.on hb7,hH.2.on hb7⟩;have T:ah (g+1) w7 (.slice b7 st'.fams.length c7) st'.fams:=ag.mono hf7 hH.1.lt;have U:ah w.heap.size w7 (.slice b7 st'.fams.length c7) st'.fams:=ag.mono hf7 (Fx hH.2.lt);have G:g<w7.heap.size:=Fd hH.1.lt hb7.size;refine hK.out _ _ L ?_;clear hK hH;intro hH;clear L K;have Er:=hH.1;refine one_ 6 ?_; intro K hK; go_simp;have M:aF (w7.alloc (.cells (S_ 0 0 none 0 0) 36)) g ⟨st,lg,n,c,l,false⟩ (.slice ba st.fams.length ca)∧cG (w7.alloc (.cells (S_ 0 0 none 0 0) 36)) w.heap.size ⟨kk,⟨f1,f2,f3,f4,f5,f6,f7,f8,f9⟩,ei,et⟩:=⟨hH.1.on (bA _ _),hH.2.on (bA _ _)⟩;refine hK.out _ _ M ?_;clear hK hH;intro hH;clear M K
    have N:Hid (aF (w7.alloc (.cells (S_ st'.clock st'.next b7 st'.fams.length c7) 36)) g ⟨st,lg,n,c,l,false⟩ (.slice ba st.fams.length ca)∧dA w.heap.size (w7.alloc (.cells (S_ st'.clock st'.next b7 st'.fams.length c7) 36)) w7.heap.size g st' (.slice b7 st'.fams.length c7)):=⟨Er.on (bA _ _),⟨(World.cell?_alloc_at _ _ _ _ rfl).trans rfl,(World.cell?_alloc_at _ _ _ _ rfl).trans rfl,(World.cell?_alloc_at _ _ _ _ rfl).trans rfl,ag.below T (bA _ _) (Nat.le_refl _),by simp,G,ag.below U (bA _ _) (Nat.le_refl _),q.o⟩⟩
    have Eh:Hid (af [g] w (w7.alloc (.cells (S_ st'.clock st'.next b7 st'.fams.length c7) 36))):=Eg.o.trans (.of _ (((E9 _ _).drew.trans (hb7.mono (Fa _))).alloc hb7.size _));clear hH Er T U hf7 hb7 G;refine late_ 7 ?_; intro K hK; go_simp;refine hK.out _ _ ?_;clear hK K;refine done_ ?_;go_wp2_with fail;go_meet
    case rel=>exact⟨_,_,rfl,N,Eh⟩
   case h6x=>
    intro K hK;go_simp;have M:aF (W4.drew.alloc (.cells (S_ 0 0 none 0 0) 36)) g ⟨st,lg,n,c,l,false⟩ (.slice ba st.fams.length ca)∧cG (W4.drew.alloc (.cells (S_ 0 0 none 0 0) 36)) w.heap.size ⟨kk,⟨f1,f2,f3,f4,f5,f6,f7,f8,f9⟩,ei,et⟩:=⟨hH.1.on (bA _ _),hH.2.on (bA _ _)⟩;have Es:g<W4.heap.size:=hH.1.lt;refine hK.out _ _ M ?_;clear hK hH;intro hH;clear M K;refine one_ 5 ?_; intro K hK; go_simp;go_at_call 141;refine (F _ hH.1.fam).mono ?_;rintro e7 w7 ⟨v7,rfl,hf7,hb7⟩;obtain⟨b7,c7,rfl⟩:=ag.slice hf7;go_wp2_with fail;have L:aF (w7) g ⟨st,lg,n,c,l,false⟩ (.slice ba st.fams.length ca)∧cG w7 w.heap.size ⟨kk,⟨f1,f2,f3,f4,f5,f6,f7,f8,f9⟩,ei,et⟩:=⟨hH.1.on hb7,hH.2.on hb7⟩;have T:ah (g+1) w7 (.slice b7 st'.fams.length c7) st'.fams:=ag.mono hf7 hH.1.lt;have U:ah w.heap.size w7 (.slice b7 st'.fams.length c7) st'.fams:=ag.mono hf7 (Fx hH.2.lt);have G:g<w7.heap.size:=Fd hH.1.lt hb7.size;refine hK.out _ _ L ?_;clear hK hH;intro hH;clear L K
    have O:∀i,w7.c_ W4.heap.size i=(W4.drew.alloc (.cells (S_ 0 0 none 0 0) 36)).c_ W4.heap.size i∧w7.frozen? (a_ W4.heap.size i)=false:=fun i=>⟨hb7.cell (p:=(a_ W4.heap.size i)) (by show W4.heap.size<(W4.drew.alloc (.cells (S_ 0 0 none 0 0) 36)).heap.size; simp),(hb7.frozen (p:=(a_ W4.heap.size i)) (by show W4.heap.size<(W4.drew.alloc (.cells (S_ 0 0 none 0 0) 36)).heap.size; simp)).trans (World.frozen?_alloc_at _ _ _ _ rfl)⟩
    have y0:=(O 0).1.trans ((Fb _ _ _ _ rfl).trans rfl);have y1:=(O 1).1.trans ((Fb _ _ _ _ rfl).trans rfl);have y2:=(O 2).1.trans ((Fb _ _ _ _ rfl).trans rfl);have yf:∀i,w7.frozen? (a_ W4.heap.size i)=false:=fun i=>(O i).2;have Et:W4.heap.size<w7.heap.size:=Fd (by show W4.heap.size<(W4.drew.alloc (.cells (S_ 0 0 none 0 0) 36)).heap.size; simp) hb7.size
    obtain⟨q0,q1,q2⟩:=@bB w7 W4.heap.size (.i_ st'.clock) (.i_ st'.next) (.slice b7 st'.fams.length c7) _ _ _ y0 y1 y2;have Ei:Below W4.heap.size W4 (((w7.setCell (a_ W4.heap.size 0) (.i_ st'.clock)).setCell (a_ W4.heap.size 1) (.i_ st'.next)).setCell (a_ W4.heap.size 2) (.slice b7 st'.fams.length c7)):=((((E9 _ _).drew).alloc (Fa _) _).trans (hb7.mono (by show W4.heap.size<=(W4.drew.alloc (.cells (S_ 0 0 none 0 0) 36)).heap.size; simp))).trans (gJ _ 0 1 2 _ _ _ _)
    have N:Hid (aF ((((w7.setCell (a_ W4.heap.size 0) (.i_ st'.clock)).setCell (a_ W4.heap.size 1) (.i_ st'.next)).setCell (a_ W4.heap.size 2) (.slice b7 st'.fams.length c7))) g ⟨st,lg,n,c,l,false⟩ (.slice ba st.fams.length ca)∧dA w.heap.size (((w7.setCell (a_ W4.heap.size 0) (.i_ st'.clock)).setCell (a_ W4.heap.size 1) (.i_ st'.next)).setCell (a_ W4.heap.size 2) (.slice b7 st'.fams.length c7)) W4.heap.size g st' (.slice b7 st'.fams.length c7)):=by
     have s:W4.heap.size<(W4.drew.alloc (.cells (S_ 0 0 none 0 0) 36)).heap.size:=by show W4.heap.size<(W4.drew.alloc (.cells (S_ 0 0 none 0 0) 36)).heap.size; simp
     have Eu:ah (g+1) (((w7.setCell (a_ W4.heap.size 0) (.i_ st'.clock)).setCell (a_ W4.heap.size 1) (.i_ st'.next)).setCell (a_ W4.heap.size 2) (.slice b7 st'.fams.length c7)) (.slice b7 st'.fams.length c7) st'.fams:=ag.mono (((hf7.other (a:=(a_ W4.heap.size 0)) s _).other (a:=(a_ W4.heap.size 1)) s _).other (a:=(a_ W4.heap.size 2)) s _) (by show g+1<=(W4.alloc (.cells (S_ 0 0 none 0 0) 36)).heap.size; simp; omega)
     exact⟨H4.o.on Ei,⟨q0,q1,q2,Eu,by simpa using Et,Es,ag.mono (((hf7.other (a:=(a_ W4.heap.size 0)) s _).other (a:=(a_ W4.heap.size 1)) s _).other (a:=(a_ W4.heap.size 2)) s _) (by have h9:=Ef.o.lt; show w.heap.size<=(W4.alloc (.cells (S_ 0 0 none 0 0) 36)).heap.size; simp; omega),q.o⟩⟩
    have Eh:Hid _:=Eg.o.trans (.of _ Ei);clear hH T U hf7 hb7 G O q0 q1 q2 Ei;refine late_ 7 ?_; intro K hK; go_simp;refine hK.out _ _ ?_;clear hK K;refine done_ ?_;clear y0 y1 y2 yf;go_wp2_with fail;go_meet
    case rel=>exact⟨_,_,rfl,N,Eh⟩
  case rest=>
   obtain⟨gS,vS,rfl,HC9,HK9⟩:=hcut;have Ew:=HC9.out.2.fam;obtain⟨b7,c7,rfl⟩:=ag.slice Ew;clear Ew;have c2:=HC9.out.2.c2;clear Ef H4 Eg F;by_cases h20:20<st'.fams.length
   ·have Ex:(20:Int)<(st'.fams.length:Int):=by omega
    have f:Hid (addP ⟨st,lg,n,c,l,false⟩ ⟨kk,⟨f1,f2,f3,f4,f5,f6,f7,f8,f9⟩,ei,et⟩ true=(⟨st,lg,n,c,l,false⟩,12)):=rL _ _ rfl (by rw[<- J.o]; exact h20)
    clear h20;go_wp2_with fail;go_ret;rw[f.o];exact⟨rfl,_,HC9.out.1,HK9.out,.inl rfl⟩
   have Ex:¬ (20:Int)<(st'.fams.length:Int):=by omega
   have p3:wc.c_ g 3=some (.i_ lg):=HC9.out.1.c3;by_cases hlg:lg=16
   ·subst hlg
    have A:=na wc g ⟨st,16,n,c,l,false⟩ _ HC9.out.1 (by have:=HN.o; show n<99970; omega) HG.o.len X.o
    have EE:Hid (cr n ⟨st,16,n,c,l,false⟩):=⟨HG.o,Fa _,Fa _,X.o⟩;have Ey:Hid (¬ 20<(applyP st ⟨kk,⟨f1,f2,f3,f4,f5,f6,f7,f8,f9⟩,ei,et⟩).fams.length):=by show ¬ _; rw[<- J.o]; exact h20
    clear h20;by_cases h0:(aH ⟨st,16,n,c,l,false⟩).2=0
    ·obtain⟨n1,l1,hq,hn1,hl1⟩:=vN EE.o rfl h0
     have k:addP ⟨st,16,n,c,l,false⟩ ⟨kk,⟨f1,f2,f3,f4,f5,f6,f7,f8,f9⟩,ei,et⟩ true=dV (aH ⟨st,16,n,c,l,false⟩).1 ⟨kk,⟨f1,f2,f3,f4,f5,f6,f7,f8,f9⟩,ei,et⟩:=ou _ _ rfl Ey.o rfl h0;rw[hq,h0] at A;rw[hq] at k;obtain⟨lg1,hlg1⟩:∃lg1:Nat,lg1=0:=⟨_,rfl⟩;simp only at hl1 A k;rw[<- hlg1] at k;have f:Hid _:=k;have R:Hid (lg1<16):=by show lg1<16; omega
     have Ej:Hid _:=hl1;have Ek:Hid (n1<99970):=by have:=HN.o; show n1<99970; omega
     have HZ:Hid _:=hlg1;clear h0 hq hn1 hl1 hlg1 k;go_wp2_with fail;refine A.mono ?_;rintro e5 w5 ⟨rfl,h1,h2⟩;have H5:Hid (aF w5 g ⟨st,lg1,n1,c,l1,false⟩ (.slice ba st.fams.length ca)):=by show aF _ _ _ _; rw[HZ.o]; exact h1
     have V:Hid _:=HK9.out.trans h2;have El:Hid _:=HC9.out.2.keepR h2;clear h1 h2 A p3 c2;have I:=ef w5 g ⟨st,lg1,n1,c,l1,false⟩ _ H5.o (by have:=Ek.o; show n1<100000; omega) Ej.o
     cases ho:offP (⟨st,lg1,n1,c,l1,false⟩:Pub) with
     |true=>
      rw[jU ho] at I;have B:Hid _:=f.o.trans (lF _ _ ho);clear ho;go_wp2_with fail;refine I.mono ?_;rintro e6 w6 ⟨rfl,h1,h2⟩;have z:Hid _:=h1;have C:Hid _:=V.o.trans h2;clear h1 h2 I;go_wp2_with fail;go_ret;rw[B.o];exact⟨rfl,_,z.o,C.o,.inl rfl⟩
     |false=>
      rw[jV ho] at I;have B:Hid (addP ⟨st,16,n,c,l,false⟩ ⟨kk,⟨f1,f2,f3,f4,f5,f6,f7,f8,f9⟩,ei,et⟩ true=(⟨st',lg1+1,n1+1,c,l1 - 1,false⟩,0)):=by show _=_; rw[J.o]; exact f.o.trans (pN _ _ ho)
      clear ho;go_wp2_with fail;refine I.mono ?_;rintro e6 w6 ⟨rfl,h1,h2⟩;have z:Hid _:=h1;have C:Hid _:=V.o.trans h2;have j:Hid _:=El.o.keepR h2;clear h1 h2 I;have c0:=j.o.c0;have c1:=j.o.c1;have c2:=j.o.c2;have d0:w6.c_ g 0=some (.i_ st.clock):=z.o.c0;have d1:w6.c_ g 1=some (.i_ st.next):=z.o.c1;have d2:=z.o.c2;have d3:w6.c_ g 3=some (.i_ (lg1:Nat)):=z.o.c3;have fz:=z.o.free;have Em:=j.o.new;have EF:gS≠g:=by omega
      clear Em;have HF:=z.o.putLogState j.o.fam;have o:((lg1+1:Nat):Int)=((lg1:Nat):Int)+1:=by push_cast; rfl
      have D:aF ((((w6.setCell (a_ g 3) (.i_ ((lg1+1:Nat):Int))).setCell (a_ g 0) (.i_ st'.clock)).setCell (a_ g 1) (.i_ st'.next)).setCell (a_ g 2) (.slice b7 st'.fams.length c7)) g ⟨st',lg1+1,n1+1,c,l1 - 1,false⟩ (.slice b7 st'.fams.length c7):=HF;rw[o] at D;have En:Hid _:=D;have Ez:((lg1:Nat):Int)<16:=by have:=R.o; omega
      clear HF D o;go_wp2_with fail;go_ret;rw[B.o];exact⟨rfl,_,En.o,C.o.trans ((keepR g 3 _ _).trans (vP g 0 1 2 _ _ _ _)),.inr ((((j.o.fresh.other (a:=(a_ g 3)) q.o _).other (a:=(a_ g 0)) q.o _).other (a:=(a_ g 1)) q.o _).other (a:=(a_ g 2)) q.o _)⟩
    ·have f:Hid _:=ow _ _ rfl Ey.o rfl h0
     obtain⟨x,hx⟩:∃x:Int,x=((aH ⟨st,16,n,c,l,false⟩).2:Nat):=⟨_,rfl⟩;have EG:x≠0:=by omega
     rw[<- hx] at A;have HX:Hid _:=hx;have hxb:(x == (0:Int))=false:=by simp[EG]
     clear h0 hx;go_wp2_with fail;refine A.mono ?_;rintro e5 w5 ⟨rfl,h1,h2⟩;have H5:Hid _:=h1;have V:Hid _:=HK9.out.trans h2;clear h1 h2 A p3 c2;go_wp2_with fail;go_ret;rw[f.o,<- HX.o];exact⟨rfl,_,H5.o,V.o,.inl rfl⟩
   ·have EH:((lg:Int) == 16)=false:=by rw[beq_eq_false_iff_ne]; omega
    have EI:¬ (lg:Int)=16:=by omega
    have R:Hid (lg<16):=by have:=EA.o; show lg<16; omega
    have f:Hid (addP ⟨st,lg,n,c,l,false⟩ ⟨kk,⟨f1,f2,f3,f4,f5,f6,f7,f8,f9⟩,ei,et⟩ true=dV ⟨st,lg,n,c,l,false⟩ ⟨kk,⟨f1,f2,f3,f4,f5,f6,f7,f8,f9⟩,ei,et⟩):=ot _ _ rfl (by rw[<- J.o]; exact h20) hlg
    have Ej:Hid _:=X.o;have Ek:Hid (n<99970):=by have:=HN.o; show n<99970; omega
    have H5:Hid _:=HC9.out.1;have El:Hid _:=HC9.out.2;clear hlg h20;have I:=ef wc g ⟨st,lg,n,c,l,false⟩ _ H5.o (by have:=Ek.o; show n<100000; omega) Ej.o
    cases ho:offP (⟨st,lg,n,c,l,false⟩:Pub) with
    |true=>
     rw[jU ho] at I;have B:Hid _:=f.o.trans (lF _ _ ho);clear ho;go_wp2_with fail;refine I.mono ?_;rintro e6 w6 ⟨rfl,h1,h2⟩;have z:Hid _:=h1;have C:Hid _:=HK9.out.trans h2;clear h1 h2 I;go_wp2_with fail;go_ret;rw[B.o];exact⟨rfl,_,z.o,C.o,.inl rfl⟩
    |false=>
     rw[jV ho] at I;have B:Hid (addP ⟨st,lg,n,c,l,false⟩ ⟨kk,⟨f1,f2,f3,f4,f5,f6,f7,f8,f9⟩,ei,et⟩ true=(⟨st',lg+1,n+1,c,l - 1,false⟩,0)):=by show _=_; rw[J.o]; exact f.o.trans (pN _ _ ho)
     clear ho;go_wp2_with fail;refine I.mono ?_;rintro e6 w6 ⟨rfl,h1,h2⟩;have z:Hid _:=h1;have C:Hid _:=HK9.out.trans h2;have j:Hid _:=El.o.keepR h2;clear h1 h2 I;have c0:=j.o.c0;have c1:=j.o.c1;have c2:=j.o.c2;have d0:w6.c_ g 0=some (.i_ st.clock):=z.o.c0;have d1:w6.c_ g 1=some (.i_ st.next):=z.o.c1;have d2:=z.o.c2;have d3:w6.c_ g 3=some (.i_ (lg:Nat)):=z.o.c3;have fz:=z.o.free;have Em:=j.o.new;have EF:gS≠g:=by omega
     clear Em;have HF:=z.o.putLogState j.o.fam;have o:((lg+1:Nat):Int)=((lg:Nat):Int)+1:=by push_cast; rfl
     have D:aF ((((w6.setCell (a_ g 3) (.i_ ((lg+1:Nat):Int))).setCell (a_ g 0) (.i_ st'.clock)).setCell (a_ g 1) (.i_ st'.next)).setCell (a_ g 2) (.slice b7 st'.fams.length c7)) g ⟨st',lg+1,n+1,c,l - 1,false⟩ (.slice b7 st'.fams.length c7):=HF;rw[o] at D;have En:Hid _:=D;have Ez:((lg:Nat):Int)<16:=by have:=R.o; omega
     clear HF D o;go_wp2_with fail;go_ret;rw[B.o];exact⟨rfl,_,En.o,C.o.trans ((keepR g 3 _ _).trans (vP g 0 1 2 _ _ _ _)),.inr ((((j.o.fresh.other (a:=(a_ g 3)) q.o _).other (a:=(a_ g 0)) q.o _).other (a:=(a_ g 1)) q.o _).other (a:=(a_ g 2)) q.o _)⟩
theorem aF.elsewhere{l:List Nat}(h:aF w g p v)(hk:af l w w')(hl:∀x∈l,x≠g∧az v x):aF w' g p v:=by
 have c:g∉l:=fun hx=>(hl g hx).1 rfl;have b:∀i,w'.cell? (a_ g i)=w.c_ g i:=fun i=>hk.cell (p:=(a_ g i)) h.lt c;obtain⟨l',h1,h2⟩:=h.c6;exact⟨(b 0).trans h.c0,(b 1).trans h.c1,(b 2).trans h.c2,(b 3).trans h.c3,(b 4).trans h.c4,(b 5).trans h.c5,⟨l',(b 6).trans h1,h2⟩,(b 7).trans h.c7,fun i=>(hk.frozen (p:=(a_ g i)) h.lt c).trans (h.free i),hk.rowsOut h.fam (fun x hx=>(hl x hx).2),Fd h.lt hk.size⟩
end Go.Proofs.YtlailakofhenkabGreatDoor
namespace Go.Proofs.YtlailakofhenkabGreatDoor.Tok
open Go.Lib
variable {t:T}
theorem uP(h:may t):∃x y z,parts 46 (body t)=x::itoa t.f::itoa t.g::y∧(t.k=1∧t.e=0∨t.k=2∧y=itoa t.e::z):=by
 obtain⟨k,f,g,e⟩:=t;obtain⟨hk,hf,hg⟩:=h;simp only at hk hf hg;rcases hk with ⟨rfl,rfl⟩ | ⟨rfl,he⟩
 ·refine⟨[114],[],[],?_,.inl ⟨rfl,rfl⟩⟩
  show parts 46 ([114] ++ 46::(itoa f ++ 46::itoa g))=_
  rw[bD _ (by simp),bD _ (bg hf.1),bO (bg hg.1)]
 ·refine⟨[97],[itoa e],[],?_,.inr ⟨rfl,rfl⟩⟩
  show parts 46 ([97] ++ 46::(itoa f ++ 46::(itoa g ++ 46::itoa e)))=_
  rw[bD _ (by simp),bD _ (bg hf.1),bD _ (bg hg.1),bO (bg he.1)]
def dQ(ws:List (List UInt8))(k:Nat)(n0 n1 n2:Int):Prop:=
 ∀j m,j<k->okN m->ws[j]?=some (itoa m)->(j=0->n0=m)∧(j=1->n1=m)∧(j=2->n2=m)
theorem uQ{ws:List (List UInt8)}{x a:List UInt8}{n0 n1 n2:Int}(hp:parts 46 a=x::ws)(h3:dQ ws ws.length n0 n1 n2)(h:may t)(hb:body t=a):t=⟨1,n0,n1,0⟩∨t=⟨2,n0,n1,n2⟩:=by
 obtain⟨x',y,z,e,hk⟩:=uP h;rw[hb,hp] at e;injection e with e1 e2;subst e2;have c:=(h3 0 t.f (by simp) h.2.1 rfl).1 rfl
 have j:=(h3 1 t.g (by simp) h.2.2 rfl).2.1 rfl
 obtain⟨k,f,g,e⟩:=t;simp only at c j hk;subst c; subst j;rcases hk with ⟨rfl,rfl⟩ | ⟨rfl,rfl⟩
 ·exact .inl rfl
 ·have b:okN e:=by
   rcases h.1 with ⟨hh,_⟩ | ⟨_,hh⟩
   ·exact absurd hh (by simp)
   ·exact hh
  have m:=(h3 2 e (by simp) b rfl).2.2 rfl
  subst m;exact .inr rfl
def nH:List UInt8:= [48,49,50,51,52,53,54,55,56,57,97,98,99,100,101,102]
theorem AU:∀n:Fin 256,decide (0<=indexByte nH (UInt8.ofNat n.val))=fF (UInt8.ofNat n.val):=by decide +kernel
theorem wj(c:UInt8):0<=indexByte nH c↔dJ c:=by
 have h:=AU ⟨c.toNat,c.toNat_lt⟩;rw[show UInt8.ofNat c.toNat=c from UInt8.toNat_inj.1 (by simp)] at h
 rw[<- gA,<- h,decide_eq_true_iff]
end Go.Proofs.YtlailakofhenkabGreatDoor.Tok
namespace Go.Proofs.YtlailakofhenkabGreatDoor
open Go.RowKit Tok
end Go.Proofs.YtlailakofhenkabGreatDoor
