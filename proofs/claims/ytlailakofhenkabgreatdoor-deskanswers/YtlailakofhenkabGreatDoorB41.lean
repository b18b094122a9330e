import Derived.Test.YtlailakofhenkabGreatDoorB40
set_option maxRecDepth 100000
set_option maxHeartbeats 16000000
namespace Go.Proofs.YtlailakofhenkabGreatDoor
open Go Go.RowKit Tok Sc Ev Tryz RegD
attribute [local go_sem] rA oA
theorem qj(s t:ByteArray)(b:Bool)(n:Nat)(ho:fp s.data.toList t.data.toList b n)(w:World)(hs:s.size<=5000)(ht:t.size<=5000):Calls prog 74 #[.string s,.string t] w fun e w'=>e=.returned (.tuple #[.bool b,.int .i64 (n:Nat)])∧Below w.heap.size w w':=by
 refine (pt s t w hs ht).mono ?_;rintro e w' ⟨b',n',rfl,ho',hb⟩;obtain⟨rfl,rfl⟩:=Sc.lQ ho ho';exact⟨rfl,hb⟩
theorem qm(N:Nat)(w:World)(gx gr:Nat)(r:Rul)(p:Pub)(v:Value)(text request sc:ByteArray)(t:T)(n:Nat)(l:List Word)(m:Nat)(b:Bool)(h:co N w gx gr r p v)(ht:text.size<=5000)(hrq:request.size<=5000)(hsc:sc.size<=5000)(hto:Tok.Out (tag r.key) text.data.toList t n)(ho:Sc.Out sc.data.toList l m)(hw:lookM r p.st 1 t n=0->m=0->fp (ae l) (famM p.st t).scope.data.toList b 0)(hN:N<98000):
 Calls prog 28 #[p_ gx 0,.string text,.string request,.string sc] w fun x w'=>x=.returned (.tuple #[.string (rotateM (txtB r) r p (am request.data.toList) request t n ⟨(ae l).toArray⟩ m b).2.1,.int .i64 ((rotateM (txtB r) r p (am request.data.toList) request t n ⟨(ae l).toArray⟩ m b).2.2:Nat)])∧∃v',RTo N gr v w w' (rotateM (txtB r) r p (am request.data.toList) request t n ⟨(ae l).toArray⟩ m b).1 v':=by
 have C:Hid _:=h;have k:=fun (W:World)=>aA request W (by omega)
 have s:∀(w1:World) (tk tf tg te f1:Int) (f2 f3 f4:ByteArray) (f5 f6 f7:Int) (f8:ByteArray) (f9:Bool),Below w.heap.size w w1->Below w.heap.size w ((w1.alloc (.cells (Q_ tk tf tg te) 137)).alloc (.cells (F_ f1 f2 f3 f4 f5 f6 f7 f8 f9) 40))∧co N ((w1.alloc (.cells (Q_ tk tf tg te) 137)).alloc (.cells (F_ f1 f2 f3 f4 f5 f6 f7 f8 f9) 40)) gx gr r p v∧TB ((w1.alloc (.cells (Q_ tk tf tg te) 137)).alloc (.cells (F_ f1 f2 f3 f4 f5 f6 f7 f8 f9) 40)) w1.heap.size ⟨tk,tf,tg,te⟩∧FB ((w1.alloc (.cells (Q_ tk tf tg te) 137)).alloc (.cells (F_ f1 f2 f3 f4 f5 f6 f7 f8 f9) 40)) (w1.heap.size+1) ⟨f1,f2,f3,f4,f5,f6,f7,f8,f9⟩∧w.heap.size<=w1.heap.size:=fun w1 tk tf tg te f1 f2 f3 f4 f5 f6 f7 f8 f9 hb2=>by
  have D:Below w1.heap.size w1 ((w1.alloc (.cells (Q_ tk tf tg te) 137)).alloc (.cells (F_ f1 f2 f3 f4 f5 f6 f7 f8 f9) 40)):=(bA _ _).alloc (by simp) _
  have EE:(w1.alloc (.cells (Q_ tk tf tg te) 137)).heap.size=w1.heap.size+1:=by simp
  exact⟨hb2.tm D,(C.o.on hb2).on D,(TB.made w1 ⟨tk,tf,tg,te⟩ _).on (bA _ _),by rw[<- EE]; exact FB.made _ ⟨f1,f2,f3,f4,f5,f6,f7,f8,f9⟩ _,hb2.size⟩
 have Y:Hid _:=h.doc.lt;have EF:Hid (m=0->(⟨(ae l).toArray⟩:ByteArray).size<=5000):=fun hm=>by subst hm; rw[dC]; have:=(fu ho).2; omega
 cases h1:am request.data.toList with
 |false=>
  rw[h1] at k;clear h1 s;unfold rotateM;rw[if_pos rfl];go_enter func28,ntmps28
  go_wp2_with fail;refine (k _).mono ?_;rintro e1 w1 ⟨rfl,hw⟩;obtain rfl:w=w1:=hw.symm;go_wp2_with fail;go_ret2;exact⟨rfl,_,RTo.same C.o.doc C.o.ok (E9 _ _)⟩
 |true=>
  rw[h1] at k;by_cases he:look0 r p.st 1 t n=0
  ·have o:=fun (W:World) (hW:co N W gx gr r p v)=>iG N W gx gr r p v text 1 t n hW ht hto he
   have Eg:Hid _:=dw h.ok.good (du he).2.2.1;have Eo:Hid ((famM p.st t).gen<t.g->rotateM (txtB r) r p true request t n ⟨(ae l).toArray⟩ m b=(p,noT,2)):=fun hg=>by show rotateM (txtB r) r p true request t n ⟨(ae l).toArray⟩ m b=_; unfold rotateM; rw[kw he hg]; rfl
   have Ep:Hid (¬ (famM p.st t).gen<t.g->t.g=(famM p.st t).gen->rotateM (txtB r) r p true request t n ⟨(ae l).toArray⟩ m b=turnM (txtB r) p (famM p.st t) request ⟨(ae l).toArray⟩ m b):=fun hg hc=>by show rotateM (txtB r) r p true request t n ⟨(ae l).toArray⟩ m b=_; unfold rotateM; rw[if_neg (by simp),eA he hg,if_neg (by simp),if_pos hc]
   have Er:Hid (¬ (famM p.st t).gen<t.g->¬ t.g=(famM p.st t).gen->(t.g=(famM p.st t).gen - 1∧request=(famM p.st t).request)->rotateM (txtB r) r p true request t n ⟨(ae l).toArray⟩ m b=(p,txtB r ⟨1,(famM p.st t).id,(famM p.st t).gen,0⟩,0)):=fun hg hc hx=>by show rotateM (txtB r) r p true request t n ⟨(ae l).toArray⟩ m b=_; unfold rotateM; rw[if_neg (by simp),eA he hg,if_neg (by simp),if_neg hc,if_pos hx]
   have Es:Hid (¬ (famM p.st t).gen<t.g->¬ t.g=(famM p.st t).gen->¬ (t.g=(famM p.st t).gen - 1∧request=(famM p.st t).request)->rotateM (txtB r) r p true request t n ⟨(ae l).toArray⟩ m b=spoilM p (famM p.st t)):=fun hg hc hx=>by show rotateM (txtB r) r p true request t n ⟨(ae l).toArray⟩ m b=_; unfold rotateM; rw[if_neg (by simp),eA he hg,if_neg (by simp),if_neg hc,if_neg hx]
   have Eh:Hid (∀W:World,Calls prog 68 #[.string sc] W fun e w'=>e=.returned (.tuple #[.string ⟨(ae l).toArray⟩,.i_ (m:Nat)])∧Below W.heap.size W w'):=fun W=>iE sc l m ho W hsc;have Et:Hid (¬ (famM p.st t).gen<t.g->m=0->∀W:World,Calls prog 74 #[.string ⟨(ae l).toArray⟩,.string (famM p.st t).scope] W fun e w'=>e=.returned (.tuple #[.bool b,.i_ ((0:Nat):Int)])∧Below W.heap.size W w'):=fun hg hm W=>qj _ _ b 0 (hw (eA he hg) hm) W (EF.o hm) (ec Eg.o).2.2.1;have EG:Hid (m=0->¬ 1099511627776<=(famM p.st t).gen->Ev.may (aI (gP (famM p.st t) request ⟨(ae l).toArray⟩ p.st.clock))):=fun hm hg=>mL Eg.o hg h1 (gM (by subst hm; exact ho)) h.ok.good.clock
   have Eu:Hid (∀f,Ev.may (aI f)->∀(W:World),co N W gx gr r p v->Calls prog 69 #[p_ gx 0,ap f] W fun e w'=>e=.returned (.i_ ((addP p (aI f) true).2:Nat))∧∃v',RTo N gr v W w' (addP p (aI f) true).1 v'):=fun f hf W hW=>ku N W gx gr r p v f hW hf (by omega)
   have Ew:Hid (∀f,bP f->∀(M:Nat) (W:World) (q:Pub) (v:Value),co M W gx gr r q v->Calls prog 70 #[p_ gx 0,ap f] W fun e w'=>e=.returned (.string (txtB r ⟨1,f.id,f.gen,0⟩))∧Below W.heap.size W w'):=fun f hf M W q v hW=>ja M W gx gr r q v f hW hf;clear h hto ht he h1 hw hsc hrq ho;generalize (⟨(ae l).toArray⟩:ByteArray)=J at *;generalize rotateM (txtB r) r p true request t n J m b=K at *;generalize famM p.st t=f at *;have Ex:Hid _:=Eg.o.1.2.1;obtain⟨tk,tf,tg,te⟩:=t;obtain⟨f1,f2,f3,f4,f5,f6,f7,f8,f9⟩:=f;unfold aL ap ac at o;simp only at o Eo Ep Er Es Et Ex;obtain⟨hg1,hg2⟩:=Ex.o
   focus
    by_cases hg:f5<tg
    ·have O:Hid _:=Eo.o hg
     go_enter func28,ntmps28
     go_wp2_with fail;refine (k _).mono ?_;rintro e1 wx ⟨rfl,hw⟩;obtain rfl:w=wx:=hw.symm;go_wp2_with fail;refine (o _ C.o).mono ?_;rintro e2 w1 ⟨rfl,hb2⟩;have j:Hid _:=s w1 tk tf tg te f1 f2 f3 f4 f5 f6 f7 f8 f9 hb2;clear o hb2 s k;go_upto_region 4 with fail;generalize hWW:((w1.alloc _).alloc _)=W3 at *;clear hWW;generalize w1.heap.size=gq at *;have B:Hid _:=j.o.1;have Z:Hid _:=j.o.2.1;have c:Hid _:=j.o.2.2.2.1;have A:Hid (w.heap.size<=gq+1∧gr<gq):=by show _∧_; have h1:=j.o.2.2.2.2; have h2:=Y.o; omega
     have L:=j.o.2.2.1.c2;obtain⟨d0,d1,d2,z,F,d5,H,G,d8,-⟩:=c.o; have dz:=c.o.fz;simp only at L d0 d1 d2 z F d5 H G d8;go_wp2_with fail;go_ret2;rw[O.o];exact⟨rfl,_,RTo.same C.o.doc C.o.ok B.o⟩
    ·by_cases hc:tg=f5
     ·have HT:Hid _:=Ep.o hg hc
      have EH:Hid _:=Et.o hg;subst hc;by_cases hm:m=0
      ·subst hm
       have Ej:Hid _:=EH.o rfl
       cases b with
       |false=>
        have O:Hid (K=(p,noT,13)):=by show K=_; rw[HT.o]; unfold turnM; rfl
        go_enter func28,ntmps28
        go_wp2_with fail;refine (k _).mono ?_;rintro e1 wx ⟨rfl,hw⟩;obtain rfl:w=wx:=hw.symm;go_wp2_with fail;refine (o _ C.o).mono ?_;rintro e2 w1 ⟨rfl,hb2⟩;have j:Hid _:=s w1 tk tf tg te f1 f2 f3 f4 tg f6 f7 f8 f9 hb2;clear o hb2 s k;go_upto_region 4 with fail;generalize hWW:((w1.alloc _).alloc _)=W3 at *;clear hWW;generalize w1.heap.size=gq at *;have B:Hid _:=j.o.1;have Z:Hid _:=j.o.2.1;have c:Hid _:=j.o.2.2.2.1;have A:Hid (w.heap.size<=gq+1∧gr<gq):=by show _∧_; have h1:=j.o.2.2.2.2; have h2:=Y.o; omega
        have L:=j.o.2.2.1.c2;obtain⟨d0,d1,d2,z,F,d5,H,G,d8,-⟩:=c.o; have dz:=c.o.fz;simp only at L d0 d1 d2 z F d5 H G d8;go_wp2_with fail;refine (Eh.o _).mono ?_;rintro e2 w2 ⟨rfl,hb2⟩;have E:Hid _:=B.o.tm hb2;have U:Hid _:=c.o.on hb2;clear hb2 L d0 d1 d2 z F d5 H G d8 dz;have z:=U.o.c3;simp only at z;go_wp2_with fail;refine (Ej.o _).mono ?_;rintro e3 w3 ⟨rfl,D⟩;have Ed:Hid _:=E.o.tm D;have V:Hid _:=U.o.on D;clear D z;go_wp2_with fail;go_ret2;rw[O.o];exact⟨rfl,_,RTo.same C.o.doc C.o.ok Ed.o⟩
       |true=>
        by_cases hgg:1099511627776<=tg
        ·have O:Hid (K=(p,noT,4)):=by show K=_; rw[HT.o]; unfold turnM; rw[if_neg (by simp),if_neg (by simp),if_pos hgg]
         go_enter func28,ntmps28
         go_wp2_with fail;refine (k _).mono ?_;rintro e1 wx ⟨rfl,hw⟩;obtain rfl:w=wx:=hw.symm;go_wp2_with fail;refine (o _ C.o).mono ?_;rintro e2 w1 ⟨rfl,hb2⟩;have j:Hid _:=s w1 tk tf tg te f1 f2 f3 f4 tg f6 f7 f8 f9 hb2;clear o hb2 s k;go_upto_region 4 with fail;generalize hWW:((w1.alloc _).alloc _)=W3 at *;clear hWW;generalize w1.heap.size=gq at *;have B:Hid _:=j.o.1;have Z:Hid _:=j.o.2.1;have c:Hid _:=j.o.2.2.2.1;have A:Hid (w.heap.size<=gq+1∧gr<gq):=by show _∧_; have h1:=j.o.2.2.2.2; have h2:=Y.o; omega
         have L:=j.o.2.2.1.c2;obtain⟨d0,d1,d2,z,F,d5,H,G,d8,-⟩:=c.o; have dz:=c.o.fz;simp only at L d0 d1 d2 z F d5 H G d8;go_wp2_with fail;refine (Eh.o _).mono ?_;rintro e2 w2 ⟨rfl,hb2⟩;have E:Hid _:=B.o.tm hb2;have U:Hid _:=c.o.on hb2;clear hb2 L d0 d1 d2 z F d5 H G d8 dz;have z:=U.o.c3;simp only at z;go_wp2_with fail;refine (Ej.o _).mono ?_;rintro e3 w3 ⟨rfl,D⟩;have Ed:Hid _:=E.o.tm D;have V:Hid _:=U.o.on D;clear D z;have F:=V.o.c4;simp only at F;go_wp2_with fail;go_ret2;rw[O.o];exact⟨rfl,_,RTo.same C.o.doc C.o.ok Ed.o⟩
        ·have Ek:=EG.o rfl hgg
         have HQ:Hid (K=if (addP p (aI ⟨f1,f2,f3,J,(tg+1),f6,p.st.clock,request,f9⟩) true).2=0 then ((addP p (aI ⟨f1,f2,f3,J,(tg+1),f6,p.st.clock,request,f9⟩) true).1,txtB r ⟨1,f1,tg+1,0⟩,0) else ((addP p (aI ⟨f1,f2,f3,J,(tg+1),f6,p.st.clock,request,f9⟩) true).1,noT,(addP p (aI ⟨f1,f2,f3,J,(tg+1),f6,p.st.clock,request,f9⟩) true).2)):=by show K=_; rw[HT.o]; unfold turnM; rw[if_neg (by simp),if_neg (by simp),if_neg hgg]; rfl
         have R:=Eu.o _ Ek;have X:=Ew.o _ (sX Ek);clear Ek;unfold gP ap ac at R X;simp only at R X;generalize addP p (aI ⟨f1,f2,f3,J,(tg+1),f6,p.st.clock,request,f9⟩) true=Q at *;obtain⟨q,n⟩:=Q;simp only at R HQ;have Ee:Hid _:=R;have El:Hid _:=X;clear R X;generalize txtB r ⟨1,f1,tg+1,0⟩=TX at *;go_enter func28,ntmps28
         go_wp2_with fail;refine (k _).mono ?_;rintro e1 wx ⟨rfl,hw⟩;obtain rfl:w=wx:=hw.symm;go_wp2_with fail;refine (o _ C.o).mono ?_;rintro e2 w1 ⟨rfl,hb2⟩;have j:Hid _:=s w1 tk tf tg te f1 f2 f3 f4 tg f6 f7 f8 f9 hb2;clear o hb2 s k;go_upto_region 4 with fail;generalize hWW:((w1.alloc _).alloc _)=W3 at *;clear hWW;generalize w1.heap.size=gq at *;have B:Hid _:=j.o.1;have Z:Hid _:=j.o.2.1;have c:Hid _:=j.o.2.2.2.1;have A:Hid (w.heap.size<=gq+1∧gr<gq):=by show _∧_; have h1:=j.o.2.2.2.2; have h2:=Y.o; omega
         have L:=j.o.2.2.1.c2;obtain⟨d0,d1,d2,z,F,d5,H,G,d8,-⟩:=c.o; have dz:=c.o.fz;simp only at L d0 d1 d2 z F d5 H G d8;go_wp2_with fail;refine (Eh.o _).mono ?_;rintro e2 w2 ⟨rfl,hb2⟩;have E:Hid _:=B.o.tm hb2;have U:Hid _:=c.o.on hb2;clear hb2 L d0 d1 d2 z F d5 H G d8 dz;have z:=U.o.c3;simp only at z;go_wp2_with fail;refine (Ej.o _).mono ?_;rintro e3 w3 ⟨rfl,D⟩;have Ed:Hid _:=E.o.tm D;have V:Hid _:=U.o.on D;clear D z;have F:=V.o.c4; have z:=V.o.c3; have G:=V.o.c7; have H:=V.o.c6; have dz:=V.o.fz;have Ey:IntKind.i64.wrap (tg+1)=tg+1:=by rw[IntKind.wrap_i64]; omega
         simp only at z F H G;go_upto_region 24 with fail;have EI:Hid _:=C.o.on Ed.o;have B1:Hid (Below w.heap.size w (w3.setCell (a_ (gq+1) 4) (.i_ (tg+1))).drew):=(Ed.o.trans (aa A.o.1 [.i_ (tg+1)] 4 w3)).drew;have B2:Hid (Below w.heap.size w ((w3.setCell (a_ (gq+1) 4) (.i_ (tg+1))).setCell (a_ (gq+1) 3) (.string J)).drew):=((Ed.o.trans (aa A.o.1 [.i_ (tg+1)] 4 w3)).trans (aa A.o.1 [.string J] 3 _)).drew;have B3:Hid (Below w.heap.size w (((w3.setCell (a_ (gq+1) 4) (.i_ (tg+1))).setCell (a_ (gq+1) 3) (.string J)).setCell (a_ (gq+1) 7) (.string request)).drew):=(((Ed.o.trans (aa A.o.1 [.i_ (tg+1)] 4 w3)).trans (aa A.o.1 [.string J] 3 _)).trans (aa A.o.1 [.string request] 7 _)).drew;have Em:Hid _:=(((V.o.gen (tg+1)).scope J).req request).on (E9 _ _).drew
         refine region_ (fun W=>co N W gx gr r p v) 20 (EI.o.on (E9 _ _).drew) fun hH=>?_;refine an [(0,p_ (gq+1) 4),(3,.string J),(4,.string request),(5,p_ gx 0),(6,p_ gx 0),(7,p_ gx 0),(8,p_ gr 0),(9,p_ gr 0),(10,p_ gr 0),(11,p_ gr 0),(12,.i_ p.st.clock)] hH (fun W hW=>by have a0:=hW.box.c0; have a0:=hW.doc.c0;go_simp) ?_;simp only[pA,oA,Act.put,pS1]
         refine one_ 1 ?_; intro K hK; go_simp;refine hK.out _ _ (hH) ?_;clear hK hH;intro hH;clear K;refine an [(2,.i_ (tg+1)),(13,p_ (gq+1) 4)] hH (fun W hW=>by have a0:=Ey;go_simp) ?_;simp only[pA,oA,Act.put,pS1]
         refine one_ 14 ?_; intro K hK; go_simp;refine hK.out _ _ (C.o.on B1.o) ?_;clear hK hH;intro hH;clear K;refine an [(15,p_ (gq+1) 3)] hH (fun W hW=>by go_simp) ?_;simp only[pA,oA,Act.put,pS1]
         refine one_ 16 ?_; intro K hK; go_simp;refine hK.out _ _ (C.o.on B2.o) ?_;clear hK hH;intro hH;clear K;refine an [(17,p_ (gq+1) 7)] hH (fun W hW=>by go_simp) ?_;simp only[pA,oA,Act.put,pS1]
         refine one_ 18 ?_; intro K hK; go_simp;refine hK.out _ _ (C.o.on B3.o) ?_;clear hK hH;intro hH;clear K;refine an [(19,p_ (gq+1) 6)] hH (fun W hW=>by go_simp) ?_;simp only[pA,oA,Act.put,pS1]
         clear hH;generalize hWW:World.drew (World.setCell _ (a_ (gq+1) 7) _)=WA at *;clear hWW B1 B2 z F H G dz Ey;have e6:=Em.o.c6; have ez:=Em.o.fz;simp only at e6;have B4:Hid (Below w.heap.size w (WA.setCell (a_ (gq+1) 6) (.i_ p.st.clock))):=B3.o.trans (aa A.o.1 [.i_ p.st.clock] 6 WA);have Ez:Hid _:=Em.o.use p.st.clock;refine late_ 20 ?_; intro K hK; go_simp;refine hK.out _ _ ?_;clear hK K;refine done_ ?_;clear e6 ez;generalize hWW:WA.setCell (a_ (gq+1) 6) (.i_ p.st.clock)=WB at *;clear hWW B3;have En:Hid _:=C.o.on B4.o;obtain⟨e0,e1,e2,e3,e4,e5,e6,e7,e8,-⟩:=Ez.o;simp only at e0 e1 e2 e3 e4 e5 e6 e7 e8;go_upto_region 25 with fail;by_cases hn:n=0
         ·subst hn
          have O:Hid (K=(q,TX,0)):=by show K=_; rw[HQ.o]; rfl
          go_wp2_with fail;refine (Ee.o _ En.o).mono ?_;rintro e5' w5 ⟨rfl,v5,hto⟩;have I:Hid _:=hto.pre B4.o;clear e0 e1 e2 e3 e4 e5 e6 e7 e8;have EJ:Hid _:=En.o.to hto;have EK:Hid _:=Ez.o.keep hto.keep (by have:=A.o; simp; omega)
          clear hto;obtain⟨e0,e1,e2,e3,e4,e5,e6,e7,e8,-⟩:=EK.o;simp only at e0 e1 e2 e3 e4 e5 e6 e7 e8;go_wp2_with fail;refine (El.o _ _ _ _ EJ.o).mono ?_;rintro e6' w6 ⟨rfl,hb6⟩;have EL:Hid _:=I.o.post hb6;clear hb6 e0 e1 e2 e3 e4 e5 e6 e7 e8;go_wp2_with fail;go_ret2;rw[O.o];exact⟨rfl,_,EL.o⟩
         ·have EA:¬ (n:Int)=0:=by omega
          have O:Hid (K=(q,noT,n)):=by show K=_; rw[HQ.o]; exact if_neg hn
          go_wp2_with fail;refine (Ee.o _ En.o).mono ?_;rintro e5' w5 ⟨rfl,v5,hto⟩;have I:Hid _:=hto.pre B4.o;clear e0 e1 e2 e3 e4 e5 e6 e7 e8;clear hto;go_wp2_with fail;go_ret2;rw[O.o];exact⟨rfl,_,I.o⟩
      ·have O:Hid (K=(p,noT,m)):=by show K=_; rw[HT.o]; unfold turnM; rw[if_pos hm]
       have hmI:¬ (m:Int)=0:=by omega
       go_enter func28,ntmps28
       go_wp2_with fail;refine (k _).mono ?_;rintro e1 wx ⟨rfl,hw⟩;obtain rfl:w=wx:=hw.symm;go_wp2_with fail;refine (o _ C.o).mono ?_;rintro e2 w1 ⟨rfl,hb2⟩;have j:Hid _:=s w1 tk tf tg te f1 f2 f3 f4 tg f6 f7 f8 f9 hb2;clear o hb2 s k;go_upto_region 4 with fail;generalize hWW:((w1.alloc _).alloc _)=W3 at *;clear hWW;generalize w1.heap.size=gq at *;have B:Hid _:=j.o.1;have Z:Hid _:=j.o.2.1;have c:Hid _:=j.o.2.2.2.1;have A:Hid (w.heap.size<=gq+1∧gr<gq):=by show _∧_; have h1:=j.o.2.2.2.2; have h2:=Y.o; omega
       have L:=j.o.2.2.1.c2;obtain⟨d0,d1,d2,z,F,d5,H,G,d8,-⟩:=c.o; have dz:=c.o.fz;simp only at L d0 d1 d2 z F d5 H G d8;go_wp2_with fail;refine (Eh.o _).mono ?_;rintro e2 w2 ⟨rfl,hb2⟩;have E:Hid _:=B.o.tm hb2;have U:Hid _:=c.o.on hb2;clear hb2 L d0 d1 d2 z F d5 H G d8 dz;go_wp2_with fail;go_ret2;rw[O.o];exact⟨rfl,_,RTo.same C.o.doc C.o.ok E.o⟩
     ·have hlt:tg<f5:=by omega
      have hgb:(tg == f5)=false:=by simp[hc]
      by_cases hx:tg=f5 - 1∧request=f8
      ·have O:Hid _:=Er.o hg hc hx
       have X:=Ew.o ⟨f1,f2,f3,f4,f5,f6,f7,f8,f9⟩ Eg.o;unfold ap ac at X;simp only at X;obtain⟨hx1,hx2⟩:=hx;subst hx2;have EB:(tg == f5 - 1)=true:=by simp[hx1]
       have El:Hid _:=X;have EC:Hid (tg=f5 - 1):=hx1;clear hx1 X;go_enter func28,ntmps28
       go_wp2_with fail;refine (k _).mono ?_;rintro e1 wx ⟨rfl,hw⟩;obtain rfl:w=wx:=hw.symm;go_wp2_with fail;refine (o _ C.o).mono ?_;rintro e2 w1 ⟨rfl,hb2⟩;have j:Hid _:=s w1 tk tf tg te f1 f2 f3 f4 f5 f6 f7 request f9 hb2;clear o hb2 s k;go_upto_region 4 with fail;generalize hWW:((w1.alloc _).alloc _)=W3 at *;clear hWW;generalize w1.heap.size=gq at *;have B:Hid _:=j.o.1;have Z:Hid _:=j.o.2.1;have c:Hid _:=j.o.2.2.2.1;have A:Hid (w.heap.size<=gq+1∧gr<gq):=by show _∧_; have h1:=j.o.2.2.2.2; have h2:=Y.o; omega
       have L:=j.o.2.2.1.c2;obtain⟨d0,d1,d2,z,F,d5,H,G,d8,-⟩:=c.o; have dz:=c.o.fz;simp only at L d0 d1 d2 z F d5 H G d8;go_wp2_with fail;refine (El.o _ _ _ _ Z.o).mono ?_;rintro e4 w4 ⟨rfl,hb4⟩;have EM:Hid _:=B.o.tm hb4;clear hb4 L d0 d1 d2 z F d5 H G d8 dz;go_wp2_with fail;go_ret2;rw[O.o];exact⟨rfl,_,RTo.same C.o.doc C.o.ok EM.o⟩
      ·have EN:Hid _:=Es.o hg hc hx
       have R:=Eu.o (cz ⟨f1,f2,f3,f4,f5,f6,f7,f8,f9⟩) (mJ Eg.o);have O:Hid (K=((addP p (aI (cz ⟨f1,f2,f3,f4,f5,f6,f7,f8,f9⟩)) true).1,noT,if (addP p (aI (cz ⟨f1,f2,f3,f4,f5,f6,f7,f8,f9⟩)) true).2=0 then 15 else (addP p (aI (cz ⟨f1,f2,f3,f4,f5,f6,f7,f8,f9⟩)) true).2)):=EN.o
       generalize addP p (aI (cz ⟨f1,f2,f3,f4,f5,f6,f7,f8,f9⟩)) true=Q at *;obtain⟨q,n⟩:=Q;unfold cz ap ac at R;simp only at R O;have Ee:Hid _:=R;have EO:Hid (¬ (tg=f5 - 1∧request=f8)):=hx;clear R hx
       have k1:Hid (tg=f5 - 1->request.toList=f8.toList->False):=fun hx1 a=>EO.o ⟨hx1,by
        rw[ByteArray.toList_eq,ByteArray.toList_eq] at a;exact ByteArray.ext (Array.toList_inj.1 a)⟩
       go_enter func28,ntmps28
       go_wp2_with fail;refine (k _).mono ?_;rintro e1 wx ⟨rfl,hw⟩;obtain rfl:w=wx:=hw.symm;go_wp2_with fail;refine (o _ C.o).mono ?_;rintro e2 w1 ⟨rfl,hb2⟩;have j:Hid _:=s w1 tk tf tg te f1 f2 f3 f4 f5 f6 f7 f8 f9 hb2;clear o hb2 s k;go_upto_region 4 with fail;generalize hWW:((w1.alloc _).alloc _)=W3 at *;clear hWW;generalize w1.heap.size=gq at *;have B:Hid _:=j.o.1;have Z:Hid _:=j.o.2.1;have c:Hid _:=j.o.2.2.2.1;have A:Hid (w.heap.size<=gq+1∧gr<gq):=by show _∧_; have h1:=j.o.2.2.2.2; have h2:=Y.o; omega
       have L:=j.o.2.2.1.c2;obtain⟨d0,d1,d2,z,F,d5,H,G,d8,-⟩:=c.o; have dz:=c.o.fz;simp only at L d0 d1 d2 z F d5 H G d8;have ED:Hid (FB (W3.setCell (a_ (gq+1) 8) (.bool true)) (gq+1) ⟨f1,f2,f3,f4,f5,f6,f7,f8,true⟩):=c.o.dead;have E:Hid (Below w.heap.size w (W3.setCell (a_ (gq+1) 8) (.bool true))):=B.o.trans (aa A.o.1 [.bool true] 8 W3);have Ei:Hid _:=C.o.on E.o;go_upto_region 9 with fail;by_cases hx1:tg=f5 - 1
       ·have EB:(tg == f5 - 1)=true:=by simp[hx1]
        have k2:Hid (request.toList=f8.toList->False):=fun a=>k1.o hx1 a;have EC:Hid (tg=f5 - 1):=hx1;clear hx1;go_upto_region 12 with fail
        all_goals first
         |exact (k2.o (by assumption)).elim
         |exact (k2.o (by simpa using ‹(request.toList == f8.toList)=true›)).elim
         |exact (k2.o (Eq.symm (by assumption))).elim
         |exact (k2.o (Eq.symm (by simpa using ‹(f8.toList == request.toList)=true›))).elim
         |skip
        generalize hWC:W3.setCell (a_ (gq+1) 8) (.bool true)=WD at *;clear hWC L d0 d1 d2 z F d5 H G d8 dz;obtain⟨e0,e1,e2,e3,e4,e5,e6,e7,e8,-⟩:=ED.o;simp only at e0 e1 e2 e3 e4 e5 e6 e7 e8;by_cases hn:n=0
        ·subst hn
         have Ef:Hid (K=(q,noT,15)):=by show K=_; rw[O.o]; rfl
         go_wp2_with fail;refine (Ee.o _ Ei.o).mono ?_;rintro e5' w5 ⟨rfl,v5,hto⟩;have I:Hid _:=hto.pre E.o;clear hto e0 e1 e2 e3 e4 e5 e6 e7 e8;go_wp2_with fail;go_ret2;rw[Ef.o];exact⟨rfl,_,I.o⟩
        ·have EA:¬ (n:Int)=0:=by omega
         have Ef:Hid (K=(q,noT,n)):=by show K=_; rw[O.o,if_neg hn]
         go_wp2_with fail;refine (Ee.o _ Ei.o).mono ?_;rintro e5' w5 ⟨rfl,v5,hto⟩;have I:Hid _:=hto.pre E.o;clear hto e0 e1 e2 e3 e4 e5 e6 e7 e8;go_wp2_with fail;go_ret2;rw[Ef.o];exact⟨rfl,_,I.o⟩
       ·have EB:(tg == f5 - 1)=false:=by simp[hx1]
        clear hx1;go_upto_region 12 with fail;generalize hWC:W3.setCell (a_ (gq+1) 8) (.bool true)=WD at *;clear hWC L d0 d1 d2 z F d5 H G d8 dz;obtain⟨e0,e1,e2,e3,e4,e5,e6,e7,e8,-⟩:=ED.o;simp only at e0 e1 e2 e3 e4 e5 e6 e7 e8;by_cases hn:n=0
        ·subst hn
         have Ef:Hid (K=(q,noT,15)):=by show K=_; rw[O.o]; rfl
         go_wp2_with fail;refine (Ee.o _ Ei.o).mono ?_;rintro e5' w5 ⟨rfl,v5,hto⟩;have I:Hid _:=hto.pre E.o;clear hto e0 e1 e2 e3 e4 e5 e6 e7 e8;go_wp2_with fail;go_ret2;rw[Ef.o];exact⟨rfl,_,I.o⟩
        ·have EA:¬ (n:Int)=0:=by omega
         have Ef:Hid (K=(q,noT,n)):=by show K=_; rw[O.o,if_neg hn]
         go_wp2_with fail;refine (Ee.o _ Ei.o).mono ?_;rintro e5' w5 ⟨rfl,v5,hto⟩;have I:Hid _:=hto.pre E.o;clear hto e0 e1 e2 e3 e4 e5 e6 e7 e8;go_wp2_with fail;go_ret2;rw[Ef.o];exact⟨rfl,_,I.o⟩
  ·have O:Hid (rotateM (txtB r) r p true request t n ⟨(ae l).toArray⟩ m b=(p,noT,look0 r p.st 1 t n)):=by show _=_; unfold rotateM; rw[if_neg (by simp),kv he,if_pos he]
   have o:=fun (W:World) (hW:co N W gx gr r p v)=>iF N W gx gr r p v text 1 t n _ hW ht hto rfl;clear h hto ht hw hsc hrq ho;generalize rotateM (txtB r) r p true request t n ⟨(ae l).toArray⟩ m b=K at *;generalize look0 r p.st 1 t n=e at *;have heI:¬ (e:Int)=0:=by omega
   go_enter func28,ntmps28
   go_wp2_with fail;refine (k _).mono ?_;rintro e1 wx ⟨rfl,hw⟩;obtain rfl:w=wx:=hw.symm;go_wp2_with fail;refine (o _ C.o).mono ?_;rintro e2 w1 ⟨⟨tk,tf,tg,te,f1,f2,f3,f4,f5,f6,f7,f8,f9,rfl⟩,hb2⟩;have j:Hid _:=s w1 tk tf tg te f1 f2 f3 f4 f5 f6 f7 f8 f9 hb2;clear o hb2 s k;go_upto_region 4 with fail;generalize hWW:((w1.alloc _).alloc _)=W3 at *;clear hWW;generalize w1.heap.size=gq at *;have B:Hid _:=j.o.1;have Z:Hid _:=j.o.2.1;have c:Hid _:=j.o.2.2.2.1;have A:Hid (w.heap.size<=gq+1∧gr<gq):=by show _∧_; have h1:=j.o.2.2.2.2; have h2:=Y.o; omega
   have L:=j.o.2.2.1.c2;obtain⟨d0,d1,d2,z,F,d5,H,G,d8,-⟩:=c.o; have dz:=c.o.fz;simp only at L d0 d1 d2 z F d5 H G d8;go_wp2_with fail;go_ret2;rw[O.o];exact⟨rfl,_,RTo.same C.o.doc C.o.ok B.o⟩
theorem oV(s:ByteArray)(v:Int)(w:World)(hs:s.size<=10000)(h:Lib.atoiAll s.data.toList=.ok v):Calls prog 253 #[.string s,.i_ 10,.i_ 64] w fun e w'=>e=.returned (.tuple #[.int .i64 v,.nilIface])∧Below w.heap.size w w':=by
 refine (strconv_ParseInt_10_at64_ok s (by omega) v (by rw[Lib.parseIntB_64]; exact h) w).mono ?_
 rintro e w' ⟨rfl,rfl | ⟨t,rfl⟩⟩
 ·exact⟨rfl,E9 _ _⟩
 ·exact⟨rfl,Joins.below_bytesWorld _ _ _ _ (Fa _)⟩
theorem AY(s:ByteArray)(w:World)(hs:s.size<=10000)(hL:av w)(h:∀v,Lib.atoiAll s.data.toList≠.ok v):Calls prog 253 #[.string s,.i_ 10,.i_ 64] w fun e w'=>∃v te pe,e=.returned (.tuple #[.int .i64 v,.iface te pe])∧Below w.heap.size w w':=by
 cases hc:Lib.atoiAll s.data.toList with
 |ok v=>exact absurd hc (h v)
 |range=>
  obtain⟨ev,h1,h2⟩:=hL.rng;refine (strconv_ParseInt_10_at64_range s (by omega) (by rw[Lib.parseIntB_64]; exact hc) ev w h1 h2).mono ?_
  rintro e w' ⟨N,rfl,_,_,hb⟩;exact⟨_,_,_,rfl,hb⟩
 |_=>
  obtain⟨ev,h1,h2⟩:=hL.syn;refine (strconv_ParseInt_10_at64_syntax s (by omega) (by rw[Lib.parseIntB_64]; exact hc) ev w h1 h2).mono ?_
  rintro e w' ⟨N,rfl,_,_,hb⟩;exact⟨_,_,_,rfl,hb⟩
theorem tc(n:Int)(w:World)(h0:-9223372036854775808<=n)(h1:n<=9223372036854775807)(hL:av w):Calls prog 254 #[.i_ n,.i_ 10] w fun e w'=>e=.returned (.string ⟨(Lib.itoa n).toArray⟩)∧Below w.heap.size w w':=by
 refine (strconv_FormatInt_10 n h0 h1 w hL.base.pow).mono ?_;rintro e w' ⟨rfl,k,os,rfl⟩;exact⟨rfl,ib w k os⟩
theorem uY(s:ByteArray)(v:Int)(w:World)(hs:s.size<=10000)(hL:av w)(h:numW s.data.toList=some v):Calls prog 158 #[.string s] w fun e w'=>e=.returned (.tuple #[.int .i64 v,.bool true])∧Below w.heap.size w w':=by
 obtain⟨h1,h2⟩:=iR h;obtain⟨b1,b2⟩:=Lib.atoiAll_bounds h1;have g:J _:=oV s v w hs h1;have f:=fun (W:World) (hW:av W)=>tc v W b1 b2 hW;rw[show (⟨(Lib.itoa v).toArray⟩:ByteArray)=s from by rw[h2]] at f
 have j:J _:=hL;have k:IntKind.i64.wrap v=v:=by rw[IntKind.wrap_i64]; omega
 clear h h1 h2 b1 b2 hs hL;go_enter func158,ntmps158
 go_wp2_with fail;refine Calls.mono g.o ?_;rintro e1 w1 ⟨rfl,hb1⟩;have b:J _:=hb1;clear hb1;go_wp2_with fail;refine (f _ (j.o.below b.o rfl)).mono ?_;rintro e2 w2 ⟨rfl,hb2⟩;have c:J _:=b.o.tm hb2;clear hb2;go_wp2_with fail;go_ret2;exact⟨rfl,c.o⟩
theorem yc(s:ByteArray)(w:World)(hs:s.size<=10000)(hL:av w)(h:numW s.data.toList=none):Calls prog 158 #[.string s] w fun e w'=>e=.returned (.tuple #[.int .i64 0,.bool false])∧Below w.heap.size w w':=by
 rcases oD h with h1 | ⟨v,h1,h2⟩
 ·have c:J _:=AY s w hs hL h1
  clear h h1 hs hL;go_enter func158,ntmps158
  go_wp2_with fail;refine Calls.mono c.o ?_;rintro e1 w1 ⟨v,te,pe,rfl,hb1⟩;have b:J _:=hb1;clear hb1;go_wp2_with fail;go_ret2;exact⟨rfl,b.o⟩
 ·obtain⟨b1,b2⟩:=Lib.atoiAll_bounds h1
  have c:J _:=oV s v w hs h1;have g:=fun (W:World) (hW:av W)=>tc v W b1 b2 hW;have j:J _:=hL
  have k:(((⟨(Lib.itoa v).toArray⟩:ByteArray)).toList == s.toList)=false:=by
   rw[ByteArray.toList_eq,ByteArray.toList_eq];simpa using h2
  generalize (⟨(Lib.itoa v).toArray⟩:ByteArray)=u at *;clear h h1 h2 b1 b2 hs hL;go_enter func158,ntmps158
  go_wp2_with fail;refine Calls.mono c.o ?_;rintro e1 w1 ⟨rfl,hb1⟩;have b:J _:=hb1;clear hb1;go_wp2_with fail;refine (g _ (j.o.below b.o rfl)).mono ?_;rintro e2 w2 ⟨rfl,hb2⟩;have f:J _:=b.o.tm hb2;clear hb2;go_wp2_with fail;go_ret2;exact⟨rfl,f.o⟩
def famH(f:Fam):List UInt8:=told [f.id] ++ [32] ++ f.client.data.toList ++ [32] ++ f.subject.data.toList ++ [32] ++ wordL f.scope.data.toList ++ [32] ++ told [f.gen,f.made,f.used] ++ [32] ++ wordL f.request.data.toList
theorem Dx(f:Fam):famL f=famH f ++ (if f.dead=true then [32,100,101,97,100] else []):=by
 unfold famL famH told
 cases f.dead <;> simp[bV,Lib.join_one]
theorem AZ(f:Fam):(⟨(told [f.id]).toArray⟩:ByteArray) ++ ⟨#[32]⟩ ++ f.client ++ ⟨#[32]⟩ ++ f.subject ++ ⟨#[32]⟩ ++ ⟨(wordL f.scope.data.toList).toArray⟩ ++ ⟨#[32]⟩ ++ ⟨(told [f.gen,f.made,f.used]).toArray⟩ ++ ⟨#[32]⟩ ++ ⟨(wordL f.request.data.toList).toArray⟩=⟨(famH f).toArray⟩:=by
 unfold famH;exact aK (by simp)
theorem oW(f:Fam)(w:World)(h1:okN f.id)(h3:okN f.gen∧okN f.made∧okN f.used)(hs:Small 5000 f)(hL:bv w):Calls prog 160 #[ap f] w fun r w'=>r=.returned (.string ⟨(famL f).toArray⟩)∧Below w.heap.size w w':=by
 have b:∀n∈ [f.id],okN n:=by simpa using h1
 have c:∀n∈ [f.gen,f.made,f.used],okN n:=by simpa using h3
 have j:=fun (g:Nat) (W:World) (hr:gR W g [f.id]) (hL:bv W)=>pz [f.id] g 1 W (by simp) b hr hL
 have k:=fun (g:Nat) (W:World) (hr:gR W g [f.gen,f.made,f.used]) (hL:bv W)=>pz [f.gen,f.made,f.used] g 3 W (by simp) c hr hL
 have q:=jH [f.id] b;have s:=jH [f.gen,f.made,f.used] c;have G:Hid _:=AZ f;rw[Dx]
 have z:(famH f).length<=30000:=by
  have t:=iJ f.scope.data.toList;have v:=iJ f.request.data.toList;have A:=hs.1;have B:=hs.2.1;have C:=hs.2.2.1;have D:=hs.2.2.2;have J:f.client.data.toList.length=f.client.size:=Fg;have L:f.subject.data.toList.length=f.subject.size:=Fg;have E:f.scope.data.toList.length=f.scope.size:=Fg;have F:f.request.data.toList.length=f.request.size:=Fg;simp only[List.length_cons,List.length_nil] at q s;simp only[famH,List.length_append,List.length_cons,List.length_nil,J,L];omega
 generalize famH f=BODY at *;have nB:¬ 9223372036854775807<BODY.length+5:=by omega
 clear z;clear b c h1 h3;have H:Hid _:=hL;clear hL;have m:=fun (W:World)=>jk f.scope W;have o:=fun (W:World)=>jk f.request W;have t:=iJ f.scope.data.toList;have v:=iJ f.request.data.toList;obtain⟨f1,f2,f3,f4,f5,f6,f7,f8,f9⟩:=f;obtain⟨A,B,C,D⟩:=hs;simp only at j k q s m o t v A B C D G ⊢;have E:f4.data.toList.length=f4.size:=Fg;have F:f8.data.toList.length=f8.size:=Fg;rw[E] at t;rw[F] at v;clear E F;generalize told [f1]=T1 at *;generalize told [f5,f6,f7]=T3 at *;generalize wordL f4.data.toList=W4 at *;generalize wordL f8.data.toList=W8 at *;simp only[List.length_cons,List.length_nil] at q s;have n1:¬ 9223372036854775807<T1.length+1:=by omega
 have n2:¬ 9223372036854775807<T1.length+1+f2.size:=by omega
 have n3:¬ 9223372036854775807<T1.length+1+f2.size+1:=by omega
 have n4:¬ 9223372036854775807<T1.length+1+f2.size+1+f3.size:=by omega
 have n5:¬ 9223372036854775807<T1.length+1+f2.size+1+f3.size+1:=by omega
 have n6:¬ 9223372036854775807<T1.length+1+f2.size+1+f3.size+1+W4.length:=by omega
 have n7:¬ 9223372036854775807<T1.length+1+f2.size+1+f3.size+1+W4.length+1:=by omega
 have n8:¬ 9223372036854775807<T1.length+1+f2.size+1+f3.size+1+W4.length+1+T3.length:=by omega
 have n9:¬ 9223372036854775807<T1.length+1+f2.size+1+f3.size+1+W4.length+1+T3.length+1:=by omega
 have M:¬ 9223372036854775807<T1.length+1+f2.size+1+f3.size+1+W4.length+1+T3.length+1+W8.length:=by omega
 clear q s t v A B C D;unfold ap ac;simp only;go_enter func160,ntmps160
 go_upto_region 1 with fail;have p:WS w w.heap.size ⟨f1,f2,f3,f4,f5,f6,f7,f8,f9⟩ (w.alloc (.cells (F_ f1 f2 f3 f4 f5 f6 f7 f8 f9) 40)):=
  ⟨H.o.below (bA _ _),eU _ ⟨f1,f2,f3,f4,f5,f6,f7,f8,f9⟩ _ _ rfl,by simp,bA _ _⟩
 have HZ:Hid (Below w.heap.size w w):=E9 _ _;clear H;generalize hg:w.heap.size=g at *;generalize w.alloc _=W at *
 go_region_held3 (fun w'=>(w'.cell? (a_ g 0)=some (.i_ f1)∧w'.cell? (a_ g 1)=some (.string f2)∧w'.cell? (a_ g 2)=some (.string f3)∧w'.cell? (a_ g 3)=some (.string f4)∧w'.cell? (a_ g 4)=some (.i_ f5)∧w'.cell? (a_ g 5)=some (.i_ f6)∧w'.cell? (a_ g 6)=some (.i_ f7)∧w'.cell? (a_ g 7)=some (.string f8)∧w'.cell? (a_ g 8)=some (.bool f9)∧WS w g ⟨f1,f2,f3,f4,f5,f6,f7,f8,f9⟩ w')) (first | assumption | exact vy p | exact ly (by assumption) (by assumption) | exact ly (by assumption) (bA _ _))
  (first
   |(go_at_call_of 104 (3:Nat); refine (k _ _ ?_ (iM (by assumption))).mono ?_; (repeat (first | exact DL _ f5 f6 f7 _ _ (by first | rfl | simp) | refine gR.alloc ?_ _ | refine gR.on ?_ (by assumption))); rintro e w' ⟨rfl,hb⟩)
   |(go_at_call 104; refine (j _ _ ?_ (iM (by assumption))).mono ?_; (repeat (first | exact CM _ f1 _ _ (by first | rfl | simp) | refine gR.alloc ?_ _ | refine gR.on ?_ (by assumption))); rintro e w' ⟨rfl,hb⟩)
   |(go_at_call_of 162 (Value.string f4); refine (m _).mono ?_; rintro e w' ⟨rfl,rfl⟩)
   |(go_at_call_of 162 (Value.string f8); refine (o _).mono ?_; rintro e w' ⟨rfl,rfl⟩))
 all_goals (
  rename_i hS
  have I:Hid _:=hS.2.2.2.2.2.2.2.2.2.below;have hd:=hS.2.2.2.2.2.2.2.2.1;clear hS p;rw[G.o]
  cases f9
  ·go_wp2_with fail
   go_ret;exact⟨by simp,hg ▸ I.o⟩
  ·go_wp2_with fail
   go_ret;refine⟨?_,hg ▸ I.o⟩;show Ending.returned (.string ((⟨BODY.toArray⟩:ByteArray) ++ ⟨#[32,100,101,97,100]⟩))=_
   rw[show (⟨BODY.toArray⟩:ByteArray) ++ ⟨#[32,100,101,97,100]⟩=⟨(BODY ++ [32,100,101,97,100]).toArray⟩ from aK (by simp)])
structure fK (w:World) (g o:Nat) (xs:List ByteArray):Prop where
 holds:∀j x,xs[j]?=some x->w.cell? ⟨g,o+j,none⟩=some (.string x)
 lt:xs≠ []->g<w.heap.size
variable {w w':World}
theorem fK.on{g o:Nat}{xs:List ByteArray}(h:fK w g o xs)(hb:Below w.heap.size w w'):fK w' g o xs:=
 ⟨fun j x hj=>(hb.cell (p:=(a_ g (o+j))) (h.lt (by rintro rfl; simp at hj))).trans (h.holds j x hj),fun hn=>Nat.lt_of_lt_of_le (h.lt hn) hb.size⟩
theorem jv(b g o c:Nat)(xs:List ByteArray)(k:Nat)(x:ByteArray)(w:World)(hx:xs[k]?=some x)(hc:w.cell? ⟨b,0,none⟩=some (.slice (some ⟨g,o,none⟩) xs.length c))(h:fK w g o xs):
 Calls prog 159 #[.i_ k,p_ b 0] w fun e w'=>e=.returned (.string (Ev.bs (aG x.data.toList)))∧w'=w:=by
 have hk:k<xs.length:=(List.getElem?_eq_some_iff.1 hx).1;have n:(k:Int)<(xs.length:Int):=by omega
 have j:=h.holds k x hx;have f:Ev.bs x.data.toList=x:=by simp[Ev.bs]
 by_cases he:x.data.toList= [95]
 ·have p:(x.toList == [95])=true:=by rw[ByteArray.toList_eq,he]; rfl
  have m:aG x.data.toList= []:=if_pos he;rw[m];clear f h hx;go_enter func159,ntmps159
  go_wp2_with fail;go_ret;exact⟨rfl,rfl⟩
 ·have p:(x.toList == [95])=false:=by rw[ByteArray.toList_eq]; simpa using he
  have m:aG x.data.toList=x.data.toList:=if_neg he;rw[m,f];clear f h hx;go_enter func159,ntmps159
  go_wp2_with fail;go_ret;exact⟨rfl,rfl⟩
open Go.Maps Go.WideMaps
def dW(fs:List Bool):List UInt8:=fs.map fun b=>if b=true then 110 else 119
def qo(c:List UInt8):Option Value:=(formOf c).map fun fs=>.string (Ev.bs (dW fs))
structure bo (w:World) (gm:Nat):Prop where
 cell:w.cell? ⟨1,0,none⟩=some (.map (some gm))
 map:dr kh prog 9 9 w gm 100 qo
variable {B gm:Nat}
theorem bo.below(h:bo w gm)(hb:Below B w w')(h1:1<B)(h2:gm<B):bo w' gm:=
 ⟨(hb.cell (p:=(a_ 1 0)) h1).trans h.cell,h.map.block (hb.block gm h2)⟩
theorem bo.on(h:bo w gm)(hb:Below w.heap.size w w'):bo w' gm:=h.below hb (Fc _ _ h.cell) h.map.lt
theorem Dy(w:World):(zeroValue 9).run prog w=.ok (.string ByteArray.empty) w:=by kernel_rfl
theorem bo.look(h:bo w gm)(c:List UInt8)(hc:c.length<=100000):
 (Instr.lookup 94 (.map (some gm)) (.string (Ev.bs c)) true).run prog w=.ok (.tuple #[.string (Ev.bs (((formOf c).map dW).getD [])),.bool (formOf c).isSome]) w:=by
 have b:keyOf prog 9 (.string (Ev.bs c))=some (kh c):=(keyOf_string_mk underlying9 (by rw[aT]; unfold maxLen; omega)).trans (by simp[Ev.bs,kh])
 rw[h.map.look_ok (string_keyed underlying9) underlying94 (Dy w) (plainElem_string underlying9 (by decide)) b]
 unfold qo
 cases formOf c <;> rfl
variable {fs:List Bool}
theorem A0{j:Nat}{b:Bool}(h:fs[j]?=some b):(dW fs)[j]?=some (if b=true then 110 else 119):=by
 unfold dW;rw[List.getElem?_map,h];rfl
theorem oX(fs:List Bool):(dW fs).length=fs.length:=by simp[dW]
theorem jw{c:Word}(h:formOf c=some fs):c∈aC∧fs.length<=4∧c.length<=8:=by
 have b:c∈aC:=Classical.byContradiction fun hn=>by
  rw[kt hn] at h
  cases h
 have g:∀c∈aC,((formOf c).getD []).length<=4∧c.length<=8:=by decide
 have f:=g c b;rw[h] at f;exact⟨b,f⟩
theorem jx{b : Bool}{x : Word}: ∀ {fs : List Bool} {xs : List Word}, fs.length = xs.length -> numsW (fs ++ [b]) (xs ++ [x]) = match numsW fs xs with
    | some l => if b = true then (numW x).map (l ++ [·]) else some l
    | none => none
  | [], [], _ => by cases b <;> simp[numsW]; cases numW x <;> rfl
  | false :: fs, y :: ys, h => by
    simp only[List.cons_append, numsW]
    exact jx (by simpa using h)
  | true :: fs, y :: ys, h => by
    simp only[List.cons_append, numsW]
    cases numW y with
    | none => rfl
    | some n =>
      simp only
      rw[jx (by simpa using h)]
      cases numsW fs ys with
      | none => rfl
      | some l => cases b <;> simp; cases numW x <;> rfl
  | [], _ :: _, h => by simp at h
  | _ :: _, [], h => by simp at h
variable {xs:List Word}
theorem jy(h:fs.length≠xs.length):numsW fs xs=none:=by
 induction fs generalizing xs with
 |nil=>cases xs with
  |nil=>simp at h
  |cons x xs=>rfl
 |cons b fs ih=>cases xs with
  |nil=>cases b <;> rfl
  |cons x xs=>
   have:=ih (xs:=xs) (by simpa using h)
   cases b <;> simp only[numsW,this]
   cases numW x <;> rfl
theorem uZ{gs:List Bool}{ys:List Word}(hl:fs.length=xs.length)(h:numsW fs xs=none):numsW (fs ++ gs) (xs ++ ys)=none:=by
 induction fs generalizing xs with
 |nil=>cases xs with
  |nil=>simp[numsW] at h
  |cons x xs=>simp at hl
 |cons b fs ih=>cases xs with
  |nil=>simp at hl
  |cons x xs=>
   cases b with
   |false=>exact ih (by simpa using hl) h
   |true=>
    simp only[List.cons_append,numsW] at h ⊢
    cases hx:numW x with
    |none=>rfl
    |some n=>
     rw[hx] at h;simp only at h ⊢
     have c:numsW fs xs=none:=by
      cases hq:numsW fs xs with
      |none=>rfl
      |some l=>rw[hq] at h; simp at h
     rw[ih (by simpa using hl) c]
     rfl
structure Ho (B N:Nat) (w:World) (gh gx gr:Nat) (d:Dk) (v:Value):Prop where
 rv:co N w gx gr d.r d.p v
 c0:w.cell? ⟨gh,0,none⟩=some (.pointer (some ⟨gx,0,none⟩))
 f0:w.frozen? ⟨gh,0,none⟩=false
 nx:gh≠gx
 nr:gh≠gr
 out:az v gh
 bh:B<=gh
 br:B<=gr
 ob:bE B
theorem Ho.lt{N:Nat}{gh gx gr:Nat}{d:Dk}{v:Value}(h:Ho B N w gh gx gr d v):gh<w.heap.size:=Fc _ _ h.c0
theorem Ho.on{B N:Nat}{w w':World}{gh gx gr:Nat}{d:Dk}{v:Value}(h:Ho B N w gh gx gr d v)(hb:Below w.heap.size w w'):Ho B N w' gh gx gr d v:=
 ⟨h.rv.on hb,(hb.cell (p:=(a_ gh 0)) h.lt).trans h.c0,(hb.frozen (p:=(a_ gh 0)) h.lt).trans h.f0,h.nx,h.nr,h.out,h.bh,h.br,h.ob⟩
theorem Ho.mono{B N M:Nat}{w:World}{gh gx gr:Nat}{d:Dk}{v:Value}(h:Ho B N w gh gx gr d v)(hm:N<=M):Ho B M w gh gx gr d v:=
 ⟨h.rv.mono hm,h.c0,h.f0,h.nx,h.nr,h.out,h.bh,h.br,h.ob⟩
theorem Ho.to{B N:Nat}{w w':World}{gh gx gr:Nat}{r:Rul}{p q:Pub}{v v':Value}(h:Ho B N w gh gx gr ⟨r,p⟩ v)(ht:RTo N gr v w w' q v'):Ho B (N+22) w' gh gx gr ⟨r,q⟩ v'∧Below B w w':=by
 have b:=h.lt;have c:gh∉ [gr]:=by have:=h.nr; simp; omega
 exact⟨⟨h.rv.to ht,(ht.keep.cell (p:=(a_ gh 0)) b c).trans h.c0,(ht.keep.frozen (p:=(a_ gh 0)) b c).trans h.f0,h.nx,h.nr,ht.notIn h.out b,h.bh,h.br,h.ob⟩,ht.keep.below (by have:=h.bh; omega) (fun x hx=>by simp at hx; have:=h.br; omega)⟩
def Cz(r:Rul):Bool:=okB r.key && okB r.idle && okB r.life && okB r.access
theorem td(w:World)(k i l a:Int):Calls prog 24 #[.agg #[.i_ k,.i_ i,.i_ l,.i_ a]] w fun e w'=>e=.returned (.bool (Cz ⟨k,i,l,a⟩))∧Below w.heap.size w w':=by
 have b:J _:=bA w (.cells (Q_ k i l a) 54);unfold Cz;simp only
 cases h0:okB k with
 |false=>
  go_enter func24,ntmps24
  go_wp2_with fail;refine (dM k _).mono ?_;rintro e1 w1 ⟨he,rfl⟩;rw[h0] at he;subst he;go_wp2_with fail;go_ret;exact⟨by simp[*],b.o⟩
 |true=>
  cases h1:okB i with
  |false=>
   go_enter func24,ntmps24
   go_wp2_with fail;refine (dM k _).mono ?_;rintro e1 w1 ⟨he,rfl⟩;rw[h0] at he;subst he;go_wp2_with fail;refine (dM i _).mono ?_;rintro e1 w1 ⟨he,rfl⟩;rw[h1] at he;subst he;go_wp2_with fail;go_ret;exact⟨by simp[*],b.o⟩
  |true=>
   cases h2:okB l with
   |false=>
    go_enter func24,ntmps24
    go_wp2_with fail;refine (dM k _).mono ?_;rintro e1 w1 ⟨he,rfl⟩;rw[h0] at he;subst he;go_wp2_with fail;refine (dM i _).mono ?_;rintro e1 w1 ⟨he,rfl⟩;rw[h1] at he;subst he;go_wp2_with fail;refine (dM l _).mono ?_;rintro e1 w1 ⟨he,rfl⟩;rw[h2] at he;subst he;go_wp2_with fail;go_ret;exact⟨by simp[*],b.o⟩
   |true=>
    cases h3:okB a with
    |false=>
     go_enter func24,ntmps24
     go_wp2_with fail;refine (dM k _).mono ?_;rintro e1 w1 ⟨he,rfl⟩;rw[h0] at he;subst he;go_wp2_with fail;refine (dM i _).mono ?_;rintro e1 w1 ⟨he,rfl⟩;rw[h1] at he;subst he;go_wp2_with fail;refine (dM l _).mono ?_;rintro e1 w1 ⟨he,rfl⟩;rw[h2] at he;subst he;go_wp2_with fail;refine (dM a _).mono ?_;rintro e1 w1 ⟨he,rfl⟩;rw[h3] at he;subst he;go_wp2_with fail;go_ret;exact⟨by simp[*],b.o⟩
    |true=>
     go_enter func24,ntmps24
     go_wp2_with fail;refine (dM k _).mono ?_;rintro e1 w1 ⟨he,rfl⟩;rw[h0] at he;subst he;go_wp2_with fail;refine (dM i _).mono ?_;rintro e1 w1 ⟨he,rfl⟩;rw[h1] at he;subst he;go_wp2_with fail;refine (dM l _).mono ?_;rintro e1 w1 ⟨he,rfl⟩;rw[h2] at he;subst he;go_wp2_with fail;refine (dM a _).mono ?_;rintro e1 w1 ⟨he,rfl⟩;rw[h3] at he;subst he;go_wp2_with fail;go_ret;exact⟨by simp,b.o⟩
end Go.Proofs.YtlailakofhenkabGreatDoor
