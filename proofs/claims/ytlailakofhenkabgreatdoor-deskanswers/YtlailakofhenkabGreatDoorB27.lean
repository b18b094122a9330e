import Derived.Test.YtlailakofhenkabGreatDoorB26
set_option maxRecDepth 100000
set_option maxHeartbeats 16000000
namespace Go.Proofs.YtlailakofhenkabGreatDoor
open Go Go.RowKit Tok Sc Ev Tryz RegD
attribute [local go_sem] rA oA
theorem At(N:Nat)(w:World)(gk gd gs gv gm gn nt ct:Nat)(bt:Option Addr)(nn cn:Nat)(r:Rul)(p q:Pub)(v:Value)(k:Int)(n:Nat)(h:DkI N w gk gd gs gv gm r p v)(h0:w.cell? ⟨gn,0,none⟩=some (.int .i64 k))(hgt:gn≠gd∧gn≠gs)(hn:0<nn)(HC:∀W,be N W gv gs gd r p v->Calls prog 35 #[p_ gv 0,.i_ k] W fun e w'=>e=.returned (aB n)∧∃v',aD N gs gd v W w' q v'):
 Calls prog 233 #[p_ gk 0,.agg #[.slice bt nt ct,.slice (o_ gn 0) nn cn]] w fun e w'=>e=fY ⟨#[107,105,108,108]⟩ n∧∃v',aD N gs gd v w w' q v':=by
 have f:=bA w (.cells #[.slice bt nt ct,.slice (o_ gn 0) nn cn] 256);have C:J _:=f;have D:J _:=AgB.made w bt (o_ gn 0) nt ct nn cn 256;have z:J _:=h.on f;have j:J _:=HC;have m:J _:=(f.cell (p:=(a_ gn 0)) (Fc _ _ h0)).trans h0;have E:(0:Int)<(nn:Int):=by omega
 have F:¬ nn=0:=by omega
 have b:J (w.heap.size≠gd∧w.heap.size≠gs∧gk≠gd∧gk≠gs∧gn≠gd∧gn≠gs):=by
  have h8:=h.sv.sp.ord;have h9:=h.sv.sp.lt;exact⟨by omega,by omega,h.ne.1,h.ne.2.1,hgt.1,hgt.2⟩
 go_enter func233,ntmps233
 go_upto_region 1 with fail;generalize hW:(w.alloc _)=W at *;generalize hg:w.heap.size=g at *;have G:J _:=hg;refine region_ (fun V=>AgB V g bt (o_ gn 0) nt ct nn cn∧DAt V gk gd gs gv gm r∧V.c_ gn 0=some (.i_ k)) 9 ⟨D.o.on (E9 _ _).drew,z.o.box.on (E9 _ _).drew,m.o⟩ fun hH=>?_;refine an [(0,p_ gk 0),(1,p_ gk 0),(2,p_ gk 2),(3,p_ gv 0),(4,p_ g 1),(5,.slice (o_ gn 0) nn cn),(6,p_ gn 0),(7,.i_ k)] hH (fun W hW=>by have A:=hW.2.1.c2; have A:=hW.1.c1; have A:=hW.2.2;go_simp) ?_;simp only[pA,oA,Act.put,pS1]
 refine one_ 8 ?_; intro K hK; go_simp;go_at_call 35;refine (j.o _ (z.o.sv.on (E9 _ _).drew)).mono ?_;rintro e1 w1 ⟨rfl,v1,hto⟩;have o:J _:=aD.pre (E9 _ _).drew hto;go_wp2_with fail;refine hK.out _ _ (⟨hH.1.keep hto.keep (by have:=b.o; simp; omega),hH.2.1.keep hto.keep (by have:=b.o; simp; omega),(hto.keep.cell (p:=(a_ gn 0)) (Fc _ _ hH.2.2) (by have:=b.o; simp; omega)).trans hH.2.2⟩) ?_
 intro hH
 have c:J (aD N gs gd v w w1 q v1):=by
  have B:=C.o;rw[<- G.o] at B;exact aD.pre B o.o
 have s:J _:=c.o.prog.err
 cases n with
 |zero=>
  refine late_ 9 ?_; intro K hK; go_simp;go_at_call 294;refine (ex _).mono ?_;rintro e2 w2 ⟨rfl,rfl⟩;go_wp2_with fail;refine hK.out _ _ ?_;refine done_ ?_;go_wp2_with fail;go_ret;exact⟨rfl,v1,c.o⟩
 |succ n=>
  refine late_ 9 ?_; intro K hK; go_simp;go_at_call 294;refine (fh n _ s.o).mono ?_;rintro e2 w2 ⟨rfl,hb2⟩;have t:J _:=c.o.post hb2;unfold aM;go_wp2_with fail;exact⟨rfl,rfl,v1,t.o⟩
theorem Au(N:Nat)(w:World)(gk gd gs gv gm gn nt ct:Nat)(bt:Option Addr)(nn cn:Nat)(r:Rul)(p q:Pub)(v:Value)(k:Int)(n:Nat)(h:DkI N w gk gd gs gv gm r p v)(h0:w.cell? ⟨gn,0,none⟩=some (.int .i64 k))(hgt:gn≠gd∧gn≠gs)(hn:0<nn)(HC:∀W,be N W gv gs gd r p v->Calls prog 37 #[p_ gv 0,.i_ k] W fun e w'=>e=.returned (aB n)∧∃v',aD N gs gd v W w' q v'):
 Calls prog 236 #[p_ gk 0,.agg #[.slice bt nt ct,.slice (o_ gn 0) nn cn]] w fun e w'=>e=fY ⟨(Lib.itoa q.st.clock).toArray⟩ n∧∃v',aD N gs gd v w w' q v':=by
 have o:=bA w (.cells #[.slice bt nt ct,.slice (o_ gn 0) nn cn] 256);have I:Hid _:=o;have J:Hid _:=AgB.made w bt (o_ gn 0) nt ct nn cn 256;have F:Hid _:=h.on o;have s:Hid _:=HC;have t:Hid _:=h.sv;have z:Hid _:=(o.cell (p:=(a_ gn 0)) (Fc _ _ h0)).trans h0;have L:(0:Int)<(nn:Int):=by omega
 have M:¬ nn=0:=by omega
 have c:Hid (w.heap.size≠gd∧w.heap.size≠gs∧gk≠gd∧gk≠gs∧gn≠gd∧gn≠gs):=by
  have h8:=h.sv.sp.ord;have h9:=h.sv.sp.lt;exact⟨by omega,by omega,h.ne.1,h.ne.2.1,hgt.1,hgt.2⟩
 go_enter func236,ntmps236
 go_upto_region 1 with fail;generalize hW:(w.alloc _)=W at *;generalize hg:w.heap.size=g at *;have O:Hid _:=hg;refine region_ (fun V=>AgB V g bt (o_ gn 0) nt ct nn cn∧DAt V gk gd gs gv gm r∧V.c_ gn 0=some (.i_ k)) 9 ⟨J.o.on (E9 _ _).drew,F.o.box.on (E9 _ _).drew,z.o⟩ fun hH=>?_;refine an [(0,p_ gk 0),(1,p_ gk 0),(2,p_ gk 2),(3,p_ gv 0),(4,p_ g 1),(5,.slice (o_ gn 0) nn cn),(6,p_ gn 0),(7,.i_ k)] hH (fun W hW=>by have G:=hW.2.1.c2; have G:=hW.1.c1; have G:=hW.2.2;go_simp) ?_;simp only[pA,oA,Act.put,pS1]
 refine one_ 8 ?_; intro K hK; go_simp;go_at_call 37;refine (s.o _ (F.o.sv.on (E9 _ _).drew)).mono ?_;rintro e1 w1 ⟨rfl,v1,hto⟩;have A:Hid _:=aD.pre (E9 _ _).drew hto;go_wp2_with fail;refine hK.out _ _ (⟨hH.1.keep hto.keep (by have:=c.o; simp; omega),hH.2.1.keep hto.keep (by have:=c.o; simp; omega),(hto.keep.cell (p:=(a_ gn 0)) (Fc _ _ hH.2.2) (by have:=c.o; simp; omega)).trans hH.2.2⟩) ?_
 intro hH
 have b:Hid (aD N gs gd v w w1 q v1):=by
  have H:=I.o;rw[<- O.o] at H;exact aD.pre H A.o
 have B:Hid _:=b.o.prog.err;have f:Hid _:=t.o.to b.o;have a9:=hH.2.1.c2
 cases n with
 |zero=>
  refine late_ 9 ?_; intro K hK; go_simp;go_at_call 294;refine (ex _).mono ?_;rintro e2 w2 ⟨rfl,rfl⟩;go_wp2_with fail;refine hK.out _ _ ?_;refine done_ ?_;go_wp2_with fail;go_at_call 43;refine (bc (N+22) _ gv gs gd r q v1 f.o).mono ?_;rintro e3 w3 ⟨v3,rfl,hf3,hb3⟩;have j:Hid _:=hb3;obtain⟨b3,c3,rfl⟩:=ag.slice hf3;have R:∀W:World,(Instr.field 36 (.agg (S_ q.st.clock q.st.next b3 q.st.fams.length c3)) 0).run prog W=.ok (.i_ q.st.clock) W:=fun _=>by kernel_rfl
  have C:Hid _:=f.o.libs.on j.o;have m:Hid _:=f.o.sp.ok.good.clock;unfold stV;go_wp2_with fail;go_at_call 57;refine (cQ q.st.clock _ (by have:=m.o; unfold okN at this; omega) (by have:=m.o; unfold okN at this; omega) C.o).mono ?_
  rintro e4 w4 ⟨rfl,hb4⟩;have D:Hid _:=hb4;go_wp2_with fail;go_ret;exact⟨rfl,v1,(b.o.post j.o).post D.o⟩
 |succ n=>
  refine late_ 9 ?_; intro K hK; go_simp;go_at_call 294;refine (fh n _ B.o).mono ?_;rintro e2 w2 ⟨rfl,hb2⟩;have E:Hid _:=b.o.post hb2;unfold aM;go_wp2_with fail;exact⟨rfl,rfl,v1,E.o⟩
theorem Ce(N:Nat)(w:World)(gk gd gs gv gm gn nt ct:Nat)(bt:Option Addr)(nn cn:Nat)(r:Rul)(p q:Pub)(v:Value)(k:Int)(h:DkI N w gk gd gs gv gm r p v)(h0:w.cell? ⟨gn,0,none⟩=some (.int .i64 k))(hn:0<nn)(HC:∀W,be N W gv gs gd r p v->Calls prog 15 #[p_ gd 0,.i_ k] W fun e w'=>e=.returned (.tuple #[])∧∃v',aD N gs gd v W w' q v'):
 Calls prog 235 #[p_ gk 0,.agg #[.slice bt nt ct,.slice (o_ gn 0) nn cn]] w fun e w'=>e=.returned (.string ⟨#[99,117,116]⟩)∧∃v',aD N gs gd v w w' q v':=by
 have b:=bA w (.cells #[.slice bt nt ct,.slice (o_ gn 0) nn cn] 256);have s:J _:=b;have t:J _:=AgB.made w bt (o_ gn 0) nt ct nn cn 256;have m:J _:=h.on b;have c:J _:=HC;have f:J _:=(b.cell (p:=(a_ gn 0)) (Fc _ _ h0)).trans h0;have z:(0:Int)<(nn:Int):=by omega
 have A:¬ nn=0:=by omega
 go_enter func235,ntmps235
 go_upto_region 1 with fail;generalize hW:(w.alloc _)=W at *;generalize hg:w.heap.size=g at *;have B:J _:=hg;refine region_ (fun V=>AgB V g bt (o_ gn 0) nt ct nn cn∧DAt V gk gd gs gv gm r∧V.c_ gn 0=some (.i_ k)) 8 ⟨t.o.on (E9 _ _).drew,m.o.box.on (E9 _ _).drew,f.o⟩ fun hH=>?_;refine an [(0,p_ gk 0),(1,p_ gk 0),(2,p_ gk 0),(3,p_ gd 0),(4,p_ g 1),(5,.slice (o_ gn 0) nn cn),(6,p_ gn 0),(7,.i_ k)] hH (fun W hW=>by have n:=hW.2.1.c0; have n:=hW.1.c1; have n:=hW.2.2;go_simp) ?_;simp only[pA,oA,Act.put,pS1]
 refine late_ 8 ?_; intro K hK; go_simp;go_at_call 15;refine (c.o _ (m.o.sv.on (E9 _ _).drew)).mono ?_;rintro e1 w1 ⟨rfl,v1,hto⟩;have j:J _:=aD.pre (E9 _ _).drew hto;go_wp2_with fail;refine hK.out _ _ ?_;refine done_ ?_;go_wp2_with fail;go_ret;have o:=s.o;rw[<- B.o] at o;exact⟨rfl,v1,aD.pre o j.o⟩
variable {F N g gd gk gm gs gv:Nat}{W W' w w':World}{a i k n:Int}{l:List Nat}
theorem ay.keep{F:Int->ByteArray}{c:Bool}{le:Int}(h:ay w g F n c le)(hk:af l w w')(hn:g∉l)(hlt:g<w.heap.size):ay w' g F n c le:=
 ⟨fun j hj=>(hk.cell (p:=(a_ g j)) hlt hn).trans (h.blk j hj),(hk.cell (p:=(a_ g 90)) hlt hn).trans h.wr,(hk.cell (p:=(a_ g 91)) hlt hn).trans h.ct,(hk.cell (p:=(a_ g 92)) hlt hn).trans h.lf,fun j hj=>(hk.frozen (p:=(a_ g j)) hlt hn).trans (h.fz j hj)⟩
variable {p:Pub}{v:Value}
theorem SP.elsewhereB{B:Nat}(h:SP N w gs gd p v)(hk:af l w w')(hB:B<=w.heap.size)(ho:bE B)(hl:∀x∈l,B<=x∧x≠gd∧x≠gs∧az v x):SP N w' gs gd p v:=by
 obtain⟨A,sv,b,es,h1,h2,h3⟩:=h.run;obtain⟨F,l',d1,d2,d3⟩:=h3.disk;have k:Below B w w':=hk.below hB (fun x hx=>(hl x hx).1);have m:gs∉l:=fun hx=>(hl gs hx).2.2.1 rfl;have g:gd∉l:=fun hx=>(hl gd hx).2.1 rfl;have f:∀i,w'.cell? (a_ gs i)=w.c_ gs i:=fun i=>hk.cell (p:=(a_ gs i)) h3.store.lt m;have c:=h3.store;have j:aS w' gs gd p.dn sv p.lg p.st v:=⟨(f 0).trans c.p0,(f 1).trans c.p1,(f 2).trans c.p2,(f 3).trans c.p3,(f 4).trans c.p4,(f 5).trans c.p5,(f 6).trans c.p6,fun i=>(hk.frozen (p:=(a_ gs i)) c.lt m).trans (c.pf i),hk.rowsOut c.fam (fun x hx=>(hl x hx).2.2.2),Fd c.lt hk.size⟩;exact⟨h.ok,A,sv,b,es,h1,h2,⟨⟨F,l',d1.keep hk g h3.gdlt,d2,d3⟩,h3.libs.belowB k ho.toA,(k.cell (p:=(a_ 0 0)) ho.1.2.2).trans h3.err,j,h3.ord,h3.olds,h3.oldE,af.refl _ _,Fd c.lt hk.size⟩⟩
theorem be.elsewhereB{l:List Nat}{N B:Nat}{w w':World}{gv gs gd:Nat}{r:Rul}{p:Pub}{v:Value}(h:be N w gv gs gd r p v)(hk:af l w w')(hB:B<=w.heap.size)(ho:bE B)(hl:∀x∈l,B<=x∧x≠gd∧x≠gs∧x≠gv∧az v x):be N w' gv gs gd r p v:=
 ⟨h.sp.elsewhereB hk hB ho (fun x hx=>⟨(hl x hx).1,(hl x hx).2.1,(hl x hx).2.2.1,(hl x hx).2.2.2.2⟩),h.box.keep hk (fun hx=>(hl gv hx).2.2.2.1 rfl),h.libs.belowO (hk.below hB (fun x hx=>(hl x hx).1)) ho,h.rul,h.ord,h.out,h.old⟩
variable {r:Rul}
theorem DkI.laid{w3:World}{c:Nat->Value}(hsv:be N w3 gv gs gd r p v)(hb:Below w.heap.size w w3)(hk:af [gk] w3 w')(hgs:w.heap.size<=gs)(hx:Bx w' gk c)(h0:c 0=.pointer (some ⟨gd,0,none⟩))(h1:c 1=.pointer (some ⟨gs,0,none⟩))(h2:c 2=.pointer (some ⟨gv,0,none⟩))(h3:c 3=.int .i64 r.key)(h4:c 4=.int .i64 r.idle)(h5:c 5=.int .i64 r.life)(h6:c 6=.int .i64 r.access)(h7:c 7=.map (some gm))(ho:bE gk)(hkl:gk<w.heap.size)(hml:gm<w.heap.size)(hkd:gk≠gd)(hmd:gm≠gd):DkI N w' gk gd gs gv gm r p v:=by
 have g:=hsv.ord;have j:=hb.size;have b:=hsv.sp.fam;have f:az v gk:=az.above b (by omega)
 have k:az v gm:=az.above b (by omega)
 refine⟨hsv.elsewhereB hk (B:=gk) (by omega) ho (fun x hx=>?_),hx.dat h0 h1 h2 h3 h4 h5 h6 h7,⟨hkd,by omega,hmd,by omega⟩,⟨f,k⟩,?_⟩
 ·obtain rfl:x=gk:=by simpa using hx
  exact⟨Fa _,hkd,by omega,by omega,f⟩
 ·have:=hk.size
  omega
def dkC(gd gs gv gm:Nat)(r:Rul):Nat->Value
 |0=>.pointer (some ⟨gd,0,none⟩)
 |1=>.pointer (some ⟨gs,0,none⟩)
 |2=>.pointer (some ⟨gv,0,none⟩)
 |3=>.int .i64 r.key
 |4=>.int .i64 r.idle
 |5=>.int .i64 r.life
 |6=>.int .i64 r.access
 |_=>.map (some gm)
theorem DAt.bx(h:DAt w gk gd gs gv gm r):Bx w gk (dkC gd gs gv gm r):=by
 refine⟨fun i hi=>?_,h.fz,h.lt⟩;match i,hi with
 |0,_=>exact h.c0
 |1,_=>exact h.c1
 |2,_=>exact h.c2
 |3,_=>exact h.c3
 |4,_=>exact h.c4
 |5,_=>exact h.c5
 |6,_=>exact h.c6
 |7,_=>exact h.c7
theorem lJ(h:okB n=true):okN n:=by
 have b:=h;unfold okB at b;unfold okN;simp only[Bool.and_eq_true,decide_eq_true_eq] at b;omega
theorem ko{l:Int}(h:dB ⟨k,i,l,a⟩=true):fA ⟨k,i,l,a⟩:=by
 unfold dB at h;simp only[Bool.and_eq_true] at h;exact⟨lJ h.1,lJ h.2.1,lJ h.2.2.1,lJ h.2.2.2⟩
structure N4 (w:World) (g:Nat) (k i l a:Int):Prop where
 c0:w.cell? ⟨g,0,none⟩=some (.int .i64 k)
 c1:w.cell? ⟨g,1,none⟩=some (.int .i64 i)
 c2:w.cell? ⟨g,2,none⟩=some (.int .i64 l)
 c3:w.cell? ⟨g,3,none⟩=some (.int .i64 a)
theorem N4.on{l:Int}(h:N4 w g k i l a)(hb:Below w.heap.size w w'):N4 w' g k i l a:=by
 have b:=Fc _ _ h.c0;exact⟨(hb.cell (p:=(a_ g 0)) b).trans h.c0,(hb.cell (p:=(a_ g 1)) b).trans h.c1,(hb.cell (p:=(a_ g 2)) b).trans h.c2,(hb.cell (p:=(a_ g 3)) b).trans h.c3⟩
theorem xJ(N:Nat)(w:World)(gk gd gs gv gm gn nt ct:Nat)(bt:Option Addr)(nn cn:Nat)(r:Rul)(p:Pub)(v:Value)(k i l a:Int)(h:DkI N w gk gd gs gv gm r p v)(ho:bE gk)(h0:N4 w gn k i l a)(hn:3<nn)(hr:dB ⟨k,i,l,a⟩=true):
 Calls prog 227 #[p_ gk 0,.agg #[.slice bt nt ct,.slice (o_ gn 0) nn cn]] w fun e w'=>e=.returned (.string ⟨#[110,101,119]⟩)∧∃gd' gs' gv' v',DkI 0 w' gk gd' gs' gv' gm ⟨k,i,l,a⟩ fU v'∧af [gk] w w'∧w.heap.size<=gd'∧w.heap.size<=gs':=by
 have j:=bA w (.cells #[.slice bt nt ct,.slice (o_ gn 0) nn cn] 256);have s:J _:=j;have A:=AgB.made w bt (o_ gn 0) nt ct nn cn 256;have c:J _:=h.on j;have B:J (fA ⟨k,i,l,a⟩):=ko hr;have C:J _:=h0.on j;have t:J (bE gk):=ho;have D:J (gk<w.heap.size):=h.box.lt;have E:J (gm<w.heap.size):=h.ml;have a1:=A.c1;have i0:(0:Int)<(nn:Int):=by omega
 have i1:(1:Int)<(nn:Int):=by omega
 have i2:(2:Int)<(nn:Int):=by omega
 have i3:(3:Int)<(nn:Int):=by omega
 have F:¬ nn=0:=by omega
 go_enter func227,ntmps227
 go_upto_region 2 with fail
 generalize hW:(w.alloc _)=W at *;have f:J (bE W.heap.size):=t.o.mono (Fx c.o.box.lt);have b:J (Below W.heap.size W (W.alloc (.cells Tryz.zeroCells28 28)).drew):=(bA _ _).drew;have m:J (DB 0 (W.alloc (.cells Tryz.zeroCells28 28)).drew W.heap.size fU):=(pO W c.o.sv.libs.toA c.o.sv.libs.base.err f.o.toA).onL (E9 _ _).drew;have n:J (av (W.alloc (.cells Tryz.zeroCells28 28)).drew):=c.o.sv.libs.on b.o;have o:J (Bx (W.alloc (.cells Tryz.zeroCells28 28)).drew gk (dkC gd gs gv gm r)):=c.o.box.bx.on b.o;have g:J (gk<W.heap.size∧gm<W.heap.size):=⟨c.o.box.lt,c.o.ml⟩;refine region_ (fun V=>N4 V gn k i l a) 16 (C.o.on (E9 _ _).drew) fun hH=>?_
 refine an [(0,p_ gk 0),(1,.agg Tryz.zeroCells28),(3,.slice (o_ gn 0) nn cn),(4,p_ gn 0),(5,.i_ k),(6,.slice (o_ gn 0) nn cn),(7,p_ gn 1),(8,.i_ i),(9,.slice (o_ gn 0) nn cn),(10,p_ gn 2),(11,.i_ l),(12,.slice (o_ gn 0) nn cn),(13,p_ gn 3),(14,.i_ a),(15,.agg (Q_ k i l a))] hH (fun W hW=>by have q:=hW.c0; have q:=hW.c1; have q:=hW.c2; have q:=hW.c3;go_simp) ?_;simp only[pA,oA,Act.put,pS1]
 refine one_ 2 ?_; intro K hK; go_simp;go_wp2_with fail
 refine hK.out _ _ (hH.on (bA _ _)) ?_;intro hH;refine late_ 16 ?_; intro K hK; go_simp;go_at_call 146
 refine (pW 0 _ gk W.heap.size k i l a (dkC gd gs gv gm r) _ m.o (by omega) n.o B.o f.o o.o (by have:=g.o.1; omega)).mono ?_
 rintro e1 w1 ⟨rfl,gs',gv',v',w3,hsv,hb3,hk3,hgs,hgv,c',hx,q0,q1,q2,q3,q4,q5,q6,q7⟩
 have G:J (∃gd' gs' gv' v',DkI 0 w1 gk gd' gs' gv' gm ⟨k,i,l,a⟩ fU v'∧af [gk] W w1∧W.heap.size<=gd'∧W.heap.size<=gs'):=by
  have z:=b.o.size;have h2:=g.o;refine⟨_,gs',gv',v',DkI.laid hsv hb3 hk3 hgs hx q0 q1 q2 q3 q4 q5 q6 q7 t.o (by omega) (by omega) (by omega) (by omega),?_,Fa _,Fe z hgs⟩
  exact (af.of _ (b.o.trans (hb3.mono z))).trans hk3
 go_wp2_with fail
 refine hK.out _ _ ?_;refine done_ ?_;go_wp2_with fail
 go_ret;obtain⟨gd2,gs2,gv2,v2,z1,z2,z3,z4⟩:=G.o;have h5:=s.o.size;exact⟨rfl,gd2,gs2,gv2,v2,z1,(af.of _ s.o).trans z2,by omega,by omega⟩
theorem Av(N:Nat)(w:World)(gk gd gs gv gm gn nt ct:Nat)(bt:Option Addr)(nn cn:Nat)(r:Rul)(p:Pub)(v:Value)(k i l a:Int)(h:DkI N w gk gd gs gv gm r p v)(ho:bE gk)(h0:N4 w gn k i l a)(hn:3<nn)(hr:dB ⟨k,i,l,a⟩=false):
 Calls prog 227 #[p_ gk 0,.agg #[.slice bt nt ct,.slice (o_ gn 0) nn cn]] w fun e w'=>e=aM (2:Nat)∧Below w.heap.size w w':=by
 have f:=bA w (.cells #[.slice bt nt ct,.slice (o_ gn 0) nn cn] 256);have n:J _:=f;have o:=AgB.made w bt (o_ gn 0) nt ct nn cn 256;have c:J _:=h.on f;have q:J (dB ⟨k,i,l,a⟩=false):=hr;have s:J _:=h0.on f;have t:J (bE gk):=ho;have z:J (gk<w.heap.size):=h.box.lt;have A:J (gm<w.heap.size):=h.ml;have a1:=o.c1;have i0:(0:Int)<(nn:Int):=by omega
 have i1:(1:Int)<(nn:Int):=by omega
 have i2:(2:Int)<(nn:Int):=by omega
 have i3:(3:Int)<(nn:Int):=by omega
 have B:¬ nn=0:=by omega
 go_enter func227,ntmps227
 go_upto_region 2 with fail
 generalize hW:(w.alloc _)=W at *;have g:J (bE W.heap.size):=t.o.mono (Fx c.o.box.lt);have b:J (Below W.heap.size W (W.alloc (.cells Tryz.zeroCells28 28)).drew):=(bA _ _).drew;have j:J (DB 0 (W.alloc (.cells Tryz.zeroCells28 28)).drew W.heap.size fU):=(pO W c.o.sv.libs.toA c.o.sv.libs.base.err g.o.toA).onL (E9 _ _).drew;have C:J (av (W.alloc (.cells Tryz.zeroCells28 28)).drew):=c.o.sv.libs.on b.o;have D:J (Bx (W.alloc (.cells Tryz.zeroCells28 28)).drew gk (dkC gd gs gv gm r)):=c.o.box.bx.on b.o;refine region_ (fun V=>N4 V gn k i l a) 16 (s.o.on (E9 _ _).drew) fun hH=>?_
 refine an [(0,p_ gk 0),(1,.agg Tryz.zeroCells28),(3,.slice (o_ gn 0) nn cn),(4,p_ gn 0),(5,.i_ k),(6,.slice (o_ gn 0) nn cn),(7,p_ gn 1),(8,.i_ i),(9,.slice (o_ gn 0) nn cn),(10,p_ gn 2),(11,.i_ l),(12,.slice (o_ gn 0) nn cn),(13,p_ gn 3),(14,.i_ a),(15,.agg (Q_ k i l a))] hH (fun W hW=>by have m:=hW.c0; have m:=hW.c1; have m:=hW.c2; have m:=hW.c3;go_simp) ?_;simp only[pA,oA,Act.put,pS1]
 refine one_ 2 ?_; intro K hK; go_simp;go_wp2_with fail
 refine hK.out _ _ (hH.on (bA _ _)) ?_;intro hH;refine late_ 16 ?_; intro K hK; go_simp;go_at_call 146
 refine (Dn 0 _ gk W.heap.size k i l a _ j.o (by omega) q.o).mono ?_
 rintro e1 w1 ⟨rfl,hb1⟩;have E:J (Below W.heap.size W w1):=b.o.tm hb1;unfold aM;go_wp2_with fail
 exact⟨rfl,rfl,n.o.tm E.o⟩
theorem DkI.left{N:Nat}{w:World}{gk gd gs gv gm:Nat}{r:Rul}{p:Pub}{v:Value}(h:DkI N w gk gd gs gv gm r p v)(hc:p.c=false)(l2:Int):DkI N w gk gd gs gv gm r ⟨p.st,p.lg,p.n,p.c,l2,p.dn⟩ v:=
 ⟨⟨h.sv.sp.left hc l2,h.sv.box,h.sv.libs,h.sv.rul,h.sv.ord,h.sv.out,h.sv.old⟩,h.box,h.ne,h.out,h.ml⟩
theorem Aw(N:Nat)(w:World)(gk gd gs gv gm:Nat)(bt bn:Option Addr)(nt ct nn cn:Nat)(r:Rul)(p:Pub)(v:Value)(h:DkI N w gk gd gs gv gm r p v)(ho:bE gk)(hN:N<99000):
 Calls prog 228 #[p_ gk 0,.agg #[.slice bt nt ct,.slice bn nn cn]] w fun e w'=>e=.returned (.string ⟨#[111,112,101,110]⟩)∧∃gs' gv' v',DkI N w' gk gd gs' gv' gm r (oq p) v'∧af [gk,gd] w w'∧w.heap.size<=gs':=by
 have A:=bA w (.cells #[.slice bt nt ct,.slice bn nn cn] 256);have D:Hid _:=A;have b:Hid _:=h.on A;have E:Hid _:=ho;have j:Hid (N<99000):=(show _<_ by omega)
 have F:=b.o.box.c0;go_enter func228,ntmps228
 go_wp2_with fail
 go_at_call 15
 refine (vQ N _ gs gd p v (-1) (by omega) b.o.sv.sp).mono ?_
 rintro e1 w1 ⟨rfl,hsp,hk1⟩;have G:=b.o.sv.sp.lt;have C:=b.o.sv.sp.ord;have m:Hid _:=hsp.db.onL (E9 _ _).drew;have n:Hid _:=((b.o.sv.libs.belowO (hk1.below (B:=gd) (by omega) (by simp)) b.o.sv.old).on (Below.refl _ _).drew)
 have o:Hid _:=(b.o.box.bx.keep hk1 (by have:=b.o.ne.1; simp; omega)).on (E9 _ _).drew
 have q:Hid _:=(b.o.box.keep hk1 (by have:=b.o.ne.1; simp; omega)).on (E9 _ _).drew
 have c:Hid (gk<w1.heap.size∧gm<w1.heap.size∧gk≠gd∧gm≠gd):=⟨Fd b.o.box.lt hk1.size,Fd b.o.ml hk1.size,b.o.ne.1,b.o.ne.2.2.1⟩;have f:Hid (af [gk,gd] w w1):=(af.of _ D.o).trans (hk1.mono (by simp))
 have s:Hid _:=b.o.sv.rul;have t:Hid _:=b.o.sv.old;have z:Hid _:=f.o.size;go_upto_region 2 with fail
 obtain⟨k,i,l,a⟩:=r;refine region_ (fun V=>DAt V gk gd gs gv gm ⟨k,i,l,a⟩) 9 (q.o) fun hH=>?_;refine an [(0,p_ gk 0),(1,p_ gk 0),(2,p_ gk 0),(3,p_ gk 0),(4,p_ gd 0),(5,p_ gk 0),(6,p_ gk 0),(7,p_ gk 3),(8,.agg (Q_ k i l a))] hH (fun W hW=>by have F:=hW.c0; have a3:=hW.c3; have a4:=hW.c4; have a5:=hW.c5; have a6:=hW.c6;go_simp) ?_;simp only[pA,oA,Act.put,pS1]
 refine late_ 9 ?_; intro K hK; go_simp;go_at_call 146
 refine (pW N _ gk gd k i l a (dkC gd gs gv gm ⟨k,i,l,a⟩) _ m.o j.o n.o s.o t.o o.o c.o.2.2.1).mono ?_;rintro e2 w2 ⟨rfl,gs',gv',v',w3,hsv,hb3,hk3,hgs,hgv,c',hx,q0,q1,q2,q3,q4,q5,q6,q7⟩
 have H:Hid (∃gs' gv' v',DkI N w2 gk gd gs' gv' gm ⟨k,i,l,a⟩ (oq p) v'∧af [gk,gd] w w2∧w.heap.size<=gs'):=by
  have g:=c.o;have I:=z.o;have J:=DkI.laid hsv hb3 hk3 hgs hx q0 q1 q2 q3 q4 q5 q6 q7 E.o g.1 g.2.1 g.2.2.1 g.2.2.2;refine⟨gs',gv',v',J.left (by simp[pL]) p.l,?_,Nat.le_trans I hgs⟩
  exact (f.o.drew.trans (af.of _ hb3)).trans (hk3.mono (by simp))
 go_wp2_with fail
 refine hK.out _ _ ?_;refine done_ ?_;go_wp2_with fail
 go_ret;exact⟨rfl,H.o⟩
open Go.Maps Go.WideMaps
def cE:List (Word × Nat × List Int):= [(dg,227,[2,2,2,2]),(bM,228,[]),(bj,229,[0,0,1]),(aR,230,[0,1,1]),(cA,231,[0]),(cI,232,[0]),(cu,233,[2]),(cC,234,[]),(dS,235,[2]),(dd,236,[2]),(bY,237,[]),(bC,238,[]),(fJ,239,[]),(dF,240,[]),(cY,241,[1]),(gT,242,[2,0]),(dh,243,[0,2,2,2]),(fV,244,[])]
def aC:List Word:=cE.map (·.1)
def fi(v:Value):Option (DataW Value × List MemPlace):=some (.held v,[])
def fj(f:Word->Value)(D0:DataW Value)(done:List Word):DataW Value:=done.foldl (fun D x=>D.put (.string x) (.held (f x))) D0
theorem xK(f:Word->Value)(D0:DataW Value)(done:List Word)(c:Word):fj f D0 (done ++ [c])=(fj f D0 done).put (.string c) (.held (f c)):=by
 unfold fj;rw[List.foldl_append];rfl
theorem mS{f g:Word->Value}:∀(done:List Word) (D0:DataW Value),(∀c∈done,f c=g c)->fj f D0 done=fj g D0 done
 |[],_,_=>rfl
 |c::done,D0,h=>by
  have h1:=mS (f:=f) (g:=g) done (D0.put (.string c) (.held (f c))) (fun x hx=>h x (by simp[hx]))
  show fj f (D0.put (.string c) (.held (f c))) done=fj g (D0.put (.string c) (.held (g c))) done
  rw[h1,h c (by simp)]
theorem vY(c:Word):WideAt.IsKeyLit (.string c):=trivial
theorem vZ:∀a∈cE,a.1.length<=100:=by decide
theorem aT(c:Word):(Ev.bs c).size=c.length:=by simp[Ev.bs,ByteArray.size]
theorem v9(f:Word->Value)(c:Word)(z:DataW Value):∀(done:List Word) (D0:DataW Value),IsMap D0->(fj f D0 done).atKey (.string c) z=if c∈done then .held (f c) else D0.atKey (.string c) z
 |[],_,_=>by simp[fj]
 |x::done,D0,h=>by
  show (fj f (D0.put (.string x) (.held (f x))) done).atKey (.string c) z=_
  rw[v9 f c z done _ (h.put _ _)];by_cases hc:c∈done
  ·simp[hc]
  ·by_cases hx:c=x
   ·subst hx
    simp[hc,atKey_put_same h (vY c)]
   ·have hne:(Lit.string c)≠.string x:=fun e=>hx (by injection e)
    simp[hc,hx,atKey_put_other hne]
theorem sx(f:Word->Value)(c:Word):∀(done:List Word) (D0:DataW Value),IsMap D0->Maps.has (fj f D0 done) (.string c)=(decide (c∈done) || Maps.has D0 (.string c))
 |[],_,_=>by simp[fj]
 |x::done,D0,h=>by
  show Maps.has (fj f (D0.put (.string x) (.held (f x))) done) (.string c)=_
  rw[sx f c done _ (h.put _ _)];by_cases hc:c∈done
  ·simp[hc]
  ·by_cases hx:c=x
   ·subst hx
    simp[hc,has_put_same h (vY c)]
   ·have hne:(Lit.string c)≠.string x:=fun e=>hx (by injection e)
    simp[hc,hx,has_put_other hne]
def kU(W:World)(gk F:Nat)(ks:List Int)(v:Value):Prop:=
 ∃(ka:Option Addr) (kc g:Nat),v=.agg #[.func (.func F) #[.pointer (some ⟨gk,0,none⟩)] #[],.slice ka ks.length kc]∧(0<ks.length->ka=some ⟨g,0,none⟩)∧(∀(i:Nat) (k:Int),ks[i]?=some k->W.cell? ⟨g,i,none⟩=some (.int .i64 k))∧g<W.heap.size
theorem kU.keep{ks:List Int}(h:kU W gk F ks v)(hk:af l W W')(hl:∀x∈l,∀k:Int,W.cell? ⟨x,0,none⟩≠some (.int .i64 k)):kU W' gk F ks v:=by
 obtain⟨ka,kc,g,h1,h2,h3,h4⟩:=h;refine⟨ka,kc,g,h1,h2,fun i k hi=>?_,Fd h4 hk.size⟩
 have b:g∉l:=fun hx=>by
  cases hks:ks with
  |nil=>rw[hks] at hi; simp at hi
  |cons k0 ks0=>exact hl g hx k0 (h3 0 k0 (by rw[hks]; rfl))
 exact (hk.cell (p:=(a_ g i)) h4 b).trans (h3 i k hi)
theorem ed(h:gm<W.heap.size):kU W gk F [] (.agg #[.func (.func F) #[.pointer (some ⟨gk,0,none⟩)] #[],.slice none 0 0]):=
 ⟨none,0,gm,rfl,by simp,by simp,h⟩
theorem bZ(W:World)(gk F:Nat)(ks:List Int)(t:TypeId):kU (W.alloc (.cells (ks.map (Value.int .i64)).toArray t)) gk F ks (.agg #[.func (.func F) #[.pointer (some ⟨gk,0,none⟩)] #[],.slice (some ⟨W.heap.size,0,none⟩) ks.length ks.length]):=by
 refine⟨_,_,W.heap.size,rfl,fun _=>rfl,fun i k hi=>?_,by simp⟩
 rw[World.cell?_alloc_at _ _ _ _ rfl];simp[hi]
structure di (W:World) (gk gm:Nat) (done:List Word):Prop where
 run:∃f:Word->Value,W.ownsMap prog 9 fi gm done.length (fj f (.map []) done)∧∀row∈cE,row.1∈done->kU W gk row.2.1 row.2.2 (f row.1)
theorem di.lt{W:World}{gk gm:Nat}{done:List Word}(h:di W gk gm done):gm<W.heap.size:=by
 obtain⟨f,h1,_⟩:=h.run;exact h1.lt
variable {done:List Word}
theorem di.noCell(h:di W gk gm done)(i:Nat):W.cell? ⟨gm,i,none⟩=none:=by
 obtain⟨f,⟨es,clock,hb,_⟩,_⟩:=h.run;simp[World.cell?,hb]
theorem di.keep{l:List Nat}{W W':World}{gk gm:Nat}{done:List Word}(h:di W gk gm done)(hk:af l W W')(hm:gm∉l)(hl:∀x∈l,∀k:Int,W.cell? ⟨x,0,none⟩≠some (.int .i64 k)):di W' gk gm done:=by
 obtain⟨f,⟨es,clock,hb,h1⟩,h2⟩:=h.run;exact⟨f,⟨es,clock,(hk.block gm (Array.getElem?_eq_some_iff.1 hb).1 hm).trans hb,h1⟩,fun row hr hd=>(h2 row hr hd).keep hk hl⟩
theorem di.on(h:di W gk gm done)(hb:Below W.heap.size W W'):di W' gk gm done:=h.keep (af.of [] hb) (by simp) (by simp)
theorem di.made(W:World)(gk:Nat):di (W.alloc (.map #[] 0)) gk W.heap.size []:=
 ⟨fun _=>.nilFunc,World.ownsMap_made _ _ _ _,fun _ _ h=>by cases h⟩
theorem Cf:∀a∈cE,∀b∈cE,a.1=b.1->a=b:=by decide
theorem cd(h:di W gk gm done)(row:Word × Nat × List Int)(hr:row∈cE)(hn:row.1∉done)(hl:done.length<=100)(hv:kU W gk row.2.1 row.2.2 v):
 ∃w',(Instr.mapUpdate 240 (.map (some gm)) (.string (Ev.bs row.1)) v).run prog W=.ok () w'∧di w' gk gm (done ++ [row.1])∧af [gm] W w':=by
 have j:=h.noCell 0;obtain⟨f,h1,h2⟩:=h.run;obtain⟨w',hrun,g1,g2⟩:=h1.update (string_keyed underlying9) underlying240 (by unfold maxLen; omega) (key:=.string (Ev.bs row.1)) (kl:=.string row.1) (val:=v) ((keyOf_string_mk underlying9 (by rw[aT]; have:=vZ row hr; unfold maxLen; omega)).trans (by simp[Ev.bs])) (rfl:fi v=some (.held v,[]))
 refine⟨w',hrun,⟨fun x=>if x=row.1 then v else f x,?_,fun row' hr' hd=>?_⟩,af.grown g2⟩
 ·rw[xK,mS (g:=f) done _ (fun c hc=>if_neg (fun e:c=row.1=>hn (by rw[<- e]; exact hc))),if_pos rfl,Fp]
  exact g1
 ·have m:=af.grown g2
  have b:∀x∈ [gm],∀k:Int,W.cell? (a_ x 0)≠some (.i_ k):=fun x hx k=>by
   obtain rfl:x=gm:=by simpa using hx
   rw[j];simp
  simp only;split
  ·rename_i e
   obtain rfl:=Cf _ hr' _ hr e;exact hv.keep m b
  ·rename_i e
   exact (h2 row' hr' (by simpa[e] using hd)).keep m b
theorem pX(w:World)(gk:Nat):Calls prog 147 #[p_ gk 0] w fun e w'=>e=.returned (.map (some w.heap.size))∧di w' gk w.heap.size aC∧Below w.heap.size w w':=by
 have T:∀(fn:Fn) (first cap:Array Value) (w:World),(Instr.makeFunc fn first cap).run prog w=.ok (.func fn first cap) w:=fun _ _ _ _=>rfl
 have U:=@run_makeMap prog;have V:Hid _:=di.made w gk;have g:Hid _:=bA w (.map #[] 0);obtain⟨w1,hr1,h1,hk1⟩:∃w',(Instr.mapUpdate 240 (.map (some w.heap.size)) (.string ⟨#[110,101,119]⟩) (.agg #[.func (.func 227) #[p_ gk 0] #[],.slice (some ⟨(w.alloc (.map #[] 0)).heap.size,0,none⟩) 4 4])).run prog ((w.alloc (.map #[] 0)).alloc (.cells (Q_ 2 2 2 2) 3))=.ok () w'∧di w' gk w.heap.size ([dg])∧af [w.heap.size] ((w.alloc (.map #[] 0)).alloc (.cells (Q_ 2 2 2 2) 3)) w':=cd (V.o.on ((E9 _ _).alloc (Fa _) (.cells (Q_ 2 2 2 2) 3))) (dg,227,[2,2,2,2]) (by decide) (by decide) (by decide) (bZ (w.alloc (.map #[] 0)) gk 227 [2,2,2,2] 3)
 have O:Hid _:=h1;have B:Hid _:=(g.o.alloc g.o.size (.cells (Q_ 2 2 2 2) 3)).trans (hk1.below (g.o.alloc g.o.size (.cells (Q_ 2 2 2 2) 3)).size (by simp))
 rw[World.size_alloc] at hr1;obtain⟨w2,hr2,h2,hk2⟩:∃w',(Instr.mapUpdate 240 (.map (some w.heap.size)) (.string ⟨#[111,112,101,110]⟩) (.agg #[.func (.func 228) #[p_ gk 0] #[],.slice none 0 0])).run prog w1=.ok () w'∧di w' gk w.heap.size ([dg,bM])∧af [w.heap.size] w1 w':=cd O.o (bM,228,[]) (by decide) (by decide) (by decide) (ed O.o.lt)
 have W:Hid _:=h2;have j:Hid _:=B.o.trans (hk2.below B.o.size (by simp))
 obtain⟨w3,hr3,h3,hk3⟩:∃w',(Instr.mapUpdate 240 (.map (some w.heap.size)) (.string ⟨#[103,114,97,110,116]⟩) (.agg #[.func (.func 229) #[p_ gk 0] #[],.slice (o_ w2.heap.size 0) 3 3])).run prog (w2.alloc (.cells #[.i_ 0,.i_ 0,.i_ 1] 3))=.ok () w'∧di w' gk w.heap.size ([dg,bM,bj])∧af [w.heap.size] (w2.alloc (.cells #[.i_ 0,.i_ 0,.i_ 1] 3)) w':=cd (W.o.on ((E9 _ _).alloc (Fa _) (.cells #[.i_ 0,.i_ 0,.i_ 1] 3))) (bj,229,[0,0,1]) (by decide) (by decide) (by decide) (bZ w2 gk 229 [0,0,1] 3)
 have X:Hid _:=h3;have k:Hid _:=(j.o.alloc j.o.size (.cells #[.i_ 0,.i_ 0,.i_ 1] 3)).trans (hk3.below (j.o.alloc j.o.size (.cells #[.i_ 0,.i_ 0,.i_ 1] 3)).size (by simp))
 obtain⟨w4,hr4,h4,hk4⟩:∃w',(Instr.mapUpdate 240 (.map (some w.heap.size)) (.string ⟨#[114,111,116,97,116,101]⟩) (.agg #[.func (.func 230) #[p_ gk 0] #[],.slice (o_ w3.heap.size 0) 3 3])).run prog (w3.alloc (.cells #[.i_ 0,.i_ 1,.i_ 1] 3))=.ok () w'∧di w' gk w.heap.size ([dg,bM,bj,aR])∧af [w.heap.size] (w3.alloc (.cells #[.i_ 0,.i_ 1,.i_ 1] 3)) w':=cd (X.o.on ((E9 _ _).alloc (Fa _) (.cells #[.i_ 0,.i_ 1,.i_ 1] 3))) (aR,230,[0,1,1]) (by decide) (by decide) (by decide) (bZ w3 gk 230 [0,1,1] 3)
 have Y:Hid _:=h4;have m:Hid _:=(k.o.alloc k.o.size (.cells #[.i_ 0,.i_ 1,.i_ 1] 3)).trans (hk4.below (k.o.alloc k.o.size (.cells #[.i_ 0,.i_ 1,.i_ 1] 3)).size (by simp))
 obtain⟨w5,hr5,h5,hk5⟩:∃w',(Instr.mapUpdate 240 (.map (some w.heap.size)) (.string ⟨#[109,105,110,116]⟩) (.agg #[.func (.func 231) #[p_ gk 0] #[],.slice (o_ w4.heap.size 0) 1 1])).run prog (w4.alloc (.cells #[.i_ 0] 3))=.ok () w'∧di w' gk w.heap.size ([dg,bM,bj,aR,cA])∧af [w.heap.size] (w4.alloc (.cells #[.i_ 0] 3)) w':=cd (Y.o.on ((E9 _ _).alloc (Fa _) (.cells #[.i_ 0] 3))) (cA,231,[0]) (by decide) (by decide) (by decide) (bZ w4 gk 231 [0] 3)
 have Z:Hid _:=h5;have n:Hid _:=(m.o.alloc m.o.size (.cells #[.i_ 0] 3)).trans (hk5.below (m.o.alloc m.o.size (.cells #[.i_ 0] 3)).size (by simp))
 obtain⟨w6,hr6,h6,hk6⟩:∃w',(Instr.mapUpdate 240 (.map (some w.heap.size)) (.string ⟨#[115,104,111,119]⟩) (.agg #[.func (.func 232) #[p_ gk 0] #[],.slice (o_ w5.heap.size 0) 1 1])).run prog (w5.alloc (.cells #[.i_ 0] 3))=.ok () w'∧di w' gk w.heap.size ([dg,bM,bj,aR,cA,cI])∧af [w.heap.size] (w5.alloc (.cells #[.i_ 0] 3)) w':=cd (Z.o.on ((E9 _ _).alloc (Fa _) (.cells #[.i_ 0] 3))) (cI,232,[0]) (by decide) (by decide) (by decide) (bZ w5 gk 232 [0] 3)
 have H6:Hid _:=h6;have o:Hid _:=(n.o.alloc n.o.size (.cells #[.i_ 0] 3)).trans (hk6.below (n.o.alloc n.o.size (.cells #[.i_ 0] 3)).size (by simp))
 obtain⟨w7,hr7,h7,hk7⟩:∃w',(Instr.mapUpdate 240 (.map (some w.heap.size)) (.string ⟨#[107,105,108,108]⟩) (.agg #[.func (.func 233) #[p_ gk 0] #[],.slice (o_ w6.heap.size 0) 1 1])).run prog (w6.alloc (.cells #[.i_ 2] 3))=.ok () w'∧di w' gk w.heap.size ([dg,bM,bj,aR,cA,cI,cu])∧af [w.heap.size] (w6.alloc (.cells #[.i_ 2] 3)) w':=cd (H6.o.on ((E9 _ _).alloc (Fa _) (.cells #[.i_ 2] 3))) (cu,233,[2]) (by decide) (by decide) (by decide) (bZ w6 gk 233 [2] 3)
 have R:Hid _:=h7;have C:Hid _:=(o.o.alloc o.o.size (.cells #[.i_ 2] 3)).trans (hk7.below (o.o.alloc o.o.size (.cells #[.i_ 2] 3)).size (by simp))
 obtain⟨w8,hr8,h8,hk8⟩:∃w',(Instr.mapUpdate 240 (.map (some w.heap.size)) (.string ⟨#[115,97,118,101]⟩) (.agg #[.func (.func 234) #[p_ gk 0] #[],.slice none 0 0])).run prog w7=.ok () w'∧di w' gk w.heap.size ([dg,bM,bj,aR,cA,cI,cu,cC])∧af [w.heap.size] w7 w':=cd R.o (cC,234,[]) (by decide) (by decide) (by decide) (ed R.o.lt)
 have H8:Hid _:=h8;have p:Hid _:=C.o.trans (hk8.below C.o.size (by simp))
 obtain⟨w9,hr9,h9,hk9⟩:∃w',(Instr.mapUpdate 240 (.map (some w.heap.size)) (.string ⟨#[99,117,116]⟩) (.agg #[.func (.func 235) #[p_ gk 0] #[],.slice (o_ w8.heap.size 0) 1 1])).run prog (w8.alloc (.cells #[.i_ 2] 3))=.ok () w'∧di w' gk w.heap.size ([dg,bM,bj,aR,cA,cI,cu,cC,dS])∧af [w.heap.size] (w8.alloc (.cells #[.i_ 2] 3)) w':=cd (H8.o.on ((E9 _ _).alloc (Fa _) (.cells #[.i_ 2] 3))) (dS,235,[2]) (by decide) (by decide) (by decide) (bZ w8 gk 235 [2] 3)
 have H9:Hid _:=h9;have q:Hid _:=(p.o.alloc p.o.size (.cells #[.i_ 2] 3)).trans (hk9.below (p.o.alloc p.o.size (.cells #[.i_ 2] 3)).size (by simp))
 obtain⟨w10,hr10,h10,hk10⟩:∃w',(Instr.mapUpdate 240 (.map (some w.heap.size)) (.string ⟨#[116,105,99,107]⟩) (.agg #[.func (.func 236) #[p_ gk 0] #[],.slice (o_ w9.heap.size 0) 1 1])).run prog (w9.alloc (.cells #[.i_ 2] 3))=.ok () w'∧di w' gk w.heap.size ([dg,bM,bj,aR,cA,cI,cu,cC,dS,dd])∧af [w.heap.size] (w9.alloc (.cells #[.i_ 2] 3)) w':=cd (H9.o.on ((E9 _ _).alloc (Fa _) (.cells #[.i_ 2] 3))) (dd,236,[2]) (by decide) (by decide) (by decide) (bZ w9 gk 236 [2] 3)
 have D:Hid _:=h10;have r:Hid _:=(q.o.alloc q.o.size (.cells #[.i_ 2] 3)).trans (hk10.below (q.o.alloc q.o.size (.cells #[.i_ 2] 3)).size (by simp))
 obtain⟨w11,hr11,h11,hk11⟩:∃w',(Instr.mapUpdate 240 (.map (some w.heap.size)) (.string ⟨#[115,119,101,101,112]⟩) (.agg #[.func (.func 237) #[p_ gk 0] #[],.slice none 0 0])).run prog w10=.ok () w'∧di w' gk w.heap.size ([dg,bM,bj,aR,cA,cI,cu,cC,dS,dd,bY])∧af [w.heap.size] w10 w':=cd D.o (bY,237,[]) (by decide) (by decide) (by decide) (ed D.o.lt)
 have E:Hid _:=h11;have s:Hid _:=r.o.trans (hk11.below r.o.size (by simp))
 obtain⟨w12,hr12,h12,hk12⟩:∃w',(Instr.mapUpdate 240 (.map (some w.heap.size)) (.string ⟨#[119,114,105,116,101,115]⟩) (.agg #[.func (.func 238) #[p_ gk 0] #[],.slice none 0 0])).run prog w11=.ok () w'∧di w' gk w.heap.size ([dg,bM,bj,aR,cA,cI,cu,cC,dS,dd,bY,bC])∧af [w.heap.size] w11 w':=cd E.o (bC,238,[]) (by decide) (by decide) (by decide) (ed E.o.lt)
 have F:Hid _:=h12;have t:Hid _:=s.o.trans (hk12.below s.o.size (by simp))
 obtain⟨w13,hr13,h13,hk13⟩:∃w',(Instr.mapUpdate 240 (.map (some w.heap.size)) (.string ⟨#[108,111,103]⟩) (.agg #[.func (.func 239) #[p_ gk 0] #[],.slice none 0 0])).run prog w12=.ok () w'∧di w' gk w.heap.size ([dg,bM,bj,aR,cA,cI,cu,cC,dS,dd,bY,bC,fJ])∧af [w.heap.size] w12 w':=cd F.o (fJ,239,[]) (by decide) (by decide) (by decide) (ed F.o.lt)
 have G:Hid _:=h13;have z:Hid _:=t.o.trans (hk13.below t.o.size (by simp))
 obtain⟨w14,hr14,h14,hk14⟩:∃w',(Instr.mapUpdate 240 (.map (some w.heap.size)) (.string ⟨#[102,97,109,105,108,105,101,115]⟩) (.agg #[.func (.func 240) #[p_ gk 0] #[],.slice none 0 0])).run prog w13=.ok () w'∧di w' gk w.heap.size ([dg,bM,bj,aR,cA,cI,cu,cC,dS,dd,bY,bC,fJ,dF])∧af [w.heap.size] w13 w':=cd G.o (dF,240,[]) (by decide) (by decide) (by decide) (ed G.o.lt)
 have J:Hid _:=h14;have b:Hid _:=z.o.trans (hk14.below z.o.size (by simp))
 obtain⟨w15,hr15,h15,hk15⟩:∃w',(Instr.mapUpdate 240 (.map (some w.heap.size)) (.string ⟨#[108,101,97,115,116]⟩) (.agg #[.func (.func 241) #[p_ gk 0] #[],.slice (o_ w14.heap.size 0) 1 1])).run prog (w14.alloc (.cells #[.i_ 1] 3))=.ok () w'∧di w' gk w.heap.size ([dg,bM,bj,aR,cA,cI,cu,cC,dS,dd,bY,bC,fJ,dF,cY])∧af [w.heap.size] (w14.alloc (.cells #[.i_ 1] 3)) w':=cd (J.o.on ((E9 _ _).alloc (Fa _) (.cells #[.i_ 1] 3))) (cY,241,[1]) (by decide) (by decide) (by decide) (bZ w14 gk 241 [1] 3)
 have L:Hid _:=h15;have c:Hid _:=(b.o.alloc b.o.size (.cells #[.i_ 1] 3)).trans (hk15.below (b.o.alloc b.o.size (.cells #[.i_ 1] 3)).size (by simp))
 obtain⟨w16,hr16,h16,hk16⟩:∃w',(Instr.mapUpdate 240 (.map (some w.heap.size)) (.string ⟨#[116,97,103]⟩) (.agg #[.func (.func 242) #[p_ gk 0] #[],.slice (o_ w15.heap.size 0) 2 2])).run prog (w15.alloc (.cells #[.i_ 2,.i_ 0] 3))=.ok () w'∧di w' gk w.heap.size ([dg,bM,bj,aR,cA,cI,cu,cC,dS,dd,bY,bC,fJ,dF,cY,gT])∧af [w.heap.size] (w15.alloc (.cells #[.i_ 2,.i_ 0] 3)) w':=cd (L.o.on ((E9 _ _).alloc (Fa _) (.cells #[.i_ 2,.i_ 0] 3))) (gT,242,[2,0]) (by decide) (by decide) (by decide) (bZ w15 gk 242 [2,0] 3)
 have M:Hid _:=h16;have f:Hid _:=(c.o.alloc c.o.size (.cells #[.i_ 2,.i_ 0] 3)).trans (hk16.below (c.o.alloc c.o.size (.cells #[.i_ 2,.i_ 0] 3)).size (by simp))
 obtain⟨w17,hr17,h17,hk17⟩:∃w',(Instr.mapUpdate 240 (.map (some w.heap.size)) (.string ⟨#[116,111,107,101,110]⟩) (.agg #[.func (.func 243) #[p_ gk 0] #[],.slice (o_ w16.heap.size 0) 4 4])).run prog (w16.alloc (.cells (Q_ 0 2 2 2) 3))=.ok () w'∧di w' gk w.heap.size ([dg,bM,bj,aR,cA,cI,cu,cC,dS,dd,bY,bC,fJ,dF,cY,gT,dh])∧af [w.heap.size] (w16.alloc (.cells (Q_ 0 2 2 2) 3)) w':=cd (M.o.on ((E9 _ _).alloc (Fa _) (.cells (Q_ 0 2 2 2) 3))) (dh,243,[0,2,2,2]) (by decide) (by decide) (by decide) (bZ w16 gk 243 [0,2,2,2] 3)
 have H:Hid _:=h17;have A:Hid _:=(f.o.alloc f.o.size (.cells (Q_ 0 2 2 2) 3)).trans (hk17.below (f.o.alloc f.o.size (.cells (Q_ 0 2 2 2) 3)).size (by simp))
 obtain⟨w18,hr18,h18,hk18⟩:∃w',(Instr.mapUpdate 240 (.map (some w.heap.size)) (.string ⟨#[104,101,108,112]⟩) (.agg #[.func (.func 244) #[p_ gk 0] #[],.slice none 0 0])).run prog w17=.ok () w'∧di w' gk w.heap.size ([dg,bM,bj,aR,cA,cI,cu,cC,dS,dd,bY,bC,fJ,dF,cY,gT,dh,fV])∧af [w.heap.size] w17 w':=cd H.o (fV,244,[]) (by decide) (by decide) (by decide) (ed H.o.lt)
 have N:Hid _:=h18;have I:Hid _:=A.o.trans (hk18.below A.o.size (by simp))
 go_enter func147,ntmps147
 go_wp2_with fail;refine bodyPost_ret (v:=.map (some w.heap.size)) ?_ rfl ?_
 ·simp[results,results147,go_sem]
 ·exact⟨rfl,N.o,I.o⟩
end Go.Proofs.YtlailakofhenkabGreatDoor
