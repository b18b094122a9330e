import Derived.Test.YtlailakofhenkabGreatDoorB42
set_option maxRecDepth 100000
set_option maxHeartbeats 16000000
namespace Go.Proofs.YtlailakofhenkabGreatDoor
open Go Go.RowKit Tok Sc Ev RegD
attribute [local go_sem] rA oA
theorem tv:cZ fJ []:=by
 intro B N w0 W gb gh gx gr d v vn ao k ws ns R s HI HNN _ HNU HR h0 f h5 h10;replace f:s 1=.string ⟨#[108,111,103]⟩:=f
 rw[ck,h0,f,h5,h10];clear h0 f h5 h10;have q0:=HI.out.ho.c0;have q1:=HI.out.ho.rv.box.c0;have b:J _:=HI.out.on (E9 _ _).drew;have c:J (okN (d.p.lg:Int)):=(by have f:=HI.out.ho.rv.ok.low; exact⟨by omega,by omega⟩)
 have o:=ar c.o;have m:J (Ev.bs (Lib.itoa (d.p.lg:Int)) ++ (⟨#[32]⟩:ByteArray) ++ ⟨(dN d.p.dn).toArray⟩=Ev.bs (Lib.itoa d.p.lg ++ 32::dN d.p.dn)):=(show _=_ from aK (by simp[Ev.bs]))
 have q:(dN d.p.dn).length<=5:=by unfold dN; split <;> decide
 have r:(Ev.bs (Lib.itoa (d.p.lg:Int))).size=(Lib.itoa (d.p.lg:Int)).length:=aT _;conv=>arg 2; whnf
 go_upto_region 48 with fail;refine region_ (fun W'=>de B N w0 gb gh gx gr d v vn ao k ws ns W') 20 (b.o) fun hH=>?_;refine an [(0,p_ gx 0),(1,p_ gx 0),(2,p_ gx 0),(3,p_ gr 0),(4,p_ gr 0),(5,p_ gr 3),(6,.i_ (d.p.lg:Nat)),(10,p_ gx 0),(11,p_ gx 0),(12,p_ gx 0),(13,p_ gr 0),(14,p_ gr 0),(15,p_ gr 7),(16,.bool d.p.dn)] hH (fun W hW=>by have g:=hW.ho.rv.box.c0; have g:=hW.ho.rv.doc.c3; have g:=hW.ho.rv.box.c0; have g:=hW.ho.rv.doc.c7;go_simp) ?_;simp only[pA,oA,Act.put,pS1]
 refine one_ 7 ?_; intro K hK; go_simp;have j:=fun (V:World)=>(E9 V.heap.size V).alloc (Fa _) (.cells #[.i_ (d.p.lg:Nat)] 3);refine hK.out _ _ (hH.on (j _)) ?_;clear hK hH;intro hH;clear K;clear j;refine one_ 8 ?_; intro K hK; go_simp;refine (ti (d.p.lg:Int) W.drew c.o b.o.ho.rv.libs).mono ?_;rintro e1 w1 ⟨rfl,hb1⟩;go_wp2_with fail;refine hK.out _ _ (b.o.on hb1) ?_;clear hK hH;intro hH;clear K;clear hb1;refine tk1 9 (oi:=?oi9x20) (v:=.string (Ev.bs (Lib.itoa (d.p.lg:Int)) ++ ⟨#[32]⟩)) ?hi9x20 ?hB9x20 ?hQ9x20 ?hy9x20 hH ?rest9x20
 case hi9x20=>rfl
 case hB9x20=>kernel_rfl
 case hQ9x20=>exact fun _ _ _ h=>h
 case hy9x20=>exact .inl ⟨by rfl,fun W hW=>by
  have g:(Lib.itoa (d.p.lg:Int)).length<=9223372036854775806:=(by omega)
  go_simp⟩
 simp only[Act.put,pS1,pS2,pS3];refine one_ 17 ?_; intro K hK; go_simp;refine (mT d.p.dn _).mono ?_;rintro e4 w4 ⟨rfl,hw⟩;obtain rfl:w4=w1:=hw;go_wp2_with fail;refine hK.out _ _ (hH) ?_;clear hK hH;intro hH;clear K;refine tk1 18 (oi:=?oi18x23) (v:=.string (Ev.bs (Lib.itoa (d.p.lg:Int)) ++ (⟨#[32]⟩:ByteArray) ++ ⟨(dN d.p.dn).toArray⟩)) ?hi18x23 ?hB18x23 ?hQ18x23 ?hy18x23 hH ?rest18x23
 case hi18x23=>rfl
 case hB18x23=>kernel_rfl
 case hQ18x23=>exact fun _ _ _ h=>h
 case hy18x23=>exact .inl ⟨by rfl,fun W hW=>by
  have g:(Lib.itoa (d.p.lg:Int)).length+1+(dN d.p.dn).length<=9223372036854775807:=(by omega)
  go_simp⟩
 simp only[Act.put,pS1,pS2,pS3];refine an [(19,.string (Ev.bs (Lib.itoa (d.p.lg:Int)) ++ (⟨#[32]⟩:ByteArray) ++ ⟨(dN d.p.dn).toArray⟩))] hH (fun W hW=>by go_simp) ?_;simp only[pA,oA,Act.put,pS1]
 have n:J _:=hH;clear hH;refine late_ 20 ?_; intro K hK; go_simp;refine hK.out _ _ ?_;clear hK K;refine done_ ?_;go_wp2_with fail;exact HR.out _ _ (n.o.same (E9 _ _) (wf rfl) (fun _=>m.o))
def famsJ(s:St)(j:Nat):List UInt8:=jO s ++ Lib.joinTail [44,32] ((s.fams.take j).map famL)
theorem tC(c:List UInt8)(a b:List (List UInt8)):Lib.joinTail c (a ++ b)=Lib.joinTail c a ++ Lib.joinTail c b:=by
 simp[Lib.joinTail]
theorem tD(s:St):famsJ s s.fams.length=fI s:=by
 unfold famsJ fI jO;rw[Lib.join_cons,List.take_length]
variable {B j:Nat}{s:St}
theorem yi(h:j<s.fams.length):famsJ s (j+1)=famsJ s j ++ ([44,32] ++ famL s.fams[j]):=by
 unfold famsJ;rw[List.take_add_one,List.getElem?_eq_getElem h,List.map_append,tC];simp[Lib.joinTail]
theorem A5(h:Ev.dy s)(j:Nat):(famsJ s j).length<=100000:=by
 have b:=pZ h;rw[<- tD] at b
 have c:famsJ s s.fams.length=famsJ s j ++ Lib.joinTail [44,32] ((s.fams.drop j).map famL):=by
  unfold famsJ;rw[List.take_length,List.append_assoc,<- tC,<- List.map_append,List.take_append_drop]
 rw[c,List.length_append] at b;omega
theorem ky:cZ dF []:=by
 intro B N w0 W gb gh gx gr d v vn ao k ws ns R s HI HNN _ HNU HR h0 h1 h5 h10;replace h1:s 1=.string ⟨#[102,97,109,105,108,105,101,115]⟩:=h1
 rw[ck,h0,h1,h5,h10];clear h0 h1 h5 h10;obtain⟨ba,ca,rfl⟩:=ag.slice HI.out.ho.rv.doc.fam;have q0:=HI.out.ho.c0;have q1:=HI.out.ho.rv.box.c0;have f:Hid _:=HI.out.on (E9 _ _).drew;have c:Hid _:=HI.out.ho.rv.ok.good;have z:Hid _:=yd c.o;conv=>arg 2; whnf
 go_upto_region 50 with fail
 refine region_ (fun W'=>de B N w0 gb gh gx gr d (.slice ba d.p.st.fams.length ca) vn ao k ws ns W') 18 (f.o) fun hH=>?_;refine an [(0,p_ gx 0),(1,p_ gx 0),(2,p_ gx 0),(3,p_ gr 0),(4,p_ gr 0),(5,p_ gr 0),(6,p_ gr 0),(7,.i_ d.p.st.clock),(8,p_ gx 0),(9,p_ gx 0),(10,p_ gx 0),(11,p_ gr 0),(12,p_ gr 0),(13,p_ gr 0),(14,p_ gr 1),(15,.i_ d.p.st.next)] hH (fun W hW=>by have A:=hW.ho.rv.box.c0; have A:=hW.ho.rv.doc.c0; have A:=hW.ho.rv.box.c0; have A:=hW.ho.rv.doc.c1;go_simp) ?_;simp only[pA,oA,Act.put,pS1]
 refine one_ 16 ?_; intro K hK; go_simp;have n:=fun (V:World)=>(E9 V.heap.size V).alloc (Fa _) (.cells #[.i_ d.p.st.clock,.i_ d.p.st.next] 3);refine hK.out _ _ (hH.on (n _)) ?_;clear hK hH;intro hH;clear K;clear n;refine one_ 17 ?_; intro K hK; go_simp;refine (DZ d.p.st.clock d.p.st.next W.drew ⟨c.o.clock.1,by have:=c.o.clock.2; omega⟩ ⟨by have:=c.o.next0; omega,c.o.next1⟩ z.o f.o.ho.rv.libs).mono ?_
 rintro e1 w1 ⟨rfl,hb1⟩;go_wp2_with fail
 refine hK.out _ _ (f.o.on hb1) ?_;clear hK hH;intro hH;clear K;have m:Hid _:=f.o.on hb1;clear hb1 hH;refine late_ 18 ?_; intro K hK; go_simp;refine hK.out _ _ ?_;clear hK K;refine done_ ?_;have L:=m.o.ho.rv.box.c0;have M:=m.o.ho.rv.doc.c2;go_wp2_with fail
 go_loopg [23,271] d.p.st.fams.length (fun gk ov iv wr=>∃j:Nat,j+gk=d.p.st.fams.length∧iv=.i_ j∧ov=.string ⟨(famsJ d.p.st j).toArray⟩∧Hid (de B N w0 gb gh gx gr d (.slice ba d.p.st.fams.length ca) vn ao k ws ns wr))
 case atStart=>exact⟨0,by omega,rfl,by simp[famsJ,jO,Lib.joinTail,Ev.bs],m⟩
 case round=>
  obtain⟨j,hj,rfl,rfl,HX⟩:=hrel;have C:Hid _:=hj;clear hj L M;by_cases hlt:j<d.p.st.fams.length
  ·have J:(j:Int)<(d.p.st.fams.length:Int):=by omega
   obtain⟨gq,rfl,hgq,hfa⟩:=HX.out.ho.rv.doc.fam.fam j hlt;have g:Hid _:=(c.o.may _ (Fw hlt)).1;have o:Hid _:=yi hlt;have q:Hid _:=c.o.len;have D:Hid ((famsJ d.p.st (j+1)).length<=100000):=A5 c.o _;generalize d.p.st.fams[j]=y at hfa g o;obtain⟨y1,y2,y3,y4,y5,y6,y7,y8,y9⟩:=y;have c0:=hfa.c0; have c1:=hfa.c1; have c2:=hfa.c2; have c3:=hfa.c3; have c4:=hfa.c4; have c5:=hfa.c5; have c6:=hfa.c6; have c7:=hfa.c7; have c8:=hfa.c8;simp only at c0 c1 c2 c3 c4 c5 c6 c7 c8;have r:Below wr.heap.size wr (wr.alloc (.cells (F_ y1 y2 y3 y4 y5 y6 y7 y8 y9) 40)):=(E9 _ _).alloc (Fa _) _;have b:Hid (FB (wr.alloc (.cells (F_ y1 y2 y3 y4 y5 y6 y7 y8 y9) 40)) wr.heap.size ⟨y1,y2,y3,y4,y5,y6,y7,y8,y9⟩):=FB.made wr ⟨y1,y2,y3,y4,y5,y6,y7,y8,y9⟩ _;have t:Hid _:=HX.out.on r;clear hfa hgq r;go_upto_region 54 with fail
   generalize (wr.alloc (.cells (F_ y1 y2 y3 y4 y5 y6 y7 y8 y9) 40))=W5 at *;generalize wr.heap.size=g5 at *;clear c0 c1 c2 c3 c4 c5 c6 c7 c8;have c0:=b.o.c0; have c1:=b.o.c1; have c2:=b.o.c2; have c3:=b.o.c3; have c4:=b.o.c4; have c5:=b.o.c5; have c6:=b.o.c6; have c7:=b.o.c7; have c8:=b.o.c8;simp only at c0 c1 c2 c3 c4 c5 c6 c7 c8;have E:Hid _:=oW ⟨y1,y2,y3,y4,y5,y6,y7,y8,y9⟩ W5 g.o.1.1 g.o.1.2 (ec g.o) t.o.ho.rv.libs.toE;have F:=o.o;have G:=D.o;rw[F] at G;simp only[List.length_append,List.length_cons,List.length_nil] at G
   have H:Hid ((⟨(famsJ d.p.st j).toArray⟩:ByteArray) ++ (⟨#[44,32]⟩ ++ ⟨(famL ⟨y1,y2,y3,y4,y5,y6,y7,y8,y9⟩).toArray⟩)=⟨(famsJ d.p.st (j+1)).toArray⟩):=by
    show _=_
    rw[F];exact aK (by simp)
   clear F;generalize famL ⟨y1,y2,y3,y4,y5,y6,y7,y8,y9⟩=FL at *;generalize famsJ d.p.st j=OU1 at *;have n1:¬ 9223372036854775807<2+FL.length:=by omega
   have n2:¬ 9223372036854775807<OU1.length+(2+FL.length):=by omega
   clear G;go_wp2_with fail
   go_at_call 160
   refine Calls.mono E.o ?_;rintro e6 w6 ⟨rfl,hb6⟩;have I:Hid _:=t.o.on hb6;clear hb6 c0 c1 c2 c3 c4 c5 c6 c7 c8;go_wp2_with fail
   go_roundg (gk - 1)
   case measure=>have:=C.o; omega
   case rel=>exact⟨j+1,by have:=C.o; omega,congrArg (Value.int .i64) (by have:=q.o; unfold wrap64; omega),congrArg Value.string H.o,I⟩
  ·obtain rfl:j=d.p.st.fams.length:=by have:=C.o; omega
   go_wp2_with fail
   exact HR.out _ _ (HX.out.same (Below.refl _ _) (sG rfl) (fun _=>by rw[tD]; rfl))
theorem nK:cZ cY [false]:=by
 intro B N w0 W gb gh gx gr d v vn ao k ws ns R s HI HNN HX5 HNU HR h0 f h5 h10;replace f:s 1=.string ⟨#[108,101,97,115,116]⟩:=f
 rw[ck,h0,f,h5,h10];clear h0 f h5 h10;have q0:=HI.out.ho.c0;have q1:=HI.out.ho.rv.box.c0;obtain⟨x,rfl,rfl⟩:=vd HNU.out;obtain⟨g,o,rfl,hx0,hwo⟩:=lh (i:=0) HI.out rfl;have j:J _:=hwo;clear hwo;have b:J _:=jv gb g o k _ 0 (Ev.bs x) W rfl HI.out.box j.o;rw[bsL] at b;obtain⟨l,m,hout⟩:=Sc.gY (aG x);have c:J _:=hout;clear hout;conv=>arg 2; whnf
 go_wp2_with fail;refine Calls.mono b.o ?_;rintro e1 w1 ⟨rfl,hw⟩;obtain rfl:w1=W:=hw;go_wp2_with fail;refine (iE (Ev.bs (aG x)) l m (by rw[bsL]; exact c.o) _ (by rw[aT]; have f:=HX5.out x (by simp); have h2:=kx x; omega)).mono ?_
 rintro e2 w2 ⟨rfl,hb⟩;have n:J _:=hb;clear hb;go_wp2_with fail;refine (jk _ _).mono ?_;rintro e3 w3 ⟨rfl,hw⟩;obtain rfl:w3=w2:=hw;go_wp2_with fail;exact HR.out _ _ (HI.out.same n.o (oO ⟨x,l,m,rfl,c.o,rfl⟩) (fun _=>rfl))
theorem tE:cZ gT [true,false]:=by
 intro B N w0 W gb gh gx gr d v vn ao k ws ns R s HI HNN HX5 HNU HR h0 h1 h5 h10;replace h1:s 1=.string ⟨#[116,97,103]⟩:=h1
 rw[ck,h0,h1,h5,h10];clear h0 h1 h5 h10;have q0:=HI.out.ho.c0;have q1:=HI.out.ho.rv.box.c0;obtain⟨x,y,i,rfl,rfl⟩:=CC HNU.out;obtain⟨gn,cn,rfl,-⟩:=iV HI.out.nums;obtain⟨g,o,rfl,-,-⟩:=lh (i:=1) HI.out rfl;conv=>arg 2; whnf
 go_upto_region 61 with fail;refine region_ (fun W'=>de B N w0 gb gh gx gr d v (.slice (o_ gn 0) 1 cn) (o_ g o) k [x,y] [i] W') 8 (HI.out.on (E9 _ _).drew) fun hH=>?_;refine an [(0,.slice (o_ gn 0) 1 cn),(1,p_ gn 0),(2,.i_ i),(3,.slice (o_ g o) 2 k),(4,p_ g (o+1)),(5,.string (Ev.bs y))] hH (fun W hW=>by have c:=tq hW.nums; have c:=hW.box; have c:=oY (i:=1) hW rfl;go_simp) ?_;simp only[pA,oA,Act.put,pS1]
 refine one_ 6 ?_; intro K hK; go_simp;go_at_call 134;refine (fC i y _ (by have:=HX5.out y (by simp); omega) hH.ho.rv.libs.base).mono ?_
 rintro e1 w1 ⟨rfl,hb1⟩;go_wp2_with fail;refine hK.out _ _ (hH.on hb1) ?_;clear hK hH;intro hH;clear K;clear hb1;refine an [(7,.string ⟨(tag i y).toArray⟩)] hH (fun W hW=>by go_simp) ?_;simp only[pA,oA,Act.put,pS1]
 have b:J _:=hH;clear hH;refine late_ 8 ?_; intro K hK; go_simp;refine hK.out _ _ ?_;clear hK K;refine done_ ?_;go_wp2_with fail;exact HR.out _ _ (b.o.same (E9 _ _) (wg ⟨i,x,y,rfl,rfl,rfl⟩) (fun _=>rfl))
open Tryz
theorem nL:cZ dh [false,true,true,true]:=by
 intro B N w0 W gb gh gx gr d v vn ao k ws ns R s HI HNN HX5 HNU HR h0 h1 h5 h10;replace h1:s 1=.string ⟨#[116,111,107,101,110]⟩:=h1
 rw[ck,h0,h1,h5,h10];clear h0 h1 h5 h10;have q0:=HI.out.ho.c0;have q1:=HI.out.ho.rv.box.c0;obtain⟨x,ys,a,b,e,rfl,hy3,rfl⟩:=yg HNU.out;obtain⟨gn,cn,rfl⟩:=tl HI.out.nums;obtain⟨g,o,rfl,hx0,hwo⟩:=lh (i:=0) HI.out rfl;rw[Nat.add_zero] at hx0;have t:=HI.out.box;rw[show (x::ys).length=4 from by simp[hy3]] at t
 have f:=@run_makeMap prog;obtain⟨w1,w2,r1,r2,r3,hbm⟩:=CA W x (HX5.out x (by simp))
 have A:J _:=hbm;have c:J _:=HI.out.on hbm;have C:w2.c_ g o=some (.string (Ev.bs x)):=by simpa using oY (i:=0) c.o rfl
 have z:=c.o.box;rw[show (x::ys).length=4 from by simp[hy3]] at z
 clear hbm hwo hy3;conv=>arg 2; whnf
 by_cases hk:cw x=0
 ·have j:(cw x == 0)=true:=by rw[hk]; rfl
  go_wp2_with fail;exact HR.out _ _ (c.o.same (E9 _ _) (gc ⟨x,a,b,e,ys,rfl,rfl,(if_pos hk).symm⟩) (fun h=>by cases h))
 ·have j:(cw x == 0)=false:=by simpa using hk
  have D:J _:=hk;clear hk;go_upto_region 66 with fail;clear r1 r2 r3 f C z hx0 t;refine region_ (fun W'=>de B N w0 gb gh gx gr d v (.slice (o_ gn 0) 3 cn) (o_ g o) k (x::ys) [a,b,e] W') 20 (c.o.on (E9 _ _).drew) fun hH=>?_;refine an [(0,p_ gx 0),(1,p_ gx 0),(2,p_ gx 1),(3,p_ gx 1),(4,.i_ d.r.key),(5,.i_ (cw x)),(6,.slice (o_ gn 0) 3 cn),(7,p_ gn 0),(8,.i_ a),(9,.slice (o_ gn 0) 3 cn),(10,p_ gn 1),(11,.i_ b),(12,.slice (o_ gn 0) 3 cn),(13,p_ gn 2),(14,.i_ e),(15,.agg (Q_ (cw x) a b e))] hH (fun W hW=>by have m:=hW.ho.rv.box.c1; have m:=ej (cs:= [.i_ a,.i_ b,.i_ e]) (i:=0) hW.nums rfl; have m:=ej (cs:= [.i_ a,.i_ b,.i_ e]) (i:=1) hW.nums rfl; have m:=ej (cs:= [.i_ a,.i_ b,.i_ e]) (i:=2) hW.nums rfl;go_simp) ?_;simp only[pA,oA,Act.put,pS1]
  refine one_ 16 ?_; intro K hK; go_simp;have p:J _:=DC d.r.key ⟨cw x,a,b,e⟩ w2.drew hH.ho.rv.libs.base;refine Calls.mono p.o ?_;rintro e1 w3 ⟨rfl,hb1⟩;go_wp2_with fail;refine hK.out _ _ (hH.on hb1) ?_;clear hK hH;intro hH;clear K;clear hb1;refine an [(17,.string (nf d.r.key ⟨cw x,a,b,e⟩)),(18,.i_ (writeN ⟨cw x,a,b,e⟩:Nat)),(19,.string (nf d.r.key ⟨cw x,a,b,e⟩))] hH (fun W hW=>by go_simp) ?_;simp only[pA,oA,Act.put,pS1]
  have q:J _:=hH;clear hH;refine late_ 20 ?_; intro K hK; go_simp;refine hK.out _ _ ?_;clear hK K;refine done_ ?_;go_wp2_with fail;refine HR.out _ _ (q.o.same (n:=writeN ⟨cw x,a,b,e⟩) (E9 _ _) (gc ⟨x,a,b,e,ys,rfl,rfl,?_⟩) (fun h=>?_) (a:=if mayB ⟨cw x,a,b,e⟩=true then (ll d.r ⟨cw x,a,b,e⟩).data.toList else []))
  ·rw[if_neg D.o]
   unfold writeN
   cases mayB ⟨cw x,a,b,e⟩ <;> rfl
  ·unfold writeN at h
   unfold nf
   cases hm:mayB ⟨cw x,a,b,e⟩ with
   |true=>rfl
   |false=>rw[hm] at h; cases h
theorem qw:cZ fV []:=by
 intro B N w0 W gb gh gx gr d v vn ao k ws ns R s HI HNN _ HNU HR h0 h1 h5 h10;replace h1:s 1=.string ⟨#[104,101,108,112]⟩:=h1
 rw[ck,h0,h1,h5,h10];clear h0 h1 h5 h10;have q0:=HI.out.ho.c0;have q1:=HI.out.ho.rv.box.c0;conv=>arg 2; whnf
 go_wp2_with fail;exact HR.out _ _ (HI.out.same (E9 _ _) (sH rfl) (fun _=>by decide))
theorem qx(w:World)(gm gh:Nat)(c:Word)(ao:Option Addr)(n k:Nat)(hF:bo w gm)(hc:c.length<=100000)(hf:formOf c=none):
 Calls prog 103 #[p_ gh 0,.string (Ev.bs c),.slice ao n k] w fun e w'=>e=.returned (.tuple #[.string ⟨#[]⟩,.int .i64 3])∧Below w.heap.size w w':=by
 have b:bo (w.alloc (.cells #[.slice ao n k] 66)) gm:=hF.on (bA _ _);have f:=b.look c hc;have hg:=b.cell;rw[hf] at f;simp only[Option.map_none,Option.getD_none,Option.isSome_none] at f;go_enter func103,ntmps103
 go_wp2_with fail;go_ret2;exact⟨rfl,bA _ _⟩
theorem tF(w:World)(gm gh:Nat)(c:Word)(fs:List Bool)(ao:Option Addr)(n k:Nat)(hF:bo w gm)(hf:formOf c=some fs)(hn:fs.length≠n):
 Calls prog 103 #[p_ gh 0,.string (Ev.bs c),.slice ao n k] w fun e w'=>e=.returned (.tuple #[.string ⟨#[]⟩,.int .i64 3])∧Below w.heap.size w w':=by
 have hs:=jw hf;have b:bo (w.alloc (.cells #[.slice ao n k] 66)) gm:=hF.on (bA _ _);have f:=b.look c (by omega)
 have hg:=b.cell;rw[hf] at f;simp only[Option.map_some,Option.getD_some,Option.isSome_some] at f;have m:(Ev.bs (dW fs)).size=fs.length:=by rw[aT,oX]
 have j:((fs.length:Int) == (n:Int))=false:=beq_eq_false_iff_ne.2 (by omega)
 have g:¬ (fs.length:Int)=(n:Int):=by omega
 generalize Ev.bs (dW fs)=F at *;go_enter func103,ntmps103
 go_wp2_with fail;go_ret2;exact⟨rfl,bA _ _⟩
variable {cs:List Value}{v:Value}{w:World}
theorem aE.mono{B':Nat}(h:aE B w v cs)(hB:B'<=B):aE B' w v cs:=by
 rcases h with h1 | ⟨g,c,rfl,hr⟩
 ·exact .inl h1
 ·exact .inr ⟨g,c,rfl,⟨Fe hB hr.new,hr.lt,hr.len,hr.le,hr.max,hr.holds,hr.there⟩⟩
structure wk (p:Prop):Prop where
 out:p
theorem vg{α:Type}{l:List α}{j:Nat}{x:α}(h:l[j]?=some x):l.take (j+1)=l.take j ++ [x]:=by rw[List.take_add_one,h]; rfl
theorem aE.appBelow{w':World}(h:aE B w v cs)(hk:∀l:List Nat,(∀g o n c,v=.slice (some ⟨g,o,none⟩) n c->g∈l)->af l w w')(hB:B<=w.heap.size):Below B w w':=by
 refine (hk (ju v) fun g o n c e=>dP.2 (by rw[e]; rfl)).below hB fun x hx=>?_
 have b:=dP.1 hx;rcases h with ⟨rfl,-⟩ | ⟨g,c,rfl,hr⟩
 ·cases b
 ·simp only[Value.ownBlock,Option.some.injEq] at b
  have:=hr.new;omega
variable {fs:List Bool}{ws:List Word}
theorem yj{b:Bool}{x:Word}{ns:List Int}(hl:fs.length=ws.length)(hb:fs[j]?=some b)(hx:ws[j]?=some x)(h:numsW (fs.take j) (ws.take j)=some ns):
 numsW (fs.take (j+1)) (ws.take (j+1))=if b=true then (numW x).map (ns ++ [·]) else some ns:=by
 rw[vg hb,vg hx,jx (by simp[hl]),h]
theorem yk(hl:fs.length=ws.length)(h:numsW (fs.take j) (ws.take j)=none):numsW fs ws=none:=by
 have:=uZ (gs:=fs.drop j) (ys:=ws.drop j) (by simp[hl]) h
 rwa [List.take_append_drop,List.take_append_drop] at this
theorem vh(B N:Nat)(w:World)(gm gh gx gr:Nat)(d:Dk)(v:Value)(c:Word)(fs:List Bool)(ws:List Word)(g o k:Nat)(ao:Option Addr)(R:Ending->World->Prop)(hF:bo w gm)(h:Ho B N w gh gx gr d v)(hN:N<97000)(hao:ws≠ []->ao=some ⟨g,o,none⟩)(hw:fK w g o (ws.map Ev.bs))(hx:∀x∈ws,x.length<=5000)(hf:formOf c=some fs)(hn:fs.length=ws.length)(hB:B<=w.heap.size)(hga:∀a o,ao=some ⟨a,o,none⟩->a≠gr)(hR1:∀w',numsW fs ws=none->Below w.heap.size w w'->R (.returned (.tuple #[.string ⟨#[]⟩,.int .i64 3])) w')(hR2:∀ns e w',numsW fs ws=some ns->th B N w gh d c ws ns e w'->R e w'):
 Calls prog 103 #[p_ gh 0,.string (Ev.bs c),.slice ao ws.length k] w R:=by
 have F:Hid _:=hR1;have m:Hid _:=hR2;have Ef:Hid _:=hB;have Eg:Hid _:=hga;have Eh:Hid _:=h.rv.doc.lt;have Ei:Hid _:=hao;clear hR1 hR2 hB hga;have hs:=jw hf;have z:=bA w (.cells #[.slice ao ws.length k] 66);have G:bo (w.alloc (.cells #[.slice ao ws.length k] 66)) gm:=hF.on z;have H:=G.look c (by omega)
 have hg:=G.cell;rw[hf] at H;simp only[Option.map_some,Option.getD_some,Option.isSome_some] at H;have hsz:(Ev.bs (dW fs)).size=ws.length:=by rw[aT,oX,hn]
 have Ej:Hid (∀(j:Nat) (b:Bool),fs[j]?=some b->(dW fs)[j]?=some (if b=true then (110:UInt8) else 119)):=fun j b hb=>A0 hb
 have U:Hid _:=h.on z;have V:Hid _:=hw.on z;have s:Hid _:=hN;have q:Hid _:=hx;have r:Hid _:=hf;have D:Hid _:=hn;have I:Hid (ws.length<=4):=(show _<=_ by omega)
 have J:Hid _:=z;have W:(w.alloc (.cells #[.slice ao ws.length k] 66)).c_ w.heap.size 0=some (.slice ao ws.length k):=(Fb _ _ _ _ rfl).trans rfl;have Ek:Hid _:=W;clear hF G hf hs hn h hw hx hN z;go_enter func103,ntmps103
 go_wp2_with fail;generalize hW0:w.alloc _=W0 at *;have X:Hid (W0.heap.size=w.heap.size+1):=(show _=_ by rw[<- hW0]; simp)
 clear hW0 W H hg;go_loopg [10,46] ws.length (fun gk vn iv wr=>∃(j:Nat) (ns:List Int),j+gk=ws.length∧iv=.i_ j∧Hid (numsW (fs.take j) (ws.take j)=some ns)∧Hid (aE W0.heap.size wr vn (ns.map (Value.int .i64)))∧Hid (ns.length<=j)∧Hid (Below W0.heap.size W0 wr))
 case atStart=>exact⟨0,[],by omega,rfl,rfl,.inl ⟨rfl,rfl⟩,Fa _,E9 _ _⟩
 case round=>
  obtain⟨j,ns,hj,rfl,HNS,HRO,HNL,HBL⟩:=hrel;have Y:Hid _:=hj;clear hj;by_cases hlt:j<ws.length
  ·have Eo:(j:Int)<(ws.length:Int):=by omega
   obtain rfl:=hao (by intro e; rw[e] at hlt; simp at hlt)
   obtain⟨x,hx⟩:∃x,ws[j]?=some x:=⟨_,Fh hlt⟩;have hcx:=(V.o.on HBL.out).holds j (Ev.bs x) (by rw[List.getElem?_map,hx]; rfl)
   obtain⟨b,hb⟩:∃b,fs[j]?=some b:=⟨_,Fh (by have:=D.o; omega)⟩
   have Z:=Ej.o j b hb;have A:Hid _:=yj D.o hb hx HNS.out;have Ed:Hid _:=q.o x (FE hx);have hjb:j<(Ev.bs (dW fs)).size:=by omega
   have E:(Ev.bs (dW fs))[j]'hjb=if b=true then (110:UInt8) else 119:=by
    have h1:(dW fs)[j]?=some ((Ev.bs (dW fs))[j]'hjb):=by
     show (dW fs)[j]?=some ((dW fs).toArray[j]'(by simpa[Ev.bs,ByteArray.size] using hjb))
     rw[List.getElem_toArray,List.getElem?_eq_getElem]
    rw[Z] at h1;exact (Option.some.inj h1).symm
   clear hx hb Z
   cases b with
   |false=>
    have hq:((((Ev.bs (dW fs))[j]'hjb).toNat:Int) == 110)=false:=by rw[E]; rfl
    rw[if_neg (by simp)] at A
    clear E;go_wp2_with fail;go_roundg (gk - 1)
    case measure=>have:=Y.o; omega
    case rel=>exact⟨j+1,ns,by have:=Y.o; omega,by have:=I.o; have:=hlt; congr 1; unfold wrap64; omega,A,HRO,(show _<=_ by have:=HNL.out; omega),HBL⟩
   |true=>
    have hq:((((Ev.bs (dW fs))[j]'hjb).toNat:Int) == 110)=true:=by rw[E]; rfl
    rw[if_pos rfl] at A;have hL:=(U.o.rv.libs.on HBL.out);clear E
    cases hnx:numW x with
    |none=>
     have HC:Hid _:=yc (Ev.bs x) wr (by rw[aT]; have:=Ed.o; omega) hL (by rw[bsL]; exact hnx)
     rw[hnx] at A;have El:Hid _:=yk D.o A.o;clear hnx hL;go_wp2_with fail;refine Calls.mono HC.o ?_;rintro e1 w1 ⟨rfl,z⟩;have L:Hid _:=J.o.trans ((HBL.out.tm z).mono J.o.size);clear z;go_wp2_with fail;exact F.o _ El.o L.o
    |some n=>
     have HC:Hid _:=uY (Ev.bs x) n wr (by rw[aT]; have:=Ed.o; omega) hL (by rw[bsL]; exact hnx)
     rw[hnx] at A;clear hnx hL;go_wp2_with fail;refine Calls.mono HC.o ?_;rintro e1 w1 ⟨rfl,z⟩;have F:Hid _:=aE.on HRO.out z;have L:Hid _:=HBL.out.tm z;clear z;obtain⟨i0,hi,hz0,hz1,hz2⟩:=CO;have M:=(E9 w1.heap.size w1).alloc (Fa _) (.cells #[.i_ n] 3);have m:Hid _:=aE.on F.o M;have O:Hid _:=L.o.tm M;have Ee:(ns.map (Value.int .i64)).length<=1000000:=by have:=HNL.out; have:=I.o; simp; omega
     clear M;go_wp2_with (at_builtin; refine cL _ rfl _ _ 23 rfl 3 i0 (.i_ 0) 8 underlying23 hi hz0 hz1 hz2 rfl (by decide) W0.heap.size _ _ rfl m.o O.o.size (a_ w1.heap.size 0) 1 (.i_ n) rfl ((Fb _ _ _ _ rfl).trans rfl) rfl Ee ?_)
     intro vq wq hwq hsq hkq hnq haq;have Em:Hid (aE W0.heap.size wq vq ((ns ++ [n]).map (Value.int .i64))):=(show aE _ _ _ _ by rw[List.map_append]; exact hwq)
     have En:Hid _:=O.o.trans (aE.appBelow m.o hkq O.o.size);clear hwq hsq hkq hnq haq hi hz0 hz1 hz2 Ee;go_wp2_with fail;go_roundg (gk - 1)
     case measure=>have:=Y.o; omega
     case rel=>exact⟨j+1,ns ++ [n],by have:=Y.o; omega,by have:=I.o; have:=hlt; congr 1; unfold wrap64; omega,A,Em,(show _<=_ by have:=HNL.out; simp; omega),En⟩
  ·obtain rfl:j=ws.length:=by have:=Y.o; omega
   have f:Hid (numsW fs ws=some ns):=by
    have h5:=HNS.out;rw[List.take_of_length_le (by have:=D.o; omega),List.take_length] at h5
    exact h5
   have C:=HBL.out
   have t:Hid (de B N w w.heap.size gh gx gr d v u10 ao k ws ns wr):=
    ⟨U.o.on C,HRO.out.mono (by have:=X.o; omega),(C.cell (p:=(a_ w.heap.size 0)) (show w.heap.size<W0.heap.size by have:=X.o; omega)).trans Ek.o,fun hne=>⟨g,o,Ei.o hne,V.o.on C⟩,J.o.tm C,Ef.o,by have:=Eh.o; omega,Eg.o⟩
   clear C;have T:=(jw r.o).1;unfold aC cE at T;simp only[List.map_cons,List.map_nil,List.mem_cons,List.not_mem_nil,or_false] at T;go_upto_region 14 with (refine (show Code.wp _ (Code.seq (Code.region 14 _ _) _) _ _ _ from wk.out ?_))
   refine⟨Dz rfl ?_⟩;rcases T with rfl | rfl | rfl | rfl | rfl | rfl | rfl | rfl | rfl | rfl | rfl | rfl | rfl | rfl | rfl | rfl | rfl | rfl
   ·obtain rfl:=Option.some.inj ((show formOf dg=some _ by rfl).symm.trans r.o)
    exact tr _ _ _ _ _ _ _ _ _ _ _ _ _ _ _ _ _ t s q f (fun e w' h=>m.o _ e w' f.o h) rfl rfl rfl rfl
   ·obtain rfl:=Option.some.inj ((show formOf bM=some _ by rfl).symm.trans r.o)
    exact qp _ _ _ _ _ _ _ _ _ _ _ _ _ _ _ _ _ t s q f (fun e w' h=>m.o _ e w' f.o h) rfl rfl rfl rfl
   ·obtain rfl:=Option.some.inj ((show formOf bj=some _ by rfl).symm.trans r.o)
    exact nI _ _ _ _ _ _ _ _ _ _ _ _ _ _ _ _ _ t s q f (fun e w' h=>m.o _ e w' f.o h) rfl rfl rfl rfl
   ·obtain rfl:=Option.some.inj ((show formOf aR=some _ by rfl).symm.trans r.o)
    exact ng _ _ _ _ _ _ _ _ _ _ _ _ _ _ _ _ _ t s q f (fun e w' h=>m.o _ e w' f.o h) rfl rfl rfl rfl
   ·obtain rfl:=Option.some.inj ((show formOf cA=some _ by rfl).symm.trans r.o)
    exact qq _ _ _ _ _ _ _ _ _ _ _ _ _ _ _ _ _ t s q f (fun e w' h=>m.o _ e w' f.o h) rfl rfl rfl rfl
   ·obtain rfl:=Option.some.inj ((show formOf cI=some _ by rfl).symm.trans r.o)
    exact qr _ _ _ _ _ _ _ _ _ _ _ _ _ _ _ _ _ t s q f (fun e w' h=>m.o _ e w' f.o h) rfl rfl rfl rfl
   ·obtain rfl:=Option.some.inj ((show formOf cu=some _ by rfl).symm.trans r.o)
    exact qt _ _ _ _ _ _ _ _ _ _ _ _ _ _ _ _ _ t s q f (fun e w' h=>m.o _ e w' f.o h) rfl rfl rfl rfl
   ·obtain rfl:=Option.some.inj ((show formOf cC=some _ by rfl).symm.trans r.o)
    exact qu _ _ _ _ _ _ _ _ _ _ _ _ _ _ _ _ _ t s q f (fun e w' h=>m.o _ e w' f.o h) rfl rfl rfl rfl
   ·obtain rfl:=Option.some.inj ((show formOf dS=some _ by rfl).symm.trans r.o)
    exact tu _ _ _ _ _ _ _ _ _ _ _ _ _ _ _ _ _ t s q f (fun e w' h=>m.o _ e w' f.o h) rfl rfl rfl rfl
   ·obtain rfl:=Option.some.inj ((show formOf dd=some _ by rfl).symm.trans r.o)
    exact qv _ _ _ _ _ _ _ _ _ _ _ _ _ _ _ _ _ t s q f (fun e w' h=>m.o _ e w' f.o h) rfl rfl rfl rfl
   ·obtain rfl:=Option.some.inj ((show formOf bY=some _ by rfl).symm.trans r.o)
    exact nJ _ _ _ _ _ _ _ _ _ _ _ _ _ _ _ _ _ t s q f (fun e w' h=>m.o _ e w' f.o h) rfl rfl rfl rfl
   ·obtain rfl:=Option.some.inj ((show formOf bC=some _ by rfl).symm.trans r.o)
    exact nh _ _ _ _ _ _ _ _ _ _ _ _ _ _ _ _ _ t s q f (fun e w' h=>m.o _ e w' f.o h) rfl rfl rfl rfl
   ·obtain rfl:=Option.some.inj ((show formOf fJ=some _ by rfl).symm.trans r.o)
    exact tv _ _ _ _ _ _ _ _ _ _ _ _ _ _ _ _ _ t s q f (fun e w' h=>m.o _ e w' f.o h) rfl rfl rfl rfl
   ·obtain rfl:=Option.some.inj ((show formOf dF=some _ by rfl).symm.trans r.o)
    exact ky _ _ _ _ _ _ _ _ _ _ _ _ _ _ _ _ _ t s q f (fun e w' h=>m.o _ e w' f.o h) rfl rfl rfl rfl
   ·obtain rfl:=Option.some.inj ((show formOf cY=some _ by rfl).symm.trans r.o)
    exact nK _ _ _ _ _ _ _ _ _ _ _ _ _ _ _ _ _ t s q f (fun e w' h=>m.o _ e w' f.o h) rfl rfl rfl rfl
   ·obtain rfl:=Option.some.inj ((show formOf gT=some _ by rfl).symm.trans r.o)
    exact tE _ _ _ _ _ _ _ _ _ _ _ _ _ _ _ _ _ t s q f (fun e w' h=>m.o _ e w' f.o h) rfl rfl rfl rfl
   ·obtain rfl:=Option.some.inj ((show formOf dh=some _ by rfl).symm.trans r.o)
    exact nL _ _ _ _ _ _ _ _ _ _ _ _ _ _ _ _ _ t s q f (fun e w' h=>m.o _ e w' f.o h) rfl rfl rfl rfl
   ·obtain rfl:=Option.some.inj ((show formOf fV=some _ by rfl).symm.trans r.o)
    exact qw _ _ _ _ _ _ _ _ _ _ _ _ _ _ _ _ _ t s q f (fun e w' h=>m.o _ e w' f.o h) rfl rfl rfl rfl
theorem qy(B N:Nat)(w:World)(gm gh gx gr:Nat)(d:Dk)(v:Value)(L:List UInt8)(c:Word)(ws:List Word)(g o k:Nat)(ao:Option Addr)(hF:bo w gm)(h:Ho B N w gh gx gr d v)(hN:N<97000)(hao:ws≠ []->ao=some ⟨g,o,none⟩)(hw:fK w g o (ws.map Ev.bs))(hx:∀x∈c::ws,x.length<=5000)(hB:B<=w.heap.size)(hga:∀a o,ao=some ⟨a,o,none⟩->a≠gr)(hl:bN L=c::ws):
 Calls prog 103 #[p_ gh 0,.string (Ev.bs c),.slice ao ws.length k] w fun e w'=>∃(d':Dk) (x:ByteArray) (n gx' gr':Nat) (v':Value) (a:List UInt8),e=.returned (.tuple #[.string x,.int .i64 (n:Nat)])∧cJ d L d' a∧n<=100∧a.length<=100000∧(n=0->x=Ev.bs a)∧(n≠0->a=errL n)∧Ho B (N+22) w' gh gx' gr' d' v'∧Below B w w':=by
 have b:∀w',cJ d L d (errL 3)->Below w.heap.size w w'->∃(d':Dk) (x:ByteArray) (n gx' gr':Nat) (v':Value) (a:List UInt8),Ending.returned (.tuple #[.e_,.i_ 3])=.returned (.tuple #[.string x,.i_ (n:Nat)])∧cJ d L d' a∧n<=100∧a.length<=100000∧(n=0->x=Ev.bs a)∧(n≠0->a=errL n)∧Ho B (N+22) w' gh gx' gr' d' v'∧Below B w w':=fun w' hr hb=>
  ⟨d,⟨#[]⟩,3,gx,gr,v,errL 3,rfl,hr,by omega,by have:=gi (n:=3) (by omega); omega,(fun e=>by cases e),fun _=>rfl,(h.on hb).mono (by omega),hb.mono hB⟩
 cases hf:formOf c with
 |none=>
  refine (qx w gm gh c ao ws.length k hF (by have:=hx c (by simp); omega) hf).mono ?_
  rintro e w' ⟨rfl,hb⟩;exact b w' (oR hl hf) hb
 |some fs=>
  by_cases hn:fs.length=ws.length
  ·refine vh B N w gm gh gx gr d v c fs ws g o k ao _ hF h hN hao hw (fun x hm=>hx x (by simp[hm])) hf hn hB hga (fun w' hnu hb=>b w' (by simp[cJ,hl,hf,hnu]) hb) ?_
   rintro ns e w' hnu ⟨q,x,gx',gr',v',rfl,hd,hq,ho,hb⟩;have f:=sR hd h.rv.ok.good h.rv.rul ho.rv.ok.good (by have:=h.rv.ok.few; omega) h.rv.ok.low
   have j:cJ d L q.1 (Ev.told q):=by
    simp only[cJ,hl,hf,hnu];exact⟨q,hd,rfl,rfl⟩
   refine⟨q.1,x,q.2.2,gx',gr',v',Ev.told q,rfl,j,f.2,?_,fun e0=>?_,fun e0=>?_,ho,hb⟩
   ·unfold Ev.told
    split
    ·exact f.1
    ·have:=gi f.2; omega
   ·rw[hq e0]
    unfold Ev.told;rw[if_pos e0]
   ·unfold Ev.told
    rw[if_neg e0]
  ·refine (tF w gm gh c fs ao ws.length k hF hf hn).mono ?_
   rintro e w' ⟨rfl,hb⟩;exact b w' (by simp[cJ,hl,hf,jy hn]) hb
end Go.Proofs.YtlailakofhenkabGreatDoor
namespace Go.Proofs.YtlailakofhenkabGreatDoor.Ev
open Go.Lib Tok Sc
theorem oZ{c:UInt8}:∀(n:Nat) (l:List UInt8),l.length<=n->(parts c l).getLast?=some []->l= []∨l.getLast?=some c
 |n,l,hn,h=>by
  by_cases hc:c∈l
  ·obtain⟨x,y,rfl,hx⟩:=List.eq_append_cons_of_mem hc
   cases n with
   |zero=>simp at hn
   |succ n=>
    rw[bD _ hx] at h;obtain⟨p,q,hp⟩:∃p q,parts c y=p::q:=List.exists_cons_of_ne_nil (qE _ y (Fa _));rw[hp,List.getLast?_cons_cons,<- hp] at h;rcases oZ n y (by simp at hn; omega) h with rfl | hy
    ·exact .inr (by simp)
    ·obtain⟨t,rfl⟩:=List.getLast?_eq_some_iff.1 hy
     exact .inr (by rw[show x ++ c::(t ++ [c])=(x ++ c::t) ++ [c] by simp,List.getLast?_concat])
  ·rw[bO hc] at h
   simp at h
   exact .inl h
variable {s:List UInt8}
theorem yl(h:s.getLast?=some 10):parts 10 s=ax s ++ [[]]:=by
 obtain⟨t,rfl⟩:=List.getLast?_eq_some_iff.1 h;unfold ax;rw[xI,oC _ t [] (Nat.le_refl _),bO (show (10:UInt8)∉ [] by simp)]
theorem o0(h:s.getLast?≠some 10):parts 10 s=ax s:=by
 unfold ax fW;rw[if_neg h]
theorem ym(s:List UInt8):0<(ax s).length:=List.length_pos_iff.2 (qE _ _ (Fa _))
theorem vi(h:s.getLast?≠some 10)(h1:1<(ax s).length):(ax s).getLast?≠some []:=by
 intro h2;rw[<- o0 h] at h1 h2;rcases oZ _ s (Fa _) h2 with rfl | h3
 ·rw[bO (show (10:UInt8)∉ [] by simp)] at h1
  simp at h1
 ·exact h h3
def fL(l:List Word)(i:Nat):List Word:=(l.take i).filter (fun x=>decide (x≠ []))
theorem vj{l:List Word}{i:Nat}{x:Word}(h:l[i]?=some x):fL l (i+1)=fL l i ++ if x= [] then [] else [x]:=by
 unfold fL;rw[List.take_add_one,h,List.filter_append];congr 1
 by_cases hx:x= [] <;> simp[hx]
theorem yn(s:List UInt8):fL (parts 32 s) (parts 32 s).length=bN s:=by
 unfold fL bN;rw[List.take_length]
theorem A6(l:List Word)(i:Nat):(fL l i).length<=l.length:=by
 unfold fL;exact Nat.le_trans (List.length_filter_le _ _) (by simp; omega)
end Go.Proofs.YtlailakofhenkabGreatDoor.Ev
