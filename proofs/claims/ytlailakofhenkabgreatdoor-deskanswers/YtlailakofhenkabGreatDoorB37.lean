import Derived.Test.YtlailakofhenkabGreatDoorB36
set_option maxRecDepth 100000
set_option maxHeartbeats 8000000
namespace Go.Proofs.YtlailakofhenkabGreatDoor
open Go Go.RowKit Tok Sc Ev Tryz RegD
attribute [local go_sem] rA oA
structure RTo (N:Nat) (gr:Nat) (v:Value) (w w':World) (q:Pub) (v':Value):Prop where
 doc:aF w' gr q v'
 ok:cr (N+22) q
 keep:af [gr] w w'
 new:v'=v∨ah w.heap.size w' v' q.st.fams
structure co (N:Nat) (w:World) (gx gr:Nat) (r:Rul) (p:Pub) (v:Value):Prop where
 doc:aF w gr p v
 ok:cr N p
 box:eD w gx gr r
 libs:av w
 rul:fA r
 ord:gr<gx
 out:az v gx
 old:bE gr
theorem co.on{N:Nat}{w w':World}{gx gr:Nat}{r:Rul}{p:Pub}{v:Value}(h:co N w gx gr r p v)(hb:Below w.heap.size w w'):co N w' gx gr r p v:=
 ⟨h.doc.on hb,h.ok,h.box.on hb,h.libs.on hb,h.rul,h.ord,h.out,h.old⟩
variable {N gr gx:Nat}{p q:Pub}{r:Rul}{v v':Value}{w w' w1:World}
theorem co.mono{M:Nat}(h:co N w gx gr r p v)(hm:N<=M):co M w gx gr r p v:=
 ⟨h.doc,bS h.ok hm,h.box,h.libs,h.rul,h.ord,h.out,h.old⟩
theorem RTo.notIn{b:Nat}(h:RTo N gr v w w' q v')(hv:az v b)(hb:b<w.heap.size):az v' b:=by
 rcases h.new with h1 | h1
 ·rw[h1]; exact hv
 ·exact az.above h1 hb
theorem RTo.pre(hb:Below w.heap.size w w1)(h:RTo N gr v w1 w' q v'):RTo N gr v w w' q v':=
 ⟨h.doc,h.ok,(af.of _ hb).trans h.keep,h.new.imp id (fun k=>k.mono hb.size)⟩
theorem RTo.post(h:RTo N gr v w w1 q v')(hb:Below w1.heap.size w1 w'):RTo N gr v w w' q v':=by
 refine⟨h.doc.on hb,h.ok,h.keep.then hb,?_⟩;rcases h.new with h1 | h1
 ·exact .inl h1
 ·exact .inr (h1.below hb (Fa _))
theorem RTo.same(h:aF w gr p v)(ho:cr N p)(hb:Below w.heap.size w w'):RTo N gr v w w' p v:=
 ⟨h.on hb,bS ho (by omega),af.of _ hb,.inl rfl⟩
theorem co.to(h:co N w gx gr r p v)(ht:RTo N gr v w w' q v'):co (N+22) w' gx gr r q v':=by
 have h3:=h.ord;have h4:=h.doc.lt;exact⟨ht.doc,ht.ok,h.box.keep ht.keep (by simp; omega),h.libs.belowO (ht.keep.below (B:=gr) (by omega) (fun x hx=>by simp at hx; omega)) h.old,h.rul,h.ord,ht.notIn h.out h.box.lt,h.old⟩
theorem Cy(N:Nat)(w:World)(gr:Nat)(p:Pub)(v:Value)(e:E)(m:Bool)(hm:m=true↔Ev.may e)(hs:Small 5000 e.fam)(h:aF w gr p v)(ho:cr N p)(hN:N<99000):
 Calls prog 86 #[p_ gr 0,evV e] w fun x w'=>x=.returned (.int .i64 ((addP p e m).2:Nat))∧∃v',RTo N gr v w w' (addP p e m).1 v':=by
 have b:=zN hm ho;have f:=ho.few
 cases hdn:p.dn with
 |true=>
  have g:addP p e m=(p,6):=by unfold addP; rw[if_pos hdn]
  rw[g] at b ⊢;refine (sW w gr p v e hdn h).mono ?_;rintro x w' ⟨rfl,q1,q2⟩;exact⟨rfl,v,q1,b,q2,.inl rfl⟩
 |false=>
  obtain⟨st,lg,n,c,l,dn⟩:=p;obtain rfl:dn=false:=hdn;refine (ya w gr st lg n c l v e m hm hs h (by have:n<=N:=f; omega) ho.good ho.low ho.left).mono ?_
  rintro x w' ⟨rfl,v',q1,q2,q3⟩;exact⟨rfl,v',q1,b,q2,q3⟩
theorem qi(N:Nat)(w:World)(gr:Nat)(p:Pub)(v:Value)(e:E)(hm:Ev.may e)(h:aF w gr p v)(ho:cr N p)(hN:N<99000):
 Calls prog 86 #[p_ gr 0,evV e] w fun x w'=>x=.returned (.int .i64 ((addP p e true).2:Nat))∧∃v',RTo N gr v w w' (addP p e true).1 v':=by
 refine Cy N w gr p v e true ⟨fun _=>hm,fun _=>rfl⟩ ?_ h ho hN;rcases hm with ⟨-,h1,-⟩ | ⟨-,h1,-⟩ | ⟨-,h1,-⟩
 ·exact ec h1
 ·rw[h1]; unfold Small zeroF; decide
 ·rw[h1]; unfold Small zeroF; decide
theorem eh(a b:Int)(ha:okN a)(hb:okN b)(w:World):Calls prog 80 #[.i_ a,.i_ b] w fun e w'=>e=.returned (.int .i64 (aZ a b))∧w'=w:=by
 obtain⟨a1,a2⟩:=ha;obtain⟨b1,b2⟩:=hb;have hw:IntKind.i64.wrap (a+b)=a+b:=by rw[IntKind.wrap_i64]; omega
 by_cases h:1099511627776<a+b
 ·have c:J (aZ a b=1099511627776):=if_pos h
  go_enter func80,ntmps80
  go_wp2_with fail
  go_ret;exact⟨by rw[c.o]; rfl,rfl⟩
 ·have c:J (aZ a b=a+b):=if_neg h
  go_enter func80,ntmps80
  go_wp2_with fail
  go_ret;exact⟨by rw[c.o]; rfl,rfl⟩
theorem ku(N:Nat)(w:World)(gx gr:Nat)(r:Rul)(p:Pub)(v:Value)(f:Fam)(h:co N w gx gr r p v)(hf:Ev.may (aI f))(hN:N<99000):
 Calls prog 69 #[p_ gx 0,ap f] w fun e w'=>e=.returned (.int .i64 ((addP p (aI f) true).2:Nat))∧∃v',RTo N gr v w w' (addP p (aI f) true).1 v':=by
 obtain⟨f1,f2,f3,f4,f5,f6,f7,f8,f9⟩:=f;have c:J (Below w.heap.size w (w.alloc (.cells (F_ f1 f2 f3 f4 f5 f6 f7 f8 f9) 40))):=(E9 _ _).alloc (Fa _) _;have j:J (FB (w.alloc (.cells (F_ f1 f2 f3 f4 f5 f6 f7 f8 f9) 40)) w.heap.size ⟨f1,f2,f3,f4,f5,f6,f7,f8,f9⟩):=FB.made w ⟨f1,f2,f3,f4,f5,f6,f7,f8,f9⟩ _;have k:J _:=h.box.on c.o;have m:J (w.heap.size≠gr):=by have t:=h.doc.lt; show _≠_; omega
 have o:J (gx≠gr):=by have t:=h.ord; show _≠_; omega
 have g:=qi N (w.alloc (.cells (F_ f1 f2 f3 f4 f5 f6 f7 f8 f9) 40)).drew gr p v (aI ⟨f1,f2,f3,f4,f5,f6,f7,f8,f9⟩) hf ((h.doc.on c.o).on (E9 _ _).drew) h.ok hN;have b:J (∀_:Unit,Calls prog 86 #[p_ gr 0,.agg (E_ 1 f1 f2 f3 f4 f5 f6 f7 f8 f9 0 0)] (w.alloc (.cells (F_ f1 f2 f3 f4 f5 f6 f7 f8 f9) 40)).drew fun e w'=>e=.returned (.i_ ((addP p (aI ⟨f1,f2,f3,f4,f5,f6,f7,f8,f9⟩) true).2:Nat))∧∃v',RTo N gr v (w.alloc (.cells (F_ f1 f2 f3 f4 f5 f6 f7 f8 f9) 40)).drew w' (addP p (aI ⟨f1,f2,f3,f4,f5,f6,f7,f8,f9⟩) true).1 v'):=fun _=>g;unfold ap ac;simp only;generalize addP p (aI ⟨f1,f2,f3,f4,f5,f6,f7,f8,f9⟩) true=Q at *;obtain⟨q,n⟩:=Q;simp only at b ⊢;go_enter func69,ntmps69
 go_upto_region 1 with fail
 refine region_ (fun W=>FB W w.heap.size ⟨f1,f2,f3,f4,f5,f6,f7,f8,f9⟩∧eD W gx gr r) 7 ⟨j.o.on (E9 _ _).drew,k.o.on (E9 _ _).drew⟩ fun hH=>?_;refine an [(0,p_ gx 0),(1,p_ gx 0),(2,p_ gx 0),(3,p_ gr 0),(4,.agg (F_ f1 f2 f3 f4 f5 f6 f7 f8 f9)),(5,.agg (E_ 1 f1 f2 f3 f4 f5 f6 f7 f8 f9 0 0))] hH (fun W hW=>by have z:=hW.2.c0; have z:=hW.1.c0; have a1:=hW.1.c1; have a2:=hW.1.c2; have a3:=hW.1.c3; have a4:=hW.1.c4; have a5:=hW.1.c5; have a6:=hW.1.c6; have a7:=hW.1.c7; have a8:=hW.1.c8;go_simp) ?_;simp only[pA,oA,Act.put,pS1]
 refine one_ 6 ?_; intro K hK; go_simp;go_at_call 86
 refine (b.o ()).mono ?_;rintro e1 w1 ⟨rfl,v1,hto⟩;have s:J _:=RTo.pre c.o.drew hto;go_wp2_with fail
 refine hK.out _ _ (⟨hH.1.keep hto.keep (by have:=m.o; simp; omega),hH.2.keep hto.keep (by have:=o.o; simp; omega)⟩) ?_
 intro hH;refine late_ 7 ?_; intro K hK; go_simp;refine hK.out _ _ ?_;refine done_ ?_;go_wp2_with fail
 go_ret;exact⟨rfl,_,s.o⟩
theorem ja(N:Nat)(w:World)(gx gr:Nat)(r:Rul)(p:Pub)(v:Value)(f:Fam)(h:co N w gx gr r p v)(hf:bP f):
 Calls prog 70 #[p_ gx 0,ap f] w fun e w'=>e=.returned (.string (txtB r ⟨1,f.id,f.gen,0⟩))∧Below w.heap.size w w':=by
 have c:Tok.may ⟨1,f.id,f.gen,0⟩:=⟨.inl ⟨rfl,rfl⟩,hf.1.1,hf.1.2.1⟩;obtain⟨f1,f2,f3,f4,f5,f6,f7,f8,f9⟩:=f;have b:J (Below w.heap.size w (w.alloc (.cells (F_ f1 f2 f3 f4 f5 f6 f7 f8 f9) 40))):=(E9 _ _).alloc (Fa _) _;have g:J (FB (w.alloc (.cells (F_ f1 f2 f3 f4 f5 f6 f7 f8 f9) 40)) w.heap.size ⟨f1,f2,f3,f4,f5,f6,f7,f8,f9⟩):=FB.made w ⟨f1,f2,f3,f4,f5,f6,f7,f8,f9⟩ _;have j:J _:=h.box.on b.o;have k:J (∀(W:World),Below (w.alloc (.cells (F_ f1 f2 f3 f4 f5 f6 f7 f8 f9) 40)).drew.heap.size (w.alloc (.cells (F_ f1 f2 f3 f4 f5 f6 f7 f8 f9) 40)).drew W->Calls prog 79 #[.i_ r.key,.agg (Q_ 1 f1 f5 0)] W fun e w'=>e=.returned (.tuple #[.string (txtB r ⟨1,f1,f5,0⟩),.i_ 0])∧Below W.heap.size W w'):=fun W hW=>fe r.key ⟨1,f1,f5,0⟩ W c (((h.libs.on b.o).on (E9 _ _).drew).on hW).base;unfold ap ac;simp only
 go_enter func70,ntmps70
 go_upto_region 1 with fail
 refine region_ (fun W=>FB W w.heap.size ⟨f1,f2,f3,f4,f5,f6,f7,f8,f9⟩∧eD W gx gr r) 15 ⟨g.o.on (E9 _ _).drew,j.o.on (E9 _ _).drew⟩ fun hH=>?_;refine an [(0,p_ gx 0),(1,p_ gx 0),(2,p_ gx 1),(3,p_ gx 1),(4,.i_ r.key),(5,p_ w.heap.size 0),(6,.i_ f1),(7,p_ w.heap.size 4),(8,.i_ f5),(9,.agg (Q_ 1 f1 f5 0))] hH (fun W hW=>by have n:=hW.2.c1; have n:=hW.1.c0; have n:=hW.1.c4;go_simp) ?_;simp only[pA,oA,Act.put,pS1]
 refine one_ 10 ?_; intro K hK; go_simp;go_at_call 79
 refine (k.o _ (E9 _ _)).mono ?_;rintro e1 w1 ⟨rfl,hb1⟩;go_wp2_with fail
 have m:J _:=b.o.drew.trans (hb1.mono (by simp))
 refine hK.out _ _ (⟨hH.1.on hb1,hH.2.on hb1⟩) ?_;intro hH;refine an [(11,.tuple #[.string (txtB r ⟨1,f1,f5,0⟩),.i_ 0]),(12,.string (txtB r ⟨1,f1,f5,0⟩)),(13,.i_ 0),(14,.string (txtB r ⟨1,f1,f5,0⟩))] hH (fun W hW=>by go_simp) ?_;simp only[pA,oA,Act.put,pS1]
 refine late_ 15 ?_; intro K hK; go_simp;refine hK.out _ _ ?_;refine done_ ?_;go_wp2_with fail
 go_ret;exact⟨rfl,m.o⟩
theorem oU(N:Nat)(w:World)(gx gr:Nat)(r:Rul)(p:Pub)(v:Value)(f:Fam)(h:co N w gx gr r p v)(hf:bP f):
 Calls prog 87 #[p_ gx 0,ap f] w fun e w'=>e=.returned (.bool (dR r p.st.clock f))∧Below w.heap.size w w':=by
 obtain⟨f1,f2,f3,f4,f5,f6,f7,f8,f9⟩:=f;have j:J (Below w.heap.size w (w.alloc (.cells (F_ f1 f2 f3 f4 f5 f6 f7 f8 f9) 40))):=(E9 _ _).alloc (Fa _) _;have m:J (FB (w.alloc (.cells (F_ f1 f2 f3 f4 f5 f6 f7 f8 f9) 40)) w.heap.size ⟨f1,f2,f3,f4,f5,f6,f7,f8,f9⟩):=FB.made w ⟨f1,f2,f3,f4,f5,f6,f7,f8,f9⟩ _;have b:J _:=h.on j.o;have q:J _:=hf.1.2.2.2;have n:J _:=hf.1.2.2.1;have c:J _:=h.rul;unfold ap ac;simp only;by_cases h1:aZ f7 r.idle<p.st.clock
 ·have o:J (dR r p.st.clock ⟨f1,f2,f3,f4,f5,f6,f7,f8,f9⟩=true):=by show _=true; unfold dR; simp[h1]
  go_enter func87,ntmps87
  go_upto_region 1 with fail;have s:=b.o.box.c0;have t:=b.o.doc.c0;go_upto_region 2 with fail;refine region_ (fun W=>FB W w.heap.size ⟨f1,f2,f3,f4,f5,f6,f7,f8,f9⟩∧eD W gx gr r) 22 ⟨m.o.on (E9 _ _).drew,b.o.box.on (E9 _ _).drew⟩ fun hH=>?_;refine RegD.take1 0 (.i_ p.st.clock) rfl hH (fun W hW=>by go_simp) ?_;simp only[Act.put,pS1,pS2,pS3];refine RegD.take1 1 (p_ w.heap.size 6) rfl hH (fun W hW=>by go_simp) ?_;simp only[Act.put,pS1,pS2,pS3];refine RegD.take1 2 (.i_ f7) rfl hH (fun W hW=>by have k:=hW.1.c6; go_simp) ?_
  simp only[Act.put,pS1,pS2,pS3];refine RegD.take1 3 (p_ gx 0) rfl hH (fun W hW=>by go_simp) ?_;simp only[Act.put,pS1,pS2,pS3];refine RegD.take1 4 (p_ gx 0) rfl hH (fun W hW=>by go_simp) ?_;simp only[Act.put,pS1,pS2,pS3];refine RegD.take1 5 (p_ gx 1) rfl hH (fun W hW=>by go_simp) ?_;simp only[Act.put,pS1,pS2,pS3];refine RegD.take1 6 (p_ gx 2) rfl hH (fun W hW=>by go_simp) ?_;simp only[Act.put,pS1,pS2,pS3];refine RegD.take1 7 (.i_ r.idle) rfl hH (fun W hW=>by have k:=hW.2.c2; go_simp) ?_
  simp only[Act.put,pS1,pS2,pS3];refine one_ 8 ?_; intro K hK; go_simp;go_at_call 80;refine (eh _ _ q.o c.o.idle _).mono ?_;rintro e1 w1 ⟨rfl,rfl⟩;go_wp2_with fail;refine hK.out _ _ (hH) ?_;intro hH;refine RegD.take1 9 (.bool true) rfl hH (fun W hW=>by go_simp) ?_;simp only[Act.put,pS1,pS2,pS3];refine RegD.take1 10 (.bool true) rfl hH (fun W hW=>by go_simp) ?_;simp only[Act.put,pS1,pS2,pS3];refine tk1 11 (v:=undef) rfl (by kernel_rfl) (fun _ _ _ h=>h) (.inr ⟨by rfl,rfl⟩) hH ?_;simp only[Act.put,pS1,pS2,pS3];refine tk1 12 (v:=undef) rfl (by kernel_rfl) (fun _ _ _ h=>h) (.inr ⟨by rfl,rfl⟩) hH ?_;simp only[Act.put,pS1,pS2,pS3];refine tk1 13 (v:=undef) rfl (by kernel_rfl) (fun _ _ _ h=>h) (.inr ⟨by rfl,rfl⟩) hH ?_;simp only[Act.put,pS1,pS2,pS3];refine tk1 14 (v:=undef) rfl (by kernel_rfl) (fun _ _ _ h=>h) (.inr ⟨by rfl,rfl⟩) hH ?_;simp only[Act.put,pS1,pS2,pS3];refine tk1 15 (v:=undef) rfl (by kernel_rfl) (fun _ _ _ h=>h) (.inr ⟨by rfl,rfl⟩) hH ?_;simp only[Act.put,pS1,pS2,pS3];refine tk1 16 (v:=undef) rfl (by kernel_rfl) (fun _ _ _ h=>h) (.inr ⟨by rfl,rfl⟩) hH ?_;simp only[Act.put,pS1,pS2,pS3];refine tk1 17 (v:=undef) rfl (by kernel_rfl) (fun _ _ _ h=>h) (.inr ⟨by rfl,rfl⟩) hH ?_;simp only[Act.put,pS1,pS2,pS3];refine tk1 18 (v:=undef) rfl (by kernel_rfl) (fun _ _ _ h=>h) (.inr ⟨by rfl,rfl⟩) hH ?_
  simp only[Act.put,pS1,pS2,pS3];refine tk1 19 (v:=undef) rfl (by kernel_rfl) (fun _ _ _ h=>h) (.inr ⟨by rfl,rfl⟩) hH ?_;simp only[Act.put,pS1,pS2,pS3];refine tk1 20 (v:=undef) rfl (by kernel_rfl) (fun _ _ _ h=>h) (.inr ⟨by rfl,rfl⟩) hH ?_;simp only[Act.put,pS1,pS2,pS3];refine RegD.take1 21 (.bool true) rfl hH (fun W hW=>by go_simp) ?_;simp only[Act.put,pS1,pS2,pS3];have g:J _:=j.o.drew;refine late_ 22 ?_; intro K hK; go_simp;refine hK.out _ _ ?_;refine done_ ?_;go_wp2_with fail;go_ret;exact⟨by rw[o.o]; rfl,g.o⟩
 ·by_cases h2:aZ f6 r.life<p.st.clock
  ·have o:J (dR r p.st.clock ⟨f1,f2,f3,f4,f5,f6,f7,f8,f9⟩=true):=by show _=true; unfold dR; simp[h2]
   go_enter func87,ntmps87
   go_upto_region 1 with fail;have s:=b.o.box.c0;have t:=b.o.doc.c0;go_upto_region 2 with fail;refine region_ (fun W=>FB W w.heap.size ⟨f1,f2,f3,f4,f5,f6,f7,f8,f9⟩∧eD W gx gr r) 22 ⟨m.o.on (E9 _ _).drew,b.o.box.on (E9 _ _).drew⟩ fun hH=>?_;refine RegD.take1 0 (.i_ p.st.clock) rfl hH (fun W hW=>by go_simp) ?_;simp only[Act.put,pS1,pS2,pS3];refine RegD.take1 1 (p_ w.heap.size 6) rfl hH (fun W hW=>by go_simp) ?_;simp only[Act.put,pS1,pS2,pS3];refine RegD.take1 2 (.i_ f7) rfl hH (fun W hW=>by have k:=hW.1.c6; go_simp) ?_
   simp only[Act.put,pS1,pS2,pS3];refine RegD.take1 3 (p_ gx 0) rfl hH (fun W hW=>by go_simp) ?_;simp only[Act.put,pS1,pS2,pS3];refine RegD.take1 4 (p_ gx 0) rfl hH (fun W hW=>by go_simp) ?_;simp only[Act.put,pS1,pS2,pS3];refine RegD.take1 5 (p_ gx 1) rfl hH (fun W hW=>by go_simp) ?_;simp only[Act.put,pS1,pS2,pS3];refine RegD.take1 6 (p_ gx 2) rfl hH (fun W hW=>by go_simp) ?_;simp only[Act.put,pS1,pS2,pS3];refine RegD.take1 7 (.i_ r.idle) rfl hH (fun W hW=>by have k:=hW.2.c2; go_simp) ?_
   simp only[Act.put,pS1,pS2,pS3];refine one_ 8 ?_; intro K hK; go_simp;go_at_call 80;refine (eh _ _ q.o c.o.idle _).mono ?_;rintro e1 w1 ⟨rfl,rfl⟩;go_wp2_with fail;refine hK.out _ _ (hH) ?_;intro hH;refine RegD.take1 9 (.bool false) rfl hH (fun W hW=>by go_simp) ?_;simp only[Act.put,pS1,pS2,pS3];refine RegD.take1 10 (.bool false) rfl hH (fun W hW=>by go_simp) ?_;simp only[Act.put,pS1,pS2,pS3];refine RegD.take1 11 (.i_ p.st.clock) rfl hH (fun W hW=>by go_simp) ?_;simp only[Act.put,pS1,pS2,pS3];refine RegD.take1 12 (p_ w.heap.size 5) rfl hH (fun W hW=>by go_simp) ?_;simp only[Act.put,pS1,pS2,pS3];refine RegD.take1 13 (.i_ f6) rfl hH (fun W hW=>by have k:=hW.1.c5; go_simp) ?_
   simp only[Act.put,pS1,pS2,pS3];refine RegD.take1 14 (p_ gx 0) rfl hH (fun W hW=>by go_simp) ?_;simp only[Act.put,pS1,pS2,pS3];refine RegD.take1 15 (p_ gx 0) rfl hH (fun W hW=>by go_simp) ?_;simp only[Act.put,pS1,pS2,pS3];refine RegD.take1 16 (p_ gx 1) rfl hH (fun W hW=>by go_simp) ?_;simp only[Act.put,pS1,pS2,pS3];refine RegD.take1 17 (p_ gx 3) rfl hH (fun W hW=>by go_simp) ?_;simp only[Act.put,pS1,pS2,pS3];refine RegD.take1 18 (.i_ r.life) rfl hH (fun W hW=>by have k:=hW.2.c3; go_simp) ?_
   simp only[Act.put,pS1,pS2,pS3];refine one_ 19 ?_; intro K hK; go_simp;go_at_call 80;refine (eh _ _ n.o c.o.life _).mono ?_;rintro e2 w2 ⟨rfl,rfl⟩;go_wp2_with fail;refine hK.out _ _ (hH) ?_;intro hH;refine RegD.take1 20 (.bool true) rfl hH (fun W hW=>by go_simp) ?_;simp only[Act.put,pS1,pS2,pS3];refine RegD.take1 21 (.bool true) rfl hH (fun W hW=>by go_simp) ?_;simp only[Act.put,pS1,pS2,pS3];have g:J _:=j.o.drew;refine late_ 22 ?_; intro K hK; go_simp;refine hK.out _ _ ?_;refine done_ ?_;go_wp2_with fail;go_ret;exact⟨by rw[o.o]; rfl,g.o⟩
  ·have o:J (dR r p.st.clock ⟨f1,f2,f3,f4,f5,f6,f7,f8,f9⟩=false):=by show _=false; unfold dR; simp[h1,h2]
   go_enter func87,ntmps87
   go_upto_region 1 with fail;have s:=b.o.box.c0;have t:=b.o.doc.c0;go_upto_region 2 with fail;refine region_ (fun W=>FB W w.heap.size ⟨f1,f2,f3,f4,f5,f6,f7,f8,f9⟩∧eD W gx gr r) 22 ⟨m.o.on (E9 _ _).drew,b.o.box.on (E9 _ _).drew⟩ fun hH=>?_;refine RegD.take1 0 (.i_ p.st.clock) rfl hH (fun W hW=>by go_simp) ?_;simp only[Act.put,pS1,pS2,pS3];refine RegD.take1 1 (p_ w.heap.size 6) rfl hH (fun W hW=>by go_simp) ?_;simp only[Act.put,pS1,pS2,pS3];refine RegD.take1 2 (.i_ f7) rfl hH (fun W hW=>by have k:=hW.1.c6; go_simp) ?_
   simp only[Act.put,pS1,pS2,pS3];refine RegD.take1 3 (p_ gx 0) rfl hH (fun W hW=>by go_simp) ?_;simp only[Act.put,pS1,pS2,pS3];refine RegD.take1 4 (p_ gx 0) rfl hH (fun W hW=>by go_simp) ?_;simp only[Act.put,pS1,pS2,pS3];refine RegD.take1 5 (p_ gx 1) rfl hH (fun W hW=>by go_simp) ?_;simp only[Act.put,pS1,pS2,pS3];refine RegD.take1 6 (p_ gx 2) rfl hH (fun W hW=>by go_simp) ?_;simp only[Act.put,pS1,pS2,pS3];refine RegD.take1 7 (.i_ r.idle) rfl hH (fun W hW=>by have k:=hW.2.c2; go_simp) ?_
   simp only[Act.put,pS1,pS2,pS3];refine one_ 8 ?_; intro K hK; go_simp;go_at_call 80;refine (eh _ _ q.o c.o.idle _).mono ?_;rintro e1 w1 ⟨rfl,rfl⟩;go_wp2_with fail;refine hK.out _ _ (hH) ?_;intro hH;refine RegD.take1 9 (.bool false) rfl hH (fun W hW=>by go_simp) ?_;simp only[Act.put,pS1,pS2,pS3];refine RegD.take1 10 (.bool false) rfl hH (fun W hW=>by go_simp) ?_;simp only[Act.put,pS1,pS2,pS3];refine RegD.take1 11 (.i_ p.st.clock) rfl hH (fun W hW=>by go_simp) ?_;simp only[Act.put,pS1,pS2,pS3];refine RegD.take1 12 (p_ w.heap.size 5) rfl hH (fun W hW=>by go_simp) ?_;simp only[Act.put,pS1,pS2,pS3];refine RegD.take1 13 (.i_ f6) rfl hH (fun W hW=>by have k:=hW.1.c5; go_simp) ?_
   simp only[Act.put,pS1,pS2,pS3];refine RegD.take1 14 (p_ gx 0) rfl hH (fun W hW=>by go_simp) ?_;simp only[Act.put,pS1,pS2,pS3];refine RegD.take1 15 (p_ gx 0) rfl hH (fun W hW=>by go_simp) ?_;simp only[Act.put,pS1,pS2,pS3];refine RegD.take1 16 (p_ gx 1) rfl hH (fun W hW=>by go_simp) ?_;simp only[Act.put,pS1,pS2,pS3];refine RegD.take1 17 (p_ gx 3) rfl hH (fun W hW=>by go_simp) ?_;simp only[Act.put,pS1,pS2,pS3];refine RegD.take1 18 (.i_ r.life) rfl hH (fun W hW=>by have k:=hW.2.c3; go_simp) ?_
   simp only[Act.put,pS1,pS2,pS3];refine one_ 19 ?_; intro K hK; go_simp;go_at_call 80;refine (eh _ _ n.o c.o.life _).mono ?_;rintro e2 w2 ⟨rfl,rfl⟩;go_wp2_with fail;refine hK.out _ _ (hH) ?_;intro hH;refine RegD.take1 20 (.bool false) rfl hH (fun W hW=>by go_simp) ?_;simp only[Act.put,pS1,pS2,pS3];refine RegD.take1 21 (.bool false) rfl hH (fun W hW=>by go_simp) ?_;simp only[Act.put,pS1,pS2,pS3];have g:J _:=j.o.drew;refine late_ 22 ?_; intro K hK; go_simp;refine hK.out _ _ ?_;refine done_ ?_;go_wp2_with fail;go_ret;exact⟨by rw[o.o]; rfl,g.o⟩
structure fk (g:Nat) (t:T) (w:World):Prop where
 lt:g<w.heap.size
 c0:w.cell? ⟨g,0,none⟩=some (.int .i64 t.k)
 c1:w.cell? ⟨g,1,none⟩=some (.int .i64 t.f)
 c2:w.cell? ⟨g,2,none⟩=some (.int .i64 t.g)
 c3:w.cell? ⟨g,3,none⟩=some (.int .i64 t.e)
theorem fk.on{g B:Nat}{t:T}(h:fk g t w)(hb:Below B w w')(hg:g<B):fk g t w':=
 ⟨Fd h.lt hb.size,(hb.cell (p:=(a_ g 0)) hg).trans h.c0,(hb.cell (p:=(a_ g 1)) hg).trans h.c1,(hb.cell (p:=(a_ g 2)) hg).trans h.c2,(hb.cell (p:=(a_ g 3)) hg).trans h.c3⟩
theorem fk.made(w:World)(t:T)(ty:TypeId):fk w.heap.size t (w.alloc (.cells #[.int .i64 t.k,.int .i64 t.f,.int .i64 t.g,.int .i64 t.e] ty)):=by
 constructor <;> simp
end Go.Proofs.YtlailakofhenkabGreatDoor
