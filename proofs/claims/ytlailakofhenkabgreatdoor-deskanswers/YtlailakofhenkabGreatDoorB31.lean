import Derived.Test.YtlailakofhenkabGreatDoorB28
set_option maxRecDepth 100000
set_option maxHeartbeats 8000000
namespace Go.Proofs.YtlailakofhenkabGreatDoor
open Go Go.RowKit Tok Sc Ev Tryz
theorem xO(w:World)(pd:Value)(gt nt ct:Nat)(bn:Option Addr)(nn cn:Nat)(x X:ByteArray)(n:Nat)(h0:w.cell? ⟨gt,0,none⟩=some (.string x))(hn:0<nt)(hE:ErrVar w)(HC:∀W,Below w.heap.size w W->Calls prog 71 #[.string x] W fun e w'=>e=.returned (.tuple #[.string X,aB n])∧Below W.heap.size W w'):
 Calls prog 241 #[pd,.agg #[.slice (o_ gt 0) nt ct,.slice bn nn cn]] w fun e w'=>e=fY (fD X) n∧Below w.heap.size w w':=by
 have c:Below w.heap.size w (w.alloc (.cells #[.slice (o_ gt 0) nt ct,.slice bn nn cn] 256)):=(E9 _ _).alloc (Fa _) _;have f:J _:=c;have m:=AgB.made w (o_ gt 0) bn nt ct nn cn 256;have o:=m.c0;have q:=(c.cell (p:=(a_ gt 0)) (Fc _ _ h0)).trans h0;have g:J _:=HC;have r:J (ErrVar w):=hE;have s:(0:Int)<(nt:Int):=by omega
 have t:¬ nt=0:=by omega
 clear h0 c m HC hn hE;go_enter func241,ntmps241
 go_wp2_with fail
 go_at_call 71
 refine (g.o _ f.o).mono ?_;rintro e1 w1 ⟨rfl,hb1⟩;have b:J (Below w.heap.size w w1):=f.o.trans (hb1.mono f.o.size);have j:J (ErrVar w1):=r.o.on b.o;clear hb1 o q
 cases n with
 |zero=>
  rw[show aB 0=.nilIface from rfl]
  go_wp2_with fail
  go_at_call 295
  refine (iu X _).mono ?_;rintro e2 w2 ⟨rfl,rfl⟩;go_wp2_with fail
  go_at_call 301
  refine (ir X _).mono ?_;rintro e3 w3 ⟨rfl,rfl⟩;go_wp2_with fail
  go_ret;exact⟨rfl,b.o⟩
 |succ n=>
  go_wp2_with fail
  go_at_call 295
  refine (ix X n _ j.o).mono ?_;rintro e2 w2 ⟨rfl,hb2⟩;have k:J _:=b.o.trans (hb2.mono b.o.size);clear hb2;unfold aM;go_wp2_with fail
  exact⟨rfl,rfl,k.o⟩
theorem AI(f:Fam)(w:World):Calls prog 297 #[ap f,.nilIface] w fun e w'=>e=.returned (ap f)∧Below w.heap.size w w':=by
 obtain⟨f1,f2,f3,f4,f5,f6,f7,f8,f9⟩:=f;unfold ap ac;simp only;go_enter func297,ntmps297
 go_wp2_with fail;go_at_call 294;refine (ex _).mono ?_;rintro e1 w1 ⟨rfl,rfl⟩;go_wp2_with fail;refine bodyPost_ret (v:=.agg (F_ f1 f2 f3 f4 f5 f6 f7 f8 f9)) (by simp[results,results297,go_sem]) rfl ⟨rfl,?_⟩
 exact (bA _ _).alloc (by simp) _
theorem AJ(f:Fam)(n:Nat)(w:World)(hE:ErrVar w):Calls prog 297 #[ap f,aB (n+1)] w fun e w'=>e=aM (n+1:Nat)∧Below w.heap.size w w':=by
 obtain⟨f1,f2,f3,f4,f5,f6,f7,f8,f9⟩:=f;have b:J (Below w.heap.size w ((w.alloc (.cells (F_ f1 f2 f3 f4 f5 f6 f7 f8 f9) 40)).alloc (.cells f_ 40))):=((Below.refl _ _).alloc (Nat.le_refl _) _).alloc (by simp) _
 have c:J _:=hE.on b.o;clear hE;unfold ap ac;simp only;go_enter func297,ntmps297
 go_wp2_with fail
 go_at_call 294
 refine (fh n _ c.o).mono ?_;rintro e1 w1 ⟨rfl,hb1⟩;have g:J _:=b.o.trans (hb1.mono b.o.size);clear hb1;unfold aM;go_wp2_with fail
 exact⟨rfl,rfl,g.o⟩
open RegD
attribute [local go_sem] rA oA
theorem AK(N:Nat)(w:World)(gk gd gs gv gm gt nt ct:Nat)(bn:Option Addr)(nn cn:Nat)(r:Rul)(p q:Pub)(v:Value)(x0:ByteArray)(F:Fam)(n:Nat)(h:DkI N w gk gd gs gv gm r p v)(h0:w.cell? ⟨gt,0,none⟩=some (.string x0))(hgt:gt≠gd∧gt≠gs)(hn:0<nt)(hF:n=0->bP F∧(famL F).length<=100000)(HC:∀W,be N W gv gs gd r p v->Calls prog 33 #[p_ gv 0,.string x0] W fun e w'=>e=.returned (.tuple #[ap F,aB n])∧∃v',aD N gs gd v W w' q v'):
 Calls prog 232 #[p_ gk 0,.agg #[.slice (o_ gt 0) nt ct,.slice bn nn cn]] w fun e w'=>e=fY ⟨(famL F).toArray⟩ n∧∃v',aD N gs gd v w w' q v':=by
 have f:=bA w (.cells #[.slice (o_ gt 0) nt ct,.slice bn nn cn] 256);have G:Hid _:=f;have H:Hid _:=AgB.made w (o_ gt 0) bn nt ct nn cn 256;have t:Hid _:=h.on f;have j:Hid _:=HC;have k:Hid _:=hF;have z:Hid _:=h.sv;have m:Hid _:=(f.cell (p:=(a_ gt 0)) (Fc _ _ h0)).trans h0;have A:Hid _:=Fd (Fc _ _ h0) f.size;have L:(0:Int)<(nt:Int):=by omega
 have M:¬ nt=0:=by omega
 have c:Hid (w.heap.size≠gd∧w.heap.size≠gs∧gk≠gd∧gk≠gs∧gt≠gd∧gt≠gs):=by
  have h8:=h.sv.sp.ord;have h9:=h.sv.sp.lt;exact⟨by omega,by omega,h.ne.1,h.ne.2.1,hgt.1,hgt.2⟩
 clear h0 f hn h HC hgt hF;go_enter func232,ntmps232
 go_upto_region 1 with fail;generalize hW:(w.alloc _)=W at *;clear hW;generalize hg:w.heap.size=g at *;have O:Hid _:=hg;clear hg;refine region_ (fun V=>AgB V g (o_ gt 0) bn nt ct nn cn∧DAt V gk gd gs gv gm r∧V.c_ gt 0=some (.string x0)) 11 ⟨H.o.on (E9 _ _).drew,t.o.box.on (E9 _ _).drew,m.o⟩ fun hH=>?_;refine an [(0,p_ gk 0),(1,p_ gk 0),(2,p_ gk 2),(3,p_ gv 0),(4,p_ g 0),(5,.slice (o_ gt 0) nt ct),(6,p_ gt 0),(7,.string x0)] hH (fun W hW=>by have I:=hW.2.1.c2; have I:=hW.1.c0; have I:=hW.2.2;go_simp) ?_;simp only[pA,oA,Act.put,pS1]
 refine one_ 8 ?_; intro K hK; go_simp;go_at_call 33;refine (j.o _ (t.o.sv.on (E9 _ _).drew)).mono ?_;rintro e1 w1 ⟨rfl,v1,hto⟩;have o:Hid _:=aD.pre (E9 _ _).drew hto;go_wp2_with fail;refine hK.out _ _ (⟨hH.1.keep hto.keep (by have:=c.o; simp; omega),hH.2.1.keep hto.keep (by have:=c.o; simp; omega),(hto.keep.cell (p:=(a_ gt 0)) (Fc _ _ (hH.2.2)) (by have:=c.o; simp; omega)).trans (hH.2.2)⟩) ?_
 clear hK hH;intro hH;clear K;clear hto;refine an [(9,ap F),(10,aB n)] hH (fun W hW=>by go_simp) ?_;simp only[pA,oA,Act.put,pS1]
 have b:Hid (aD N gs gd v w w1 q v1):=by
  have J:=G.o;rw[<- O.o] at J;exact aD.pre J o.o
 have B:Hid _:=b.o.prog.err;have C:Hid _:=(z.o.to b.o).libs;clear o H t j G m A hH
 cases n with
 |zero=>
  refine late_ 11 ?_; intro K hK; go_simp;go_at_call 297;refine (AI F _).mono ?_;rintro e2 w2 ⟨rfl,hb2⟩;have s:Hid _:=hb2;clear hb2;go_wp2_with fail;refine hK.out _ _ ?_;clear hK K;refine late_ 12 ?_; intro K hK; go_simp;go_at_call 296;refine (wb F _ (k.o (by simp)).1 (k.o (by simp)).2 (C.o.on s.o)).mono ?_;rintro e3 w3 ⟨rfl,hb3⟩;have D:Hid _:=hb3;clear hb3;go_wp2_with fail;refine hK.out _ _ ?_;clear hK K;refine late_ 13 ?_; intro K hK; go_simp;refine hK.out _ _ ?_;clear hK K;refine done_ ?_;go_wp2_with fail;go_ret;exact⟨rfl,v1,(b.o.post s.o).post D.o⟩
 |succ n=>
  refine late_ 11 ?_; intro K hK; go_simp;go_at_call 297;refine (AJ F n _ B.o).mono ?_;rintro e2 w2 ⟨rfl,hb2⟩;have E:Hid _:=b.o.post hb2;clear hb2;unfold aM;go_wp2_with fail;exact⟨rfl,rfl,v1,E.o⟩
theorem uD(w:World)(gk gd gs gv gm gt gn nt ct nn cn:Nat)(r:Rul)(x:ByteArray)(a b c:Int)(hD:DAt w gk gd gs gv gm r)(h0:w.cell? ⟨gt,0,none⟩=some (.string x))(k0:w.cell? ⟨gn,0,none⟩=some (.int .i64 a))(k1:w.cell? ⟨gn,1,none⟩=some (.int .i64 b))(k2:w.cell? ⟨gn,2,none⟩=some (.int .i64 c))(hn:0<nt)(hm:2<nn)(hk:ep x=0):
 Calls prog 243 #[p_ gk 0,.agg #[.slice (o_ gt 0) nt ct,.slice (o_ gn 0) nn cn]] w fun e w'=>e=aM 3∧Below w.heap.size w w':=by
 have j:=bA w (.cells #[.slice (o_ gt 0) nt ct,.slice (o_ gn 0) nn cn] 256);have s:J _:=j;have t:J _:=AgB.made w (o_ gt 0) (o_ gn 0) nt ct nn cn 256;have v:J _:=hD.on j;have z:J _:=(j.cell (p:=(a_ gt 0)) (Fc _ _ h0)).trans h0;have k:J _:=(j.cell (p:=(a_ gn 0)) (Fc _ _ k0)).trans k0;have m:J _:=(j.cell (p:=(a_ gn 1)) (Fc _ _ k1)).trans k1;have n:J _:=(j.cell (p:=(a_ gn 2)) (Fc _ _ k2)).trans k2;have _HBS:Hid (w.heap.size<=(w.alloc (.cells #[.slice (o_ gt 0) nt ct,.slice (o_ gn 0) nn cn] 256)).heap.size):=j.size;have A:(0:Int)<(nt:Int):=by omega
 have B:(0:Int)<(nn:Int):=by omega
 have C:(1:Int)<(nn:Int):=by omega
 have D:(2:Int)<(nn:Int):=by omega
 have E:¬ nt=0:=by omega
 have F:¬ nn=0:=by omega
 go_enter func243,ntmps243
 go_upto_region 1 with fail;generalize hW:(w.alloc _)=W at *;generalize hg:w.heap.size=g at *;have G:J _:=hg;refine region_ (fun V=>AgB V g (o_ gt 0) (o_ gn 0) nt ct nn cn∧DAt V gk gd gs gv gm r∧V.c_ gt 0=some (.string x)∧V.c_ gn 0=some (.i_ a)∧V.c_ gn 1=some (.i_ b)∧V.c_ gn 2=some (.i_ c)∧Below g W V) 26 ⟨t.o.on (E9 _ _).drew,v.o.on (E9 _ _).drew,z.o,k.o,m.o,n.o,(E9 _ _).drew⟩ fun hH=>?_;refine an [(0,p_ gk 0),(1,p_ gk 0),(2,p_ gk 3),(3,p_ gk 3),(4,.i_ r.key),(5,p_ g 0),(6,.slice (o_ gt 0) nt ct),(7,p_ gt 0),(8,.string x),(10,p_ g 1),(11,.slice (o_ gn 0) nn cn),(12,p_ gn 0),(13,.i_ a),(14,p_ g 1),(15,.slice (o_ gn 0) nn cn),(16,p_ gn 1),(17,.i_ b),(18,p_ g 1),(19,.slice (o_ gn 0) nn cn),(20,p_ gn 2),(21,.i_ c)] hH (fun W hW=>by have f:=hW.2.1.c3; have f:=hW.1.c0; have f:=hW.2.2.1; have f:=hW.1.c1; have f:=hW.2.2.2.1; have f:=hW.1.c1; have f:=hW.2.2.2.2.1; have f:=hW.1.c1; have f:=hW.2.2.2.2.2.1;go_simp) ?_;simp only[pA,oA,Act.put,pS1]
 refine one_ 9 ?_; intro K hK; go_simp;go_at_call 302;refine (kR x _).mono ?_;rw[if_pos hk];rintro e1 w1 ⟨rfl,rfl⟩;have o:J _:=s.o.trans hH.2.2.2.2.2.2;unfold aM;go_wp2_with fail;have q:=o.o;rw[<- G.o] at q;exact⟨rfl,rfl,q⟩
theorem oF(w:World)(gk gd gs gv gm gt gn nt ct nn cn:Nat)(r:Rul)(x X:ByteArray)(a b c:Int)(n:Nat)(hD:DAt w gk gd gs gv gm r)(h0:w.cell? ⟨gt,0,none⟩=some (.string x))(k0:w.cell? ⟨gn,0,none⟩=some (.int .i64 a))(k1:w.cell? ⟨gn,1,none⟩=some (.int .i64 b))(k2:w.cell? ⟨gn,2,none⟩=some (.int .i64 c))(hn:0<nt)(hm:2<nn)(hk:ep x≠0)(hE:ErrVar w)(HC:∀W,Below w.heap.size w W->Calls prog 81 #[.i_ r.key,.agg #[.i_ (ep x),.i_ a,.i_ b,.i_ c]] W fun e w'=>e=.returned (.tuple #[.string X,aB n])∧Below W.heap.size W w'):
 Calls prog 243 #[p_ gk 0,.agg #[.slice (o_ gt 0) nt ct,.slice (o_ gn 0) nn cn]] w fun e w'=>e=fY X n∧Below w.heap.size w w':=by
 have m:=bA w (.cells #[.slice (o_ gt 0) nt ct,.slice (o_ gn 0) nn cn] 256);have D:Hid _:=m;have F:Hid _:=AgB.made w (o_ gt 0) (o_ gn 0) nt ct nn cn 256;have G:Hid _:=hD.on m;have H:Hid _:=(m.cell (p:=(a_ gt 0)) (Fc _ _ h0)).trans h0;have o:Hid _:=(m.cell (p:=(a_ gn 0)) (Fc _ _ k0)).trans k0;have q:Hid _:=(m.cell (p:=(a_ gn 1)) (Fc _ _ k1)).trans k1;have s:Hid _:=(m.cell (p:=(a_ gn 2)) (Fc _ _ k2)).trans k2;have t:Hid _:=m.size;have I:(0:Int)<(nt:Int):=by omega
 have J:(0:Int)<(nn:Int):=by omega
 have L:(1:Int)<(nn:Int):=by omega
 have M:(2:Int)<(nn:Int):=by omega
 have N:¬ nt=0:=by omega
 have O:¬ nn=0:=by omega
 have v:Hid _:=HC;have z:Hid (ErrVar w):=hE;go_enter func243,ntmps243
 go_upto_region 1 with fail
 generalize hW:(w.alloc _)=W at *;generalize hg:w.heap.size=g at *;have R:Hid (w.heap.size=g):=hg;refine region_ (fun V=>AgB V g (o_ gt 0) (o_ gn 0) nt ct nn cn∧DAt V gk gd gs gv gm r∧V.c_ gt 0=some (.string x)∧V.c_ gn 0=some (.i_ a)∧V.c_ gn 1=some (.i_ b)∧V.c_ gn 2=some (.i_ c)∧Below g W V) 26 ⟨F.o.on (E9 _ _).drew,G.o.on (E9 _ _).drew,H.o,o.o,q.o,s.o,(E9 _ _).drew⟩ fun hH=>?_
 refine an [(0,p_ gk 0),(1,p_ gk 0),(2,p_ gk 3),(3,p_ gk 3),(4,.i_ r.key),(5,p_ g 0),(6,.slice (o_ gt 0) nt ct),(7,p_ gt 0),(8,.string x),(10,p_ g 1),(11,.slice (o_ gn 0) nn cn),(12,p_ gn 0),(13,.i_ a),(14,p_ g 1),(15,.slice (o_ gn 0) nn cn),(16,p_ gn 1),(17,.i_ b),(18,p_ g 1),(19,.slice (o_ gn 0) nn cn),(20,p_ gn 2),(21,.i_ c)] hH (fun W hW=>by have k:=hW.2.1.c3; have k:=hW.1.c0; have k:=hW.2.2.1; have k:=hW.1.c1; have k:=hW.2.2.2.1; have k:=hW.1.c1; have k:=hW.2.2.2.2.1; have k:=hW.1.c1; have k:=hW.2.2.2.2.2.1;go_simp) ?_;simp only[pA,oA,Act.put,pS1]
 refine one_ 9 ?_; intro K hK; go_simp;go_at_call 302
 refine (kR x _).mono ?_;rw[if_neg hk];rintro e1 w1 ⟨rfl,rfl⟩;go_wp2_with fail
 refine hK.out _ _ (hH) ?_;intro hH;refine an [(22,.agg (Q_ (ep x) a b c))] hH (fun W hW=>by go_simp) ?_;simp only[pA,oA,Act.put,pS1]
 refine one_ 23 ?_; intro K hK; go_simp;go_at_call 81
 refine (v.o _ (D.o.trans hH.2.2.2.2.2.2)).mono ?_;rintro e2 w2 ⟨rfl,hb2⟩;have f:Hid _:=hb2;go_wp2_with fail
 refine hK.out _ _ (⟨hH.1.on f.o,hH.2.1.on f.o,(f.o.cell (p:=(a_ gt 0)) (Fc _ _ hH.2.2.1)).trans hH.2.2.1,(f.o.cell (p:=(a_ gn 0)) (Fc _ _ hH.2.2.2.1)).trans hH.2.2.2.1,(f.o.cell (p:=(a_ gn 1)) (Fc _ _ hH.2.2.2.2.1)).trans hH.2.2.2.2.1,(f.o.cell (p:=(a_ gn 2)) (Fc _ _ hH.2.2.2.2.2.1)).trans hH.2.2.2.2.2.1,hH.2.2.2.2.2.2.trans (f.o.mono (by have:=t.o; have:=hH.2.2.2.2.2.2.size; omega))⟩) ?_
 intro hH;refine an [(24,.string X),(25,aB n)] hH (fun W hW=>by go_simp) ?_;simp only[pA,oA,Act.put,pS1]
 have j:Hid (Below w.heap.size w w2):=by
  have E:=D.o.trans hH.2.2.2.2.2.2;rw[<- R.o] at E;exact E
 have A:Hid (ErrVar w2):=z.o.on j.o;have B:Hid _:=j.o.size
 cases n with
 |zero=>
  refine late_ 26 ?_; intro K hK; go_simp;go_at_call 295
  refine (iu X _).mono ?_;rintro e3 w3 ⟨rfl,rfl⟩;go_wp2_with fail
  refine hK.out _ _ ?_;refine late_ 27 ?_; intro K hK; go_simp;refine hK.out _ _ ?_;refine done_ ?_;go_wp2_with fail
  go_ret;exact⟨rfl,by have h:=j.o; exact h⟩
 |succ n=>
  refine late_ 26 ?_; intro K hK; go_simp;go_at_call 295
  refine (ix X n _ A.o).mono ?_;rintro e3 w3 ⟨rfl,hb3⟩;have C:Hid _:=j.o.trans (hb3.mono B.o);unfold aM;go_wp2_with fail
  exact⟨rfl,rfl,C.o⟩
end Go.Proofs.YtlailakofhenkabGreatDoor
