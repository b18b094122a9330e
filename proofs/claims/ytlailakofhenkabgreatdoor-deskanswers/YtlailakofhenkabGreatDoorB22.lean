import Derived.Test.YtlailakofhenkabGreatDoorB21
set_option maxHeartbeats 8000000
set_option maxRecDepth 100000
namespace Go.Proofs.YtlailakofhenkabGreatDoor
open Go Go.RowKit Tok Sc Ev Tryz RegD
attribute [local go_sem] rA oA
theorem Ag(gv gs b1 b4:Nat)(r:Rul)(now:Int)(w:World)(hA:eD w gv gs r)(hr:fA r)(h1:b1<w.heap.size)(h4:b4<w.heap.size)(c1:w.cell? ⟨b1,0,none⟩=some (.pointer (some ⟨gv,0,none⟩)))(c4:w.cell? ⟨b4,0,none⟩=some (.int .i64 now)):
 kO 88 #[.pointer (some ⟨b1,0,none⟩),.pointer (some ⟨b4,0,none⟩)] (ew r now) w:=fun W f hm hb=>by
 have d1:W.cell? (a_ b1 0)=some (p_ gv 0):=(hb.cell (p:=(a_ b1 0)) h1).trans c1;have d4:W.cell? (a_ b4 0)=some (.i_ now):=(hb.cell (p:=(a_ b4 0)) h4).trans c4;have k:b1<W.heap.size:=Fd h1 hb.size;have m:b4<W.heap.size:=Fd h4 hb.size;have n:J _:=hA.on hb;have o:J (∀W':World,eD W' gv gs r->Calls prog 89 #[p_ gv 0,ap f,.i_ now] W' fun e w'=>e=.returned (.bool (dR r now f))∧Below W'.heap.size W' w'):=fun W' hW=>Ad W' gv gs r f now hW hr hm;have c:=o.o;unfold ew;obtain⟨f1,f2,f3,f4,f5,f6,f7,f8,f9⟩:=f;have b:J _:=bA W (.cells (F_ f1 f2 f3 f4 f5 f6 f7 f8 f9) 40);unfold ap ac at c;simp only at c;have g:J _:=c;have n1:b1≠W.heap.size:=by omega
 have n4:b4≠W.heap.size:=by omega
 show Calls prog 88 #[.agg (F_ f1 f2 f3 f4 f5 f6 f7 f8 f9),p_ b1 0,p_ b4 0] W _
 cases f9 with
 |true=>
  go_enter func88,ntmps88
  go_wp2_with fail;go_ret;exact⟨rfl,b.o⟩
 |false=>
  go_enter func88,ntmps88
  go_wp2_with fail;refine (g.o _ (n.o.on b.o)).mono ?_;rintro e1 w1 ⟨rfl,hb5⟩;have j:J _:=b.o.tm hb5;go_wp2_with fail;go_ret;exact⟨by simp,j.o⟩
theorem xG:∀args w,(callFunc 88 args).run prog w=.ok (.enter 88 args) w:=enters_of func88 (by kernel_rfl) rfl
theorem Ah(N:Nat)(w:World)(gv gs gd:Nat)(r:Rul)(p:Pub)(v:Value)(h:be N w gv gs gd r p v)(hN:N<98000):
 Calls prog 39 #[p_ gv 0] w fun e w'=>e=.returned (.tuple #[.int .i64 (sweepM r p).2.1,aB (sweepM r p).2.2])∧∃v',aD N gs gd v w w' (sweepM r p).1 v':=by
 have k:Hid _:=bA w (.cells #[p_ gv 0] 56);have t:Hid _:=h.on k.o;have c0:(w.alloc (.cells #[p_ gv 0] 56)).cell? (a_ w.heap.size 0)=some (p_ gv 0):=(Fb _ _ _ _ rfl).trans rfl;have E:Hid _:=c0;have j:Hid (w.heap.size<(w.alloc (.cells #[p_ gv 0] 56)).heap.size):=by show _<_; simp
 have J:Hid (∀f,p.st.fams.find? (ew r p.st.clock)=some f->okN f.id):=fun f hf=>(h.sp.ok.good.may f (List.mem_of_find?_eq_some hf)).1.1.1
 have F:Hid (∀(W:World) (va:Value) (B4:Nat),be N W gv gs gd r p v->ah 0 W va p.st.fams->w.heap.size<W.heap.size->B4<W.heap.size->W.cell? (a_ w.heap.size 0)=some (p_ gv 0)->W.cell? (a_ B4 0)=some (.i_ p.st.clock)->Calls prog 83 #[va,.func (.func 88) #[] #[p_ w.heap.size 0,p_ B4 0]] W fun e w'=>e=.returned (.tuple #[ap ((p.st.fams.find? (ew r p.st.clock)).getD zeroF),.bool (p.st.fams.find? (ew r p.st.clock)).isSome])∧Below W.heap.size W w'):=fun W va B4 hW hf U h4 d1 d4=>
  mM p.st.fams va 88 #[p_ w.heap.size 0,p_ B4 0] (ew r p.st.clock) W hf (fun f hm=>(hW.sp.ok.good.may f hm).1) (by have:=hW.sp.ok.good.len; omega) (Ag gv gs w.heap.size B4 r p.st.clock W hW.box hW.rul U h4 d1 d4) xG
 unfold sweepM;generalize p.st.fams.find? (ew r p.st.clock)=ff at *
 cases ff with
 |none=>
  go_enter func39,ntmps39
  go_wp2_with fail
  refine (bc N _ gv gs gd r p v t.o).mono ?_;rintro e1 w1 ⟨v1,rfl,hf1,hb1⟩;obtain⟨b1,c1,rfl⟩:=ag.slice hf1;unfold stV;have b:=bA w1 (.cells (S_ p.st.clock p.st.next b1 p.st.fams.length c1) 36);have z:Hid _:=(k.o.tm hb1).trans (b.mono (Fe k.o.size hb1.size));have g:Hid _:=(t.o.on hb1).on b;have B:Hid _:=(hf1.below b (Fa _)).mono (Fo _);have m:Hid _:=Fd (Fd j.o hb1.size) b.size;have A:Hid _:=(b.cell (p:=(a_ w.heap.size 0)) (Fd j.o hb1.size)).trans ((hb1.cell (p:=(a_ w.heap.size 0)) j.o).trans E.o);have L:(w1.alloc (.cells (S_ p.st.clock p.st.next b1 p.st.fams.length c1) 36)).cell? (a_ w1.heap.size 0)=some (.i_ p.st.clock):=(Fb _ _ _ _ rfl).trans rfl;have o:Hid _:=L
  have X:(w1.alloc (.cells (S_ p.st.clock p.st.next b1 p.st.fams.length c1) 36)).cell? (a_ w1.heap.size 2)=some (.slice b1 p.st.fams.length c1):=(Fb _ _ _ _ rfl).trans rfl;go_wp2_with fail
  refine (F.o _ _ _ g.o B.o m.o (by simp) A.o o.o).mono ?_
  rintro e3 w3 ⟨rfl,hb3⟩;have c:Hid _:=hb3;unfold ap ac;simp only[Option.getD_none,Option.isSome_none];go_wp2_with fail
  go_ret2;exact⟨rfl,_,(aD.same (N:=N) g.o.sp (c.o.alloc c.o.size _)).pre z.o⟩
 |some f=>
  have G:Hid _:=J.o f rfl;obtain⟨f1,f2,f3,f4,f5,f6,f7,f8,f9⟩:=f;simp only at G ⊢;have s:Hid (∀W:World,be N W gv gs gd r p v->Calls prog 17 #[p_ gs 0,.agg (g_ 2 f1 0)] W fun e w'=>e=.returned (aB (addP p (dE f1) true).2)∧∃v',aD N gs gd v W w' (addP p (dE f1) true).1 v'):=fun W hW=>pQ N W gs gd p v (dE f1) (rO G.o) hW.sp (by omega)
  generalize addP p (dE f1) true=Q at s ⊢;obtain⟨q,n⟩:=Q;simp only at s ⊢;go_enter func39,ntmps39
  go_wp2_with fail
  refine (bc N _ gv gs gd r p v t.o).mono ?_;rintro e1 w1 ⟨v1,rfl,hf1,hb1⟩;obtain⟨b1,c1,rfl⟩:=ag.slice hf1;unfold stV;have b:=bA w1 (.cells (S_ p.st.clock p.st.next b1 p.st.fams.length c1) 36);have z:Hid _:=(k.o.tm hb1).trans (b.mono (Fe k.o.size hb1.size));have g:Hid _:=(t.o.on hb1).on b;have B:Hid _:=(hf1.below b (Fa _)).mono (Fo _);have m:Hid _:=Fd (Fd j.o hb1.size) b.size;have A:Hid _:=(b.cell (p:=(a_ w.heap.size 0)) (Fd j.o hb1.size)).trans ((hb1.cell (p:=(a_ w.heap.size 0)) j.o).trans E.o);have L:(w1.alloc (.cells (S_ p.st.clock p.st.next b1 p.st.fams.length c1) 36)).cell? (a_ w1.heap.size 0)=some (.i_ p.st.clock):=(Fb _ _ _ _ rfl).trans rfl;have o:Hid _:=L
  have X:(w1.alloc (.cells (S_ p.st.clock p.st.next b1 p.st.fams.length c1) 36)).cell? (a_ w1.heap.size 2)=some (.slice b1 p.st.fams.length c1):=(Fb _ _ _ _ rfl).trans rfl;go_wp2_with fail
  refine (F.o _ _ _ g.o B.o m.o (by simp) A.o o.o).mono ?_
  rintro e3 w3 ⟨rfl,hb3⟩;have c:Hid _:=hb3;unfold ap ac;simp only[Option.getD_some,Option.isSome_some];go_upto_region 6 with fail
  have C:Hid (FB (w3.alloc (.cells (F_ f1 f2 f3 f4 f5 f6 f7 f8 f9) 40)) w3.heap.size ⟨f1,f2,f3,f4,f5,f6,f7,f8,f9⟩):=FB.made w3 ⟨f1,f2,f3,f4,f5,f6,f7,f8,f9⟩ _;have D:=bA w3 (.cells (F_ f1 f2 f3 f4 f5 f6 f7 f8 f9) 40);have H:Hid _:=(g.o.on c.o).on D;have M:Hid _:=(z.o.tm c.o).trans (D.mono (Fe z.o.size c.o.size));have O:Hid _:=(D.cell (p:=(a_ w.heap.size 0)) (Fd m.o c.o.size)).trans ((c.o.cell (p:=(a_ w.heap.size 0)) m.o).trans A.o)
  have R:Hid (w3.heap.size≠gd∧w3.heap.size≠gs):=by
   have U:=(g.o.on c.o).sp.lt;have h2:=g.o.sp.ord;show _∧_
   omega
  generalize hW5:(w3.alloc (.cells (F_ f1 f2 f3 f4 f5 f6 f7 f8 f9) 40))=W5 at *;generalize w3.heap.size=gq at *;have Y:=C.o.c0;refine region_ (fun W=>W.cell? (a_ gq 0)=some (.i_ f1)∧W.cell? (a_ w.heap.size 0)=some (p_ gv 0)∧eD W gv gs r) 7 ⟨C.o.c0,O.o,H.o.box.on (E9 _ _).drew⟩ fun hH=>?_;refine an [(0,p_ gv 0),(1,p_ gv 0),(2,p_ gv 0),(3,p_ gs 0),(4,p_ gq 0),(5,.i_ f1),(6,.agg (g_ 2 f1 0))] hH (fun W hW=>by have V:=hW.2.1; have V:=hW.2.2.c0; have V:=hW.1;go_simp) ?_;simp only[pA,oA,Act.put,pS1]
  refine late_ 7 ?_; intro K hK; go_simp;go_at_call 17
  refine (s.o _ (H.o.on (E9 _ _).drew)).mono ?_;rintro e6 w6 ⟨rfl,v6,hto⟩;have I:Hid _:=aD.pre M.o.drew hto;have T:Hid _:=hto.keep;go_wp2_with fail
  refine hK.out _ _ ?_;refine late_ 8 ?_; intro K hK; go_simp;refine hK.out _ _ ?_;refine done_ ?_
  cases n with
  |zero=>
   rw[show aB 0=.nilIface from rfl]
   have Z:=((C.o.on (E9 _ _).drew).keep T.o (by have:=R.o; simp; omega)).c0
   simp only at Z;go_wp2_with fail
   go_ret2;exact⟨rfl,_,I.o⟩
  |succ n=>
   rw[aV];go_wp2_with fail
   go_ret2;exact⟨rfl,_,I.o⟩
variable {f:Fam}
theorem mQ{s:St}{r:Rul}(hf:bP f)(hg:Ev.dy s)(hr:fA r):Tok.may ⟨2,f.id,f.gen,aZ s.clock r.access⟩:=⟨.inr ⟨rfl,mG hg.clock hr.access⟩,hf.1.1,hf.1.2.1⟩
theorem B7(N:Nat)(w:World)(gv gs gd:Nat)(r:Rul)(p:Pub)(v:Value)(text:ByteArray)(t:T)(n:Nat)(h:be N w gv gs gd r p v)(ht:text.size<=5000)(hto:Tok.Out (tag r.key) text.data.toList t n):
 Calls prog 31 #[p_ gv 0,.string text] w fun x w'=>x=.returned (.tuple #[.string (mintM (txtB r) r p t n).1,aB (mintM (txtB r) r p t n).2])∧Below w.heap.size w w':=by
 have E:J _:=h;have b:=pT N w gv gs gd r p v text 1 t n (lookM r p.st 1 t n) h ht hto rfl;have j:J _:=h.sp.ok.good;have s:J (lookM r p.st 1 t n=0->bP (famM p.st t)):=fun he=>dw h.sp.ok.good (du (look_ok he).1).2.2.1;unfold mintM;generalize lookM r p.st 1 t n=e at *;generalize famM p.st t=f at *
 cases e with
 |succ e=>
  rw[if_neg (by omega),if_neg (by omega)] at b
  rw[if_pos (by omega)]
  unfold aL ap ac zero zeroF at b;simp only at b;go_enter func31,ntmps31
  go_wp2_with fail;refine b.mono ?_;rintro e2 w2 ⟨rfl,hb2⟩;have k:J _:=hb2;rw[aV];go_wp2_with fail;go_ret2;refine⟨rfl,?_⟩;repeat (first | exact k.o | refine Below.alloc ?_ (by have:=k.o.size; simp; try omega) _)
 |zero=>
  rw[if_pos rfl,if_pos rfl] at b;rw[if_neg (by omega)]
  have F:J _:=s.o (by trivial)
  have m:J (∀W:World,be N W gv gs gd r p v->Calls prog 81 #[.i_ r.key,.agg (Q_ 2 f.id f.gen (aZ p.st.clock r.access))] W fun e w'=>e=.returned (.tuple #[.string (txtB r ⟨2,f.id,f.gen,aZ p.st.clock r.access⟩),.nilIface])∧Below W.heap.size W w'):=fun W hW=>jp r.key ⟨2,f.id,f.gen,aZ p.st.clock r.access⟩ W (mQ F.o j.o hW.rul) hW.libs.base;obtain⟨tk,tf,tg,te⟩:=t;obtain⟨f1,f2,f3,f4,f5,f6,f7,f8,f9⟩:=f;simp only at m ⊢;unfold aL ap ac at b;simp only at b
  have o:∀(w1:World) (hb2:Below w.heap.size w w1),Below w.heap.size w ((w1.alloc (.cells (Q_ tk tf tg te) 142)).alloc (.cells (F_ f1 f2 f3 f4 f5 f6 f7 f8 f9) 40))∧be N ((w1.alloc (.cells (Q_ tk tf tg te) 142)).alloc (.cells (F_ f1 f2 f3 f4 f5 f6 f7 f8 f9) 40)) gv gs gd r p v∧TB ((w1.alloc (.cells (Q_ tk tf tg te) 142)).alloc (.cells (F_ f1 f2 f3 f4 f5 f6 f7 f8 f9) 40)) w1.heap.size ⟨tk,tf,tg,te⟩∧FB ((w1.alloc (.cells (Q_ tk tf tg te) 142)).alloc (.cells (F_ f1 f2 f3 f4 f5 f6 f7 f8 f9) 40)) (w1.heap.size+1) ⟨f1,f2,f3,f4,f5,f6,f7,f8,f9⟩:=fun w1 hb2=>by
   have c:Below w1.heap.size w1 ((w1.alloc (.cells (Q_ tk tf tg te) 142)).alloc (.cells (F_ f1 f2 f3 f4 f5 f6 f7 f8 f9) 40)):=(bA _ _).alloc (by simp) _
   have z:(w1.alloc (.cells (Q_ tk tf tg te) 142)).heap.size=w1.heap.size+1:=by simp
   exact⟨hb2.tm c,(E.o.on hb2).on c,(TB.made w1 ⟨tk,tf,tg,te⟩ _).on (bA _ _),by rw[<- z]; exact FB.made _ ⟨f1,f2,f3,f4,f5,f6,f7,f8,f9⟩ _⟩
  by_cases hg:tg<f5
  ·rw[if_pos hg]
   go_enter func31,ntmps31
   go_wp2_with fail;refine b.mono ?_;rintro e2 w1 ⟨rfl,hb2⟩;rw[show aB 0=.nilIface from rfl]
   have g:J _:=o w1 hb2;go_upto_region 4 with fail;have A:=g.o.2.2.1.c2;have B:=g.o.2.2.2.c4;simp only at A B;have q:J _:=g.o.1;generalize hWW:((w1.alloc _).alloc _)=W3 at *;generalize w1.heap.size=gq at *;go_wp2_with fail;go_ret2;exact⟨rfl,q.o⟩
  ·rw[if_neg hg]
   go_enter func31,ntmps31
   go_wp2_with fail;refine b.mono ?_;rintro e2 w1 ⟨rfl,hb2⟩;rw[show aB 0=.nilIface from rfl]
   have g:J _:=o w1 hb2;go_upto_region 4 with fail;have A:=g.o.2.2.1.c2;have B:=g.o.2.2.2.c4;simp only at A B;generalize hWW:((w1.alloc _).alloc _)=W3 at *;generalize w1.heap.size=gq at *;go_upto_region 6 with fail;have q:J _:=g.o.1;refine region_ (fun W=>FB W (gq+1) ⟨f1,f2,f3,f4,f5,f6,f7,f8,f9⟩∧be N W gv gs gd r p v∧Below w.heap.size w W) 22 ⟨g.o.2.2.2.on (E9 _ _).drew,g.o.2.1.on (E9 _ _).drew,g.o.1.drew⟩ fun hH=>?_;refine an [(0,p_ gv 0),(1,p_ gv 0),(2,p_ gv 1),(3,p_ gv 1),(4,.i_ r.key),(5,p_ (gq+1) 0),(6,.i_ f1),(7,p_ (gq+1) 4),(8,.i_ f5),(9,p_ gv 0),(12,p_ gv 0),(13,p_ gv 0),(14,p_ gv 1),(15,p_ gv 4),(16,.i_ r.access)] hH (fun W hW=>by have C:=hW.2.1.box.c1; have C:=hW.1.c0; have C:=hW.1.c4; have C:=hW.2.1.box.c4;go_simp) ?_;simp only[pA,oA,Act.put,pS1]
   refine one_ 10 ?_; intro K hK; go_simp;go_at_call 43;refine (bc N _ gv gs gd r p v hH.2.1).mono ?_;rintro e3 w3 ⟨v3,rfl,hf3,c⟩;obtain⟨b3,c3,rfl⟩:=ag.slice hf3;unfold stV;go_wp2_with fail;refine hK.out _ _ (⟨hH.1.on c,hH.2.1.on c,hH.2.2.tm c⟩) ?_;intro hH;have G:∀W:World,(Instr.field 36 (.agg (S_ p.st.clock p.st.next b3 p.st.fams.length c3)) 0).run prog W=.ok (.i_ p.st.clock) W:=fun _=>by kernel_rfl
   refine an [(11,.i_ p.st.clock)] hH (fun W hW=>by go_simp) ?_;simp only[pA,oA,Act.put,pS1]
   refine one_ 17 ?_; intro K hK; go_simp;go_at_call 82;refine (eY _ _ j.o.clock hH.2.1.rul.access _).mono ?_;rintro e4 w4 ⟨rfl,rfl⟩;go_wp2_with fail;refine hK.out _ _ (hH) ?_;intro hH;refine an [(18,.agg (Q_ 2 f1 f5 (aZ p.st.clock r.access)))] hH (fun W hW=>by go_simp) ?_;simp only[pA,oA,Act.put,pS1]
   refine one_ 19 ?_; intro K hK; go_simp;go_at_call 81;refine (m.o _ hH.2.1).mono ?_;rintro e5 w5 ⟨rfl,hb5⟩;go_wp2_with fail;refine hK.out _ _ (⟨hH.1.on hb5,hH.2.1.on hb5,hH.2.2.tm hb5⟩) ?_;intro hH;refine an [(20,.string (txtB r ⟨2,f1,f5,aZ p.st.clock r.access⟩)),(21,.nilIface)] hH (fun W hW=>by go_simp) ?_;simp only[pA,oA,Act.put,pS1]
   have D:J _:=hH.2.2;refine late_ 22 ?_; intro K hK; go_simp;refine hK.out _ _ ?_;refine late_ 23 ?_; intro K hK; go_simp;refine hK.out _ _ ?_;refine done_ ?_;go_wp2_with fail;go_ret2;exact⟨rfl,D.o⟩
theorem fg{w w1:World}{g:Nat}{f0:Fam}(hb:Below w.heap.size w w1)(h2:FB w1 g f0)(hg:w.heap.size<=g):Below w.heap.size w (w1.setCells g 0 (ac f))∧FB (w1.setCells g 0 (ac f)) g f:=⟨hb.trans (aa hg _ 0 _),h2.set⟩
theorem B8(N:Nat)(w:World)(gv gs gd:Nat)(r:Rul)(p:Pub)(v:Value)(text:ByteArray)(t:T)(n:Nat)(h:be N w gv gs gd r p v)(ht:text.size<=5000)(hto:Tok.Out (tag r.key) text.data.toList t n):
 Calls prog 33 #[p_ gv 0,.string text] w fun x w'=>x=.returned (.tuple #[ap (showM r p t n).1,aB (showM r p t n).2])∧Below w.heap.size w w':=by
 have q:J _:=bA w (.cells f_ 40);have A:J (FB (w.alloc (.cells f_ 40)) w.heap.size zeroF):=FB.made w zeroF _;have F:J _:=h.on q.o;have j:=pT N _ gv gs gd r p v text 2 t n (lookM r p.st 2 t n) F.o ht hto rfl;unfold showM;generalize lookM r p.st 2 t n=e at *;generalize famM p.st t=f at *
 cases e with
 |succ e=>
  rw[if_neg (by omega),if_neg (by omega)] at j
  rw[if_pos (by omega)]
  unfold aL ap ac zero zeroF at j;simp only at j;go_enter func33,ntmps33
  go_wp2_with fail;refine j.mono ?_;rintro e2 w2 ⟨rfl,hb2⟩;rw[aV];have C:J (Below w.heap.size w ((w2.alloc (.cells (Q_ 0 0 0 0) 142)).alloc (.cells f_ 40))):=((q.o.tm hb2).alloc (Fe q.o.size hb2.size) _).alloc (by have h1:=q.o.size; have h2:=hb2.size; simp at *; omega) _
  have g:J (FB ((w2.alloc (.cells (Q_ 0 0 0 0) 142)).alloc (.cells f_ 40)) w.heap.size zeroF):=(A.o.on hb2).on ((bA _ _).alloc (by simp) _)
  have k:J _:=fg (f:=zeroF) C.o g.o (Fa _);obtain⟨z0,z1,z2,z3,z4,z5,z6,z7,z8,-⟩:=g.o; have G:=g.o.fz;go_wp2_with fail;generalize hWW:World.setCell _ (a_ w.heap.size 8) _=WW;have s:((w2.alloc (.cells (Q_ 0 0 0 0) 142)).alloc (.cells f_ 40)).setCells w.heap.size 0 (ac zeroF)=WW:=hWW;have m:=k.o.1;have o:=k.o.2;rw[s] at m o;obtain⟨q0,q1,q2,q3,q4,q5,q6,q7,q8,-⟩:=id o;exact bodyPost_ret (v:=.tuple #[.agg f_,.iface 47 (.i_ ((e+1:Nat):Int))]) (by simp[results,results33,go_sem,q0,q1,q2,q3,q4,q5,q6,q7,q8,zeroF]) rfl ⟨by simp[ap,ac,zeroF,aV],m⟩
 |zero=>
  rw[if_pos rfl,if_pos rfl] at j;rw[if_neg (by omega)]
  obtain⟨tk,tf,tg,te⟩:=t;obtain⟨f1,f2,f3,f4,f5,f6,f7,f8,f9⟩:=f;unfold aL ap ac at j;simp only at j
  have B:∀(w1:World) (hb2:Below (w.alloc (.cells f_ 40)).heap.size (w.alloc (.cells f_ 40)) w1),Below w.heap.size w ((w1.alloc (.cells (Q_ tk tf tg te) 142)).alloc (.cells (F_ f1 f2 f3 f4 f5 f6 f7 f8 f9) 40))∧be N ((w1.alloc (.cells (Q_ tk tf tg te) 142)).alloc (.cells (F_ f1 f2 f3 f4 f5 f6 f7 f8 f9) 40)) gv gs gd r p v∧TB ((w1.alloc (.cells (Q_ tk tf tg te) 142)).alloc (.cells (F_ f1 f2 f3 f4 f5 f6 f7 f8 f9) 40)) w1.heap.size ⟨tk,tf,tg,te⟩∧FB ((w1.alloc (.cells (Q_ tk tf tg te) 142)).alloc (.cells (F_ f1 f2 f3 f4 f5 f6 f7 f8 f9) 40)) (w1.heap.size+1) ⟨f1,f2,f3,f4,f5,f6,f7,f8,f9⟩∧FB ((w1.alloc (.cells (Q_ tk tf tg te) 142)).alloc (.cells (F_ f1 f2 f3 f4 f5 f6 f7 f8 f9) 40)) w.heap.size zeroF:=fun w1 hb2=>by
   have c:Below w1.heap.size w1 ((w1.alloc (.cells (Q_ tk tf tg te) 142)).alloc (.cells (F_ f1 f2 f3 f4 f5 f6 f7 f8 f9) 40)):=(bA _ _).alloc (by simp) _
   have D:(w1.alloc (.cells (Q_ tk tf tg te) 142)).heap.size=w1.heap.size+1:=by simp
   exact⟨q.o.trans ((hb2.tm c).mono q.o.size),(F.o.on hb2).on c,(TB.made w1 ⟨tk,tf,tg,te⟩ _).on (bA _ _),by rw[<- D]; exact FB.made _ ⟨f1,f2,f3,f4,f5,f6,f7,f8,f9⟩ _,(A.o.on hb2).on c⟩
  have go:∀(b:Bool),b=decide (te<p.st.clock)->True:=fun _ _=>trivial;by_cases hg:te<p.st.clock
  ·rw[if_pos hg]
   go_enter func33,ntmps33
   go_wp2_with fail;refine j.mono ?_;rintro e2 w1 ⟨rfl,hb2⟩;rw[show aB 0=.nilIface from rfl]
   have z:J _:=B w1 hb2;go_upto_region 4 with fail;generalize hWW:((w1.alloc _).alloc _)=W3 at *;generalize w1.heap.size=gq at *;refine region_ (fun W=>TB W gq ⟨tk,tf,tg,te⟩∧be N W gv gs gd r p v∧Below w.heap.size w W∧FB W w.heap.size zeroF) 5 ⟨z.o.2.2.1.on (E9 _ _).drew,z.o.2.1.on (E9 _ _).drew,z.o.1.drew,z.o.2.2.2.2.on (E9 _ _).drew⟩ fun hH=>?_;refine an [(0,p_ gv 0),(3,p_ gq 3),(4,.i_ te)] hH (fun W hW=>by have H:=hW.1.c3;go_simp) ?_;simp only[pA,oA,Act.put,pS1]
   refine one_ 1 ?_; intro K hK; go_simp;go_at_call 43;refine (bc N _ gv gs gd r p v hH.2.1).mono ?_;rintro e3 w3 ⟨v3,rfl,hf3,c⟩;obtain⟨b3,c3,rfl⟩:=ag.slice hf3;unfold stV;go_wp2_with fail;refine hK.out _ _ (⟨hH.1.on c,hH.2.1.on c,hH.2.2.1.tm c,hH.2.2.2.on c⟩) ?_;intro hH;have E:∀W:World,(Instr.field 36 (.agg (S_ p.st.clock p.st.next b3 p.st.fams.length c3)) 0).run prog W=.ok (.i_ p.st.clock) W:=fun _=>by kernel_rfl
   refine an [(2,.i_ p.st.clock)] hH (fun W hW=>by go_simp) ?_;simp only[pA,oA,Act.put,pS1]
   have g:J _:=hH.2.2.2;have k:J _:=fg (f:=zeroF) hH.2.2.1 g.o (Fa _);refine late_ 5 ?_; intro K hK; go_simp;refine hK.out _ _ ?_;refine done_ ?_;obtain⟨z0,z1,z2,z3,z4,z5,z6,z7,z8,-⟩:=g.o; have G:=g.o.fz;go_wp2_with fail;generalize hWW:World.setCell _ (a_ w.heap.size 8) _=WW;have s:w3.setCells w.heap.size 0 (ac zeroF)=WW:=hWW;have m:=k.o.1;have o:=k.o.2;rw[s] at m o;obtain⟨q0,q1,q2,q3,q4,q5,q6,q7,q8,-⟩:=id o;exact bodyPost_ret (v:=.tuple #[.agg f_,.iface 47 (.i_ 10)]) (by simp[results,results33,go_sem,q0,q1,q2,q3,q4,q5,q6,q7,q8,zeroF]) rfl ⟨by simp[ap,ac,zeroF,aV],m⟩
  ·rw[if_neg hg]
   go_enter func33,ntmps33
   go_wp2_with fail;refine j.mono ?_;rintro e2 w1 ⟨rfl,hb2⟩;rw[show aB 0=.nilIface from rfl]
   have z:J _:=B w1 hb2;go_upto_region 4 with fail;generalize hWW:((w1.alloc _).alloc _)=W3 at *;generalize w1.heap.size=gq at *;refine region_ (fun W=>TB W gq ⟨tk,tf,tg,te⟩∧be N W gv gs gd r p v∧Below w.heap.size w W∧FB W w.heap.size zeroF∧FB W (gq+1) ⟨f1,f2,f3,f4,f5,f6,f7,f8,f9⟩) 5 ⟨z.o.2.2.1.on (E9 _ _).drew,z.o.2.1.on (E9 _ _).drew,z.o.1.drew,z.o.2.2.2.2.on (E9 _ _).drew,z.o.2.2.2.1.on (E9 _ _).drew⟩ fun hH=>?_;refine an [(0,p_ gv 0),(3,p_ gq 3),(4,.i_ te)] hH (fun W hW=>by have H:=hW.1.c3;go_simp) ?_;simp only[pA,oA,Act.put,pS1]
   refine one_ 1 ?_; intro K hK; go_simp;go_at_call 43;refine (bc N _ gv gs gd r p v hH.2.1).mono ?_;rintro e3 w3 ⟨v3,rfl,hf3,c⟩;obtain⟨b3,c3,rfl⟩:=ag.slice hf3;unfold stV;go_wp2_with fail;refine hK.out _ _ (⟨hH.1.on c,hH.2.1.on c,hH.2.2.1.tm c,hH.2.2.2.1.on c,hH.2.2.2.2.on c⟩) ?_;intro hH;have E:∀W:World,(Instr.field 36 (.agg (S_ p.st.clock p.st.next b3 p.st.fams.length c3)) 0).run prog W=.ok (.i_ p.st.clock) W:=fun _=>by kernel_rfl
   refine an [(2,.i_ p.st.clock)] hH (fun W hW=>by go_simp) ?_;simp only[pA,oA,Act.put,pS1]
   have g:J _:=hH.2.2.2.1;obtain⟨d0,d1,d2,d3,d4,d5,d6,d7,d8,-⟩:=hH.2.2.2.2;simp only at d0 d1 d2 d3 d4 d5 d6 d7 d8;have k:J _:=fg (f:=⟨f1,f2,f3,f4,f5,f6,f7,f8,f9⟩) hH.2.2.1 g.o (Fa _);refine late_ 5 ?_; intro K hK; go_simp;refine hK.out _ _ ?_;refine done_ ?_;obtain⟨z0,z1,z2,z3,z4,z5,z6,z7,z8,-⟩:=g.o; have G:=g.o.fz;go_wp2_with fail;generalize hWW:World.setCell _ (a_ w.heap.size 8) _=WW;have s:w3.setCells w.heap.size 0 (ac ⟨f1,f2,f3,f4,f5,f6,f7,f8,f9⟩)=WW:=hWW;have m:=k.o.1;have o:=k.o.2;rw[s] at m o;obtain⟨q0,q1,q2,q3,q4,q5,q6,q7,q8,-⟩:=id o;exact bodyPost_ret (v:=.tuple #[.agg (F_ f1 f2 f3 f4 f5 f6 f7 f8 f9),.nilIface]) (by simp[results,results33,go_sem,q0,q1,q2,q3,q4,q5,q6,q7,q8]) rfl ⟨by simp[ap,ac,aB],m⟩
end Go.Proofs.YtlailakofhenkabGreatDoor
namespace Go.Proofs.YtlailakofhenkabGreatDoor.Ev
open Go.Lib Tok Sc
end Go.Proofs.YtlailakofhenkabGreatDoor.Ev
namespace Go.Proofs.YtlailakofhenkabGreatDoor
open Go Go.RowKit Tok Sc Ev Tryz
theorem Ai(N:Nat)(w:World)(gv gs gd:Nat)(r:Rul)(p:Pub)(v:Value)(client subject sc:ByteArray)(l:List Word)(m:Nat)(h:be N w gv gs gd r p v)(hcl:client.size<=5000)(hsu:subject.size<=5000)(hsc:sc.size<=5000)(ho:Sc.Out sc.data.toList l m)(hN:N<98000):
 Calls prog 27 #[p_ gv 0,.string client,.string subject,.string sc] w fun e w'=>e=.returned (.tuple #[.string (cX (txtB r) p (am client.data.toList && am subject.data.toList) client subject ⟨(ae l).toArray⟩ m).2.1,aB (cX (txtB r) p (am client.data.toList && am subject.data.toList) client subject ⟨(ae l).toArray⟩ m).2.2])∧∃v',aD N gs gd v w w' (cX (txtB r) p (am client.data.toList && am subject.data.toList) client subject ⟨(ae l).toArray⟩ m).1 v':=by
 have k:Hid _:=h;have c:=fun (W:World)=>da client W (by omega)
 have j:=fun (W:World)=>da subject W (by omega)
 have o:Hid (∀W:World,aU W->Calls prog 71 #[.string sc] W fun e w'=>e=.returned (.tuple #[.string ⟨(ae l).toArray⟩,aB m])∧Below W.heap.size W w'):=fun W hW=>se sc l m ho W hsc hW;have q:Hid (am client.data.toList=true->am subject.data.toList=true->m=0->¬ 1099511627776<p.st.next->∀(W:World),be N W gv gs gd r p v->Calls prog 72 #[p_ gv 0,ap (fS p.st client subject ⟨(ae l).toArray⟩)] W fun e w'=>e=.returned (.tuple #[.string (giveM (txtB r) p (fS p.st client subject ⟨(ae l).toArray⟩)).2.1,aB (giveM (txtB r) p (fS p.st client subject ⟨(ae l).toArray⟩)).2.2])∧∃v',aD N gs gd v W w' (giveM (txtB r) p (fS p.st client subject ⟨(ae l).toArray⟩)).1 v'):=fun h1 h2 hm hx W hW=>by subst hm; exact vT N W gv gs gd r p v _ hW (pP h.sp.ok.good hx h1 h2 (gM ho)) hN
 have F:(p.st.fams.length:Int)<=20:=by have:=h.sp.ok.good.len; omega
 generalize (⟨(ae l).toArray⟩:ByteArray)=J at *;clear h ho hcl hsu hsc;unfold cX
 cases h1:am client.data.toList with
 |false=>
  rw[h1] at c;rw[if_pos (by rfl)]
  clear h1;go_enter func27,ntmps27
  go_wp2_with fail;refine (c _).mono ?_;rintro e1 w1 ⟨rfl,hw⟩;obtain rfl:w=w1:=hw.symm;go_wp2_with fail;go_ret2;exact⟨rfl,_,aD.same k.o.sp (E9 _ _)⟩
 |true=>
  rw[h1] at c q
  cases h2:am subject.data.toList with
  |false=>
   rw[h2] at j;rw[if_pos (by rfl)]
   clear h1 h2;go_enter func27,ntmps27
   go_wp2_with fail;refine (c _).mono ?_;rintro e1 w1 ⟨rfl,hw⟩;obtain rfl:w=w1:=hw.symm;go_wp2_with fail;refine (j _).mono ?_;rintro e1 w1 ⟨rfl,hw⟩;obtain rfl:w=w1:=hw.symm;go_wp2_with fail;go_ret2;exact⟨rfl,_,aD.same k.o.sp (E9 _ _)⟩
  |true=>
   rw[h2] at j q;rw[if_neg (by simp)]
   clear h1 h2
   cases m with
   |succ m=>
    rw[if_pos (by omega)]
    go_enter func27,ntmps27
    go_wp2_with fail;refine (c _).mono ?_;rintro e1 w1 ⟨rfl,hw⟩;obtain rfl:w=w1:=hw.symm;go_wp2_with fail;refine (j _).mono ?_;rintro e1 w1 ⟨rfl,hw⟩;obtain rfl:w=w1:=hw.symm;go_wp2_with fail;refine (o.o _ k.o.sp.libs.base.len).mono ?_;rintro e2 w2 ⟨rfl,hb2⟩;have C:Hid _:=aD.same (N:=N) k.o.sp hb2;clear hb2;rw[aV];go_wp2_with fail;go_ret2;exact⟨rfl,_,C.o⟩
   |zero=>
    rw[if_neg (by omega)]
    by_cases hx:1099511627776<p.st.next
    ·rw[if_pos hx]
     go_enter func27,ntmps27
     go_wp2_with fail;refine (c _).mono ?_;rintro e1 w1 ⟨rfl,hw⟩;obtain rfl:w=w1:=hw.symm;go_wp2_with fail;refine (j _).mono ?_;rintro e1 w1 ⟨rfl,hw⟩;obtain rfl:w=w1:=hw.symm;go_wp2_with fail;refine (o.o _ k.o.sp.libs.base.len).mono ?_;rintro e2 w2 ⟨rfl,hb2⟩;have f:Hid _:=k.o.on hb2;have g:Hid _:=hb2;rw[show aB 0=.nilIface from rfl]
     clear hb2;go_wp2_with fail;refine (bc N _ gv gs gd r p v f.o).mono ?_;rintro e3 w3 ⟨v3,rfl,hf3,hb3⟩;obtain⟨b3,c3,rfl⟩:=ag.slice hf3;unfold stV;have b:=bA w3 (.cells (S_ p.st.clock p.st.next b3 p.st.fams.length c3) 36);have z:Hid _:=(f.o.on hb3).on b;have n:Hid _:=(g.o.tm hb3).trans (b.mono (Fe g.o.size hb3.size));have G:(w3.alloc (.cells (S_ p.st.clock p.st.next b3 p.st.fams.length c3) 36)).c_ w3.heap.size 0=some (.i_ p.st.clock):=(Fb _ _ _ _ rfl).trans rfl;have H:(w3.alloc (.cells (S_ p.st.clock p.st.next b3 p.st.fams.length c3) 36)).c_ w3.heap.size 1=some (.i_ p.st.next):=(Fb _ _ _ _ rfl).trans rfl;have I:(w3.alloc (.cells (S_ p.st.clock p.st.next b3 p.st.fams.length c3) 36)).c_ w3.heap.size 2=some (.slice b3 p.st.fams.length c3):=(Fb _ _ _ _ rfl).trans rfl;clear hb3 b hf3;go_wp2_with fail;go_ret2;exact⟨rfl,_,aD.same k.o.sp n.o⟩
    ·rw[if_neg hx]
     by_cases hy:20<=p.st.fams.length
     ·rw[if_pos hy]
      have D:(20:Int)<=(p.st.fams.length:Int):=by omega
      go_enter func27,ntmps27
      go_wp2_with fail;refine (c _).mono ?_;rintro e1 w1 ⟨rfl,hw⟩;obtain rfl:w=w1:=hw.symm;go_wp2_with fail;refine (j _).mono ?_;rintro e1 w1 ⟨rfl,hw⟩;obtain rfl:w=w1:=hw.symm;go_wp2_with fail;refine (o.o _ k.o.sp.libs.base.len).mono ?_;rintro e2 w2 ⟨rfl,hb2⟩;have f:Hid _:=k.o.on hb2;have g:Hid _:=hb2;rw[show aB 0=.nilIface from rfl]
      clear hb2;go_wp2_with fail;refine (bc N _ gv gs gd r p v f.o).mono ?_;rintro e3 w3 ⟨v3,rfl,hf3,hb3⟩;obtain⟨b3,c3,rfl⟩:=ag.slice hf3;unfold stV;have b:=bA w3 (.cells (S_ p.st.clock p.st.next b3 p.st.fams.length c3) 36);have z:Hid _:=(f.o.on hb3).on b;have n:Hid _:=(g.o.tm hb3).trans (b.mono (Fe g.o.size hb3.size));have G:(w3.alloc (.cells (S_ p.st.clock p.st.next b3 p.st.fams.length c3) 36)).c_ w3.heap.size 0=some (.i_ p.st.clock):=(Fb _ _ _ _ rfl).trans rfl;have H:(w3.alloc (.cells (S_ p.st.clock p.st.next b3 p.st.fams.length c3) 36)).c_ w3.heap.size 1=some (.i_ p.st.next):=(Fb _ _ _ _ rfl).trans rfl;have I:(w3.alloc (.cells (S_ p.st.clock p.st.next b3 p.st.fams.length c3) 36)).c_ w3.heap.size 2=some (.slice b3 p.st.fams.length c3):=(Fb _ _ _ _ rfl).trans rfl;clear hb3 b hf3;go_wp2_with fail;go_ret2;exact⟨rfl,_,aD.same k.o.sp n.o⟩
     ·rw[if_neg hy]
      have D:¬ (20:Int)<=(p.st.fams.length:Int):=by omega
      have A:=q.o (by trivial) (by trivial) (by trivial) hx
      have t:Hid _:=A;generalize giveM (txtB r) p (fS p.st client subject J)=Q at *;have s:=t.o;unfold fS ap ac noT at s;simp only at s;have B:Hid _:=s;clear A s t q;go_enter func27,ntmps27
      go_wp2_with fail;refine (c _).mono ?_;rintro e1 w1 ⟨rfl,hw⟩;obtain rfl:w=w1:=hw.symm;go_wp2_with fail;refine (j _).mono ?_;rintro e1 w1 ⟨rfl,hw⟩;obtain rfl:w=w1:=hw.symm;go_wp2_with fail;refine (o.o _ k.o.sp.libs.base.len).mono ?_;rintro e2 w2 ⟨rfl,hb2⟩;have f:Hid _:=k.o.on hb2;have g:Hid _:=hb2;rw[show aB 0=.nilIface from rfl]
      clear hb2;go_wp2_with fail;refine (bc N _ gv gs gd r p v f.o).mono ?_;rintro e3 w3 ⟨v3,rfl,hf3,hb3⟩;obtain⟨b3,c3,rfl⟩:=ag.slice hf3;unfold stV;have b:=bA w3 (.cells (S_ p.st.clock p.st.next b3 p.st.fams.length c3) 36);have z:Hid _:=(f.o.on hb3).on b;have n:Hid _:=(g.o.tm hb3).trans (b.mono (Fe g.o.size hb3.size));have G:(w3.alloc (.cells (S_ p.st.clock p.st.next b3 p.st.fams.length c3) 36)).c_ w3.heap.size 0=some (.i_ p.st.clock):=(Fb _ _ _ _ rfl).trans rfl;have H:(w3.alloc (.cells (S_ p.st.clock p.st.next b3 p.st.fams.length c3) 36)).c_ w3.heap.size 1=some (.i_ p.st.next):=(Fb _ _ _ _ rfl).trans rfl;have I:(w3.alloc (.cells (S_ p.st.clock p.st.next b3 p.st.fams.length c3) 36)).c_ w3.heap.size 2=some (.slice b3 p.st.fams.length c3):=(Fb _ _ _ _ rfl).trans rfl;clear hb3 b hf3;go_wp2_with fail;refine (B.o _ z.o).mono ?_;rintro e5 w5 ⟨rfl,v5,hto⟩;have E:Hid _:=hto.pre n.o;clear hto;go_wp2_with fail;go_ret2;exact⟨rfl,_,E.o⟩
theorem xH(N:Nat)(w:World)(gv gs gd:Nat)(r:Rul)(p:Pub)(v:Value)(text request sc:ByteArray)(t:T)(n:Nat)(l:List Word)(m:Nat)(b:Bool)(h:be N w gv gs gd r p v)(ht:text.size<=5000)(hrq:request.size<=5000)(hsc:sc.size<=5000)(hto:Tok.Out (tag r.key) text.data.toList t n)(ho:Sc.Out sc.data.toList l m)(hw:lookM r p.st 1 t n=0->m=0->fp (ae l) (famM p.st t).scope.data.toList b 0)(hN:N<98000):
 Calls prog 29 #[p_ gv 0,.string text,.string request,.string sc] w fun x w'=>x=.returned (.tuple #[.string (rotateM (txtB r) r p (am request.data.toList) request t n ⟨(ae l).toArray⟩ m b).2.1,aB (rotateM (txtB r) r p (am request.data.toList) request t n ⟨(ae l).toArray⟩ m b).2.2])∧∃v',aD N gs gd v w w' (rotateM (txtB r) r p (am request.data.toList) request t n ⟨(ae l).toArray⟩ m b).1 v':=by
 have V:Hid _:=h;have s:=fun (W:World)=>da request W (by omega)
 have c:=pT N w gv gs gd r p v text 1 t n (lookM r p.st 1 t n) h ht hto rfl;have O:Hid (lookM r p.st 1 t n=0->bP (famM p.st t)):=fun he=>dw h.sp.ok.good (du (look_ok he).1).2.2.1;have X:Hid (am request.data.toList=true->lookM r p.st 1 t n=0->∀(W:World),be N W gv gs gd r p v->Calls prog 76 #[p_ gv 0,ap (famM p.st t),.string request,.string sc] W fun e w'=>e=.returned (.tuple #[.string (turnM (txtB r) p (famM p.st t) request ⟨(ae l).toArray⟩ m b).2.1,aB (turnM (txtB r) p (famM p.st t) request ⟨(ae l).toArray⟩ m b).2.2])∧∃v',aD N gs gd v W w' (turnM (txtB r) p (famM p.st t) request ⟨(ae l).toArray⟩ m b).1 v'):=fun hr he W hW=>BZ N W gv gs gd r p v (famM p.st t) request sc l m b hW (O.o he) hr hsc ho (hw he) hN
 have Ed:Hid (lookM r p.st 1 t n=0->∀(W:World),be N W gv gs gd r p v->Calls prog 77 #[p_ gv 0,ap (famM p.st t)] W fun e w'=>e=.returned (.tuple #[.string (txtB r ⟨1,(famM p.st t).id,(famM p.st t).gen,0⟩),.nilIface])∧Below W.heap.size W w'):=fun he W hW=>mP N W gv gs gd r p v (famM p.st t) hW (O.o he);have Ee:Hid (lookM r p.st 1 t n=0->∀(W:World),be N W gv gs gd r p v->Calls prog 78 #[p_ gv 0,ap (famM p.st t)] W fun e w'=>e=.returned (aB (spoilM p (famM p.st t)).2.2)∧∃v',aD N gs gd v W w' (spoilM p (famM p.st t)).1 v'):=fun he W hW=>Ae N W gv gs gd r p v (famM p.st t) hW (O.o he) hN;have Ef:Hid (lookM r p.st 1 t n=0->0<=(famM p.st t).gen∧(famM p.st t).gen<=1099511627776):=fun he=>(O.o he).1.2.1;have Eg:Hid ((spoilM p (famM p.st t)).2.1=noT):=rfl;generalize (⟨(ae l).toArray⟩:ByteArray)=J at *;clear h hto ho hw ht hsc hrq;unfold rotateM
 cases h1:am request.data.toList with
 |false=>
  rw[h1] at s;rw[if_pos rfl];clear h1;go_enter func29,ntmps29
  go_wp2_with fail;refine (s _).mono ?_;rintro e1 w1 ⟨rfl,hw⟩;obtain rfl:w=w1:=hw.symm;go_wp2_with fail;go_ret2;exact⟨rfl,_,aD.same V.o.sp (E9 _ _)⟩
 |true=>
  rw[h1] at s X;rw[if_neg (by simp)]
  clear h1;generalize lookM r p.st 1 t n=e at *;generalize famM p.st t=f at *
  cases e with
  |succ e=>
   rw[if_neg (by omega),if_neg (by omega)] at c
   rw[if_pos (by omega)]
   unfold aL ap ac zero zeroF at c;simp only at c;go_enter func29,ntmps29
   go_wp2_with fail;refine (s _).mono ?_;rintro e1 w1 ⟨rfl,hw⟩;obtain rfl:w=w1:=hw.symm;go_wp2_with fail;refine c.mono ?_;rintro e2 w2 ⟨rfl,hb2⟩;have Y:Hid _:=hb2;rw[aV];clear c hb2;go_wp2_with fail;go_ret2;refine⟨rfl,_,aD.same V.o.sp ?_⟩;repeat (first | exact Y.o | refine Below.alloc ?_ (by have:=Y.o.size; simp; try omega) _)
  |zero=>
   rw[if_pos rfl,if_pos rfl] at c;rw[if_neg (by omega)]
   obtain⟨tk,tf,tg,te⟩:=t;have HG:Hid _:=Ef.o (by trivial)
   have g:=X.o (by trivial) (by trivial)
   have j:=Ed.o (by trivial)
   have k:=Ee.o (by trivial)
   have F:Hid _:=g;have G:Hid _:=j;have H:Hid _:=k;clear g j k;by_cases hg:tg=f.gen
   ·rw[if_pos hg]
    generalize turnM (txtB r) p f request J m b=Q at *;obtain⟨f1,f2,f3,f4,f5,f6,f7,f8,f9⟩:=f;simp only at hg;subst hg;have g:=F.o;have j:=G.o;have k:=H.o;unfold ap ac at g j k;simp only at g j k;have I:Hid _:=g;have L:Hid _:=j;have z:Hid _:=k;clear g j k;unfold aL ap ac at c;simp only at c;go_enter func29,ntmps29
    go_wp2_with fail;refine (s _).mono ?_;rintro e1 w1 ⟨rfl,hw⟩;obtain rfl:w=w1:=hw.symm;go_wp2_with fail;refine c.mono ?_;rintro e2 w1 ⟨rfl,hb2⟩;rw[show aB 0=.nilIface from rfl]
    have o:Below w1.heap.size w1 ((w1.alloc (.cells (Q_ tk tf tg te) 142)).alloc (.cells (F_ f1 f2 f3 f4 tg f6 f7 f8 f9) 40)):=(bA _ _).alloc (by simp) _
    have A:Hid _:=(V.o.on hb2).on o;have B:Hid _:=hb2.tm o;have C:Hid (TB ((w1.alloc (.cells (Q_ tk tf tg te) 142)).alloc (.cells (F_ f1 f2 f3 f4 tg f6 f7 f8 f9) 40)) w1.heap.size ⟨tk,tf,tg,te⟩):=(TB.made w1 ⟨tk,tf,tg,te⟩ _).on (bA _ _);have q:(w1.alloc (.cells (Q_ tk tf tg te) 142)).heap.size=w1.heap.size+1:=by simp
    have D:Hid (FB ((w1.alloc (.cells (Q_ tk tf tg te) 142)).alloc (.cells (F_ f1 f2 f3 f4 tg f6 f7 f8 f9) 40)) (w1.heap.size+1) ⟨f1,f2,f3,f4,tg,f6,f7,f8,f9⟩):=by rw[<- q]; exact FB.made _ ⟨f1,f2,f3,f4,tg,f6,f7,f8,f9⟩ _
    have HZ:Hid _:=q;clear c hb2 o q;go_upto_region 4 with fail;have R:=C.o.c2;obtain⟨z0,z1,z2,z3,z4,z5,z6,z7,z8,-⟩:=D.o;simp only at R z0 z1 z2 z3 z4 z5 z6 z7 z8;generalize hWW:((w1.alloc _).alloc _)=W3 at *;clear hWW;generalize w1.heap.size=gq at *;go_wp2_with fail;refine (I.o _ A.o).mono ?_;rintro e4 w4 ⟨rfl,v4,hto⟩;have E:Hid _:=hto.pre B.o;clear hto;go_wp2_with fail;go_ret2;exact⟨rfl,_,E.o⟩
   ·rw[if_neg hg]
    by_cases hx:tg=f.gen - 1∧request=f.request
    ·rw[if_pos hx]
     obtain⟨hx1,M⟩:=hx;obtain⟨f1,f2,f3,f4,f5,f6,f7,f8,f9⟩:=f;simp only at hx1 M hg;have U:0<=f5∧f5<=1099511627776:=HG.o;obtain⟨hg1,hg2⟩:=U;subst M;have Eh:(tg == f5)=false:=by simp[hg]
     have Z:(tg == f5 - 1)=true:=by simp[hx1]
     have Ei:Hid _:=hx1;clear hx1;have g:=F.o;have j:=G.o;have k:=H.o;unfold ap ac at g j k;simp only at g j k;have I:Hid _:=g;have L:Hid _:=j;have z:Hid _:=k;clear g j k;unfold aL ap ac at c;simp only at c;go_enter func29,ntmps29
     go_wp2_with fail;refine (s _).mono ?_;rintro e1 w1 ⟨rfl,hw⟩;obtain rfl:w=w1:=hw.symm;go_wp2_with fail;refine c.mono ?_;rintro e2 w1 ⟨rfl,hb2⟩;rw[show aB 0=.nilIface from rfl]
     have o:Below w1.heap.size w1 ((w1.alloc (.cells (Q_ tk tf tg te) 142)).alloc (.cells (F_ f1 f2 f3 f4 f5 f6 f7 request f9) 40)):=(bA _ _).alloc (by simp) _
     have A:Hid _:=(V.o.on hb2).on o;have B:Hid _:=hb2.tm o;have C:Hid (TB ((w1.alloc (.cells (Q_ tk tf tg te) 142)).alloc (.cells (F_ f1 f2 f3 f4 f5 f6 f7 request f9) 40)) w1.heap.size ⟨tk,tf,tg,te⟩):=(TB.made w1 ⟨tk,tf,tg,te⟩ _).on (bA _ _);have q:(w1.alloc (.cells (Q_ tk tf tg te) 142)).heap.size=w1.heap.size+1:=by simp
     have D:Hid (FB ((w1.alloc (.cells (Q_ tk tf tg te) 142)).alloc (.cells (F_ f1 f2 f3 f4 f5 f6 f7 request f9) 40)) (w1.heap.size+1) ⟨f1,f2,f3,f4,f5,f6,f7,request,f9⟩):=by rw[<- q]; exact FB.made _ ⟨f1,f2,f3,f4,f5,f6,f7,request,f9⟩ _
     have HZ:Hid _:=q;clear c hb2 o q;go_upto_region 4 with fail;have R:=C.o.c2;obtain⟨z0,z1,z2,z3,z4,z5,z6,z7,z8,-⟩:=D.o;simp only at R z0 z1 z2 z3 z4 z5 z6 z7 z8;generalize hWW:((w1.alloc _).alloc _)=W3 at *;clear hWW;generalize w1.heap.size=gq at *;go_wp2_with fail;refine (L.o _ A.o).mono ?_;rintro e4 w4 ⟨rfl,hb4⟩;have E:Hid _:=(aD.same (N:=N) A.o.sp hb4).pre B.o;clear hb4;go_wp2_with fail;go_ret2;exact⟨rfl,_,E.o⟩
    ·rw[if_neg hx]
     rw[Eg.o];generalize spoilM p f=Q at *;have Ej:Hid _:=hx;obtain⟨f1,f2,f3,f4,f5,f6,f7,f8,f9⟩:=f;simp only at hg;have U:0<=f5∧f5<=1099511627776:=HG.o;obtain⟨hg1,hg2⟩:=U;have Eh:(tg == f5)=false:=by simp[hg]
     clear hx;by_cases hx1:tg=f5 - 1
     ·have M:¬ request=f8:=fun hh=>Ej.o ⟨hx1,hh⟩
      have Z:(tg == f5 - 1)=true:=by simp[hx1]
      have k1:Hid (request.toList=f8.toList->False):=fun a=>M (by
       rw[ByteArray.toList_eq,ByteArray.toList_eq] at a;exact ByteArray.ext (Array.toList_inj.1 a))
      clear M;have Ei:Hid _:=hx1;clear hx1;have g:=F.o;have j:=G.o;have k:=H.o;unfold ap ac at g j k;simp only at g j k;have I:Hid _:=g;have L:Hid _:=j;have z:Hid _:=k;clear g j k;unfold aL ap ac at c;simp only at c;go_enter func29,ntmps29
      go_wp2_with fail;refine (s _).mono ?_;rintro e1 w1 ⟨rfl,hw⟩;obtain rfl:w=w1:=hw.symm;go_wp2_with fail;refine c.mono ?_;rintro e2 w1 ⟨rfl,hb2⟩;rw[show aB 0=.nilIface from rfl]
      have o:Below w1.heap.size w1 ((w1.alloc (.cells (Q_ tk tf tg te) 142)).alloc (.cells (F_ f1 f2 f3 f4 f5 f6 f7 f8 f9) 40)):=(bA _ _).alloc (by simp) _
      have A:Hid _:=(V.o.on hb2).on o;have B:Hid _:=hb2.tm o;have C:Hid (TB ((w1.alloc (.cells (Q_ tk tf tg te) 142)).alloc (.cells (F_ f1 f2 f3 f4 f5 f6 f7 f8 f9) 40)) w1.heap.size ⟨tk,tf,tg,te⟩):=(TB.made w1 ⟨tk,tf,tg,te⟩ _).on (bA _ _);have q:(w1.alloc (.cells (Q_ tk tf tg te) 142)).heap.size=w1.heap.size+1:=by simp
      have D:Hid (FB ((w1.alloc (.cells (Q_ tk tf tg te) 142)).alloc (.cells (F_ f1 f2 f3 f4 f5 f6 f7 f8 f9) 40)) (w1.heap.size+1) ⟨f1,f2,f3,f4,f5,f6,f7,f8,f9⟩):=by rw[<- q]; exact FB.made _ ⟨f1,f2,f3,f4,f5,f6,f7,f8,f9⟩ _
      have HZ:Hid _:=q;clear c hb2 o q;go_upto_region 4 with fail;have R:=C.o.c2;obtain⟨z0,z1,z2,z3,z4,z5,z6,z7,z8,-⟩:=D.o;simp only at R z0 z1 z2 z3 z4 z5 z6 z7 z8;generalize hWW:((w1.alloc _).alloc _)=W3 at *;clear hWW;generalize w1.heap.size=gq at *;go_wp2_with fail
      all_goals first
       |exact (k1.o (by assumption)).elim
       |exact (k1.o (by simpa using ‹(request.toList == f8.toList)=true›)).elim
       |(refine (z.o _ A.o).mono ?_
         rintro e4 w4 ⟨rfl,v4,hto⟩;have E:Hid _:=hto.pre B.o;clear hto;go_wp2_with fail;go_ret2;exact⟨rfl,_,E.o⟩)
     ·have Z:(tg == f5 - 1)=false:=by simp[hx1]
      have g:=F.o;have j:=G.o;have k:=H.o;unfold ap ac at g j k;simp only at g j k;have I:Hid _:=g;have L:Hid _:=j;have z:Hid _:=k;clear g j k;unfold aL ap ac at c;simp only at c;go_enter func29,ntmps29
      go_wp2_with fail;refine (s _).mono ?_;rintro e1 w1 ⟨rfl,hw⟩;obtain rfl:w=w1:=hw.symm;go_wp2_with fail;refine c.mono ?_;rintro e2 w1 ⟨rfl,hb2⟩;rw[show aB 0=.nilIface from rfl]
      have o:Below w1.heap.size w1 ((w1.alloc (.cells (Q_ tk tf tg te) 142)).alloc (.cells (F_ f1 f2 f3 f4 f5 f6 f7 f8 f9) 40)):=(bA _ _).alloc (by simp) _
      have A:Hid _:=(V.o.on hb2).on o;have B:Hid _:=hb2.tm o;have C:Hid (TB ((w1.alloc (.cells (Q_ tk tf tg te) 142)).alloc (.cells (F_ f1 f2 f3 f4 f5 f6 f7 f8 f9) 40)) w1.heap.size ⟨tk,tf,tg,te⟩):=(TB.made w1 ⟨tk,tf,tg,te⟩ _).on (bA _ _);have q:(w1.alloc (.cells (Q_ tk tf tg te) 142)).heap.size=w1.heap.size+1:=by simp
      have D:Hid (FB ((w1.alloc (.cells (Q_ tk tf tg te) 142)).alloc (.cells (F_ f1 f2 f3 f4 f5 f6 f7 f8 f9) 40)) (w1.heap.size+1) ⟨f1,f2,f3,f4,f5,f6,f7,f8,f9⟩):=by rw[<- q]; exact FB.made _ ⟨f1,f2,f3,f4,f5,f6,f7,f8,f9⟩ _
      have HZ:Hid _:=q;clear c hb2 o q;go_upto_region 4 with fail;have R:=C.o.c2;obtain⟨z0,z1,z2,z3,z4,z5,z6,z7,z8,-⟩:=D.o;simp only at R z0 z1 z2 z3 z4 z5 z6 z7 z8;generalize hWW:((w1.alloc _).alloc _)=W3 at *;clear hWW;generalize w1.heap.size=gq at *;go_wp2_with fail;refine (z.o _ A.o).mono ?_;rintro e4 w4 ⟨rfl,v4,hto⟩;have E:Hid _:=hto.pre B.o;clear hto;go_wp2_with fail;go_ret2;exact⟨rfl,_,E.o⟩
theorem Di(N:Nat)(w:World)(gs gd:Nat)(k i l a:Int)(p:Pub)(v:Value)(h:SP N w gs gd p v)(hL:av w)(hr:fA ⟨k,i,l,a⟩)(ho:bE gd):
 Calls prog 22 #[p_ gs 0,.agg #[.i_ k,.i_ i,.i_ l,.i_ a]] w fun e w'=>∃gv,e=.returned (.tuple #[.pointer (some ⟨gv,0,none⟩),.nilIface])∧w.heap.size<=gv∧be N w' gv gs gd ⟨k,i,l,a⟩ p v∧Below w.heap.size w w':=by
 have b:(w.alloc (.cells (Q_ k i l a) 54)).heap.size=w.heap.size+1:=by simp
 have f:J (Below w.heap.size w ((w.alloc (.cells (Q_ k i l a) 54)).alloc (.cells (V_ gs k i l a) 129))):=((Below.refl _ _).alloc (Nat.le_refl _) _).alloc (by simp) _
 have c:eD ((w.alloc (.cells (Q_ k i l a) 54)).alloc (.cells (V_ gs k i l a) 129)) (w.heap.size+1) gs ⟨k,i,l,a⟩:=by
  rw[<- b];refine⟨?_,?_,?_,?_,?_,by simp⟩ <;> exact (Fb _ _ _ _ rfl).trans rfl
 have o:J (be N ((w.alloc (.cells (Q_ k i l a) 54)).alloc (.cells (V_ gs k i l a) 129)) (w.heap.size+1) gs gd ⟨k,i,l,a⟩ p v):=⟨h.on f.o,c,hL.on f.o,hr,by have:=h.lt; omega,az.past h.fam (FC _),ho⟩
 have g:=fun (W:World)=>fH k W;have j:=fun (W:World)=>fH i W;have m:=fun (W:World)=>fH l W;have n:=fun (W:World)=>fH a W;rw[dt hr.key] at g;rw[dt hr.idle] at j;rw[dt hr.life] at m;rw[dt hr.access] at n;have q:J (Below w.heap.size w (w.alloc (.cells (Q_ k i l a) 54))):=(E9 _ _).alloc (Fa _) _;clear h hL hr ho c b;go_enter func22,ntmps22
 go_wp2_with fail
 refine (g _).mono ?_;rintro e1 w1 ⟨rfl,rfl⟩;go_wp2_with fail
 refine (j _).mono ?_;rintro e1 w1 ⟨rfl,rfl⟩;go_wp2_with fail
 refine (m _).mono ?_;rintro e1 w1 ⟨rfl,rfl⟩;go_wp2_with fail
 refine (n _).mono ?_;rintro e1 w1 ⟨rfl,rfl⟩;go_wp2_with fail
 go_ret2;exact⟨_,rfl,FC _,o.o,f.o⟩
theorem av.toA{w:World}(h:av w):aY w:=⟨⟨h.base.big.1,h.base.pow,h.len⟩,h.syn,h.rng⟩
theorem bE.mono{a b:Nat}(h:bE a)(hab:a<=b):bE b:=⟨h.1.le hab,h.2.le hab⟩
theorem bE.toA{n:Nat}(h:bE n):nu n:=⟨h.2.2.1,h.2.2.2,h.1.1,h.2.1⟩
theorem lI(r:Rul)(t:T)(h:Tok.may t):(txtB r t).size<=5000:=by
 have h1:=mN h;have h2:=lH r.key (body t);unfold txtB ip;rw[dC,List.length_append,List.length_cons];omega
theorem vV{i g:Int}(hi:okN i)(hg:okN g):Tok.may ⟨1,i,g,0⟩:=⟨.inl ⟨rfl,rfl⟩,hi,hg⟩
end Go.Proofs.YtlailakofhenkabGreatDoor
