import Derived.Test.YtlailakofhenkabGreatDoorB20
set_option maxRecDepth 100000
set_option maxHeartbeats 16000000
namespace Go.Proofs.YtlailakofhenkabGreatDoor
open Go Go.RowKit Tok Sc Ev Tryz RegD
attribute [local go_sem] rA oA
def bu(t:T):List Value:= [.int .i64 t.k,.int .i64 t.f,.int .i64 t.g,.int .i64 t.e]
structure TB (w:World) (g:Nat) (t:T):Prop where
 c0:w.cell? ⟨g,0,none⟩=some (.int .i64 t.k)
 c1:w.cell? ⟨g,1,none⟩=some (.int .i64 t.f)
 c2:w.cell? ⟨g,2,none⟩=some (.int .i64 t.g)
 c3:w.cell? ⟨g,3,none⟩=some (.int .i64 t.e)
 lt:g<w.heap.size
 fz:∀i,w.frozen? ⟨g,i,none⟩=false
theorem TB.made(w:World)(t:T)(ty:TypeId):TB (w.alloc (.cells #[.int .i64 t.k,.int .i64 t.f,.int .i64 t.g,.int .i64 t.e] ty)) w.heap.size t:=by
 refine⟨?_,?_,?_,?_,by simp,fun i=>World.frozen?_alloc_at _ _ _ _ rfl⟩ <;> exact (Fb _ _ _ _ rfl).trans rfl
variable {g:Nat}{t:T}{w w':World}
theorem TB.keep{l:List Nat}(h:TB w g t)(hk:af l w w')(hn:g∉l):TB w' g t:=by
 have b:∀i,w'.cell? (a_ g i)=w.c_ g i:=fun i=>hk.cell (p:=(a_ g i)) h.lt hn;exact⟨(b 0).trans h.c0,(b 1).trans h.c1,(b 2).trans h.c2,(b 3).trans h.c3,Fd h.lt hk.size,fun i=>(hk.frozen (p:=(a_ g i)) h.lt hn).trans (h.fz i)⟩
theorem TB.on(h:TB w g t)(hb:Below w.heap.size w w'):TB w' g t:=h.keep (af.of [] hb) (by simp)
theorem TB.there(h:TB w g t):∀j,j<4->(w.cell? ⟨g,0+j,none⟩).isSome=true:=by
 intro j hj;obtain⟨c0,c1,c2,c3,-⟩:=id h;rw[Nat.zero_add];match j,hj with
 |0,_=>rw[c0]; rfl
 |1,_=>rw[c1]; rfl
 |2,_=>rw[c2]; rfl
 |3,_=>rw[c3]; rfl
theorem TB.set{t':T}(h:TB w g t'):TB (w.setCells g 0 (bu t)) g t:=by
 have f:=fun (j:Nat) (hj:j<(bu t).length)=>World.cell?_setCells_in g (bu t) 0 w h.there j hj;have c:g<(w.setCells g 0 (bu t)).heap.size:=Fd h.lt (aa (B:=0) (Fo _) _ 0 _).size
 have b:∀(j:Nat) (u:Value),(bu t)[j]?=some u->(w.setCells g 0 (bu t)).c_ g j=some u:=fun j u hj=>by
  obtain⟨h1,h2⟩:=List.getElem?_eq_some_iff.1 hj
  have:=f j h1;rw[Nat.zero_add,h2] at this;exact this
 exact⟨b 0 _ rfl,b 1 _ rfl,b 2 _ rfl,b 3 _ rfl,c,fun i=>by rw[gQ]; exact h.fz i⟩
theorem af.setCells(g:Nat):∀(vs:List Value) (o:Nat) (w:World),af [g] w (w.setCells g o vs)
 |[],_,w=>af.refl _ w
 |v::vs,o,w=>(iZ g o v w).trans (af.setCells g vs (o+1) (w.setCell (a_ g o) v))
variable {f:Fam}
theorem fT{w1:World}{gt gf:Nat}{t0:T}{f0:Fam}(hb:Below w.heap.size w w1)(h1:TB w1 gt t0)(h2:FB w1 gf f0)(hg:w.heap.size<=gt∧w.heap.size<=gf∧gt≠gf):
 Below w.heap.size w ((w1.setCells gt 0 (bu t)).setCells gf 0 (ac f))∧TB ((w1.setCells gt 0 (bu t)).setCells gf 0 (ac f)) gt t∧FB ((w1.setCells gt 0 (bu t)).setCells gf 0 (ac f)) gf f:=by
 obtain⟨g1,g2,g3⟩:=hg;refine⟨(hb.trans (aa g1 _ 0 _)).trans (aa g2 _ 0 _),(h1.set).keep (af.setCells gf _ 0 _) (by simp; omega),?_⟩
 exact (h2.keep (af.setCells gt (bu t) 0 w1) (by simp; omega)).set
theorem Af(key:Int)(s:ByteArray)(t:T)(n:Nat)(ho:Tok.Out (tag key) s.data.toList t n)(w:World)(hs:s.size<=5000)(hL:av w):Calls prog 91 #[.i_ key,.string s] w fun e w'=>e=.returned (.tuple #[aL t,aB (errT n)])∧Below w.heap.size w w':=by
 refine (Ac key s w hs hL).mono ?_;rintro e w' ⟨hb,t',n',ho',rfl⟩;obtain⟨rfl,rfl⟩:=Tok.out_inj ho ho';refine⟨?_,hb⟩;match n with
 |0=>rfl
 |1=>rfl
 |n+2=>rfl
theorem pT(N:Nat)(w:World)(gv gs gd:Nat)(r:Rul)(p:Pub)(v:Value)(s:ByteArray)(kind:Int)(t:T)(n e:Nat)(h:be N w gv gs gd r p v)(hs:s.size<=5000)(ho:Tok.Out (tag r.key) s.data.toList t n)(he:lookM r p.st kind t n=e):
 Calls prog 75 #[p_ gv 0,.string s,.i_ kind] w fun x w'=>x=.returned (.tuple #[aL (if e=0 then t else zero),ap (if e=0 then famM p.st t else zeroF),aB e])∧Below w.heap.size w w':=by
 have H:Hid (Below w.heap.size w ((w.alloc (.cells (Q_ 0 0 0 0) 142)).alloc (.cells f_ 40))):=(bA _ _).alloc (by simp) _
 have Em:Hid (TB ((w.alloc (.cells (Q_ 0 0 0 0) 142)).alloc (.cells f_ 40)) w.heap.size zero):=(TB.made w zero _).on (bA _ _);have EJ:(w.alloc (.cells (Q_ 0 0 0 0) 142)).heap.size=w.heap.size+1:=by simp
 have Ee:Hid (FB ((w.alloc (.cells (Q_ 0 0 0 0) 142)).alloc (.cells f_ 40)) (w.heap.size+1) zeroF):=by rw[<- EJ]; exact FB.made _ zeroF _
 have V:Hid (be N ((w.alloc (.cells (Q_ 0 0 0 0) 142)).alloc (.cells f_ 40)) gv gs gd r p v):=h.on H.o;have Ef:Hid (∀(W:World),av W->Calls prog 91 #[.i_ r.key,.string s] W fun e w'=>e=.returned (.tuple #[.agg (Q_ t.k t.f t.g t.e),aB (errT n)])∧Below W.heap.size W w'):=fun W hW=>Af r.key s t n ho W hs hW;have En:Hid (Ev.dy p.st):=h.sp.ok.good;have c1:=V.o.box.c1;by_cases hn:n=0
 ·subst hn
  obtain⟨tk,tf,tg,te⟩:=t;by_cases hk:tk=kind
  ·subst hk
   have EK:Hid (cH p.st.fams tf=none->e=7):=fun hf=>he.symm.trans (xq r p.st tk ⟨tk,tf,tg,te⟩ rfl hf);have EL:Hid (∀f,cH p.st.fams tf=some f->e=if f.dead=true then 6 else if dR r p.st.clock f=true then 10 else if f.gen<tg then 2 else 0):=fun f hf=>he.symm.trans (xt r p.st tk ⟨tk,tf,tg,te⟩ rfl hf)
   have EM:Hid (∀f,cH p.st.fams tf=some f->bP f):=fun f hf=>dw En.o hf;have D:Hid (famM p.st ⟨tk,tf,tg,te⟩=(cH p.st.fams tf).getD zeroF):=rfl;have EN:famM p.st ⟨tk,tf,tg,te⟩=(cH p.st.fams tf).getD zeroF:=rfl;rw[EN];generalize hff:cH p.st.fams tf=ff at *;have EO:Hid (cH p.st.fams tf=ff):=hff;unfold aL;go_enter func75,ntmps75
   go_wp2_with fail;refine (Ef.o _ V.o.libs).mono ?_;rintro e1 w1 ⟨rfl,hb1⟩;have b:=bA w1 (.cells (Q_ tk tf tg te) 142);have M:Hid (Below w.heap.size w (w1.alloc (.cells (Q_ tk tf tg te) 142))):=(H.o.tm hb1).trans (b.mono (Fe H.o.size hb1.size));have z:Hid _:=(Em.o.on hb1).on b;have A:Hid _:=(Ee.o.on hb1).on b;have Es:Hid _:=(V.o.on hb1).on b;have O:Hid (TB (w1.alloc (.cells (Q_ tk tf tg te) 142)) w1.heap.size ⟨tk,tf,tg,te⟩):=TB.made w1 ⟨tk,tf,tg,te⟩ _;have Eg:Hid (w.heap.size+1<w1.heap.size):=by have h1:=hb1.size; have h2:=Ee.o.lt; show _<_; omega
   rw[show aB (errT 0)=.nilIface from rfl]
   go_upto_region 2 with fail;have x0:=O.o.c0;simp only at x0;generalize hWX:w1.alloc _=W1 at *;generalize w1.heap.size=gx at *;go_wp2_with fail;refine (bc N _ gv gs gd r p v Es.o).mono ?_;rintro e2 w2 ⟨v2,rfl,hf2,b⟩;obtain⟨b2,c2,rfl⟩:=ag.slice hf2;unfold stV;have R:=bA w2 (.cells (S_ p.st.clock p.st.next b2 p.st.fams.length c2) 36);have EP:Hid (Below w.heap.size w (w2.alloc (.cells (S_ p.st.clock p.st.next b2 p.st.fams.length c2) 36))):=(M.o.tm b).trans (R.mono (Fe M.o.size b.size));have EQ:Hid _:=(z.o.on b).on R;have ER:Hid _:=(A.o.on b).on R;have ES:Hid _:=(Es.o.on b).on R;have X:Hid _:=(O.o.on b).on R;have ET:Hid (ah W1.heap.size (w2.alloc (.cells (S_ p.st.clock p.st.next b2 p.st.fams.length c2) 36)) (.slice b2 p.st.fams.length c2) p.st.fams):=ag.below hf2 R (Fa _);have s0:(w2.alloc (.cells (S_ p.st.clock p.st.next b2 p.st.fams.length c2) 36)).c_ w2.heap.size 0=some (.i_ p.st.clock):=(Fb _ _ _ _ rfl).trans rfl
   have s2:(w2.alloc (.cells (S_ p.st.clock p.st.next b2 p.st.fams.length c2) 36)).c_ w2.heap.size 2=some (.slice b2 p.st.fams.length c2):=(Fb _ _ _ _ rfl).trans rfl;have sl:w2.heap.size<(w2.alloc (.cells (S_ p.st.clock p.st.next b2 p.st.fams.length c2) 36)).heap.size:=by simp
   have Et:Hid (∀W',Below (w2.alloc (.cells (S_ p.st.clock p.st.next b2 p.st.fams.length c2) 36)).heap.size (w2.alloc (.cells (S_ p.st.clock p.st.next b2 p.st.fams.length c2) 36)) W'->W'.cell? (a_ w2.heap.size 0)=some (.i_ p.st.clock)∧W'.cell? (a_ w2.heap.size 2)=some (.slice b2 p.st.fams.length c2)):=fun W' hW=>⟨(hW.cell (p:=(a_ w2.heap.size 0)) sl).trans s0,(hW.cell (p:=(a_ w2.heap.size 2)) sl).trans s2⟩;go_upto_region 7 with fail;generalize (w2.alloc _)=W2 at *;generalize w2.heap.size=gst at *;go_cut [12,13] from 40 to 48 (fun x y wx=>∃gf,x=p_ gf 0∧y=.bool ff.isSome∧Hid (FB wx gf (ff.getD zeroF))∧Hid (Below W2.heap.size W2 wx)∧Hid (w.heap.size+1<gf))
   case first=>
    have Eo:Hid (∀(W W':World) (B:Nat),Below W2.heap.size W2 W->B<W.heap.size->W.c_ B 0=some (.i_ tf)->Below W.heap.size W W'->Calls prog 83 #[.slice b2 p.st.fams.length c2,.func (.func 139) #[] #[p_ B 0]] W' fun e w'=>e=.returned (.tuple #[.agg (F_ ((ff.getD zeroF).id) ((ff.getD zeroF).client) ((ff.getD zeroF).subject) ((ff.getD zeroF).scope) ((ff.getD zeroF).gen) ((ff.getD zeroF).made) ((ff.getD zeroF).used) ((ff.getD zeroF).request) ((ff.getD zeroF).dead)),.bool ff.isSome])∧Below W'.heap.size W' w'):=fun W W' B hW hB hc hW'=>by
     have hh:=mM p.st.fams (.slice b2 p.st.fams.length c2) 139 #[p_ B 0] (isF tf) W' ((ag.below ET.o hW (Fa _)).below hW' (Fa _)) (fun f hf=>(En.o.may f hf).1) (by have:=En.o.len; omega) ((zX tf B W hB hc).on hW') vR
     have hq:p.st.fams.find? (isF tf)=ff:=EO.o;rw[hq] at hh;exact hh
    refine region_ (fun W=>Below W2.heap.size W2 W) 11 ((E9 _ _).drew) fun hH=>?_;refine an [(0,p_ gst 2),(1,.slice b2 p.st.fams.length c2),(2,p_ gx 1),(3,.i_ tf)] hH (fun W hW=>by have a0:=(Et.o _ hW).2; have a0:=(X.o.on hW).c1; simp only at a0;go_simp) ?_;simp only[pA,oA,Act.put,pS1]
    refine eW 4 9 (oi:=?oiq1) (oj:=?ojq1) ?haq1 ?hbq1 ?hrq1 ?hxq1 ?hyq1
    case haq1=>rfl
    case hbq1=>rfl
    case hrq1=>kernel_rfl
    case hxq1=>
     intro K hK;go_simp;go_at_call 84;refine (rR tf _).mono ?_;rintro e4 w4 ⟨rfl,rfl⟩;go_wp2_with fail;refine hK.out _ _ (hH.alloc hH.size _) ?_;intro hH;refine eW 5 9 (oi:=?oiq2) (oj:=?ojq2) ?haq2 ?hbq2 ?hrq2 ?hxq2 ?hyq2
     case haq2=>rfl
     case hbq2=>rfl
     case hrq2=>kernel_rfl
     case hxq2=>
      intro K hK;go_simp;go_at_call 83;refine (Eo.o (W2.drew.alloc (.cells #[.i_ tf] 3)) (W2.drew.alloc (.cells #[.i_ tf] 3)) W2.drew.heap.size hH (by simp) ((World.cell?_alloc_at _ _ _ _ rfl).trans rfl) (Below.refl _ _)).mono ?_;rintro e5 w5 ⟨rfl,hb5⟩;go_wp2_with fail;refine hK.out _ _ (hH.tm hb5) ?_;intro hH;refine an [(6,.tuple #[.agg (F_ ((ff.getD zeroF).id) ((ff.getD zeroF).client) ((ff.getD zeroF).subject) ((ff.getD zeroF).scope) ((ff.getD zeroF).gen) ((ff.getD zeroF).made) ((ff.getD zeroF).used) ((ff.getD zeroF).request) ((ff.getD zeroF).dead)),.bool ff.isSome]),(7,.agg (F_ ((ff.getD zeroF).id) ((ff.getD zeroF).client) ((ff.getD zeroF).subject) ((ff.getD zeroF).scope) ((ff.getD zeroF).gen) ((ff.getD zeroF).made) ((ff.getD zeroF).used) ((ff.getD zeroF).request) ((ff.getD zeroF).dead))),(8,.bool ff.isSome)] hH (fun W hW=>by go_simp) ?_;simp only[pA,oA,Act.put,pS1]
      refine one_ 9 ?_; intro K hK; go_simp;have Y:Hid (FB (w5.alloc (.cells f_ 40)) w5.heap.size zeroF):=FB.made w5 zeroF _;have E:Hid (W2.heap.size<=w5.heap.size):=hH.size;refine hK.out _ _ (hH.alloc hH.size _) ?_;intro hH;have Z:Hid (Below W2.heap.size W2 (w5.alloc (.cells f_ 40))):=hH;have q:Hid (FB (w5.alloc (.cells f_ 40)) w5.heap.size zeroF):=Y.o;generalize w5.alloc _=wq at *;generalize w5.heap.size=gq at *;obtain⟨z0,z1,z2,z3,z4,z5,z6,z7,z8,-⟩:=q.o; have zf:=q.o.fz;have Ed:Hid (FB (wq.setCells gq 0 (ac (ff.getD zeroF))) gq (ff.getD zeroF)):=q.o.set;have F:Hid (Below W2.heap.size W2 (wq.setCells gq 0 (ac (ff.getD zeroF)))):=Z.o.trans (aa E.o _ 0 _)
      refine one_ 10 ?_; intro K hK; go_simp;refine hK.out _ _ (F.o) ?_;intro hH;refine late_ 11 ?_; intro K hK; go_simp;refine hK.out _ _ ?_;refine done_ ?_;go_wp2_with fail;go_meet
      case rel=>exact⟨_,rfl,rfl,Ed,F,(by have h1:=E.o; have h2:=Eg.o; have h3:=X.o.lt; show _<_; omega)⟩
     case hyq2=>
      intro K hK;go_simp;have Eu:(W2.drew.alloc (.cells #[.i_ tf] 3)).heap.size=W2.heap.size+1:=by simp
      have Y:Hid (FB ((W2.drew.alloc (.cells #[.i_ tf] 3)).alloc (.cells f_ 40)) (W2.heap.size+1) zeroF):=by rw[<- Eu]; exact FB.made _ zeroF _
      have E:Hid (W2.heap.size<=(W2.heap.size+1)):=by show _<=_; omega
      have Eh:Hid (Below W2.heap.size W2 (W2.drew.alloc (.cells #[.i_ tf] 3))):=hH;refine hK.out _ _ (hH.alloc hH.size _) ?_;intro hH;refine one_ 5 ?_; intro K hK; go_simp;go_at_call 83;refine (Eo.o (W2.drew.alloc (.cells #[.i_ tf] 3)) ((W2.drew.alloc (.cells #[.i_ tf] 3)).alloc (.cells f_ 40)) W2.heap.size Eh.o (by simp) ((World.cell?_alloc_at _ _ _ _ rfl).trans rfl) (bA _ _)).mono ?_;rintro wq0 wq ⟨rfl,hb5⟩;go_wp2_with fail;have q:Hid (FB wq (W2.heap.size+1) zeroF):=Y.o.on hb5;refine hK.out _ _ (hH.tm hb5) ?_;intro hH;have Z:Hid (Below W2.heap.size W2 wq):=hH;refine an [(6,.tuple #[.agg (F_ ((ff.getD zeroF).id) ((ff.getD zeroF).client) ((ff.getD zeroF).subject) ((ff.getD zeroF).scope) ((ff.getD zeroF).gen) ((ff.getD zeroF).made) ((ff.getD zeroF).used) ((ff.getD zeroF).request) ((ff.getD zeroF).dead)),.bool ff.isSome]),(7,.agg (F_ ((ff.getD zeroF).id) ((ff.getD zeroF).client) ((ff.getD zeroF).subject) ((ff.getD zeroF).scope) ((ff.getD zeroF).gen) ((ff.getD zeroF).made) ((ff.getD zeroF).used) ((ff.getD zeroF).request) ((ff.getD zeroF).dead))),(8,.bool ff.isSome)] hH (fun W hW=>by go_simp) ?_;simp only[pA,oA,Act.put,pS1]
      obtain⟨z0,z1,z2,z3,z4,z5,z6,z7,z8,-⟩:=q.o; have zf:=q.o.fz;have Ed:Hid (FB (wq.setCells (W2.heap.size+1) 0 (ac (ff.getD zeroF))) (W2.heap.size+1) (ff.getD zeroF)):=q.o.set;have F:Hid (Below W2.heap.size W2 (wq.setCells (W2.heap.size+1) 0 (ac (ff.getD zeroF)))):=Z.o.trans (aa E.o _ 0 _);refine one_ 10 ?_; intro K hK; go_simp;refine hK.out _ _ (F.o) ?_;intro hH;refine late_ 11 ?_; intro K hK; go_simp;refine hK.out _ _ ?_;refine done_ ?_;go_wp2_with fail;go_meet
      case rel=>exact⟨_,rfl,rfl,Ed,F,(by have h1:=E.o; have h2:=Eg.o; have h3:=X.o.lt; show _<_; omega)⟩
    case hyq1=>
     intro K hK;go_simp;have E:Hid (W2.heap.size<=W2.heap.size):=Fa _;refine hK.out _ _ (hH.alloc hH.size _) ?_;intro hH;refine one_ 4 ?_; intro K hK; go_simp;go_at_call 84;refine (rR tf _).mono ?_;rintro e4 w4 ⟨rfl,rfl⟩;go_wp2_with fail;have Ew:Hid (FB ((W2.alloc (.cells f_ 40)).alloc (.cells #[.i_ tf] 3)).drew W2.heap.size zeroF):=((FB.made W2 zeroF _).on (bA _ _)).on (E9 _ _).drew;have Eh:Hid (Below W2.heap.size W2 ((W2.alloc (.cells f_ 40)).alloc (.cells #[.i_ tf] 3)).drew):=((bA _ _).alloc (by simp) _).drew
     have Ex:(W2.alloc (.cells f_ 40)).heap.size=W2.heap.size+1:=by simp
     have Ey:World.cell? ((W2.alloc (.cells f_ 40)).alloc (.cells #[.i_ tf] 3)).drew ⟨(W2.alloc (.cells f_ 40)).heap.size,0,none⟩=some (.i_ tf):=by show World.cell? ((W2.alloc (.cells f_ 40)).alloc (.cells #[.i_ tf] 3)) _=_; exact (Fb _ _ _ _ rfl).trans rfl
     rw[Ex] at Ey;have EU:=Eo.o ((W2.alloc (.cells f_ 40)).alloc (.cells #[.i_ tf] 3)).drew ((W2.alloc (.cells f_ 40)).alloc (.cells #[.i_ tf] 3)).drew (W2.heap.size+1) Eh.o (by show W2.heap.size+1<((W2.alloc (.cells f_ 40)).alloc (.cells #[.i_ tf] 3)).heap.size; simp) Ey (Below.refl _ _)
     have Ez:Hid _:=EU;refine hK.out _ _ (Eh.o) ?_;intro hH;generalize hWZ:((W2.alloc _).alloc _).drew=W3 at *;refine one_ 5 ?_; intro K hK; go_simp;go_at_call 83;refine (Calls.mono Ez.o ?_);rintro wq0 wq ⟨rfl,hb5⟩;go_wp2_with fail;have q:Hid (FB wq W2.heap.size zeroF):=Ew.o.on hb5;refine hK.out _ _ (hH.tm hb5) ?_;intro hH;have Z:Hid (Below W2.heap.size W2 wq):=hH;refine an [(6,.tuple #[.agg (F_ ((ff.getD zeroF).id) ((ff.getD zeroF).client) ((ff.getD zeroF).subject) ((ff.getD zeroF).scope) ((ff.getD zeroF).gen) ((ff.getD zeroF).made) ((ff.getD zeroF).used) ((ff.getD zeroF).request) ((ff.getD zeroF).dead)),.bool ff.isSome]),(7,.agg (F_ ((ff.getD zeroF).id) ((ff.getD zeroF).client) ((ff.getD zeroF).subject) ((ff.getD zeroF).scope) ((ff.getD zeroF).gen) ((ff.getD zeroF).made) ((ff.getD zeroF).used) ((ff.getD zeroF).request) ((ff.getD zeroF).dead))),(8,.bool ff.isSome)] hH (fun W hW=>by go_simp) ?_;simp only[pA,oA,Act.put,pS1]
     obtain⟨z0,z1,z2,z3,z4,z5,z6,z7,z8,-⟩:=q.o; have zf:=q.o.fz;have Ed:Hid (FB (wq.setCells W2.heap.size 0 (ac (ff.getD zeroF))) W2.heap.size (ff.getD zeroF)):=q.o.set;have F:Hid (Below W2.heap.size W2 (wq.setCells W2.heap.size 0 (ac (ff.getD zeroF)))):=Z.o.trans (aa E.o _ 0 _);refine one_ 10 ?_; intro K hK; go_simp;refine hK.out _ _ (F.o) ?_;intro hH;refine late_ 11 ?_; intro K hK; go_simp;refine hK.out _ _ ?_;refine done_ ?_;go_wp2_with fail;go_meet
     case rel=>exact⟨_,rfl,rfl,Ed,F,(by have h1:=E.o; have h2:=Eg.o; have h3:=X.o.lt; show _<_; omega)⟩
   case rest=>
    obtain⟨gf,rfl,rfl,HFX,HBX,HGF⟩:=hcut;generalize wc=wa at *;have EV:Hid (Below w.heap.size w wa):=EP.o.tm HBX.out;have EW:Hid _:=EQ.o.on HBX.out;have EX:Hid _:=ER.o.on HBX.out;have EA:Hid _:=ES.o.on HBX.out;have Ei:Hid _:=X.o.on HBX.out;obtain⟨hs0,hs2⟩:=Et.o _ HBX.out;have EB:Hid (wa.c_ gst 0=some (.i_ p.st.clock)):=hs0;go_upto_block 0 with fail
    go_cut [10] from 49 to 70 (fun x wx=>x=aB e∧Hid (Below wa.heap.size wa wx))
    case first=>
     cases ff with
     |none=>
      have he:=EK.o rfl;subst he;go_wp2_with fail;go_meet
      case rel=>exact⟨rfl,E9 _ _⟩
     |some f=>
      have he:=EL.o f rfl;have EY:=EM.o f rfl;obtain⟨d0,d1,d2,d3,d4,d5,d6,d7,d8,-⟩:=HFX.out;simp only[Option.getD_some] at d0 d1 d2 d3 d4 d5 d6 d7 d8;have I:=Ad wa gv gs r f p.st.clock EA.o.box EA.o.rul EY;have El:Hid (FB wa gf f):=HFX.out;obtain⟨f1,f2,f3,f4,f5,f6,f7,f8,f9⟩:=f;unfold ap ac at I;simp only at d0 d1 d2 d3 d4 d5 d6 d7 d8 I he;have s0:=EB.o;have x2:=Ei.o.c2;simp only at x2
      cases f9 with
      |true=>
       rw[if_pos rfl] at he;subst he;go_wp2_with fail;go_meet
       case rel=>exact⟨rfl,E9 _ _⟩
      |false=>
       rw[if_neg (by simp)] at he
       cases ho:dR r p.st.clock ⟨f1,f2,f3,f4,f5,f6,f7,f8,false⟩ with
       |true=>
        rw[ho] at I he;rw[if_pos rfl] at he;subst he;go_wp2_with fail;refine I.mono ?_;rintro e4 w4 ⟨rfl,hb4⟩;have G:Hid _:=hb4;go_wp2_with fail;go_meet
        case rel=>exact⟨rfl,G⟩
       |false=>
        rw[ho] at I he;rw[if_neg (by simp)] at he
        by_cases hg:f5<tg
        ·rw[if_pos hg] at he
         subst he;go_wp2_with fail;refine I.mono ?_;rintro e4 w4 ⟨rfl,hb4⟩;have G:Hid _:=hb4;have x2:=(Ei.o.on hb4).c2;have d4:=(El.o.on hb4).c4;simp only at x2 d4;go_wp2_with fail;go_meet
         case rel=>exact⟨rfl,G⟩
        ·rw[if_neg hg] at he
         subst he;go_wp2_with fail;refine I.mono ?_;rintro e4 w4 ⟨rfl,hb4⟩;have G:Hid _:=hb4;have x2:=(Ei.o.on hb4).c2;have d4:=(El.o.on hb4).c4;simp only at x2 d4;go_wp2_with fail;go_meet
         case rel=>exact⟨rfl,G⟩
    case rest=>
     obtain⟨rfl,HBY⟩:=hcut;have G:Hid (Below w.heap.size w wc):=EV.o.tm HBY.out;have U:Hid _:=EW.o.on HBY.out;have Ej:Hid _:=EX.o.on HBY.out;have EC:Hid _:=Ei.o.on HBY.out;have ED:Hid _:=HFX.out.on HBY.out
     cases e with
     |zero=>
      rw[show aB 0=.nilIface from rfl]
      go_upto_region 18 with fail;refine region_ (fun W=>TB W gx ⟨tk,tf,tg,te⟩∧FB W gf (ff.getD zeroF)) 3 ⟨EC.o.on (E9 _ _).drew,ED.o.on (E9 _ _).drew⟩ fun hH=>?_;refine an [(0,.agg (Q_ tk tf tg te)),(1,.agg (F_ ((ff.getD zeroF).id) ((ff.getD zeroF).client) ((ff.getD zeroF).subject) ((ff.getD zeroF).scope) ((ff.getD zeroF).gen) ((ff.getD zeroF).made) ((ff.getD zeroF).used) ((ff.getD zeroF).request) ((ff.getD zeroF).dead)))] hH (fun W hW=>by obtain⟨a0,a1,a2,a3,-⟩:=hW.1; simp only at a0 a1 a2 a3; obtain⟨a0,a1,a2,a3,a4,a5,a6,a7,a8,-⟩:=hW.2;go_simp) ?_;simp only[pA,oA,Act.put,pS1]
      obtain⟨t0,t1,t2,t3,-⟩:=U.o; have tz:=U.o.fz;have Ep:Hid (af [w.heap.size] wc (wc.setCells w.heap.size 0 (bu ⟨tk,tf,tg,te⟩)).drew):=(af.setCells w.heap.size (bu ⟨tk,tf,tg,te⟩) 0 wc).drew;have EZ:Hid (TB (wc.setCells w.heap.size 0 (bu ⟨tk,tf,tg,te⟩)).drew w.heap.size ⟨tk,tf,tg,te⟩):=U.o.set.on (E9 _ _).drew;have E0:Hid (FB (wc.setCells w.heap.size 0 (bu ⟨tk,tf,tg,te⟩)).drew (w.heap.size+1) zeroF):=Ej.o.keep Ep.o (by simp)
      have E1:Hid (Below w.heap.size w (wc.setCells w.heap.size 0 (bu ⟨tk,tf,tg,te⟩)).drew):=(G.o.trans (aa (Fa _) _ 0 wc)).drew;refine one_ 2 ?_; intro K hK; go_simp;refine hK.out _ _ (⟨EC.o.keep Ep.o (by have:=Eg.o; simp; omega),ED.o.keep Ep.o (by have:=HGF.out; simp; omega)⟩) ?_
      intro hH;generalize hWW:World.drew (World.setCell _ (a_ w.heap.size 3) _)=WA;have C:(wc.setCells w.heap.size 0 (bu ⟨tk,tf,tg,te⟩)).drew=WA:=hWW;have EE:=E1.o;have EF:=EZ.o;have Ek:=E0.o;rw[C] at EE EF Ek;have J:Hid (Below w.heap.size w (WA.setCells (w.heap.size+1) 0 (ac (ff.getD zeroF)))):=EE.trans (aa (FC _) _ 0 WA);have L:Hid (TB (WA.setCells (w.heap.size+1) 0 (ac (ff.getD zeroF))) w.heap.size ⟨tk,tf,tg,te⟩):=EF.keep (af.setCells _ _ 0 WA) (by simp)
      have D:Hid (FB (WA.setCells (w.heap.size+1) 0 (ac (ff.getD zeroF))) (w.heap.size+1) (ff.getD zeroF)):=Ek.set;obtain⟨z0,z1,z2,z3,z4,z5,z6,z7,z8,-⟩:=id Ek; have zf:=Ek.fz;refine late_ 3 ?_; intro K hK; go_simp;refine hK.out _ _ ?_;generalize hWW:World.setCell _ (a_ (w.heap.size+1) 8) _=WB;have C:WA.setCells (w.heap.size+1) 0 (ac (ff.getD zeroF))=WB:=hWW;have c:=J.o;have j:=L.o;have o:=D.o;rw[C] at c j o;have EG:Hid _:=c;have EH:Hid _:=j;have EI:Hid _:=o;refine late_ 4 ?_; intro K hK; go_simp;refine hK.out _ _ ?_;refine done_ ?_;go_wp2_with fail;have c:=EG.o;obtain⟨p0,p1,p2,p3,-⟩:=EH.o;obtain⟨q0,q1,q2,q3,q4,q5,q6,q7,q8,-⟩:=EI.o;exact bodyPost_ret (v:=.tuple #[.agg (Q_ tk tf tg te),.agg (F_ ((ff.getD zeroF).id) ((ff.getD zeroF).client) ((ff.getD zeroF).subject) ((ff.getD zeroF).scope) ((ff.getD zeroF).gen) ((ff.getD zeroF).made) ((ff.getD zeroF).used) ((ff.getD zeroF).request) ((ff.getD zeroF).dead)),.nilIface]) (by simp[results,results75,go_sem,p0,p1,p2,p3,q0,q1,q2,q3,q4,q5,q6,q7,q8]) rfl ⟨by simp[ap,ac]; rfl,c⟩
     |succ e=>
      rw[aV];obtain⟨t0,t1,t2,t3,-⟩:=U.o; have tz:=U.o.fz;obtain⟨z0,z1,z2,z3,z4,z5,z6,z7,z8,-⟩:=Ej.o; have zf:=Ej.o.fz;obtain⟨c,j,o⟩:=fT (t:=zero) (f:=zeroF) G.o U.o Ej.o (by omega)
      have J:Hid _:=c;have L:Hid _:=j;have D:Hid _:=o;go_wp2_with fail;generalize hWW:World.setCell _ (a_ (w.heap.size+1) 8) _=WW;have C:(wc.setCells w.heap.size 0 (bu zero)).setCells (w.heap.size+1) 0 (ac zeroF)=WW:=hWW;have c:=J.o;have j:=L.o;have o:=D.o;rw[C] at c j o;obtain⟨p0,p1,p2,p3,-⟩:=id j;obtain⟨q0,q1,q2,q3,q4,q5,q6,q7,q8,-⟩:=id o;exact bodyPost_ret (v:=.tuple #[.agg (Q_ 0 0 0 0),.agg f_,.iface 47 (.i_ ((e+1:Nat):Int))]) (by simp[results,results75,go_sem,p0,p1,p2,p3,q0,q1,q2,q3,q4,q5,q6,q7,q8,zero,zeroF]) rfl ⟨by simp[ap,ac,zero,zeroF,aV],c⟩
  ·have Er:e=1:=he.symm.trans (xp r p.st kind ⟨tk,tf,tg,te⟩ hk)
   subst Er;have hkb:(tk == kind)=false:=by simp[hk]
   unfold aL;go_enter func75,ntmps75
   go_wp2_with fail;refine (Ef.o _ V.o.libs).mono ?_;rintro e1 w1 ⟨rfl,hb1⟩;have b:=bA w1 (.cells (Q_ tk tf tg te) 142);have M:Hid (Below w.heap.size w (w1.alloc (.cells (Q_ tk tf tg te) 142))):=(H.o.tm hb1).trans (b.mono (Fe H.o.size hb1.size));have z:Hid _:=(Em.o.on hb1).on b;have A:Hid _:=(Ee.o.on hb1).on b;have O:Hid (TB (w1.alloc (.cells (Q_ tk tf tg te) 142)) w1.heap.size ⟨tk,tf,tg,te⟩):=TB.made w1 ⟨tk,tf,tg,te⟩ _;rw[show aB (errT 0)=.nilIface from rfl]
   go_upto_region 2 with fail;have x0:=O.o.c0;simp only at x0;generalize hWX:w1.alloc _=W1 at *;generalize w1.heap.size=gx at *;obtain⟨t0,t1,t2,t3,-⟩:=z.o; have tz:=z.o.fz;obtain⟨z0,z1,z2,z3,z4,z5,z6,z7,z8,-⟩:=A.o; have zf:=A.o.fz;obtain⟨c,j,o⟩:=fT (t:=zero) (f:=zeroF) M.o z.o A.o (by omega)
   have J:Hid _:=c;have L:Hid _:=j;have D:Hid _:=o;go_wp2_with fail;generalize hWW:World.setCell _ (a_ (w.heap.size+1) 8) _=WW;have C:(W1.setCells w.heap.size 0 (bu zero)).setCells (w.heap.size+1) 0 (ac zeroF)=WW:=hWW;have c:=J.o;have j:=L.o;have o:=D.o;rw[C] at c j o;obtain⟨p0,p1,p2,p3,-⟩:=id j;obtain⟨q0,q1,q2,q3,q4,q5,q6,q7,q8,-⟩:=id o;exact bodyPost_ret (v:=.tuple #[.agg (Q_ 0 0 0 0),.agg f_,.iface 47 (.i_ 1)]) (by simp[results,results75,go_sem,p0,p1,p2,p3,q0,q1,q2,q3,q4,q5,q6,q7,q8,zero,zeroF]) rfl ⟨by simp[ap,ac,zero,zeroF,aV],c⟩
 ·obtain⟨hb,hc⟩:=rP r p.st kind t hn
  obtain⟨m,hm⟩:∃m,errT n=m+1:=⟨errT n - 1,by omega⟩
  have Er:e=m+1:=(he.symm.trans hb).trans hm;subst Er;rw[hm] at Ef;obtain⟨tk,tf,tg,te⟩:=t;unfold aL;go_enter func75,ntmps75
  go_wp2_with fail;refine (Ef.o _ V.o.libs).mono ?_;rintro e1 w1 ⟨rfl,hb1⟩;have b:=bA w1 (.cells (Q_ tk tf tg te) 142);have M:Hid (Below w.heap.size w (w1.alloc (.cells (Q_ tk tf tg te) 142))):=(H.o.tm hb1).trans (b.mono (Fe H.o.size hb1.size));have z:Hid _:=(Em.o.on hb1).on b;have A:Hid _:=(Ee.o.on hb1).on b;have O:Hid (TB (w1.alloc (.cells (Q_ tk tf tg te) 142)) w1.heap.size ⟨tk,tf,tg,te⟩):=TB.made w1 ⟨tk,tf,tg,te⟩ _;rw[aV];go_upto_region 2 with fail;have x0:=O.o.c0;simp only at x0;generalize hWX:w1.alloc _=W1 at *;generalize w1.heap.size=gx at *;obtain⟨t0,t1,t2,t3,-⟩:=z.o; have tz:=z.o.fz;obtain⟨z0,z1,z2,z3,z4,z5,z6,z7,z8,-⟩:=A.o; have zf:=A.o.fz;obtain⟨c,j,o⟩:=fT (t:=zero) (f:=zeroF) M.o z.o A.o (by omega)
  have J:Hid _:=c;have L:Hid _:=j;have D:Hid _:=o;go_wp2_with fail;generalize hWW:World.setCell _ (a_ (w.heap.size+1) 8) _=WW;have C:(W1.setCells w.heap.size 0 (bu zero)).setCells (w.heap.size+1) 0 (ac zeroF)=WW:=hWW;have c:=J.o;have j:=L.o;have o:=D.o;rw[C] at c j o;obtain⟨p0,p1,p2,p3,-⟩:=id j;obtain⟨q0,q1,q2,q3,q4,q5,q6,q7,q8,-⟩:=id o;exact bodyPost_ret (v:=.tuple #[.agg (Q_ 0 0 0 0),.agg f_,.iface 47 (.i_ ((m+1:Nat):Int))]) (by simp[results,results75,go_sem,p0,p1,p2,p3,q0,q1,q2,q3,q4,q5,q6,q7,q8,zero,zeroF]) rfl ⟨by simp[ap,ac,zero,zeroF,aV],c⟩
theorem be.beside{N:Nat}{gv gs gd gb:Nat}{r:Rul}{p:Pub}{v:Value}(h:be N w gv gs gd r p v)(hk:af [gb] w w')(hg:gv<gb)(hn:az v gb):be N w' gv gs gd r p v:=by
 have h1:=h.sp.ord;have h2:=h.sp.lt;have h3:=h.ord;exact⟨h.sp.elsewhere hk (fun x hx=>by simp at hx; subst hx; exact⟨by omega,by omega,hn⟩),h.box.keep hk (by simp; omega),h.libs.belowO (hk.below (B:=gd) (by omega) (fun x hx=>by simp at hx; omega)) h.old,h.rul,h.ord,h.out,h.old⟩
theorem FB.gen(h:FB w g f)(n:Int):FB (w.setCell ⟨g,4,none⟩ (.int .i64 n)) g ⟨f.id,f.client,f.subject,f.scope,n,f.made,f.used,f.request,f.dead⟩:=
 ⟨al h.c0 (by decide),al h.c1 (by decide),al h.c2 (by decide),al h.c3 (by decide),World.cell?_setCell_same _ _ _ h.c4,al h.c5 (by decide),al h.c6 (by decide),al h.c7 (by decide),al h.c8 (by decide),by simpa using h.lt,fun i=>by rw[World.frozen?_setCell]; exact h.fz i⟩
theorem FB.scope(h:FB w g f)(s:ByteArray):FB (w.setCell ⟨g,3,none⟩ (.string s)) g ⟨f.id,f.client,f.subject,s,f.gen,f.made,f.used,f.request,f.dead⟩:=
 ⟨al h.c0 (by decide),al h.c1 (by decide),al h.c2 (by decide),World.cell?_setCell_same _ _ _ h.c3,al h.c4 (by decide),al h.c5 (by decide),al h.c6 (by decide),al h.c7 (by decide),al h.c8 (by decide),by simpa using h.lt,fun i=>by rw[World.frozen?_setCell]; exact h.fz i⟩
theorem FB.req(h:FB w g f)(s:ByteArray):FB (w.setCell ⟨g,7,none⟩ (.string s)) g ⟨f.id,f.client,f.subject,f.scope,f.gen,f.made,f.used,s,f.dead⟩:=
 ⟨al h.c0 (by decide),al h.c1 (by decide),al h.c2 (by decide),al h.c3 (by decide),al h.c4 (by decide),al h.c5 (by decide),al h.c6 (by decide),World.cell?_setCell_same _ _ _ h.c7,al h.c8 (by decide),by simpa using h.lt,fun i=>by rw[World.frozen?_setCell]; exact h.fz i⟩
theorem FB.use(h:FB w g f)(n:Int):FB (w.setCell ⟨g,6,none⟩ (.int .i64 n)) g ⟨f.id,f.client,f.subject,f.scope,f.gen,f.made,n,f.request,f.dead⟩:=
 ⟨al h.c0 (by decide),al h.c1 (by decide),al h.c2 (by decide),al h.c3 (by decide),al h.c4 (by decide),al h.c5 (by decide),World.cell?_setCell_same _ _ _ h.c6,al h.c7 (by decide),al h.c8 (by decide),by simpa using h.lt,fun i=>by rw[World.frozen?_setCell]; exact h.fz i⟩
theorem se(s:ByteArray)(l:List Word)(m:Nat)(ho:Sc.Out s.data.toList l m)(w:World)(hs:s.size<=5000)(hL:aU w):Calls prog 71 #[.string s] w fun e w'=>e=.returned (.tuple #[.string ⟨(ae l).toArray⟩,aB m])∧Below w.heap.size w w':=by
 refine (j9 s w hs hL).mono ?_;rintro e w' ⟨l',m',rfl,ho',hb⟩;obtain⟨rfl,rfl⟩:=Sc.out_inj ho ho';exact⟨rfl,hb⟩
theorem xF(s t:ByteArray)(b:Bool)(n:Nat)(ho:fp s.data.toList t.data.toList b n)(w:World)(hs:s.size<=5000)(ht:t.size<=5000)(hL:aU w):Calls prog 132 #[.string s,.string t] w fun e w'=>e=.returned (.tuple #[.bool b,aB n])∧Below w.heap.size w w':=by
 refine (tR s t w hs ht hL).mono ?_;rintro e w' ⟨b',n',rfl,ho',hb⟩;obtain⟨rfl,rfl⟩:=Sc.lQ ho ho';exact⟨rfl,hb⟩
theorem gM{s:List UInt8}{l:List Word}(h:Sc.Out s l 0):Lst (ae l):=⟨l,eR h,rfl⟩
theorem BZ(N:Nat)(w:World)(gv gs gd:Nat)(r:Rul)(p:Pub)(v:Value)(f:Fam)(request sc:ByteArray)(l:List Word)(m:Nat)(b:Bool)(h:be N w gv gs gd r p v)(hf:bP f)(hr:am request.data.toList=true)(hsc:sc.size<=5000)(ho:Sc.Out sc.data.toList l m)(hw:m=0->fp (ae l) f.scope.data.toList b 0)(hN:N<98000):
 Calls prog 76 #[p_ gv 0,ap f,.string request,.string sc] w fun e w'=>e=.returned (.tuple #[.string (turnM (txtB r) p f request ⟨(ae l).toArray⟩ m b).2.1,aB (turnM (txtB r) p f request ⟨(ae l).toArray⟩ m b).2.2])∧∃v',aD N gs gd v w w' (turnM (txtB r) p f request ⟨(ae l).toArray⟩ m b).1 v':=by
 have M:f.scope.size<=5000:=(ec hf).2.2.1;have t:Hid (gv<w.heap.size∧az v w.heap.size):=⟨h.box.lt,az.past h.sp.fam (Fa _)⟩;have k:Hid _:=bA w (.cells (F_ f.id f.client f.subject f.scope f.gen f.made f.used f.request f.dead) 40);have c:Hid _:=h.on k.o;have A:Hid (FB (w.alloc (.cells (F_ f.id f.client f.subject f.scope f.gen f.made f.used f.request f.dead) 40)) w.heap.size f):=FB.made w f _;have z:Hid (∀W:World,aU W->Calls prog 71 #[.string sc] W fun e w'=>e=.returned (.tuple #[.string ⟨(ae l).toArray⟩,aB m])∧Below W.heap.size W w'):=fun W hW=>se sc l m ho W hsc hW;have O:Hid (m=0->(⟨(ae l).toArray⟩:ByteArray).size<=5000):=fun hm=>by subst hm; rw[dC]; have:=(fu ho).2; omega
 have B:Hid (m=0->∀W:World,aU W->Calls prog 132 #[.string ⟨(ae l).toArray⟩,.string f.scope] W fun e w'=>e=.returned (.tuple #[.bool b,.nilIface])∧Below W.heap.size W w'):=fun hm W hW=>xF ⟨(ae l).toArray⟩ f.scope b 0 (hw hm) W (O.o hm) M hW;have R:Hid (m=0->¬ 1099511627776<=f.gen->Ev.may (aI (gP f request ⟨(ae l).toArray⟩ p.st.clock))):=fun hm hg=>by subst hm; exact mL hf hg hr (gM ho) h.sp.ok.good.clock
 have T:Hid (∀(W:World),m=0->¬ 1099511627776<=f.gen->be N W gv gs gd r p v->Calls prog 72 #[p_ gv 0,ap (gP f request ⟨(ae l).toArray⟩ p.st.clock)] W fun e w'=>e=.returned (.tuple #[.string (giveM (txtB r) p (gP f request ⟨(ae l).toArray⟩ p.st.clock)).2.1,aB (giveM (txtB r) p (gP f request ⟨(ae l).toArray⟩ p.st.clock)).2.2])∧∃v',aD N gs gd v W w' (giveM (txtB r) p (gP f request ⟨(ae l).toArray⟩ p.st.clock)).1 v'):=fun W hm hg hW=>vT N W gv gs gd r p v _ hW (R.o hm hg) hN;have U:Hid _:=hf.1.2.1.1;generalize (⟨(ae l).toArray⟩:ByteArray)=J at *;unfold turnM
 cases m with
 |succ m=>
  rw[if_pos (by omega)]
  obtain⟨f1,f2,f3,f4,f5,f6,f7,f8,f9⟩:=f;unfold ap ac;simp only;go_enter func76,ntmps76
  go_wp2_with fail;refine (z.o _ c.o.sp.libs.base.len).mono ?_;rintro e1 w1 ⟨rfl,hb1⟩;have C:Hid _:=aD.same (N:=N) c.o.sp hb1;have n:Hid _:=C.o.pre k.o;rw[aV];go_wp2_with fail;go_ret2;exact⟨rfl,_,n.o⟩
 |zero=>
  rw[if_neg (by omega)]
  cases b with
  |false=>
   rw[if_pos rfl];obtain⟨f1,f2,f3,f4,f5,f6,f7,f8,f9⟩:=f;unfold ap ac;simp only;go_enter func76,ntmps76
   go_wp2_with fail;refine (z.o _ c.o.sp.libs.base.len).mono ?_;rintro e1 w1 ⟨rfl,hb1⟩;have j:Hid _:=A.o.on hb1;have g:Hid _:=c.o.on hb1;have o:Hid _:=k.o.tm hb1;have F:=j.o.c3;simp only at F;rw[show aB 0=.nilIface from rfl]
   go_wp2_with fail;refine (B.o (by trivial) _ g.o.sp.libs.base.len).mono ?_;rintro e2 w2 ⟨rfl,hb2⟩;have n:Hid _:=(aD.same (N:=N) g.o.sp hb2).pre o.o;go_wp2_with fail;go_ret2;exact⟨rfl,_,n.o⟩
  |true=>
   rw[if_neg (by simp)]
   by_cases hg:1099511627776<=f.gen
   ·rw[if_pos hg]
    obtain⟨f1,f2,f3,f4,f5,f6,f7,f8,f9⟩:=f;unfold ap ac;simp only at hg ⊢;go_enter func76,ntmps76
    go_wp2_with fail;refine (z.o _ c.o.sp.libs.base.len).mono ?_;rintro e1 w1 ⟨rfl,hb1⟩;have j:Hid _:=A.o.on hb1;have g:Hid _:=c.o.on hb1;have o:Hid _:=k.o.tm hb1;have F:=j.o.c3;simp only at F;rw[show aB 0=.nilIface from rfl]
    go_wp2_with fail;refine (B.o (by trivial) _ g.o.sp.libs.base.len).mono ?_;rintro e2 w2 ⟨rfl,hb2⟩;have n:Hid _:=(aD.same (N:=N) g.o.sp hb2).pre o.o;have V:=(j.o.on hb2).c4;simp only at V;go_wp2_with fail;go_ret2;exact⟨rfl,_,n.o⟩
   ·rw[if_neg hg]
    have D:=fun W=>T.o W (by trivial) hg
    have G:Hid _:=D;generalize giveM (txtB r) p (gP f request J p.st.clock)=Q at *;obtain⟨f1,f2,f3,f4,f5,f6,f7,f8,f9⟩:=f;have H:Hid (0<=f5∧f5<1099511627776):=⟨U.o,by simp only at hg; omega⟩
    have hg1:0<=f5:=H.o.1;have hg2:f5<1099511627776:=H.o.2;have q:=G.o;unfold gP ap ac at q;unfold ap ac;simp only at hg q ⊢;have I:Hid _:=q;go_enter func76,ntmps76
    go_wp2_with fail;refine (z.o _ c.o.sp.libs.base.len).mono ?_;rintro e1 w1 ⟨rfl,hb1⟩;have j:Hid _:=A.o.on hb1;have g:Hid _:=c.o.on hb1;have o:Hid _:=k.o.tm hb1;have F:=j.o.c3;simp only at F;rw[show aB 0=.nilIface from rfl]
    go_wp2_with fail;refine (B.o (by trivial) _ g.o.sp.libs.base.len).mono ?_;rintro e2 w2 ⟨rfl,hb2⟩;have E:Hid _:=j.o.on hb2;have X:Hid _:=g.o.on hb2;have Y:Hid _:=o.o.tm hb2;have Z:Hid _:=E.o.gen (f5+1);have L:Hid _:=X.o.beside (iZ w.heap.size 4 (.i_ (f5+1)) w2) t.o.1 t.o.2;have Ed:Hid (Below w.heap.size w (w2.setCell (a_ w.heap.size 4) (.i_ (f5+1)))):=Y.o.setCell (p:=(a_ w.heap.size 4)) (Fa _) _;have V:=E.o.c4;have yf:=E.o.fz;simp only at V;go_wp2_with fail;refine (bc N _ gv gs gd r p v L.o).mono ?_;rintro e3 w3 ⟨v3,rfl,hf3,hb3⟩;obtain⟨b3,c3,rfl⟩:=ag.slice hf3;have hfd:∀W:World,(Instr.field 36 (.agg (S_ p.st.clock p.st.next b3 p.st.fams.length c3)) 0).run prog W=.ok (.i_ p.st.clock) W:=fun _=>by kernel_rfl
    have s:Hid _:=Z.o.on hb3;have Ee:Hid _:=L.o.on hb3;have Ef:Hid _:=Ed.o.tm hb3;have Eg:Hid (af [w.heap.size] w3 (((w3.setCell (a_ w.heap.size 3) (.string J)).setCell (a_ w.heap.size 7) (.string request)).setCell (a_ w.heap.size 6) (.i_ p.st.clock))):=((iZ w.heap.size 3 _ w3).trans (iZ w.heap.size 7 _ _)).trans (iZ w.heap.size 6 _ _);have Eh:Hid _:=((s.o.scope J).req request).use p.st.clock;have Ei:Hid _:=Ee.o.beside Eg.o t.o.1 t.o.2;have Ej:Hid (Below w.heap.size w (((w3.setCell (a_ w.heap.size 3) (.string J)).setCell (a_ w.heap.size 7) (.string request)).setCell (a_ w.heap.size 6) (.i_ p.st.clock))):=Ef.o.trans (gJ w.heap.size 3 7 6 _ _ _ _);have s3:=s.o.c3;have s6:=s.o.c6;have s7:=s.o.c7;have sf:=s.o.fz;simp only at s3 s6 s7;unfold stV;go_upto_region 13 with fail;obtain⟨z0,z1,z2,z3,z4,z5,z6,z7,z8,-⟩:=Eh.o;simp only at z0 z1 z2 z3 z4 z5 z6 z7 z8;generalize hWW:World.setCell _ (a_ w.heap.size 6) _=WW at *;have Ek:=Ei.o;have El:=Ej.o;have D:=I.o WW Ek;have Em:Hid _:=El;go_wp2_with fail;refine D.mono ?_;rintro e7 w7 ⟨rfl,v7,hto⟩;have C:Hid _:=hto.pre Em.o;go_wp2_with fail;go_ret2;exact⟨rfl,_,C.o⟩
theorem B5(N:Nat)(w:World)(gv gs gd:Nat)(r:Rul)(p:Pub)(v:Value)(n:Int)(h:be N w gv gs gd r p v)(hN:N<98000):
 Calls prog 37 #[p_ gv 0,.i_ n] w fun e w'=>e=.returned (aB (eX p n).2)∧∃v',aD N gs gd v w w' (eX p n).1 v':=by
 have o:J _:=h;have q:J (N<99000):=by show _<_; omega
 have c:J _:=h.sp.ok.good.clock;unfold eX
 cases hb:okB n with
 |false=>
  rw[if_pos rfl];have b:J (∀W:World,Calls prog 64 #[.i_ n] W fun e w'=>e=.returned (.bool false)∧w'=W):=fun W=>by rw[<- hb]; exact fH n W
  go_enter func37,ntmps37
  go_wp2_with fail;refine (b.o _).mono ?_;rintro e1 w1 ⟨rfl,hw⟩;obtain rfl:w=w1:=hw.symm;go_wp2_with fail;go_ret;exact⟨rfl,_,aD.same o.o.sp (E9 _ _)⟩
 |true=>
  rw[if_neg (by simp)]
  have f:J _:=cU.1 hb;have b:J (∀W:World,Calls prog 64 #[.i_ n] W fun e w'=>e=.returned (.bool true)∧w'=W):=fun W=>by rw[<- hb]; exact fH n W
  go_enter func37,ntmps37
  go_wp2_with fail;refine (b.o _).mono ?_;rintro e1 w1 ⟨rfl,hw⟩;obtain rfl:w=w1:=hw.symm;go_upto_region 3 with fail;refine region_ (fun W=>be N W gv gs gd r p v) 10 (o.o.on (E9 _ _).drew) fun hH=>?_;refine an [(0,p_ gv 0),(1,p_ gv 0),(2,p_ gv 0),(3,p_ gs 0),(4,p_ gv 0),(7,.i_ n)] hH (fun W hW=>by have a0:=hW.box.c0;go_simp) ?_;simp only[pA,oA,Act.put,pS1]
  refine one_ 5 ?_; intro K hK; go_simp;go_at_call 43;refine (bc N _ gv gs gd r p v hH).mono ?_;rintro e1 w1 ⟨v1,rfl,hf1,hb1⟩;obtain⟨b1,c1,rfl⟩:=ag.slice hf1;unfold stV;go_wp2_with fail;have k:J (Below w.heap.size w w1):=(Below.refl _ _).drew.trans (hb1.mono (by simp))
  refine hK.out _ _ (hH.on hb1) ?_;intro hH;have s:∀W:World,(Instr.field 36 (.agg (S_ p.st.clock p.st.next b1 p.st.fams.length c1)) 0).run prog W=.ok (.i_ p.st.clock) W:=fun _=>by kernel_rfl
  refine an [(6,.i_ p.st.clock)] hH (fun W hW=>by go_simp) ?_;simp only[pA,oA,Act.put,pS1]
  refine one_ 8 ?_; intro K hK; go_simp;go_at_call 82;refine (eY _ _ c.o f.o _).mono ?_;rintro e2 w2 ⟨rfl,rfl⟩;go_wp2_with fail;refine hK.out _ _ (hH) ?_;intro hH;refine an [(9,.agg (g_ 3 0 (aZ p.st.clock n)))] hH (fun W hW=>by go_simp) ?_;simp only[pA,oA,Act.put,pS1]
  have g:=pQ N _ gs gd p v (mH (aZ p.st.clock n)) (ox (mG c.o f.o)) hH.sp q.o;have j:J _:=g;refine late_ 10 ?_; intro K hK; go_simp;go_at_call 17;refine Calls.mono j.o ?_;rintro e3 w3 ⟨rfl,v3,hto⟩;have m:J _:=aD.pre k.o hto;go_wp2_with fail;refine hK.out _ _ ?_;refine late_ 11 ?_; intro K hK; go_simp;refine hK.out _ _ ?_;refine done_ ?_;go_wp2_with fail;go_ret;exact⟨rfl,_,m.o⟩
theorem B6(N:Nat)(w:World)(gv gs gd:Nat)(r:Rul)(p:Pub)(v:Value)(i:Int)(h:be N w gv gs gd r p v)(hN:N<98000):
 Calls prog 35 #[p_ gv 0,.i_ i] w fun e w'=>e=.returned (aB (killM p i).2)∧∃v',aD N gs gd v w w' (killM p i).1 v':=by
 have o:J _:=h;have q:J (∀f,cH p.st.fams i=some f->bP f):=fun f hf=>dw h.sp.ok.good hf;have s:J (∀f,bP f->∀(W:World),be N W gv gs gd r p v->Calls prog 85 #[p_ gv 0,ap f] W fun e w'=>e=.returned (aB (addP p (aI (cz f)) true).2)∧∃v',aD N gs gd v W w' (addP p (aI (cz f)) true).1 v'):=fun f hf W hW=>vU N W gv gs gd r p v f hW hf hN
 have n:J (∀(W:World) (va:Value) (B:Nat),ah W.heap.size W va p.st.fams∨True->ah 0 (W.alloc (.cells #[.i_ i] 3)) va p.st.fams->B=W.heap.size->Calls prog 83 #[va,.func (.func 139) #[] #[p_ B 0]] (W.alloc (.cells #[.i_ i] 3)) fun e w'=>e=.returned (.tuple #[ap ((cH p.st.fams i).getD zeroF),.bool (cH p.st.fams i).isSome])∧Below (W.alloc (.cells #[.i_ i] 3)).heap.size (W.alloc (.cells #[.i_ i] 3)) w'):=fun W va B _ hf hB=>by
  subst hB;exact mM p.st.fams va 139 #[p_ W.heap.size 0] (isF i) _ hf (fun f hm=>(h.sp.ok.good.may f hm).1) (by have:=h.sp.ok.good.len; omega) (zX i W.heap.size _ (by simp) ((World.cell?_alloc_at _ _ _ _ rfl).trans rfl)) vR
 clear h;unfold killM;generalize hff:cH p.st.fams i=ff at *;clear hff
 cases ff with
 |none=>
  go_enter func35,ntmps35
  go_wp2_with fail
  refine (bc N _ gv gs gd r p v o.o).mono ?_;rintro e1 w1 ⟨v1,rfl,hf1,hb1⟩;obtain⟨b1,c1,rfl⟩:=ag.slice hf1;have b:J _:=hb1;have j:∀W:World,(Instr.field 36 (.agg (S_ p.st.clock p.st.next b1 p.st.fams.length c1)) 2).run prog W=.ok (.slice b1 p.st.fams.length c1) W:=fun _=>by kernel_rfl
  have k:J (ah 0 (w1.alloc (.cells #[.i_ i] 3)) (.slice b1 p.st.fams.length c1) p.st.fams):=(hf1.below ((E9 _ _).alloc (Fa _) _) (Fa _)).mono (Fo _);unfold stV;clear hb1 hf1;go_wp2_with fail
  refine (rR i _).mono ?_;rintro e2 w2 ⟨rfl,rfl⟩;go_wp2_with fail
  refine (n.o w1 _ _ (.inr trivial) k.o rfl).mono ?_;rintro e3 w3 ⟨rfl,hb3⟩;have c:J _:=(b.o.alloc b.o.size _).trans (hb3.mono (b.o.alloc b.o.size _).size);unfold ap ac;simp only[Option.getD_none,Option.isSome_none];clear hb3 j;go_wp2_with fail
  go_ret;exact⟨rfl,_,aD.same o.o.sp (c.o.alloc c.o.size _)⟩
 |some f=>
  have t:=q.o f rfl;have z:=s.o f t;obtain⟨f1,f2,f3,f4,f5,f6,f7,f8,f9⟩:=f;have m:J _:=z;clear z s q t
  cases f9 with
  |true=>
   simp only[if_true];go_enter func35,ntmps35
   go_wp2_with fail
   refine (bc N _ gv gs gd r p v o.o).mono ?_;rintro e1 w1 ⟨v1,rfl,hf1,hb1⟩;obtain⟨b1,c1,rfl⟩:=ag.slice hf1;have b:J _:=hb1;have j:∀W:World,(Instr.field 36 (.agg (S_ p.st.clock p.st.next b1 p.st.fams.length c1)) 2).run prog W=.ok (.slice b1 p.st.fams.length c1) W:=fun _=>by kernel_rfl
   have k:J (ah 0 (w1.alloc (.cells #[.i_ i] 3)) (.slice b1 p.st.fams.length c1) p.st.fams):=(hf1.below ((E9 _ _).alloc (Fa _) _) (Fa _)).mono (Fo _);unfold stV;clear hb1 hf1;go_wp2_with fail
   refine (rR i _).mono ?_;rintro e2 w2 ⟨rfl,rfl⟩;go_wp2_with fail
   refine (n.o w1 _ _ (.inr trivial) k.o rfl).mono ?_;rintro e3 w3 ⟨rfl,hb3⟩;have c:J _:=(b.o.alloc b.o.size _).trans (hb3.mono (b.o.alloc b.o.size _).size);unfold ap ac;simp only[Option.getD_some,Option.isSome_some];clear hb3 j;go_wp2_with fail
   go_ret;exact⟨rfl,_,aD.same o.o.sp (c.o.alloc c.o.size _)⟩
  |false=>
   simp only[Bool.false_eq_true,if_false];have g:=m.o;unfold ap ac at g;simp only at g;have A:J _:=g;clear g m;go_enter func35,ntmps35
   go_wp2_with fail
   refine (bc N _ gv gs gd r p v o.o).mono ?_;rintro e1 w1 ⟨v1,rfl,hf1,hb1⟩;obtain⟨b1,c1,rfl⟩:=ag.slice hf1;have b:J _:=hb1;have j:∀W:World,(Instr.field 36 (.agg (S_ p.st.clock p.st.next b1 p.st.fams.length c1)) 2).run prog W=.ok (.slice b1 p.st.fams.length c1) W:=fun _=>by kernel_rfl
   have k:J (ah 0 (w1.alloc (.cells #[.i_ i] 3)) (.slice b1 p.st.fams.length c1) p.st.fams):=(hf1.below ((E9 _ _).alloc (Fa _) _) (Fa _)).mono (Fo _);unfold stV;clear hb1 hf1;go_wp2_with fail
   refine (rR i _).mono ?_;rintro e2 w2 ⟨rfl,rfl⟩;go_wp2_with fail
   refine (n.o w1 _ _ (.inr trivial) k.o rfl).mono ?_;rintro e3 w3 ⟨rfl,hb3⟩;have c:J _:=(b.o.alloc b.o.size _).trans (hb3.mono (b.o.alloc b.o.size _).size);have C:J (Below w.heap.size w (w3.alloc (.cells (F_ f1 f2 f3 f4 f5 f6 f7 f8 false) 40))):=c.o.alloc c.o.size _;unfold ap ac;simp only[Option.getD_some,Option.isSome_some];clear hb3 j;go_wp2_with fail
   refine (A.o _ (o.o.on C.o)).mono ?_;rintro e4 w4 ⟨rfl,v4,hto⟩;have D:J _:=hto.pre C.o;clear hto;go_wp2_with fail
   go_ret;exact⟨rfl,_,D.o⟩
end Go.Proofs.YtlailakofhenkabGreatDoor
