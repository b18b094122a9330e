import Derived.Test.YtlailakofhenkabGreatDoorB15
set_option maxRecDepth 100000
set_option maxHeartbeats 8000000
namespace Go.Proofs.YtlailakofhenkabGreatDoor.Ev
open Go.Lib Tok Sc
structure Pub where
 st:St
 lg:Nat
 n:Nat
 c:Bool
 l:Int
 dn:Bool
def offP(p:Pub):Bool:=p.c && (p.l == 0)
def cN(p:Pub):Pub:=⟨p.st,p.lg,p.n+1,p.c,p.l - 1,p.dn⟩
def fy(p:Pub):Pub:=⟨p.st,p.lg,p.n,p.c,p.l,true⟩
def aJ:Nat->Pub->Pub × Bool
 |0,p=>(p,true)
 |k+1,p=>if offP p then (fy p,false) else aJ k (cN p)
def iQ(p:Pub):Pub:=⟨p.st,0,p.n,p.c,p.l,p.dn⟩
def aH(p:Pub):Pub × Nat:=if p.dn then (p,6) else if (aJ (p.st.fams.length+1) p).2 then (iQ (aJ (p.st.fams.length+1) p).1,0) else ((aJ (p.st.fams.length+1) p).1,14)
def dV(p:Pub)(e:E):Pub × Nat:=if offP p then (fy p,14) else (⟨applyP p.st e,p.lg+1,p.n+1,p.c,p.l - 1,p.dn⟩,0)
def addP(p:Pub)(e:E)(m:Bool):Pub × Nat:=
 if p.dn then (p,6) else if m=false then (p,1) else if 20<(applyP p.st e).fams.length then (p,12)
 else if p.lg=16 then (if (aH p).2=0 then dV (aH p).1 e else aH p) else dV p e
def pL(p:Pub)(k:Int):Pub:=⟨p.st,p.lg,p.n,decide (0<=k),k,p.dn⟩
def oq(p:Pub):Pub:=⟨p.st,p.lg,p.n,false,p.l,false⟩
structure cr (N:Nat) (p:Pub):Prop where
 good:dy p.st
 low:p.lg<=16
 few:p.n<=N
 left:p.c=true->0<=p.l∧p.l<=9223372036854775807
theorem gL:∀(k:Nat) (p:Pub),(aJ k p).1.st=p.st∧(aJ k p).1.lg=p.lg∧(aJ k p).1.n<=p.n+k∧(aJ k p).1.c=p.c∧((aJ k p).2=true->(aJ k p).1.dn=p.dn):=by
 intro k;induction k with
 |zero=>intro p; exact⟨rfl,rfl,Fa _,rfl,fun _=>rfl⟩
 |succ k ih=>
  intro p;rw[aJ];split
  ·exact⟨rfl,rfl,by show p.n<=_; omega,rfl,fun h=>by cases h⟩
  ·obtain⟨h1,h2,h3,h4,h5⟩:=ih (cN p)
   exact⟨h1,h2,Fe h3 (by show p.n+1+k<=_; omega),h4,h5⟩
variable {N:Nat}{p:Pub}
theorem rH(h:cr N p)(ho:offP p=false):cr (N+1) (cN p):=
 ⟨h.good,h.low,by show p.n+1<=_; have:=h.few; omega,fun hc=>by
  have b:p.c=true:=hc
  have:=h.left b;unfold offP at ho;rw[b] at ho;have h0:p.l≠0:=by simpa using ho
  show 0<=p.l - 1∧p.l - 1<=_
  omega⟩
theorem vL(h:cr N p):cr N (fy p):=⟨h.good,h.low,h.few,h.left⟩
theorem bS{M:Nat}(h:cr N p)(hm:N<=M):cr M p:=⟨h.good,h.low,Fe h.few hm,h.left⟩
theorem xm:∀(k N:Nat) (p:Pub),cr N p->cr (N+k) (aJ k p).1:=by
 intro k;induction k with
 |zero=>intro N p h; exact h
 |succ k ih=>
  intro N p h;rw[aJ]
  cases ho:offP p with
  |true=>exact bS (vL h) (by omega)
  |false=>exact bS (ih (N+1) (cN p) (rH h ho)) (by omega)
theorem lD(h:cr N p):cr (N+21) (aH p).1:=by
 have b:=xm (p.st.fams.length+1) N p h;have hl:=h.good.len;unfold aH;split
 ·exact bS h (by omega)
 ·split
  ·exact⟨b.good,Fo _,Fe b.few (by omega),b.left⟩
  ·exact bS b (by omega)
theorem lE(p:Pub):(aH p).1.st=p.st:=by
 unfold aH;split
 ·rfl
 ·split
  ·exact (gL _ p).1
  ·exact (gL _ p).1
theorem rI(h:(aH p).2=0):(aH p).1.lg=0:=by
 unfold aH at h ⊢;split
 ·rename_i hd; rw[if_pos hd] at h; cases h
 ·split
  ·rfl
  ·rename_i h1 h2; rw[if_neg h1,if_neg h2] at h; cases h
variable {e:E}
theorem vM(h:cr N p)(he:Ev.may e)(hl:¬ 20<(applyP p.st e).fams.length)(hg:p.lg<16):cr (N+1) (dV p e).1:=by
 unfold dV
 cases ho:offP p with
 |true=>exact bS (vL h) (by omega)
 |false=>
  have:=rH h ho;exact⟨mc h.good he (by omega),hg,this.few,this.left⟩
theorem zN{m:Bool}(hm:m=true↔Ev.may e)(h:cr N p):cr (N+22) (addP p e m).1:=by
 unfold addP;split
 ·exact bS h (by omega)
 split
 ·exact bS h (by omega)
 rename_i h1 h2
 have b:Ev.may e:=hm.1 (by simpa using h2)
 split
 ·exact bS h (by omega)
 rename_i h3
 split
 ·have c:=lD h
  split
  ·rename_i h4
   exact vM c b (by rw[lE]; exact h3) (by rw[rI h4]; omega)
  ·exact bS c (by omega)
 ·rename_i h4
  exact bS (vM h b h3 (by have:=h.low; omega)) (by omega)
theorem zO(h:cr N p)(k:Int)(hk:k<=9223372036854775807):cr N (pL p k):=⟨h.good,h.low,h.few,fun hc=>⟨by simpa[pL] using hc,hk⟩⟩
theorem BQ(h:cr N p):cr N (oq p):=⟨h.good,h.low,h.few,fun hc=>by cases hc⟩
theorem pM:cr 0 ⟨⟨0,1,[]⟩,0,0,false,0,false⟩:=⟨nW,Fo _,Fa _,fun hc=>by cases hc⟩
def cO(A:AD)(b s:Nat)(l:List Fam):Nat->AD
 |0=>A
 |i+1=>⟨cm (cO A b s l i).blk (b+i) (some (s,aI (l.getD i zeroF))),(cO A b s l i).head⟩
theorem rJ(A:AD)(b s:Nat)(l:List Fam):∀i j,j<i->(cO A b s l i).blk (b+j)=some (s,aI (l.getD j zeroF))
 |0,j,h=>by omega
 |i+1,j,h=>by
  show cm (cO A b s l i).blk (b+i) _ (b+j)=_
  unfold cm;by_cases hj:j=i
  ·subst hj; rw[if_pos rfl]
  ·rw[if_neg (by omega)]
   exact rJ A b s l i j (by omega)
theorem mF{A:AD}{st b:St}{sv lg:Nat}{es:List E}(h:Inv A st sv lg b es):∀i,i<=st.fams.length->Inv (cO A (17+21*((sv+1) % 2)) (sv+1) st.fams i) st sv lg b es
 |0,_=>h
 |i+1,hi=>by
  have hl:=h.good.len;have c:i<st.fams.length:=by omega
  have f:st.fams.getD i zeroF=st.fams[i]:=by simp[List.getD,c]
  refine yP (mF h i (by omega)) i (by omega) (jF ?_)
  rw[f];exact (h.good.may _ (Fw c)).1
theorem xn{A:AD}{st b:St}{sv lg:Nat}{es:List E}(h:Inv A st sv lg b es):
 Inv ⟨(cO A (17+21*((sv+1) % 2)) (sv+1) st.fams st.fams.length).blk,cm (cO A (17+21*((sv+1) % 2)) (sv+1) st.fams st.fams.length).head ((sv+1) % 2) (some (sv+1,st.clock,st.next,st.fams.length))⟩ st (sv+1) 0 st []:=by
 refine yQ (mF h _ (Fa _)) (fun j hj=>?_);rw[rJ _ _ _ _ _ _ hj];simp[List.getD,hj]
theorem rK(s:Nat)(e:E):join [itoa s,line e] [32]=evL s e:=by
 rw[bV,join_one];rfl
theorem Inv.diskIs{A:AD}{st b:St}{sv lg:Nat}{es:List E}(h:Inv A st sv lg b es)(hs:okN ((sv:Int)+1)):(∀k s e,A.blk k=some (s,e)->Ev.may e∧okN s)∧(∀k s c nx n,A.head k=some (s,c,nx,n)->okN s∧okN c∧0<=nx∧nx<=1099511627777∧n<=20):=by
 obtain⟨h1,h2⟩:=hs;refine⟨fun k s e hk=>⟨(h.blks k s e hk).1,?_⟩,fun k s c nx n hk=>⟨?_,(h.heads k s c nx n hk).2⟩⟩
 ·have:=(h.blks k s e hk).2
  exact (show 0<=(s:Int)∧(s:Int)<=1099511627776 from ⟨by omega,by omega⟩)
 ·have:=(h.heads k s c nx n hk).1
  exact (show 0<=(s:Int)∧(s:Int)<=1099511627776 from ⟨by omega,by omega⟩)
theorem vN(h:cr N p)(hd:p.dn=false)(h0:(aH p).2=0):∃n1 l1,(aH p).1=⟨p.st,0,n1,p.c,l1,false⟩∧n1<=N+21∧(p.c=true->0<=l1∧l1<=9223372036854775807):=by
 have f:=lD h;have g:=lE p;have j:=rI h0
 have b:(aH p).1.c=p.c∧(aH p).1.dn=false:=by
  unfold aH at h0 ⊢;rw[hd] at h0 ⊢;rw[if_neg (by simp)] at h0 ⊢
  split
  ·rename_i hw
   have:=gL (p.st.fams.length+1) p;exact⟨this.2.2.2.1,(this.2.2.2.2 hw).trans hd⟩
  ·rename_i hw
   rw[if_neg hw] at h0
   cases h0
 have k:=f.few;have m:=f.left;generalize (aH p).1=q at *;obtain⟨qs,ql,qn,qc,qll,qd⟩:=q;simp only at g j b k m;obtain⟨b,h4'⟩:=b;subst g; subst j; subst b; subst h4';exact⟨_,_,rfl,k,m⟩
theorem rL(p:Pub)(e:E)(hd:p.dn=false)(h:20<(applyP p.st e).fams.length):addP p e true=(p,12):=by
 unfold addP;rw[if_neg (by simp[hd]),if_neg (by simp),if_pos h]
theorem ot(p:Pub)(e:E)(hd:p.dn=false)(h:¬ 20<(applyP p.st e).fams.length)(hg:p.lg≠16):addP p e true=dV p e:=by
 unfold addP;rw[if_neg (by simp[hd]),if_neg (by simp),if_neg h,if_neg hg]
theorem ou(p:Pub)(e:E)(hd:p.dn=false)(h:¬ 20<(applyP p.st e).fams.length)(hg:p.lg=16)(h0:(aH p).2=0):addP p e true=dV (aH p).1 e:=by
 unfold addP;rw[if_neg (by simp[hd]),if_neg (by simp),if_neg h,if_pos hg,if_pos h0]
theorem ow(p:Pub)(e:E)(hd:p.dn=false)(h:¬ 20<(applyP p.st e).fams.length)(hg:p.lg=16)(h0:(aH p).2≠0):addP p e true=aH p:=by
 unfold addP;rw[if_neg (by simp[hd]),if_neg (by simp),if_neg h,if_pos hg,if_neg h0]
theorem lF(q:Pub)(e:E)(h:offP q=true):dV q e=(fy q,14):=by unfold dV; rw[if_pos h]
theorem pN(q:Pub)(e:E)(h:offP q=false):dV q e=(⟨applyP q.st e,q.lg+1,q.n+1,q.c,q.l - 1,q.dn⟩,0):=by unfold dV; rw[if_neg (by simp[h])]
end Go.Proofs.YtlailakofhenkabGreatDoor.Ev
namespace Go.Proofs.YtlailakofhenkabGreatDoor
open Go Go.RowKit Tok Sc Ev Tryz
theorem ec{f:Fam}(h:bP f):Small 5000 f:=by
 obtain⟨_,h2,h3,h4,h5⟩:=h;have b:=(cx.1 h2).2.2;have c:=(cx.1 h3).2.2;have g:=lw h5
 have j:f.request.data.toList.length<=20:=by
  rcases h4 with h | h
  ·rw[h]; simp
  ·exact (cx.1 h).2.2
 have e:∀x:ByteArray,x.data.toList.length=x.size:=fun x=>Fg;rw[e] at b c g j;unfold Small;omega
theorem xo(w0:World)(gs gd:Nat)(A:AD)(n:Nat)(c:Bool)(l:Int)(sv lg:Nat)(st:St)(v:Value)(w:World)(h:DS w0 gs gd A n c l true sv lg st v w):
 Calls prog 16 #[p_ gs 0] w fun r w'=>r=.returned (.iface 47 (.int .i64 6))∧w'=w:=by
 have p1:=h.store.p1;go_enter func16,ntmps16
 go_wp2_with fail;go_ret;exact⟨rfl,rfl⟩
theorem vO(w0:World)(gs gd:Nat)(A:AD)(n:Nat)(c:Bool)(l:Int)(sv lg:Nat)(st b:St)(es:List E)(v:Value)(w:World)(h:DS w0 gs gd A n c l false sv lg st v w)(hI:Inv A st sv lg b es)(hsv:okN ((sv:Int)+1))(hl:c=true->0<=l∧l<=9223372036854775807)(hn:n+22<100000):
 Calls prog 16 #[p_ gs 0] w fun r w'=>∃p:Pub,p=⟨st,lg,n,c,l,false⟩∧r=.returned (aB (aH p).2)∧∃A' sv' b' es',Inv A' st sv' (aH p).1.lg b' es'∧sv'<=sv+1∧DS w0 gs gd A' (aH p).1.n c (aH p).1.l (aH p).1.dn sv' (aH p).1.lg st v w':=by
 obtain⟨ba,ca,rfl⟩:=ag.slice h.store.fam;have H0:Hid _:=h;have C:Hid _:=hI;have q:Hid _:=hsv;have H:Hid _:=hl;have HN:Hid _:=hn;have Ez:(sv:Int)+1<=1099511627776:=hsv.2;have EA:0<=(sv:Int):=by omega
 have EB:(st.fams.length:Int)<=20:=by have:=hI.good.len; omega
 have p1:=h.store.p1;have p2:=h.store.p2;have p6:=h.store.p6;clear h hI hl hn;go_enter func16,ntmps16
 go_wp2_with fail
 obtain⟨sl,hsl⟩:∃sl,sl=(sv+1) % 2:=⟨_,rfl⟩;have z:sl<2:=by omega
 have G:((sv:Int)+1) % 2=(sl:Int):=by omega
 have HSL:Hid _:=hsl;have j:Hid _:=z;have R:Hid (∀i,i<=st.fams.length->Inv (cO A (17+21*sl) (sv+1) st.fams i) st sv lg b es):=by rw[hsl]; exact mF C.o
 have Eo:Hid (Inv ⟨(cO A (17+21*sl) (sv+1) st.fams st.fams.length).blk,cm (cO A (17+21*sl) (sv+1) st.fams st.fams.length).head sl (some (sv+1,st.clock,st.next,st.fams.length))⟩ st (sv+1) 0 st []):=by rw[hsl]; exact xn C.o
 have T:=fun (W:World)=>gI sl W z;rw[G];refine (T _).mono ?_;rintro e1 w1 ⟨rfl,rfl⟩;have U:Hid (((16+21*sl:Nat):Int)=16+21*sl):=by show ((16+21*sl:Nat):Int)=16+21*sl; push_cast; rfl
 generalize hKK:((16+21*sl:Nat):Int)=K at *;have V:Hid _:=hKK.symm;have hK0:0<=K∧K<=37:=by omega
 clear hKK hsl G T z;go_wp2_with fail
 go_loopg [30] st.fams.length (fun gk iv wr=>∃i:Nat,i+gk=st.fams.length∧iv=.i_ i∧Hid (aJ (st.fams.length+1) ⟨st,lg,n,c,l,false⟩=aJ (gk+1) ⟨st,lg,n+i,c,l - i,false⟩)∧Hid (c=true->0<=l - i)∧Hid (DS w0 gs gd (cO A (17+21*sl) (sv+1) st.fams i) (n+i) c (l - i) false sv lg st (.slice ba st.fams.length ca) wr))
 case atStart=>exact⟨0,by omega,rfl,by show _=_; simp,fun hc=>by have:=H.o hc; omega,by simpa[cO] using H0⟩
 case round=>
  obtain⟨i,hj,rfl,HWP,HLI,HDS⟩:=hrel;have HJ:Hid _:=hj;clear hj H0;by_cases hlt:i<st.fams.length
  ·have EC:(i:Int)<(st.fams.length:Int):=by omega
   obtain⟨r,hr⟩:∃r,gk=r+1:=⟨gk - 1,by have:=HJ.o; omega⟩
   have HR:Hid _:=hr;clear hr;have I:=(C.o.good.may _ (Fw hlt)).1;have X:st.fams.getD i zeroF=st.fams[i]:=by simp[List.getD,hlt]
   have Ep:Hid (cO A (17+21*sl) (sv+1) st.fams (i+1)=⟨cm (cO A (17+21*sl) (sv+1) st.fams i).blk (17+21*sl+i) (some (sv+1,aI st.fams[i])),(cO A (17+21*sl) (sv+1) st.fams i).head⟩):=by show _=_; rw[cO,X]
   have HM:Hid _:=jF I;obtain⟨g,rfl,hglt,hfa⟩:=HDS.out.store.fam.fam i hlt;have Y:∀(W:World),bv W->Calls prog 55 #[evV (aI st.fams[i])] W fun r w'=>r=.returned (.tuple #[.string (bs8 (line (aI st.fams[i]))),.nilIface])∧Below W.heap.size W w':=fun W hW=>ji (aI st.fams[i]) W HM.o (ec I) hW;have Er:Hid (evL (sv+1) (aI st.fams[i])=evL (sv+1) (aI st.fams[i])):=rfl;have Z:=lx (s:=sv+1) (by push_cast; exact q.o) HM.o
   have Ed:Hid _:=Z;have Ee:=fun (W:World) (hW:bv W)=>bQ ((sv:Int)+1) W q.o.1 (by have:=q.o.2; omega) hW
   have Es:Hid (∀W:World,eF (W.alloc (.cells (F_ (st.fams[i].id) (st.fams[i].client) (st.fams[i].subject) (st.fams[i].scope) (st.fams[i].gen) (st.fams[i].made) (st.fams[i].used) (st.fams[i].request) (st.fams[i].dead)) 40)) W.heap.size 0 st.fams[i]):=fun W=>eU W _ _ _ rfl;generalize st.fams[i]=f at *;clear I X Z;obtain⟨f1,f2,f3,f4,f5,f6,f7,f8,f9⟩:=f;have o:=Y;unfold aI evV aX at o;simp only at o;have k0:=hfa.c0; have k1:=hfa.c1; have k2:=hfa.c2; have k3:=hfa.c3; have k4:=hfa.c4; have k5:=hfa.c5; have k6:=hfa.c6; have k7:=hfa.c7; have k8:=hfa.c8;have p6:=HDS.out.store.p6;simp only at k0 k1 k2 k3 k4 k5 k6 k7 k8;clear hfa Y
   have Ef:Hid (DS w0 gs gd (cO A (17+21*sl) (sv+1) st.fams i) (n+i) c (l - i) false sv lg st (.slice (o_ g 0) st.fams.length ca) (wr.alloc (.cells (F_ f1 f2 f3 f4 f5 f6 f7 f8 f9) 40))):=HDS.out.on ((E9 _ _).alloc (Fa _) _)
   have m:Hid (Lib.join ([bs8 (Lib.itoa ((sv:Int)+1)),bs8 (line (aI ⟨f1,f2,f3,f4,f5,f6,f7,f8,f9⟩))].map (·.data.toList)) [32]=evL (sv+1) (aI ⟨f1,f2,f3,f4,f5,f6,f7,f8,f9⟩)):=by
    show _=_
    rw[<- rK];rfl
   have Eg:Hid (((17+21*sl+i:Nat):Int)=K+1+i):=by show ((17+21*sl+i:Nat):Int)=K+1+i; rw[U.o]; push_cast; omega
   have k:Hid (i<20):=by show i<20; omega
   have B:Hid (∀(bb:Nat) (W:World),offB c (l - i)=true->DS w0 gs gd (cO A (17+21*sl) (sv+1) st.fams i) (n+i) c (l - i) false sv lg st (.slice (o_ g 0) st.fams.length ca) W->aO W bb [bs8 (Lib.itoa ((sv:Int)+1)),bs8 (line (aI ⟨f1,f2,f3,f4,f5,f6,f7,f8,f9⟩))]->
    Calls prog 56 #[p_ gs 0,.i_ (K+1+i),.slice (o_ bb 0) 2 2] W fun r w'=>r=.returned (.iface 47 (.i_ 14))∧DS w0 gs gd (cO A (17+21*sl) (sv+1) st.fams i) (n+i) c (l - i) true sv lg st (.slice (o_ g 0) st.fams.length ca) w'):=fun bb W ho hd D=>by
    rw[<- Eg.o];exact gK w0 gs gd _ _ c _ false sv lg st _ (17+21*sl+i) [bs8 (Lib.itoa ((sv:Int)+1)),bs8 (line (aI ⟨f1,f2,f3,f4,f5,f6,f7,f8,f9⟩))] bb 2 W hd (by have:=j.o; have:=k.o; omega) D (by simp) (Nat.le_refl _) (by rw[m.o]; have:=Ed.o; omega) ho
   have J:Hid (∀(bb:Nat) (W:World),offB c (l - i)=false->DS w0 gs gd (cO A (17+21*sl) (sv+1) st.fams i) (n+i) c (l - i) false sv lg st (.slice (o_ g 0) st.fams.length ca) W->aO W bb [bs8 (Lib.itoa ((sv:Int)+1)),bs8 (line (aI ⟨f1,f2,f3,f4,f5,f6,f7,f8,f9⟩))]->
    Calls prog 56 #[p_ gs 0,.i_ (K+1+i),.slice (o_ bb 0) 2 2] W fun r w'=>r=.returned .nilIface∧DS w0 gs gd (cO A (17+21*sl) (sv+1) st.fams (i+1)) (n+i+1) c (l - i - 1) false sv lg st (.slice (o_ g 0) st.fams.length ca) w'):=fun bb W ho hd D=>by
    rw[<- Eg.o];refine iP w0 gs gd _ _ _ c _ false sv lg st _ (17+21*sl+i) [bs8 (Lib.itoa ((sv:Int)+1)),bs8 (line (aI ⟨f1,f2,f3,f4,f5,f6,f7,f8,f9⟩))] bb 2 W hd (by have:=j.o; have:=k.o; omega) D (by simp) (Nat.le_refl _) (by rw[m.o]; have:=Ed.o; omega) ho (fun hc=>⟨HLI.out hc,by have:=(H.o hc).2; omega⟩) (by have:=HN.o; have:=k.o; omega) (fun F F' hF O L=>?_)
    rw[m.o] at O;rw[Ep.o];exact pn hF _ ⟨by have:=j.o; have:=k.o; omega,by have:=j.o; have:=k.o; omega⟩ (sv+1) _ O L
   generalize hLN:bs8 (line ⟨1,⟨f1,f2,f3,f4,f5,f6,f7,f8,f9⟩,0,0⟩)=LN at *;have Et:Hid (bs8 (line (aI ⟨f1,f2,f3,f4,f5,f6,f7,f8,f9⟩))=LN):=hLN;clear hLN Es Er;go_wp2_with fail
   refine (o _ Ef.o.libs.base).mono ?_;rintro e2 w2 ⟨rfl,hb2⟩;have Eh:Hid _:=Ef.o.on hb2;clear hb2 o k0 k1 k2 k3 k4 k5 k6 k7 k8;go_wp2_with fail
   refine (Ee _ Eh.o.libs.base).mono ?_;rintro e3 w3 ⟨rfl,hb3⟩;have Eu:Hid _:=Eh.o.on hb3;have Ei:Hid _:=Eu.o.on (w':=w3.alloc (.cells #[.string ⟨(Lib.itoa ((sv:Int)+1)).toArray⟩,.string LN] 9)) ((E9 _ _).alloc (Fa _) _)
   have Ej:Hid (aO (w3.alloc (.cells #[.string ⟨(Lib.itoa ((sv:Int)+1)).toArray⟩,.string LN] 9)) w3.heap.size [bs8 (Lib.itoa ((sv:Int)+1)),bs8 (line (aI ⟨f1,f2,f3,f4,f5,f6,f7,f8,f9⟩))]):=by
    rw[Et.o];exact bH w3 [bs8 (Lib.itoa ((sv:Int)+1)),LN] _
   clear hb3 Ee p6
   cases ho:offB c (l - i) with
   |true=>
    have t:Hid _:=ho;clear ho;go_wp2_with fail
    refine (B.o _ _ t.o Ei.o Ej.o).mono ?_;rintro e5 w5 ⟨rfl,hds⟩;have N:Hid _:=hds;clear hds;go_wp2_with fail
    go_ret
    have D:aJ (st.fams.length+1) ⟨st,lg,n,c,l,false⟩=(fy ⟨st,lg,n+i,c,l - i,false⟩,false):=by
     rw[HWP.out,aJ,if_pos (show offP ⟨st,lg,n+i,c,l - i,false⟩=true from t.o)]
    have hsv:aH ⟨st,lg,n,c,l,false⟩=(fy ⟨st,lg,n+i,c,l - i,false⟩,14):=by
     unfold aH;rw[if_neg (by simp)]
     show (if (aJ (st.fams.length+1) _).2=true then _ else _)=_
     rw[D];rfl
    refine⟨_,rfl,by rw[hsv]; rfl,?_⟩
    rw[hsv];exact⟨_,sv,b,es,R.o i (Fx hlt),by omega,N.o⟩
   |false=>
    have t:Hid _:=ho;clear ho;go_wp2_with fail
    refine (J.o _ _ t.o Ei.o Ej.o).mono ?_;rintro e5 w5 ⟨rfl,hds⟩;have N:Hid _:=hds;clear hds
    have Ek:Hid (c=true->0<=l - ((i+1:Nat):Int)):=fun hc=>by
     have O:=HLI.out hc;have L:=t.o;unfold offB at L;rw[hc] at L;have h3:l - i≠0:=by simpa using L
     push_cast
     omega
    have Ew:Hid (aJ (st.fams.length+1) ⟨st,lg,n,c,l,false⟩=aJ (r+1) ⟨st,lg,n+(i+1),c,l - ((i+1:Nat):Int),false⟩):=by
     show _=_
     rw[HWP.out,HR.o,aJ,if_neg (show ¬ offP ⟨st,lg,n+i,c,l - i,false⟩=true by have:=t.o; unfold offP; unfold offB at this; simp[this])]
     unfold cN;congr 2
     push_cast
     omega
    have Ex:Hid (DS w0 gs gd (cO A (17+21*sl) (sv+1) st.fams (i+1)) (n+(i+1)) c (l - ((i+1:Nat):Int)) false sv lg st (.slice (o_ g 0) st.fams.length ca) w5):=by
     have e:l - ((i+1:Nat):Int)=l - i - 1:=by push_cast; omega
     rw[e];exact N.o
    go_wp2_with fail
    go_roundg r
    case measure=>have:=HR.o; omega
    case rel=>exact⟨i+1,by have:=HJ.o; have:=HR.o; omega,by go_num,Ew,Ek,Ex⟩
  ·obtain hie:i=st.fams.length:=by have:=HJ.o; omega
   subst hie;obtain rfl:gk=0:=by have:=HJ.o; omega
   have m:Hid (Lib.join (((gC (sv+1) st.clock st.next st.fams.length).map bs8).map (·.data.toList)) [32]=hdL (sv+1) st.clock st.next st.fams.length):=by show _=_; rw[pu]; rfl
   have El:=Bl (s:=sv+1) (by push_cast; exact q.o) C.o.good.clock (show okN (st.next - 1) from ⟨by have:=C.o.good.next0; omega,by have:=C.o.good.next1; omega⟩) C.o.good.len
   have Em:Hid _:=El;have M:Hid (((sv+1:Nat):Int)=(sv:Int)+1):=by show ((sv+1:Nat):Int)=_; push_cast; rfl
   have En:Hid (st.fams.length<=20):=by show st.fams.length<=20; omega
   have B:Hid (offB c (l - (st.fams.length:Int))=true->∀(W:World),DS w0 gs gd (cO A (17+21*sl) (sv+1) st.fams st.fams.length) (n+st.fams.length) c (l - (st.fams.length:Int)) false sv lg st (.slice ba st.fams.length ca) W->
    Calls prog 58 #[p_ gs 0,.i_ K,.i_ ((sv:Int)+1)] W fun r w'=>r=.returned (.iface 47 (.i_ 14))∧DS w0 gs gd (cO A (17+21*sl) (sv+1) st.fams st.fams.length) (n+st.fams.length) c (l - (st.fams.length:Int)) true sv lg st (.slice ba st.fams.length ca) w'):=fun ho W hd=>by
    rw[V.o,<- M.o];refine i9 _ _ w0 gs gd _ _ c _ false sv lg st _ (16+21*sl) (sv+1) W hd C.o.good (by push_cast; exact q.o) (fun bb W2 hd2 hw2=>?_)
    exact gK w0 gs gd _ _ c _ false sv lg st _ (16+21*sl) ((gC (sv+1) st.clock st.next st.fams.length).map bs8) bb 4 W2 hd2 (by have:=j.o; omega) hw2 (by simp[gC]) (by simp[gC]) (by rw[m.o]; have:=Em.o; omega) ho
   have J:Hid (offB c (l - (st.fams.length:Int))=false->∀(W:World),DS w0 gs gd (cO A (17+21*sl) (sv+1) st.fams st.fams.length) (n+st.fams.length) c (l - (st.fams.length:Int)) false sv lg st (.slice ba st.fams.length ca) W->
    Calls prog 58 #[p_ gs 0,.i_ K,.i_ ((sv:Int)+1)] W fun r w'=>r=.returned .nilIface∧DS w0 gs gd ⟨(cO A (17+21*sl) (sv+1) st.fams st.fams.length).blk,cm (cO A (17+21*sl) (sv+1) st.fams st.fams.length).head sl (some (sv+1,st.clock,st.next,st.fams.length))⟩ (n+st.fams.length+1) c (l - (st.fams.length:Int) - 1) false sv lg st (.slice ba st.fams.length ca) w'):=fun ho W hd=>by
    rw[V.o,<- M.o];refine i9 _ _ w0 gs gd _ _ c _ false sv lg st _ (16+21*sl) (sv+1) W hd C.o.good (by push_cast; exact q.o) (fun bb W2 hd2 hw2=>?_)
    refine iP w0 gs gd _ _ _ c _ false sv lg st _ (16+21*sl) ((gC (sv+1) st.clock st.next st.fams.length).map bs8) bb 4 W2 hd2 (by have:=j.o; omega) hw2 (by simp[gC]) (by simp[gC]) (by rw[m.o]; have:=Em.o; omega) ho (fun hc=>⟨HLI.out hc,by have:=(H.o hc).2; omega⟩) (by have:=HN.o; have:=En.o; omega) (fun F F' hF O L=>?_)
    rw[m.o] at O;exact yS hF sl j.o (sv+1) st.clock st.next st.fams.length O L
   clear El
   cases ho:offB c (l - (st.fams.length:Int)) with
   |true=>
    have t:Hid _:=ho;clear ho;go_wp2_with fail
    refine (B.o t.o _ HDS.out).mono ?_;rintro e5 w5 ⟨rfl,hds⟩;have N:Hid _:=hds;clear hds;go_wp2_with fail
    go_ret
    have D:aJ (st.fams.length+1) ⟨st,lg,n,c,l,false⟩=(fy ⟨st,lg,n+st.fams.length,c,l - (st.fams.length:Int),false⟩,false):=by
     rw[HWP.out,aJ,if_pos (show offP ⟨st,lg,n+st.fams.length,c,l - (st.fams.length:Int),false⟩=true from t.o)]
    have hsv:aH ⟨st,lg,n,c,l,false⟩=(fy ⟨st,lg,n+st.fams.length,c,l - (st.fams.length:Int),false⟩,14):=by
     unfold aH;rw[if_neg (by simp)]
     show (if (aJ (st.fams.length+1) _).2=true then _ else _)=_
     rw[D];rfl
    refine⟨_,rfl,by rw[hsv]; rfl,?_⟩
    rw[hsv];exact⟨_,sv,b,es,R.o _ (Fa _),by omega,N.o⟩
   |false=>
    have t:Hid _:=ho;clear ho;go_wp2_with fail
    refine (J.o t.o _ HDS.out).mono ?_;rintro e5 w5 ⟨rfl,hds⟩;have N:Hid _:=hds;have p2:=hds.store.p2;have p3:=hds.store.p3;have pf:=hds.store.pf;have H6:Hid _:=hds.own (jo gs 2 (.i_ ((sv+1:Nat):Int)) _) (iZ gs 2 _ _) (hds.store.putSaves (sv':=sv+1));have H7:Hid _:=H6.o.own (jo gs 3 (.i_ ((0:Nat):Int)) _) (iZ gs 3 _ _) (H6.o.store.putLog (lg':=0));have H8:=H7.o;rw[M.o] at H8;have Ey:Hid _:=H8;clear hds H8;go_wp2_with fail
    go_ret
    have D:aJ (st.fams.length+1) ⟨st,lg,n,c,l,false⟩=(cN ⟨st,lg,n+st.fams.length,c,l - (st.fams.length:Int),false⟩,true):=by
     rw[HWP.out,aJ,if_neg (show ¬ offP ⟨st,lg,n+st.fams.length,c,l - (st.fams.length:Int),false⟩=true by have:=t.o; unfold offP; unfold offB at this; simp[this])]
     rfl
    have hsv:aH ⟨st,lg,n,c,l,false⟩=(iQ (cN ⟨st,lg,n+st.fams.length,c,l - (st.fams.length:Int),false⟩),0):=by
     unfold aH;rw[if_neg (by simp)]
     show (if (aJ (st.fams.length+1) _).2=true then _ else _)=_
     rw[D];rfl
    refine⟨_,rfl,by rw[hsv]; rfl,?_⟩
    rw[hsv];exact⟨_,sv+1,st,[],Eo.o,by omega,Ey.o⟩
end Go.Proofs.YtlailakofhenkabGreatDoor
