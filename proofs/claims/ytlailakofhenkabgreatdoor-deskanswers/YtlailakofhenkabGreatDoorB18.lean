import Derived.Test.YtlailakofhenkabGreatDoorB17
set_option maxRecDepth 100000
set_option maxHeartbeats 8000000
namespace Go.Proofs.YtlailakofhenkabGreatDoor
open Go Go.RowKit Tok Sc Ev Tryz
structure SP (N:Nat) (w:World) (gs gd:Nat) (p:Pub) (v:Value):Prop where
 ok:cr N p
 run:∃A sv b es,Inv A p.st sv p.lg b es∧sv<=N∧DS w gs gd A p.n p.c p.l p.dn sv p.lg p.st v w
variable {B N b gd gs k n:Nat}{p:Pub}{v:Value}{w w':World}
theorem SP.mono{M:Nat}(h:SP N w gs gd p v)(hm:N<=M):SP M w gs gd p v:=by
 obtain⟨A,sv,b,es,h1,h2,h3⟩:=h.run;exact⟨bS h.ok hm,A,sv,b,es,h1,Fe h2 hm,h3⟩
theorem SP.on{N:Nat}{w w':World}{gs gd:Nat}{p:Pub}{v:Value}(h:SP N w gs gd p v)(hb:Below w.heap.size w w'):SP N w' gs gd p v:=by
 obtain⟨A,sv,b,es,h1,h2,h3⟩:=h.run;exact⟨h.ok,A,sv,b,es,h1,h2,(h3.on hb).rebase⟩
theorem SP.store{N:Nat}{w:World}{gs gd:Nat}{p:Pub}{v:Value}(h:SP N w gs gd p v):∃sv,aS w gs gd p.dn sv p.lg p.st v:=by
 obtain⟨A,sv,b,es,h1,h2,h3⟩:=h.run;exact⟨sv,h3.store⟩
theorem SP.fam{N:Nat}{w:World}{gs gd:Nat}{p:Pub}{v:Value}(h:SP N w gs gd p v):ah (gs+1) w v p.st.fams:=by
 obtain⟨sv,h1⟩:=h.store;exact h1.fam
theorem SP.lt{N:Nat}{w:World}{gs gd:Nat}{p:Pub}{v:Value}(h:SP N w gs gd p v):gs<w.heap.size:=by
 obtain⟨sv,h1⟩:=h.store;exact h1.lt
theorem SP.ord{N:Nat}{w:World}{gs gd:Nat}{p:Pub}{v:Value}(h:SP N w gs gd p v):gd<gs:=by
 obtain⟨A,sv,b,es,h1,h2,h3⟩:=h.run;exact h3.ord
theorem SP.disk{N:Nat}{w:World}{gs gd:Nat}{p:Pub}{v:Value}(h:SP N w gs gd p v):∃A,∃F l',ay w gd F (p.n:Int) p.c l'∧j4 tag0 F A:=by
 obtain⟨A,sv,b,es,h1,h2,h3⟩:=h.run;obtain⟨F,l',d1,d2,d3⟩:=h3.disk;exact⟨A,F,l',d1,d3⟩
theorem SP.err{N:Nat}{w:World}{gs gd:Nat}{p:Pub}{v:Value}(h:SP N w gs gd p v):ErrVar w:=by
 obtain⟨A,sv,b,es,h1,h2,h3⟩:=h.run;exact h3.err
theorem SP.libs{N:Nat}{w:World}{gs gd:Nat}{p:Pub}{v:Value}(h:SP N w gs gd p v):aY w:=by
 obtain⟨A,sv,b,es,h1,h2,h3⟩:=h.run;exact h3.libs
theorem SP.left(h:SP N w gs gd p v)(hc:p.c=false)(l2:Int):SP N w gs gd ⟨p.st,p.lg,p.n,p.c,l2,p.dn⟩ v:=by
 obtain⟨A,sv,b,es,h1,h2,h3⟩:=h.run;obtain⟨F,l',d1,d2,d3⟩:=h3.disk;have f:∀x:Prop,p.c=true->x:=fun x ht=>by rw[hc] at ht; cases ht
 exact⟨⟨h.ok.good,h.ok.low,h.ok.few,f _⟩,A,sv,b,es,h1,h2,⟨⟨F,l',d1,f _,d3⟩,h3.libs,h3.err,h3.store,h3.ord,h3.olds,h3.oldE,h3.keep,h3.was⟩⟩
def az(v:Value)(b:Nat):Prop:=∀g o n c,v=.slice (some ⟨g,o,none⟩) n c->g≠b
theorem az.nil(b:Nat)(n c:Nat):az (.slice none n c) b:=fun g o n c h=>by cases h
variable {cs:List Value}
theorem az.above(h:ag k B w v n cs)(hb:b<B):az v b:=by
 rcases h with ⟨h1,-⟩ | ⟨g,c,h1,h2⟩
 ·subst h1; exact az.nil _ _ _
 ·intro g' o n' c' he
  have:=h2.new;rw[h1] at he;simp only[Value.slice.injEq,Option.some.injEq,Addr.mk.injEq] at he;omega
theorem az.past(h:ag k B w v n cs)(hb:w.heap.size<=b):az v b:=by
 rcases h with ⟨h1,-⟩ | ⟨g,c,h1,h2⟩
 ·subst h1; exact az.nil _ _ _
 ·intro g' o n' c' he
  have:=h2.lt;rw[h1] at he;simp only[Value.slice.injEq,Option.some.injEq,Addr.mk.injEq] at he;omega
variable {l:List Nat}
theorem af.rowsOut(h:af l w w')(hr:ag k B w v n cs)(hl:∀x∈l,az v x):ag k B w' v n cs:=by
 rcases hr with h1 | ⟨g,c,h1,h2⟩
 ·exact .inl h1
 ·exact .inr ⟨g,c,h1,h2.block h.size (h.block g h2.lt (fun hx=>hl g hx g 0 n c h1 rfl))⟩
theorem DS.elsewhere{w0:World}{A:AD}{c:Bool}{le:Int}{dn:Bool}{sv lg:Nat}{st:St}(h:DS w0 gs gd A n c le dn sv lg st v w)(hk:af l w w')(hl:∀x∈l,gd<x∧x≠gs∧az v x):DS w' gs gd A n c le dn sv lg st v w':=by
 obtain⟨F,l',h1,h2,h3⟩:=h.disk;have k:Below (gd+1) w w':=hk.below h.gdlt (fun x hx=>(hl x hx).1);have g:Below gd w w':=k.mono (FC _);have m:gs∉l:=fun hx=>(hl gs hx).2.1 rfl;have f:∀i,w'.cell? (a_ gs i)=w.c_ gs i:=fun i=>hk.cell (p:=(a_ gs i)) h.store.lt m;have b:=h.store;have j:aS w' gs gd dn sv lg st v:=⟨(f 0).trans b.p0,(f 1).trans b.p1,(f 2).trans b.p2,(f 3).trans b.p3,(f 4).trans b.p4,(f 5).trans b.p5,(f 6).trans b.p6,fun i=>(hk.frozen (p:=(a_ gs i)) b.lt m).trans (b.pf i),hk.rowsOut b.fam (fun x hx=>(hl x hx).2.2),Fd b.lt hk.size⟩;exact⟨⟨F,l',h1.below k (Fj _),h2,h3⟩,h.libs.belowB g h.olds,(g.cell (p:=(a_ 0 0)) h.oldE).trans h.err,j,h.ord,h.olds,h.oldE,af.refl _ _,Fd b.lt hk.size⟩
theorem SP.elsewhere{l:List Nat}{N:Nat}{w w':World}{gs gd:Nat}{p:Pub}{v:Value}(h:SP N w gs gd p v)(hk:af l w w')(hl:∀x∈l,gd<x∧x≠gs∧az v x):SP N w' gs gd p v:=by
 obtain⟨A,sv,b,es,h1,h2,h3⟩:=h.run;exact⟨h.ok,A,sv,b,es,h1,h2,h3.elsewhere hk hl⟩
theorem un(p:Pub):(aH p).1.c=p.c:=by
 have h:=gL (p.st.fams.length+1) p;unfold aH;split
 ·rfl
 ·split
  ·exact h.2.2.2.1
  ·exact h.2.2.2.1
theorem zS(p:Pub)(e:E):(dV p e).1.c=p.c:=by
 unfold dV;split <;> rfl
theorem DP(p:Pub)(e:E)(m:Bool):(addP p e m).1.c=p.c:=by
 unfold addP;split
 ·rfl
 split
 ·rfl
 split
 ·rfl
 split
 ·split
  ·rw[zS,un]
  ·exact un p
 ·exact zS p e
theorem uo(h:n<100000):okN ((n:Int)+1):=(show 0<=(n:Int)+1∧(n:Int)+1<=1099511627776 from ⟨by omega,by omega⟩)
theorem BV(N:Nat)(w:World)(gs gd:Nat)(p:Pub)(v:Value)(e:E)(m:Bool)(hm:m=true↔Ev.may e)(hs:Small 5000 e.fam)(h:SP N w gs gd p v)(hN:N<99000):
 Calls prog 17 #[p_ gs 0,evV e] w fun r w'=>r=.returned (aB (addP p e m).2)∧∃v',SP (N+22) w' gs gd (addP p e m).1 v'∧af [gd,gs] w w'∧(v'=v∨ah w.heap.size w' v' (addP p e m).1.st.fams):=by
 obtain⟨A,sv,b,es,h1,h2,h3⟩:=h.run;have f:=zN hm h.ok;have j:=h.ok.few;have g:=h.ok.left;have o:=h.ok;obtain⟨st,lg,n,c,l,dn⟩:=p;simp only at h1 h2 h3 j g
 cases dn with
 |true=>
  have k:addP ⟨st,lg,n,c,l,true⟩ e m=(⟨st,lg,n,c,l,true⟩,6):=by unfold addP; rw[if_pos rfl]
  rw[k] at f ⊢;refine (zP w gs gd A n c l sv lg st v e w h3).mono ?_;rintro r w' ⟨rfl,q1⟩;exact⟨rfl,v,⟨f,A,sv,b,es,h1,by omega,q1.rebase⟩,q1.keep,.inl rfl⟩
 |false=>
  cases m with
  |false=>
   have q:¬ Ev.may e:=fun hx=>by cases hm.2 hx
   have k:addP ⟨st,lg,n,c,l,false⟩ e false=(⟨st,lg,n,c,l,false⟩,1):=by unfold addP; rw[if_neg (by simp),if_pos rfl]
   rw[k] at f ⊢;refine (Dg w gs gd A n c l sv lg st v e w h3 q hs).mono ?_;rintro r w' ⟨rfl,q1⟩;exact⟨rfl,v,⟨f,A,sv,b,es,h1,by omega,q1.rebase⟩,q1.keep,.inl rfl⟩
  |true=>
   refine (BS w gs gd A n c l sv lg st b es v e w h3 h1 (uo (by omega)) g (by omega) (hm.1 rfl) hs).mono ?_;rintro r w' ⟨rfl,A',sv',b',es',v',q1,q2,q3,q4⟩;have s:(addP ⟨st,lg,n,c,l,false⟩ e true).1.c=c:=DP _ _ _;refine⟨rfl,v',⟨f,A',sv',b',es',q1,by omega,?_⟩,q3.keep,q4⟩
   rw[s];exact q3.rebase
theorem zT(N:Nat)(w:World)(gs gd:Nat)(p:Pub)(v:Value)(h:SP N w gs gd p v)(hN:N<99000):
 Calls prog 16 #[p_ gs 0] w fun r w'=>r=.returned (aB (aH p).2)∧SP (N+22) w' gs gd (aH p).1 v∧af [gd,gs] w w':=by
 obtain⟨A,sv,b,es,h1,h2,h3⟩:=h.run;have g:=bS (lD h.ok) (show N+21<=N+22 by omega)
 have j:=h.ok.few;have f:=h.ok.left;obtain⟨st,lg,n,c,l,dn⟩:=p;simp only at h1 h2 h3 j f
 cases dn with
 |true=>
  have m:aH ⟨st,lg,n,c,l,true⟩=(⟨st,lg,n,c,l,true⟩,6):=by unfold aH; rw[if_pos rfl]
  rw[m] at g ⊢;refine (xo w gs gd A n c l sv lg st v w h3).mono ?_;rintro r w' ⟨rfl,rfl⟩;exact⟨rfl,⟨g,A,sv,b,es,h1,by omega,h3⟩,af.refl _ _⟩
 |false=>
  refine (vO w gs gd A n c l sv lg st b es v w h3 h1 (uo (by omega)) f (by omega)).mono ?_;rintro r w' ⟨p,rfl,rfl,A',sv',b',es',q1,q2,q3⟩;have o:(aH ⟨st,lg,n,c,l,false⟩).1.c=c:=un _;have k:(aH ⟨st,lg,n,c,l,false⟩).1.st=st:=lE _;refine⟨rfl,⟨g,A',sv',b',es',by rw[k]; exact q1,by omega,?_⟩,q3.keep⟩
  rw[o,k];exact q3.rebase
theorem vQ(N:Nat)(w:World)(gs gd:Nat)(p:Pub)(v:Value)(k:Int)(hk:k<=9223372036854775807)(h:SP N w gs gd p v):
 Calls prog 15 #[p_ gd 0,.i_ k] w fun r w'=>r=.returned (.tuple #[])∧SP N w' gs gd (pL p k) v∧af [gd] w w':=by
 obtain⟨A,sv,b,es,h1,h2,h3⟩:=h.run;refine (BT w gs gd A p.n p.c p.l p.dn sv p.lg p.st v k w h3).mono ?_;rintro r w' ⟨rfl,q1,q2⟩;exact⟨rfl,⟨zO h.ok k hk,A,sv,b,es,h1,h2,q1.rebase⟩,q2⟩
structure DB (N:Nat) (w:World) (gd:Nat) (p:Pub):Prop where
 ok:cr N p
 run:∃A sv b es,Inv A p.st sv p.lg b es∧sv<=N∧∃F l',ay w gd F (p.n:Int) p.c l'∧(p.c=true->l'=p.l)∧j4 tag0 F A
 libs:aY w
 err:ErrVar w
 olds:nu gd
 oldE:0<gd
 lt:gd<w.heap.size
theorem SP.db(h:SP N w gs gd p v):DB N w gd p:=by
 obtain⟨A,sv,b,es,h1,h2,h3⟩:=h.run;exact⟨h.ok,⟨A,sv,b,es,h1,h2,h3.disk⟩,h3.libs,h3.err,h3.olds,h3.oldE,h3.gdlt⟩
theorem rM(N:Nat)(w:World)(gd:Nat)(p:Pub)(h:DB N w gd p)(hN:N<99000):
 Calls prog 12 #[p_ gd 0] w fun r w'=>∃gs v,r=.returned (.tuple #[.pointer (some ⟨gs,0,none⟩),.nilIface])∧w.heap.size<=gs∧SP N w' gs gd ⟨p.st,p.lg,p.n,p.c,p.l,false⟩ v∧Below w.heap.size w w':=by
 obtain⟨A,sv,b,es,h1,h2,F,l',d1,d2,d3⟩:=h.run;have f:=h1.diskIs (uo (by omega))
 refine (BP gd A w ⟨⟨F,_,_,_,d1,d3⟩,h.lt,f.1,f.2⟩ h.libs).mono ?_;rintro r w' ⟨gs,v,rfl,hle,hlw⟩;rw[yO h1] at hlw;have g:Below w.heap.size w w':=hlw.below.mono hle;refine⟨gs,v,rfl,hle,⟨⟨h.ok.good,h.ok.low,h.ok.few,h.ok.left⟩,A,sv,b,es,h1,h2,?_⟩,g⟩;exact⟨⟨F,l',d1.below g h.lt,d2,d3⟩,hlw.libs,(g.cell (p:=(a_ 0 0)) (Nat.lt_trans h.oldE h.lt)).trans h.err,hlw.store,hlw.ord,h.olds,h.oldE,af.refl _ _,hlw.store.lt⟩
def zU:List Value:=List.replicate 90 (Value.string ByteArray.empty) ++ [Value.int .i64 0,Value.bool false,Value.int .i64 0]
theorem zV:Tryz.zeroCells28=zU.toArray:=by kernel_rfl
theorem rN(w:World):ay (w.alloc (.cells Tryz.zeroCells28 28)) w.heap.size (fun _=>⟨#[]⟩) ((0:Nat):Int) false 0:=by
 have b:∀j:Nat,(w.alloc (.cells Tryz.zeroCells28 28)).cell? (a_ w.heap.size j)=zU[j]?:=by
  intro j;rw[World.cell?_alloc_new,zV,List.getElem?_toArray]
 refine⟨fun j hj=>?_,?_,?_,?_,fun j hj=>?_⟩
 ·rw[b,zU,List.getElem?_append_left (by rw[List.length_replicate]; exact hj),List.getElem?_replicate,if_pos hj]; rfl
 ·rw[b]; rfl
 ·rw[b]; rfl
 ·rw[b]; rfl
 ·exact Ff _ _ _ _ rfl
theorem pO(w:World)(hl:aY w)(he:ErrVar w)(ho:nu w.heap.size):DB 0 (w.alloc (.cells Tryz.zeroCells28 28)) w.heap.size ⟨⟨0,1,[]⟩,0,0,false,0,false⟩:=by
 have b:=bA w (.cells Tryz.zeroCells28 28);exact⟨pM,⟨emptyD,0,⟨0,1,[]⟩,[],wF,Nat.le_refl _,_,0,rN w,fun _=>rfl,wG _⟩,hl.below b,he.on b,ho,World.block_lt_of_cell? _ _ he,by simp⟩
end Go.Proofs.YtlailakofhenkabGreatDoor
namespace Go.Proofs.YtlailakofhenkabGreatDoor.Ev
open Go.Lib Tok Sc
structure Rul where
 key:Int
 idle:Int
 life:Int
 access:Int
structure fA (r:Rul):Prop where
 key:okN r.key
 idle:okN r.idle
 life:okN r.life
 access:okN r.access
def aZ(a b:Int):Int:=if 1099511627776<a+b then 1099511627776 else a+b
theorem mG{a b:Int}(ha:okN a)(hb:okN b):okN (aZ a b):=by
 obtain⟨a1,a2⟩:=ha;obtain⟨b1,b2⟩:=hb;unfold aZ;show 0<=_∧_<=_
 split <;> omega
def dR(r:Rul)(now:Int)(f:Fam):Bool:=decide (aZ f.used r.idle<now) || decide (aZ f.made r.life<now)
def isF(i:Int)(f:Fam):Bool:=decide (f.id=i)
def ew(r:Rul)(now:Int)(f:Fam):Bool:=f.dead || dR r now f
def cH(l:List Fam)(i:Int):Option Fam:=l.find? (isF i)
def errT:Nat->Nat
 |0=>0
 |1=>3
 |_+2=>5
def look0(r:Rul)(s:St)(kind:Int)(t:T)(n:Nat):Nat:=
 if n≠0 then errT n else if t.k≠kind then 1 else match cH s.fams t.f with
  |none=>7
  |some f=>if f.dead=true then 6 else if dR r s.clock f=true then 10 else 0
def famM(s:St)(t:T):Fam:=(cH s.fams t.f).getD zeroF
def lookM(r:Rul)(s:St)(kind:Int)(t:T)(n:Nat):Nat:=if look0 r s kind t n≠0 then look0 r s kind t n else if (famM s t).gen<t.g then 2 else 0
def noT:ByteArray:=⟨#[]⟩
def cz(f:Fam):Fam:={ f with dead:=true }
def giveM(tx:T->ByteArray)(p:Pub)(f:Fam):Pub × ByteArray × Nat:=
 if (addP p (aI f) true).2=0 then ((addP p (aI f) true).1,tx ⟨1,f.id,f.gen,0⟩,0) else ((addP p (aI f) true).1,noT,(addP p (aI f) true).2)
def spoilM(p:Pub)(f:Fam):Pub × ByteArray × Nat:=
 ((addP p (aI (cz f)) true).1,noT,if (addP p (aI (cz f)) true).2=0 then 15 else (addP p (aI (cz f)) true).2)
def gP(f:Fam)(request sc:ByteArray)(now:Int):Fam:=⟨f.id,f.client,f.subject,sc,f.gen+1,f.made,now,request,f.dead⟩
def turnM(tx:T->ByteArray)(p:Pub)(f:Fam)(request sc:ByteArray)(n:Nat)(b:Bool):Pub × ByteArray × Nat:=
 if n≠0 then (p,noT,n) else if b=false then (p,noT,13) else if 1099511627776<=f.gen then (p,noT,4) else giveM tx p (gP f request sc p.st.clock)
def rotateM(tx:T->ByteArray)(r:Rul)(p:Pub)(ok:Bool)(request:ByteArray)(t:T)(n:Nat)(sc:ByteArray)(m:Nat)(b:Bool):Pub × ByteArray × Nat:=
 if ok=false then (p,noT,1) else if lookM r p.st 1 t n≠0 then (p,noT,lookM r p.st 1 t n)
 else if t.g=(famM p.st t).gen then turnM tx p (famM p.st t) request sc m b
 else if t.g=(famM p.st t).gen - 1∧request=(famM p.st t).request then (p,tx ⟨1,(famM p.st t).id,(famM p.st t).gen,0⟩,0)
 else spoilM p (famM p.st t)
def mintM(tx:T->ByteArray)(r:Rul)(p:Pub)(t:T)(n:Nat):ByteArray × Nat:=
 if lookM r p.st 1 t n≠0 then (noT,lookM r p.st 1 t n) else if t.g<(famM p.st t).gen then (noT,8)
 else (tx ⟨2,(famM p.st t).id,(famM p.st t).gen,aZ p.st.clock r.access⟩,0)
def showM(r:Rul)(p:Pub)(t:T)(n:Nat):Fam × Nat:=
 if lookM r p.st 2 t n≠0 then (zeroF,lookM r p.st 2 t n) else if t.e<p.st.clock then (zeroF,10) else (famM p.st t,0)
def killM(p:Pub)(i:Int):Pub × Nat:=match cH p.st.fams i with
 |none=>(p,7)
 |some f=>if f.dead=true then (p,6) else addP p (aI (cz f)) true
def mH(t:Int):E:=⟨3,zeroF,0,t⟩
def dE(i:Int):E:=⟨2,zeroF,i,0⟩
def eX(p:Pub)(n:Int):Pub × Nat:=if okB n=false then (p,2) else addP p (mH (aZ p.st.clock n)) true
def sweepM(r:Rul)(p:Pub):Pub × Int × Nat:=match p.st.fams.find? (ew r p.st.clock) with
 |none=>(p,0,8)
 |some f=>((addP p (dE f.id) true).1,if (addP p (dE f.id) true).2=0 then f.id else 0,(addP p (dE f.id) true).2)
def fS(s:St)(client subject sc:ByteArray):Fam:=⟨s.next,client,subject,sc,0,s.clock,s.clock,noT,false⟩
def cX(tx:T->ByteArray)(p:Pub)(ok:Bool)(client subject sc:ByteArray)(n:Nat):Pub × ByteArray × Nat:=
 if ok=false then (p,noT,1) else if n≠0 then (p,noT,n) else if 1099511627776<p.st.next then (p,noT,4) else if 20<=p.st.fams.length then (p,noT,12)
 else giveM tx p (fS p.st client subject sc)
variable {f:Fam}{i kind:Int}
theorem zW{l:List Fam}(h:cH l i=some f):f∈l∧f.id=i:=by
 have b:=List.mem_of_find?_eq_some h;have c:=List.find?_some h;exact⟨b,by simpa[isF] using c⟩
theorem mJ(h:bP f):Ev.may (aI (cz f)):=jF h
variable {sc:ByteArray}
theorem mL{request:ByteArray}{now:Int}(h:bP f)(hg:¬ 1099511627776<=f.gen)(hr:am request.data.toList=true)(hs:Lst sc.data.toList)(hn:okN now):Ev.may (aI (gP f request sc now)):=by
 obtain⟨⟨h1,h2,h3,h4⟩,h5,h6,h7,h8⟩:=h;have h9:0<=f.gen∧f.gen<=1099511627776:=h2;exact jF ⟨⟨h1,(show 0<=f.gen+1∧f.gen+1<=1099511627776 from ⟨by omega,by omega⟩),h3,hn⟩,h5,h6,.inr hr,hs⟩
variable {s:St}
theorem pP{client subject:ByteArray}(h:dy s)(hx:¬ 1099511627776<s.next)(hc:am client.data.toList=true)(hb:am subject.data.toList=true)(hs:Lst sc.data.toList):Ev.may (aI (fS s client subject sc)):=by
 have h1:=h.next0;exact jF ⟨⟨(show 0<=s.next∧s.next<=1099511627776 from ⟨by omega,by omega⟩),(show (0:Int)<=0∧(0:Int)<=1099511627776 from ⟨by decide,by decide⟩),h.clock,h.clock⟩,hc,hb,.inl rfl,hs⟩
theorem ox{t:Int}(h:okN t):Ev.may (mH t):=.inr (.inr ⟨rfl,rfl,rfl,h⟩)
theorem rO(h:okN i):Ev.may (dE i):=.inr (.inl ⟨rfl,rfl,h,rfl⟩)
variable {n:Nat}{r:Rul}{t:T}
theorem du(h:look0 r s kind t n=0):n=0∧t.k=kind∧cH s.fams t.f=some (famM s t)∧(famM s t).dead=false∧dR r s.clock (famM s t)=false:=by
 unfold look0 at h;split at h
 ·match n,h with
  |0,_=>rename_i h0; exact absurd rfl h0
  |1,h=>cases h
  |n+2,h=>cases h
 rename_i h0
 split at h
 ·cases h
 rename_i h1
 cases hf:cH s.fams t.f with
 |none=>rw[hf] at h; cases h
 |some f=>
  rw[hf] at h;simp only at h;split at h
  ·cases h
  rename_i h2
  split at h
  ·cases h
  rename_i h3
  have b:famM s t=f:=by unfold famM; rw[hf]; rfl
  rw[b];exact⟨by simpa using h0,by simpa using h1,rfl,by simpa using h2,by simpa using h3⟩
theorem look_ok(h:lookM r s kind t n=0):look0 r s kind t n=0∧¬ (famM s t).gen<t.g:=by
 unfold lookM at h;split at h
 ·rename_i h0; exact absurd h h0
 rename_i h0
 split at h
 ·cases h
 rename_i h1
 exact⟨by simpa using h0,h1⟩
theorem rP(r:Rul)(s:St)(kind:Int)(t:T)(hn:n≠0):lookM r s kind t n=errT n∧errT n≠0:=by
 have b:errT n≠0:=by
  match n,hn with
  |1,_=>decide
  |n+2,_=>exact fun h=>by cases h
 have c:look0 r s kind t n=errT n:=by unfold look0; rw[if_pos hn]
 unfold lookM;rw[c,if_pos b];exact⟨rfl,b⟩
theorem xp(r:Rul)(s:St)(kind:Int)(t:T)(hk:t.k≠kind):lookM r s kind t 0=1:=by
 have b:look0 r s kind t 0=1:=by unfold look0; rw[if_neg (by simp),if_pos hk]
 unfold lookM;rw[b,if_pos (by decide)]
theorem xq(r:Rul)(s:St)(kind:Int)(t:T)(hk:t.k=kind)(hf:cH s.fams t.f=none):lookM r s kind t 0=7:=by
 have b:look0 r s kind t 0=7:=by unfold look0; rw[if_neg (by simp),if_neg (by simp[hk]),hf]
 unfold lookM;rw[b,if_pos (by decide)]
theorem xt(r:Rul)(s:St)(kind:Int)(t:T)(hk:t.k=kind)(hf:cH s.fams t.f=some f):
 lookM r s kind t 0=if f.dead=true then 6 else if dR r s.clock f=true then 10 else if f.gen<t.g then 2 else 0:=by
 have b:look0 r s kind t 0=if f.dead=true then 6 else if dR r s.clock f=true then 10 else 0:=by unfold look0; rw[if_neg (by simp),if_neg (by simp[hk]),hf]
 have c:famM s t=f:=by unfold famM; rw[hf]; rfl
 unfold lookM;rw[b,c];by_cases hd:f.dead=true
 ·simp[hd]
 ·by_cases ho:dR r s.clock f=true
  ·simp[hd,ho]
  ·simp[hd,ho]
theorem dw(h:dy s)(hf:cH s.fams i=some f):bP f:=(h.may f (zW hf).1).1
end Go.Proofs.YtlailakofhenkabGreatDoor.Ev
namespace Go.Proofs.YtlailakofhenkabGreatDoor
open Go Go.RowKit Tok Sc Ev Tryz
structure aD (N:Nat) (gs gd:Nat) (v:Value) (w w':World) (q:Pub) (v':Value):Prop where
 prog:SP (N+22) w' gs gd q v'
 keep:af [gd,gs] w w'
 new:v'=v∨ah w.heap.size w' v' q.st.fams
variable {B N g gd gs:Nat}{v v':Value}{w w' w1:World}
theorem aD.same{p:Pub}(h:SP N w gs gd p v)(hb:Below w.heap.size w w'):aD N gs gd v w w' p v:=
 ⟨(h.on hb).mono (by omega),af.of _ hb,.inl rfl⟩
variable {q:Pub}
theorem aD.pre(hb:Below w.heap.size w w1)(h:aD N gs gd v w1 w' q v'):aD N gs gd v w w' q v':=
 ⟨h.prog,(af.of _ hb).trans h.keep,h.new.imp id (fun k=>k.mono hb.size)⟩
theorem aD.post(h:aD N gs gd v w w1 q v')(hb:Below w1.heap.size w1 w'):aD N gs gd v w w' q v':=by
 refine⟨h.prog.on hb,h.keep.then hb,?_⟩;rcases h.new with h1 | h1
 ·exact .inl h1
 ·exact .inr (h1.below hb (Fa _))
theorem aD.notIn{b:Nat}(h:aD N gs gd v w w' q v')(hv:az v b)(hb:b<w.heap.size):az v' b:=by
 rcases h.new with h1 | h1
 ·rw[h1]; exact hv
 ·exact az.above h1 hb
theorem BW(N:Nat)(w:World)(gs gd:Nat)(p:Pub)(v:Value)(e:E)(m:Bool)(hm:m=true↔Ev.may e)(hs:Small 5000 e.fam)(h:SP N w gs gd p v)(hN:N<99000):
 Calls prog 17 #[p_ gs 0,evV e] w fun r w'=>r=.returned (aB (addP p e m).2)∧∃v',aD N gs gd v w w' (addP p e m).1 v':=by
 refine (BV N w gs gd p v e m hm hs h hN).mono ?_;rintro r w' ⟨rfl,v',q1,q2,q3⟩;exact⟨rfl,v',q1,q2,q3⟩
theorem pQ(N:Nat)(w:World)(gs gd:Nat)(p:Pub)(v:Value)(e:E)(hm:Ev.may e)(h:SP N w gs gd p v)(hN:N<99000):
 Calls prog 17 #[p_ gs 0,evV e] w fun r w'=>r=.returned (aB (addP p e true).2)∧∃v',aD N gs gd v w w' (addP p e true).1 v':=by
 refine BW N w gs gd p v e true ⟨fun _=>hm,fun _=>rfl⟩ ?_ h hN;rcases hm with ⟨-,h1,-⟩ | ⟨-,h1,-⟩ | ⟨-,h1,-⟩
 ·exact ec h1
 ·rw[h1]; unfold Small zeroF; decide
 ·rw[h1]; unfold Small zeroF; decide
theorem xu(N:Nat)(w:World)(gs gd:Nat)(p:Pub)(v:Value)(h:SP N w gs gd p v):Calls prog 20 #[p_ gs 0] w fun r w'=>∃v',r=.returned (stV p.st.clock p.st.next v')∧ah w.heap.size w' v' p.st.fams∧Below w.heap.size w w':=by
 obtain⟨sv,hst⟩:=h.store;exact zR w gs gd p.dn sv p.lg p.st v hst (by have:=h.ok.good.len; omega)
theorem xv(a b:Int):aZ a b=min (a+b) 1099511627776:=by
 unfold aZ;split <;> omega
theorem eY(a b:Int)(ha:okN a)(hb:okN b)(w:World):Calls prog 82 #[.i_ a,.i_ b] w fun e w'=>e=.returned (.int .i64 (aZ a b))∧w'=w:=by
 obtain⟨a1,a2⟩:=ha;obtain⟨b1,b2⟩:=hb;rw[xv];go_enter func82,ntmps82
 go_wp2_with fail;go_ret;exact⟨rfl,rfl⟩
theorem fH(n:Int)(w:World):Calls prog 64 #[.i_ n] w fun e w'=>e=.returned (.bool (okB n))∧w'=w:=by
 by_cases h0:0<=n
 ·by_cases h1:n<=1099511627776
  ·have b:okB n=true:=dt ⟨h0,h1⟩
   rw[b];clear b;go_enter func64,ntmps64
   go_wp2_with fail;go_ret;exact⟨rfl,rfl⟩
  ·have b:okB n=false:=jB (fun k=>h1 k.2)
   rw[b];clear b;go_enter func64,ntmps64
   go_wp2_with fail;go_ret;exact⟨rfl,rfl⟩
 ·have b:okB n=false:=jB (fun k=>h0 k.1)
  rw[b];clear b;go_enter func64,ntmps64
  go_wp2_with fail;go_ret;exact⟨rfl,rfl⟩
def kO(g:Nat)(lb:Array Value)(p:Fam->Bool)(w:World):Prop:=
 ∀(W:World) (f:Fam),bP f->Below w.heap.size w W->Calls prog g (#[ap f] ++ lb) W fun e w'=>e=.returned (.bool (p f))∧Below W.heap.size W w'
variable {l:List Fam}{p:Fam->Bool}
theorem eI(h:∀j (hj:j<l.length),p l[j]=false):l.find? p=none:=by
 rw[List.find?_eq_none];intro x hx;obtain⟨j,hj,rfl⟩:=List.mem_iff_getElem.1 hx;simp[h j hj]
theorem eJ{k:Nat}(hk:k<l.length)(hp:p l[k]=true)(h:∀j (hj:j<l.length),j<k->p l[j]=false):l.find? p=some l[k]:=by
 induction l generalizing k with
 |nil=>simp at hk
 |cons x l ih=>
  cases k with
  |zero=>simp at hp ⊢; simp[hp]
  |succ k=>
   have b:=h 0 (by simp) (by omega)
   simp at b
   rw[List.find?_cons_of_neg (by simp[b])]
   simp at hp ⊢
   exact ih (by simpa using hk) hp (fun j hj hjk=>by have:=h (j+1) (by simpa using hj) (by omega); simpa using this)
theorem xw(l:List Fam)(v:Value)(g:Nat)(lb:Array Value)(p:Fam->Bool)(w:World)(hf:ah B w v l)(hm:∀f∈l,bP f)(hl:l.length<=5000)(hp:kO g lb p w)(eg:∀args w,(callFunc g args).run prog w=.ok (.enter g args) w):
 Calls prog 138 #[v,.func (.func g) #[] lb] w fun e w'=>(∃k:Int,e=.returned (.int .i64 k)∧((k=-1∧l.find? p=none)∨∃j:Nat,k=j∧∃h:j<l.length,l.find? p=some l[j]))∧Below w.heap.size w w':=by
 obtain⟨ba,ca,rfl⟩:=ag.slice hf;have z:J (ah B w (.slice ba l.length ca) l):=hf;have A:J (kO g lb p w):=hp;have C:J (∀f∈l,bP f):=hm;clear hf hp hm;go_enter func138,ntmps138
 go_wp2_with fail
 go_loopg [5,8] l.length (fun gk _ iv wr=>∃k:Nat,k+gk=l.length∧iv=.i_ k∧Hid (Below w.heap.size w wr)∧Hid (∀j (hj:j<l.length),j<k->p l[j]=false))
 case atStart=>exact⟨0,by omega,rfl,E9 _ _,fun j _ h=>absurd h (Nat.not_lt_zero _)⟩
 case round=>
  obtain⟨k,hk,rfl,HB,HA⟩:=hrel;have q:J (k+gk=l.length):=hk;clear hk;by_cases hlt:k<l.length
  ·have t:(k:Int)<(l.length:Int):=by omega
   have n:ah B wr (.slice ba l.length ca) l:=ag.below z.o HB.out (Fa _);obtain⟨gr,rfl,hgr,hfa⟩:=n.fam k hlt;clear n;have c:=A.o wr l[k] (C.o _ (Fw hlt)) HB.out
   have r:J (∀b:Bool,p l[k]=b->(b=true->l.find? p=some l[k])∧(b=false->∀j (hj:j<l.length),j<k+1->p l[j]=false)):=fun b hb=>by
    refine⟨fun h=>eJ hlt (hb.trans h) HA.out,fun h j hj hjk=>?_⟩;by_cases e:j=k
    ·subst e; exact hb.trans h
    ·exact HA.out j hj (by omega)
   have HX:J (∃h:k<l.length,l[k]=l[k]):=⟨hlt,rfl⟩;generalize hy:l[k]=y at c hfa r;have D:J (l[k]=y):=hy;clear hy;obtain⟨y1,y2,y3,y4,y5,y6,y7,y8,y9⟩:=y;have c0:=hfa.c0; have c1:=hfa.c1; have c2:=hfa.c2; have c3:=hfa.c3; have c4:=hfa.c4; have c5:=hfa.c5; have c6:=hfa.c6; have c7:=hfa.c7; have c8:=hfa.c8;simp only at c0 c1 c2 c3 c4 c5 c6 c7 c8;clear hfa;have o:=r.o _ rfl;have m:J _:=o;clear o r
   cases hq:p ⟨y1,y2,y3,y4,y5,y6,y7,y8,y9⟩ with
   |true=>
    rw[hq] at c m;unfold ap ac at c;simp only at c;clear hq;go_wp2_with (go_at_fn g; refine c.mono ?_; rintro e w' ⟨rfl,hb'⟩)
    go_ret;exact⟨⟨k,rfl,.inr ⟨k,rfl,hlt,by rw[D.o]; exact m.o.1 (by trivial)⟩⟩,HB.out.trans (hb'.mono HB.out.size)⟩
   |false=>
    rw[hq] at c m;unfold ap ac at c;simp only at c;clear hq;go_wp2_with (go_at_fn g; refine c.mono ?_; rintro e w' ⟨rfl,hb'⟩)
    have s:J (Below w.heap.size w w'):=HB.out.trans (hb'.mono HB.out.size);clear c c0 c1 c2 c3 c4 c5 c6 c7 c8 hb';go_wp2_with fail
    go_roundg (gk - 1)
    case measure=>have:=q.o; omega
    case rel=>exact⟨k+1,by have:=q.o; omega,by go_num,s,m.o.2 (by trivial)⟩
  ·obtain rfl:k=l.length:=by have:=q.o; omega
   go_wp2_with fail
   go_ret;exact⟨⟨-1,rfl,.inl ⟨rfl,eI (fun j hj=>HA.out j hj hj)⟩⟩,HB.out⟩
variable {f:Fam}
theorem rQ(h:eF w g 0 f):w.cell? ⟨g,0,none⟩=some (.int .i64 f.id)∧w.cell? ⟨g,1,none⟩=some (.string f.client)∧w.cell? ⟨g,2,none⟩=some (.string f.subject)∧w.cell? ⟨g,3,none⟩=some (.string f.scope)∧w.cell? ⟨g,4,none⟩=some (.int .i64 f.gen)∧w.cell? ⟨g,5,none⟩=some (.int .i64 f.made)∧w.cell? ⟨g,6,none⟩=some (.int .i64 f.used)∧w.cell? ⟨g,7,none⟩=some (.string f.request)∧w.cell? ⟨g,8,none⟩=some (.bool f.dead):=by
 have b:=h.c0; have c:=h.c1; have j:=h.c2; have k:=h.c3; have m:=h.c4; have n:=h.c5; have o:=h.c6; have p:=h.c7; have q:=h.c8;simp only[Nat.zero_add] at b c j k m n o p q;exact⟨b,c,j,k,m,n,o,p,q⟩
structure FB (w:World) (g:Nat) (f:Fam):Prop where
 c0:w.cell? ⟨g,0,none⟩=some (.int .i64 f.id)
 c1:w.cell? ⟨g,1,none⟩=some (.string f.client)
 c2:w.cell? ⟨g,2,none⟩=some (.string f.subject)
 c3:w.cell? ⟨g,3,none⟩=some (.string f.scope)
 c4:w.cell? ⟨g,4,none⟩=some (.int .i64 f.gen)
 c5:w.cell? ⟨g,5,none⟩=some (.int .i64 f.made)
 c6:w.cell? ⟨g,6,none⟩=some (.int .i64 f.used)
 c7:w.cell? ⟨g,7,none⟩=some (.string f.request)
 c8:w.cell? ⟨g,8,none⟩=some (.bool f.dead)
 lt:g<w.heap.size
 fz:∀i,w.frozen? ⟨g,i,none⟩=false
theorem FB.made(w:World)(f:Fam)(t:TypeId):FB (w.alloc (.cells #[.int .i64 f.id,.string f.client,.string f.subject,.string f.scope,.int .i64 f.gen,.int .i64 f.made,.int .i64 f.used,.string f.request,.bool f.dead] t)) w.heap.size f:=by
 obtain⟨h0,h1,h2,h3,h4,h5,h6,h7,h8⟩:=rQ (eU w f t _ rfl);exact⟨h0,h1,h2,h3,h4,h5,h6,h7,h8,by simp,fun i=>World.frozen?_alloc_at _ _ _ _ rfl⟩
theorem FB.keep{l:List Nat}(h:FB w g f)(hk:af l w w')(hn:g∉l):FB w' g f:=by
 have b:∀i,w'.cell? (a_ g i)=w.c_ g i:=fun i=>hk.cell (p:=(a_ g i)) h.lt hn;exact⟨(b 0).trans h.c0,(b 1).trans h.c1,(b 2).trans h.c2,(b 3).trans h.c3,(b 4).trans h.c4,(b 5).trans h.c5,(b 6).trans h.c6,(b 7).trans h.c7,(b 8).trans h.c8,Fd h.lt hk.size,fun i=>(hk.frozen (p:=(a_ g i)) h.lt hn).trans (h.fz i)⟩
theorem FB.on(h:FB w g f)(hb:Below w.heap.size w w'):FB w' g f:=h.keep (af.of [] hb) (by simp)
theorem FB.there(h:FB w g f):∀j,j<9->(w.cell? ⟨g,0+j,none⟩).isSome=true:=by
 intro j hj;obtain⟨c0,c1,c2,c3,c4,c5,c6,c7,c8,-⟩:=id h;rw[Nat.zero_add];match j,hj with
 |0,_=>rw[c0]; rfl
 |1,_=>rw[c1]; rfl
 |2,_=>rw[c2]; rfl
 |3,_=>rw[c3]; rfl
 |4,_=>rw[c4]; rfl
 |5,_=>rw[c5]; rfl
 |6,_=>rw[c6]; rfl
 |7,_=>rw[c7]; rfl
 |8,_=>rw[c8]; rfl
theorem gQ(g:Nat)(vs:List Value):∀(o:Nat) (w:World) (a:Addr),(w.setCells g o vs).frozen? a=w.frozen? a:=by
 induction vs with
 |nil=>intro o w a; rfl
 |cons v vs ih=>
  intro o w a;show ((w.setCell (a_ g o) v).setCells g (o+1) vs).frozen? a=_
  rw[ih,World.frozen?_setCell]
theorem FB.set{f':Fam}(h:FB w g f'):FB (w.setCells g 0 (ac f)) g f:=by
 have k:=fun (j:Nat) (hj:j<(ac f).length)=>World.cell?_setCells_in g (ac f) 0 w h.there j hj;have c:g<(w.setCells g 0 (ac f)).heap.size:=Fd h.lt (aa (B:=0) (Fo _) _ 0 _).size
 have b:∀(j:Nat) (u:Value),(ac f)[j]?=some u->(w.setCells g 0 (ac f)).c_ g j=some u:=fun j u hj=>by
  obtain⟨h1,h2⟩:=List.getElem?_eq_some_iff.1 hj
  have:=k j h1;rw[Nat.zero_add,h2] at this;exact this
 exact⟨b 0 _ rfl,b 1 _ rfl,b 2 _ rfl,b 3 _ rfl,b 4 _ rfl,b 5 _ rfl,b 6 _ rfl,b 7 _ rfl,b 8 _ rfl,c,fun i=>by rw[gQ]; exact h.fz i⟩
theorem kO.on{lb:Array Value}(h:kO g lb p w)(hb:Below w.heap.size w w'):kO g lb p w':=fun W f hm hW=>h W f hm (hb.tm hW)
theorem zX(i:Int)(B:Nat)(w:World)(hB:B<w.heap.size)(hc:w.cell? ⟨B,0,none⟩=some (.int .i64 i)):kO 139 #[.pointer (some ⟨B,0,none⟩)] (isF i) w:=fun W f _ hb=>by
 have c:W.cell? (a_ B 0)=some (.i_ i):=(hb.cell (p:=(a_ B 0)) hB).trans hc;have g:B<W.heap.size:=Fd hB hb.size;obtain⟨f1,f2,f3,f4,f5,f6,f7,f8,f9⟩:=f;have j:J _:=bA W (.cells (F_ f1 f2 f3 f4 f5 f6 f7 f8 f9) 40);have k:B≠W.heap.size:=by omega
 have b:isF i ⟨f1,f2,f3,f4,f5,f6,f7,f8,f9⟩=(f1 == i):=by unfold isF; rfl
 rw[b];show Calls prog 139 #[.agg (F_ f1 f2 f3 f4 f5 f6 f7 f8 f9),p_ B 0] W _
 clear b hc hb;go_enter func139,ntmps139
 go_wp2_with fail;go_ret;exact⟨rfl,j.o⟩
theorem rR(i:Int)(w:World):Calls prog 84 #[.i_ i] w fun e w'=>e=.returned (.func (.func 139) #[] #[.pointer (some ⟨w.heap.size,0,none⟩)])∧w'=w.alloc (.cells #[.int .i64 i] 3):=by
 go_enter func84,ntmps84
 go_wp2_with fail;go_ret;exact⟨rfl,rfl⟩
theorem vR:∀args w,(callFunc 139 args).run prog w=.ok (.enter 139 args) w:=enters_of func139 (by kernel_rfl) rfl
theorem mM(l:List Fam)(v:Value)(g:Nat)(lb:Array Value)(p:Fam->Bool)(w:World)(hf:ah B w v l)(hm:∀f∈l,bP f)(hl:l.length<=5000)(hp:kO g lb p w)(eg:∀args w,(callFunc g args).run prog w=.ok (.enter g args) w):
 Calls prog 83 #[v,.func (.func g) #[] lb] w fun e w'=>e=.returned (.tuple #[ap ((l.find? p).getD zeroF),.bool (l.find? p).isSome])∧Below w.heap.size w w':=by
 obtain⟨ba,ca,rfl⟩:=ag.slice hf;have m:Hid (Below w.heap.size w (w.alloc (.cells f_ 40))):=(E9 _ _).alloc (Fa _) _;have t:ah B (w.alloc (.cells f_ 40)) (.slice ba l.length ca) l:=ag.below hf m.o (Fa _);have R:Hid _:=t;have s:Hid _:=xw l (.slice ba l.length ca) g lb p _ t hm hl (hp.on m.o) eg;have A:Hid (FB (w.alloc (.cells f_ 40)) w.heap.size zeroF):=FB.made w zeroF _;clear hf hm hp t
 cases hq:l.find? p with
 |none=>
  have E:Hid (l.find? p=none):=hq;clear hq;go_enter func83,ntmps83
  go_wp2_with fail
  refine Calls.mono s.o ?_;rintro e1 w1 ⟨⟨k,rfl,hk⟩,hb1⟩;have b:Hid (FB w1 w.heap.size zeroF):=A.o.on hb1;have z:Hid (Below w.heap.size w w1):=m.o.trans (hb1.mono m.o.size);clear hb1 s
  obtain rfl:k=-1:=by
   rcases hk with ⟨hk,-⟩ | ⟨j,-,hj,hs⟩
   ·exact hk
   ·rw[E.o] at hs; cases hs
  clear hk;have T:=b.o.c0; have U:=b.o.c1; have V:=b.o.c2; have W:=b.o.c3; have X:=b.o.c4; have Y:=b.o.c5; have Z:=b.o.c6; have z7:=b.o.c7; have z8:=b.o.c8; have zf:=b.o.fz;have n:Hid (Below w.heap.size w (w1.setCells w.heap.size 0 (ac zeroF))):=z.o.trans (aa (Fa _) _ 0 w1);have o:Hid (FB (w1.setCells w.heap.size 0 (ac zeroF)) w.heap.size zeroF):=b.o.set;go_wp2_with fail
  generalize hWW:World.setCell _ (a_ w.heap.size 8) _=WW;have q:w1.setCells w.heap.size 0 (ac zeroF)=WW:=hWW;have r:=n.o;have c:=o.o;rw[q] at r c;have F:=c.c0; have G:=c.c1; have H:=c.c2; have I:=c.c3; have J:=c.c4; have L:=c.c5; have M:=c.c6; have N:=c.c7; have O:=c.c8;clear q hWW n o T U V W X Y Z z7 z8 zf c;exact bodyPost_ret (v:=.tuple #[ap zeroF,.bool false]) (by simp[results,results83,go_sem,F,G,H,I,J,L,M,N,O,ap,ac]) rfl ⟨rfl,r⟩
 |some y=>
  have E:Hid (l.find? p=some y):=hq;clear hq;go_enter func83,ntmps83
  go_wp2_with fail
  refine Calls.mono s.o ?_;rintro e1 w1 ⟨⟨k,rfl,hk⟩,hb1⟩;have b:Hid (FB w1 w.heap.size zeroF):=A.o.on hb1;have z:Hid (Below w.heap.size w w1):=m.o.trans (hb1.mono m.o.size);have C:ah B w1 (.slice ba l.length ca) l:=ag.below R.o hb1 (Fa _);have Ed:Hid (ah B w1 (.slice ba l.length ca) l):=C;clear C hb1 s
  obtain⟨j,rfl,hj,hy⟩:∃j:Nat,k=j∧∃hj:j<l.length,l[j]=y:=by
   rcases hk with ⟨-,hn⟩ | ⟨j,hk,hj,hs⟩
   ·rw[E.o] at hn; cases hn
   ·rw[E.o] at hs
    exact⟨j,hk,hj,(Option.some.inj hs).symm⟩
  clear hk;have T:=b.o.c0; have U:=b.o.c1; have V:=b.o.c2; have W:=b.o.c3; have X:=b.o.c4; have Y:=b.o.c5; have Z:=b.o.c6; have z7:=b.o.c7; have z8:=b.o.c8; have zf:=b.o.fz;have D:ah B w1 (.slice ba l.length ca) l:=Ed.o;obtain⟨gr,rfl,hgr,hfa⟩:=ah.fam D j hj;clear D;rw[hy] at hfa;have hjI:(j:Int)<(l.length:Int):=by omega
  have Ee:w.heap.size≠gr∨True:=.inr trivial;clear hy Ee;have n:Hid (Below w.heap.size w (w1.setCells w.heap.size 0 (ac y))):=z.o.trans (aa (Fa _) _ 0 w1);have o:Hid (FB (w1.setCells w.heap.size 0 (ac y)) w.heap.size y):=b.o.set;obtain⟨y1,y2,y3,y4,y5,y6,y7,y8,y9⟩:=y;have c0:=hfa.c0; have c1:=hfa.c1; have c2:=hfa.c2; have c3:=hfa.c3; have c4:=hfa.c4; have c5:=hfa.c5; have c6:=hfa.c6; have c7:=hfa.c7; have c8:=hfa.c8;simp only at c0 c1 c2 c3 c4 c5 c6 c7 c8;clear hfa;go_wp2_with fail
  generalize hWW:World.setCell _ (a_ w.heap.size 8) _=WW;have q:w1.setCells w.heap.size 0 (ac ⟨y1,y2,y3,y4,y5,y6,y7,y8,y9⟩)=WW:=hWW;have r:=n.o;have c:=o.o;rw[q] at r c;have F:=c.c0; have G:=c.c1; have H:=c.c2; have I:=c.c3; have J:=c.c4; have L:=c.c5; have M:=c.c6; have N:=c.c7; have O:=c.c8;simp only at F G H I J L M N O;clear q hWW n o T U V W X Y Z z7 z8 zf c c0 c1 c2 c3 c4 c5 c6 c7 c8;exact bodyPost_ret (v:=.tuple #[ap ⟨y1,y2,y3,y4,y5,y6,y7,y8,y9⟩,.bool true]) (by simp[results,results83,go_sem,F,G,H,I,J,L,M,N,O,ap,ac]) rfl ⟨rfl,r⟩
end Go.Proofs.YtlailakofhenkabGreatDoor
namespace Go.Proofs.YtlailakofhenkabGreatDoor
open Go.RowKit Sip Hex Tryz
def io(w:World):Prop:=w.cell? ⟨9,15,none⟩=some (.int .u8 4)
theorem BX(w:World)(hT:io w):Calls prog 359 #[.int .u64 16] w fun e w'=>e=.returned (.int .i64 4)∧w'=w:=by
 have h1:IntKind.u64.wrap (bits .and .u64 16 (IntKind.u64.wrap (-16))*285870213051353865) / 288230376151711744=15:=by decide +kernel
 unfold io at hT;go_enter func359,ntmps359
 go_wp2_with fail;go_ret;exact⟨rfl,rfl⟩
theorem DQ(w:World):Calls prog 320 #[.i_ 16] w fun e w'=>e=.returned (.bool true)∧w'=w:=by
 have h1:bits .and .i64 16 15=0:=by decide +kernel
 go_enter func320,ntmps320
 go_wp2_with fail;go_ret;exact⟨rfl,rfl⟩
theorem up(w:World)(hT:io w):Calls prog 321 #[.int .u64 16] w fun e w'=>e=.returned (.int .i64 4)∧w'=w:=by
 go_enter func321,ntmps321
 go_wp2_with fail;refine (BX w hT).mono ?_;rintro e w' ⟨rfl,rfl⟩;go_wp2_with fail;go_ret;exact⟨rfl,rfl⟩
theorem zY(d:Nat)(h:d<16):((⟨#[48,49,50,51,52,53,54,55,56,57,97,98,99,100,101,102,103,104,105,106,107,108,109,110,111,112,113,114,115,116,117,118,119,120,121,122]⟩:ByteArray)[d]'(Nat.lt_trans h (by decide)))=hexc d:=by
 revert d
 decide
theorem rS{B:Nat}{w:World}{g:Nat}{pre D:List UInt8}{j:Nat}(h:aN B w g 65 65 (bs (pre ++ D)))(hp:pre.length=j+1)(u:UInt8):
 ∃pre',pre'.length=j∧aN B (w.setCell ⟨g,j,none⟩ (.int .u8 (u.toNat:Int))) g 65 65 (bs (pre' ++ u::D)):=by
 have c:j<65:=by have:=h.len; simp[bs] at this; omega
 have b:=h.store c (.int .u8 (u.toNat:Int))
 obtain⟨p,x,rfl,hl⟩:∃p x,pre=p ++ [x]∧p.length=j:=by
  refine⟨pre.take j,pre[j]'(by omega),?_,by simp; omega⟩
  rw[<- List.take_succ_eq_append_getElem (by omega),List.take_of_length_le (by omega)]
 refine⟨p,hl,?_⟩
 have f:(bs (p ++ [x] ++ D)).set j (.int .u8 (u.toNat:Int))=bs (p ++ u::D):=by
  simp only[bs,List.map_append,List.map_cons,List.append_assoc,List.cons_append,List.nil_append];rw[List.set_append_right _ _ (by rw[List.length_map]; omega)]
  simp[hl]
 rw[f] at b;exact b
theorem BY(B:Nat)(w:World)(hB:B<=w.heap.size):aN B (w.alloc (.cells Tryz.zeroCells372 372)) w.heap.size 65 65 (bs (List.replicate 65 0)):=by
 have b:Tryz.zeroCells372=(bs (List.replicate 65 0)).toArray:=by kernel_rfl
 have c:(bs (List.replicate 65 0)).length=65:=by decide
 refine⟨hB,by simp,c,by omega,by unfold maxLen; omega,fun j u hj=>?_,fun j hj=>?_⟩
 ·rw[World.cell?_alloc_new,b]; simpa using hj
 ·refine⟨?_,Ff _ _ _ _ rfl⟩
  rw[World.cell?_alloc_new,b,List.getElem?_toArray,List.getElem?_eq_getElem (by rw[c]; exact hj)]
  rfl
theorem xx(g j:Nat)(hj:j<65)(w:World):(Instr.sliceAt 372 (.pointer (some ⟨g,0,none⟩)) (some (.int .i64 (j:Int))) none none).run prog w=.ok (.slice (some ⟨g,j,none⟩) (65 - j) (65 - j)) w:=by
 have b:(j:Int)<=65:=by omega
 have c:¬ 65=j:=by omega
 go_simp
theorem pR(n:Nat)(hn:n<16 ^ 16)(w:World)(hT:io w)(hTs:9<w.heap.size):
 Calls prog 271 #[.slice none 0 0,.int .u64 n,.i_ 16,.bool false,.bool false] w fun e w'=>e=.returned (.tuple #[.slice none 0 0,.string ⟨(hexMin 15 n).toArray⟩])∧Below w.heap.size w w':=by
 go_enter func271,ntmps271
 have A:Hid _:=hT;clear hT;go_wp2_with fail;refine (DQ _).mono ?_;rintro e w1 ⟨rfl,rfl⟩;go_wp2_with fail;refine (up _ ?_).mono ?_
 ·exact (((E9 w.heap.size w).alloc (Fa _) _).cell (p:=(a_ 9 15)) hTs).trans A.o
 rintro e w1 ⟨rfl,rfl⟩;go_wp2_with fail;go_loopg [1,13] 16 (fun gk u i wr=>∃(m d:Nat) (pre D:List UInt8),u=.int .u64 m∧i=.i_ ((65 - d:Nat):Int)∧d+gk=16∧d<=15∧m<16 ^ (16 - d)∧pre.length=65 - d∧D.length=d∧aN w.heap.size wr w.heap.size 65 65 (bs (pre ++ D))∧Below w.heap.size w wr∧hexMin 15 n=hexMin (15 - d) m ++ D)
 case atStart=>exact⟨n,0,List.replicate 65 0,[],rfl,rfl,rfl,by omega,by simpa using hn,by simp,rfl,by simpa using BY _ w (Nat.le_refl _),bA _ _,by simp⟩
 case round=>
  obtain⟨m,d,pre,D,rfl,rfl,hgk,hd15,hm,hpre,hD,hrow,hb,he⟩:=hrel;have q:Hid _:=hgk;have o:Hid _:=hD;have s:Hid _:=he;have t:Hid _:=hm;have v:Hid _:=hpre;obtain⟨j,hj⟩:∃j,65 - d=j+1:=⟨64 - d,by omega⟩
  have k:Hid _:=hj;have b:j<65:=by omega
  have B:m<18446744073709551616:=Fd hm (Fe (Nat.pow_le_pow_right (by decide) (by omega:16 - d<=16)) (by decide))
  have g:=hrow.there j b;obtain⟨old,hold⟩:=Option.isSome_iff_exists.1 g.1;have C:=g.2;clear hgk hD he hm hpre g;rw[hj];clear hj;by_cases h16:16<=m
  ·have E:=CF m
   obtain⟨r,hr⟩:∃r,r=m % 16:=⟨_,rfl⟩;have c:r<16:=by omega
   rw[<- hr] at E;have F:Hid _:=hr;clear hr;obtain⟨pre',hpl,hrow'⟩:=rS hrow (v.o.trans k.o) (hexc r);have G:Hid _:=hrow';clear hrow';have H:((⟨#[48,49,50,51,52,53,54,55,56,57,97,98,99,100,101,102,103,104,105,106,107,108,109,110,111,112,113,114,115,116,117,118,119,120,121,122]⟩:ByteArray)[r]'(Nat.lt_trans c (by decide)))=hexc r:=zY r c
   have z:d<=14:=by
    have h:=t.o;rcases FF d 15 with h1 | h1
    ·omega
    ·have:16 - d=1:=by omega
     rw[this] at h; omega
   go_wp2_with fail;go_roundg (gk - 1)
   case measure=>have:=q.o; omega
   case rel=>
    refine⟨m / 16,d+1,pre',hexc r::D,by simp,by have:=k.o; rw[show 65 - (d+1)=j by omega],by have:=q.o; omega,by omega,?_,by have:=k.o; omega,by have:=o.o; simp; omega,G.o,hb.setCell (p:=(a_ w.heap.size j)) (Fa _) _,?_⟩
    ·have h:=t.o
     rw[show 16 - d=(16 - (d+1))+1 by omega,Nat.pow_succ] at h
     omega
    ·refine s.o.trans ?_
     rw[show 15 - d=(15 - (d+1))+1 by omega,hexMin,if_neg (by omega),F.o]
     simp
  ·have I:=xx w.heap.size j b
   obtain⟨pre',hpl,hrow'⟩:=rS hrow (v.o.trans k.o) (hexc m);have J:((⟨#[48,49,50,51,52,53,54,55,56,57,97,98,99,100,101,102,103,104,105,106,107,108,109,110,111,112,113,114,115,116,117,118,119,120,121,122]⟩:ByteArray)[m]'(Nat.lt_trans (Nat.lt_of_not_le h16) (by decide)))=hexc m:=zY m (by omega)
   have L:(convert 164 9 (.slice (o_ w.heap.size j) (65 - j) (65 - j))).run prog (wr.setCell (a_ w.heap.size j) (.int .u8 ((hexc m).toNat:Int)))=.ok (.string ⟨(hexc m::D).toArray⟩) (wr.setCell (a_ w.heap.size j) (.int .u8 ((hexc m).toNat:Int))):=by
    refine im _ _ _ 5 underlying164 underlying5 underlying9 _ _ _ _ _ (by have:=o.o; have:=k.o; simp; omega) (fun i hi=>?_)
    refine hrow'.holds (j+i) _ ?_;have hl:(hexc m::D).length=65 - j:=by have:=o.o; have:=k.o; simp; omega
    simp only[bs,List.map_append];rw[List.getElem?_append_right (by rw[List.length_map]; omega),Fy,hpl,Nat.add_sub_cancel_left,Fs,Fh (by omega)]
    simp[List.getD,List.getElem?_eq_getElem (show i<(hexc m::D).length by omega)]
   have M:Hid (hexMin 15 n=hexc m::D):=by
    refine s.o.trans ?_;generalize 15 - d=f
    cases f with
    |zero=>rw[hexMin,Nat.mod_eq_of_lt (by omega)]; rfl
    |succ f=>rw[hexMin,if_pos (by omega)]; rfl
   clear hrow';go_wp2_with fail;go_ret2;exact⟨by rw[M.o]; rfl,hb.setCell (p:=(a_ w.heap.size j)) (Fa _) _⟩
theorem xy(n:Nat)(hn:n<16 ^ 16)(w:World)(hT:io w)(hTs:9<w.heap.size):
 Calls prog 213 #[.int .u64 n,.i_ 16] w fun e w'=>e=.returned (.string ⟨(hexMin 15 n).toArray⟩)∧Below w.heap.size w w':=by
 have b:J _:=hT;clear hT
 have c:Calls prog 282 #[.int .u64 n,.i_ 16] w fun e w'=>e=.returned (.string ⟨(hexMin 15 n).toArray⟩)∧Below w.heap.size w w':=by
  go_enter func282,ntmps282
  go_wp2_with fail;refine (pR n hn w b.o hTs).mono ?_;rintro e w' ⟨rfl,hb⟩;go_wp2_with fail;go_ret;exact⟨rfl,hb⟩
 go_enter func213,ntmps213
 go_wp2_with fail;refine c.mono ?_;rintro e w' ⟨rfl,hb⟩;go_wp2_with fail;go_ret;exact⟨rfl,hb⟩
end Go.Proofs.YtlailakofhenkabGreatDoor
