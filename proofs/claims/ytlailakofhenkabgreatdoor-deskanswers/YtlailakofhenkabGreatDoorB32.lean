import Derived.Test.YtlailakofhenkabGreatDoorB30
import Derived.Test.YtlailakofhenkabGreatDoorB31
namespace Go.Proofs.YtlailakofhenkabGreatDoor
open Go Go.RowKit Tok Sc Ev Tryz
theorem kq(p:Pub):(aH p).2<=14:=by
 unfold aH;split
 ·simp
 ·split <;> simp
theorem iA(p:Pub)(e:E)(m:Bool):(addP p e m).2<=14:=by
 have b:∀q,(dV q e).2<=14:=fun q=>by unfold dV; split <;> simp
 unfold addP;split
 ·simp
 split
 ·simp
 split
 ·simp
 split
 ·split
  ·exact b _
  ·exact kq p
 ·exact b _
theorem oG(tx:T->ByteArray)(p:Pub)(f:Fam):(giveM tx p f).2.2<=14:=by
 unfold giveM;split
 ·simp
 ·exact iA _ _ _
theorem eM{s:List UInt8}{l:List Word}{n:Nat}(h:Sc.Out s l n):n<=4:=by
 rcases h with ⟨rfl,-⟩ | ⟨rfl,-⟩ | ⟨rfl,-⟩ <;> omega
theorem mU(tx:T->ByteArray)(p:Pub)(ok:Bool)(a b c:ByteArray){n:Nat}(hn:n<=4):(cX tx p ok a b c n).2.2<=100:=by
 have h:=oG tx p (fS p.st a b c);unfold cX;split
 ·simp
 split
 ·simp only; omega
 split
 ·simp
 split
 ·simp
 ·omega
theorem Cj(n:Nat):errT n<=5:=by
 match n with
 |0=>simp[errT]
 |1=>simp[errT]
 |n+2=>simp[errT]
theorem kr(r:Rul)(s:St)(kind:Int)(t:T)(n:Nat):lookM r s kind t n<=10:=by
 have b:look0 r s kind t n<=10:=by
  have:=Cj n;unfold look0;split
  ·omega
  split
  ·omega
  split
  ·omega
  split
  ·omega
  ·split <;> omega
 unfold lookM;split
 ·exact b
 ·split <;> omega
theorem kV(tx:T->ByteArray)(r:Rul)(p:Pub)(ok:Bool)(rq:ByteArray)(t:T)(n:Nat)(sc:ByteArray){m:Nat}(b:Bool)(hm:m<=4):(rotateM tx r p ok rq t n sc m b).2.2<=100:=by
 have h1:=kr r p.st 1 t n;have h2:=oG tx p (gP (famM p.st t) rq sc p.st.clock);have h3:=iA p (aI (cz (famM p.st t))) true;unfold rotateM;split
 ·simp
 split
 ·simp only; omega
 split
 ·unfold turnM
  split
  ·simp only; omega
  split
  ·simp
  split
  ·simp
  ·omega
 split
 ·simp
 ·unfold spoilM
  simp only;split <;> omega
theorem oH(tx:T->ByteArray)(r:Rul)(p:Pub)(t:T)(n:Nat):(mintM tx r p t n).2<=100:=by
 have h1:=kr r p.st 1 t n;unfold mintM;split
 ·simp only; omega
 ·split <;> simp
theorem oI(r:Rul)(p:Pub)(t:T)(n:Nat):(showM r p t n).2<=100:=by
 have h1:=kr r p.st 2 t n;unfold showM;split
 ·simp only; omega
 ·split <;> simp
theorem oJ(p:Pub)(i:Int):(killM p i).2<=100:=by
 unfold killM;split
 ·simp
 ·split
  ·simp
  ·have:=iA p (aI (cz ‹_›)) true
   omega
theorem oK(p:Pub)(i:Int):(eX p i).2<=100:=by
 unfold eX;split
 ·simp
 ·have:=iA p (mH (aZ p.st.clock i)) true
  omega
theorem mV(r:Rul)(p:Pub):(sweepM r p).2.2<=100:=by
 unfold sweepM;split
 ·simp
 ·rename_i f _
  have:=iA p (dE f.id) true;simp only;omega
theorem Dq{n:Int}(h:okN n):-9223372036854775808<=n∧n<=9223372036854775807:=by
 obtain⟨h1,h2⟩:=h;omega
theorem oL{r:Rul}{p:Pub}(h:Ev.dy p.st):-9223372036854775808<=(sweepM r p).2.1∧(sweepM r p).2.1<=9223372036854775807:=by
 unfold sweepM;split
 ·simp
 ·rename_i f hf
  have b:=Dq (h.may f (List.mem_of_find?_eq_some hf)).1.1.1;simp only;split
  ·exact b
  ·omega
theorem jt(r:Rul):txtB r=ll r:=rfl
theorem Tok.out_any(g:List UInt8->List UInt8)(x:List UInt8):∃t n,Tok.Out g x t n:=by
 by_cases h:∃t tag,j1 x t tag
 ·obtain⟨t,tag,hf⟩:=h
  by_cases e:tag=g (body t)
  ·exact⟨t,0,Out.good t tag hf e⟩
  ·exact⟨zero,2,Out.name t tag hf e⟩
 ·exact⟨zero,1,Out.form (fun t tag hf=>h ⟨t,tag,hf⟩)⟩
structure DkS (N:Nat) (w:World) (gk gm gd gs:Nat) (d:Dk):Prop where
 st:∃gv v,DkI N w gk gd gs gv gm d.r d.p v
 ord:js w gk gm
 old:bE gk
theorem DkI.noInt{N:Nat}{w:World}{gk gd gs gv gm:Nat}{r:Rul}{p:Pub}{v:Value}(h:DkI N w gk gd gs gv gm r p v):∀x∈ [gk,gd,gs],∀k:Int,w.cell? ⟨x,0,none⟩≠some (.int .i64 k):=by
 obtain⟨A,F,l',hd,-⟩:=h.sv.sp.disk;obtain⟨sv,hs⟩:=h.sv.sp.store;intro x hx k;simp only[List.mem_cons,List.not_mem_nil,or_false] at hx;rcases hx with rfl | rfl | rfl
 ·rw[h.box.c0]; simp
 ·rw[hd.blk 0 (by omega)]; simp
 ·rw[hs.p0]; simp
theorem js.ne{w:World}{gk gd gs gv gm:Nat}{r:Rul}(h:js w gk gm)(hb:DAt w gk gd gs gv gm r):gm≠gk:=by
 rintro rfl
 have:=h.noCell 0;rw[hb.c0] at this
 cases this
theorem DkS.on{N:Nat}{w w':World}{gk gm gd gs:Nat}{d:Dk}(h:DkS N w gk gm gd gs d)(hb:Below w.heap.size w w'):DkS N w' gk gm gd gs d:=by
 obtain⟨gv,v,hI⟩:=h.st;exact⟨⟨gv,v,hI.on hb⟩,h.ord.on hb,h.old⟩
theorem DkS.mono{N M:Nat}{w:World}{gk gm gd gs:Nat}{d:Dk}(h:DkS N w gk gm gd gs d)(hm:N<=M):DkS M w gk gm gd gs d:=by
 obtain⟨gv,v,hI⟩:=h.st;exact⟨⟨gv,v,hI.mono hm⟩,h.ord,h.old⟩
def jP(w:World)(gk gs t:Nat):Prop:=(∀v,w.cell? ⟨gs,6,none⟩=some v->az v t)∧∀gv,w.cell? ⟨gk,2,none⟩=some (.pointer (some ⟨gv,0,none⟩))->t≠gv
theorem DkI.far{N:Nat}{w:World}{gk gd gs gv gm:Nat}{r:Rul}{p:Pub}{v:Value}(h:DkI N w gk gd gs gv gm r p v){t:Nat}:jP w gk gs t↔az v t∧t≠gv:=by
 obtain⟨sv,hs⟩:=h.sv.sp.store;constructor
 ·rintro ⟨h1,h2⟩
  exact⟨h1 v hs.p6,h2 gv h.box.c2⟩
 ·rintro ⟨h1,h2⟩
  refine⟨fun v' hv'=>?_,fun gv' hg=>?_⟩
  ·rw[hs.p6] at hv'
   cases hv'
   exact h1
  ·rw[h.box.c2] at hg
   cases hg
   exact h2
theorem jP.on{w w':World}{gk gs t:Nat}(h:jP w gk gs t)(hb:Below w.heap.size w w')(h1:gk<w.heap.size)(h2:gs<w.heap.size):jP w' gk gs t:=
 ⟨fun v hv=>h.1 v ((hb.cell (p:=(a_ gs 6)) h2).symm.trans hv),fun gv hg=>h.2 gv ((hb.cell (p:=(a_ gk 2)) h1).symm.trans hg)⟩
theorem DkS.lts{N:Nat}{w:World}{gk gm gd gs:Nat}{d:Dk}(h:DkS N w gk gm gd gs d):gk<w.heap.size∧gd<w.heap.size∧gs<w.heap.size∧gm<w.heap.size:=by
 obtain⟨gv,v,hI⟩:=h.st;have h1:=hI.sv.sp.ord;have b:=hI.sv.sp.lt;exact⟨hI.box.lt,by omega,b,hI.ml⟩
def cR(N:Nat)(w w':World)(gk gm gd gs:Nat)(d':Dk):Prop:=∃gd' gs',DkS (N+22) w' gk gm gd' gs' d'∧af [gk,gd,gs] w w'∧(gd'=gd∨w.heap.size<=gd')∧(gs'=gs∨w.heap.size<=gs')∧∀t,t<w.heap.size->jP w gk gs t->jP w' gk gs' t
theorem cR.same{N:Nat}{w w':World}{gk gm gd gs:Nat}{d:Dk}(h:DkS N w gk gm gd gs d)(hb:Below w.heap.size w w'):cR N w w' gk gm gd gs d:=
 ⟨gd,gs,(h.on hb).mono (by omega),af.of _ hb,.inl rfl,.inl rfl,fun _ _ hf=>hf.on hb h.lts.1 h.lts.2.2.1⟩
theorem cR.sv{N:Nat}{w w':World}{gk gm gd gs gv:Nat}{d:Dk}{q:Pub}{v v':Value}(h:DkI N w gk gd gs gv gm d.r d.p v)(ho:js w gk gm)(hol:bE gk)(ht:aD N gs gd v w w' q v'):cR N w w' gk gm gd gs ⟨d.r,q⟩:=by
 have b:=h.to ht;refine⟨gd,gs,⟨⟨gv,v',b⟩,ho.keep ht.keep (by have:=h.ne; simp; omega) (fun x hx=>h.noInt x (by simp at hx ⊢; exact .inr hx)),hol⟩,ht.keep.mono (by simp),.inl rfl,.inl rfl,fun t hlt hf=>?_⟩
 obtain⟨h1,h2⟩:=h.far.1 hf;exact b.far.2 ⟨ht.notIn h1 hlt,h2⟩
theorem cR.post{N:Nat}{w w1 w':World}{gk gm gd gs:Nat}{d:Dk}(h:cR N w w1 gk gm gd gs d)(hb:Below w1.heap.size w1 w'):cR N w w' gk gm gd gs d:=by
 obtain⟨gd',gs',q1,q2,q3,q4,q5⟩:=h;exact⟨gd',gs',q1.on hb,q2.then hb,q3,q4,fun t ht hf=>(q5 t ht hf).on hb q1.lts.1 q1.lts.2.2.1⟩
theorem DkS.elsewhere{N:Nat}{w w':World}{gk gm gd gs:Nat}{d:Dk}{l:List Nat}(h:DkS N w gk gm gd gs d)(hk:af l w w')(hl:∀t∈l,gk<t∧t≠gd∧t≠gs∧t≠gm∧jP w gk gs t∧∀k:Int,w.cell? ⟨t,0,none⟩≠some (.int .i64 k)):DkS N w' gk gm gd gs d:=by
 obtain⟨gv,v,hI⟩:=h.st;have b:gk∉l:=fun hx=>by have:=(hl gk hx).1; omega
 have c:gm∉l:=fun hx=>(hl gm hx).2.2.2.1 rfl;refine⟨⟨gv,v,hI.sv.elsewhereB hk (B:=gk) (Fx hI.box.lt) h.old (fun x hx=>?_),hI.box.keep hk b,hI.ne,hI.out,Fd hI.ml hk.size⟩,h.ord.keep hk c (fun x hx=>(hl x hx).2.2.2.2.2),h.old⟩;obtain⟨q1,q2,q3,q4,q5,q6⟩:=hl x hx;obtain⟨q7,q8⟩:=hI.far.1 q5;exact⟨by omega,q2,q3,q8,q7⟩
theorem jP.elsewhere{w w':World}{gk gs t:Nat}{l:List Nat}(h:jP w gk gs t)(hk:af l w w')(h1:gk<w.heap.size)(h2:gs<w.heap.size)(h3:gk∉l)(h4:gs∉l):jP w' gk gs t:=
 ⟨fun v hv=>h.1 v ((hk.cell (p:=(a_ gs 6)) h2 h4).symm.trans hv),fun gv hg=>h.2 gv ((hk.cell (p:=(a_ gk 2)) h1 h3).symm.trans hg)⟩
theorem cR.told{N:Nat}{w w2 w3:World}{gk gm gd gs:Nat}{d0 d:Dk}{x y:ByteArray}(h0:DkS N w gk gm gd gs d0)(hb:Below w.heap.size w w2)(hlt:w.heap.size<w2.heap.size)(h:cR N w2 w3 gk gm gd gs d)(hc:w3.cell? ⟨w.heap.size,0,none⟩=some (.string x)):cR N w (w3.setCell ⟨w.heap.size,0,none⟩ (.string y)) gk gm gd gs d:=by
 obtain⟨gd',gs',q1,q2,q3,q4,q5⟩:=h;obtain⟨l1,l2,l3,l4⟩:=h0.lts;obtain⟨gv,v,hI⟩:=h0.st;have g:jP w gk gs w.heap.size:=hI.far.2 ⟨az.past hI.sv.sp.fam (Fa _),by have:=hI.sv.box.lt; omega⟩
 have j:=q5 _ hlt (g.on hb l1 l3);have c:af [w.heap.size] w3 (w3.setCell (a_ w.heap.size 0) (.string y)):=(af.refl _ _).setCell (p:=(a_ w.heap.size 0)) (.inl (by simp)) _
 refine⟨gd',gs',q1.elsewhere c (fun t ht=>?_),?_,q3.imp id (fun h=>by omega),q4.imp id (fun h=>by omega),fun t ht g=>(q5 t (by omega) (g.on hb l1 l3)).elsewhere c q1.lts.1 q1.lts.2.2.1 (by simp; omega) (by simp; omega)⟩
 ·obtain rfl:t=w.heap.size:=by simpa using ht
  exact⟨l1,by omega,by omega,by omega,j,fun k=>by rw[hc]; simp⟩
 ·have f:af [gk,gd,gs] w w3:=(af.of _ hb).trans q2
  exact⟨c.os.trans f.os,c.tape.trans f.tape,c.output.trans f.output,Nat.le_trans f.size c.size,fun b hb1 hb2=>(c.block b (Nat.lt_of_lt_of_le hb1 f.size) (by simp; omega)).trans (f.block b hb1 hb2)⟩
def bT(N:Nat)(w:World)(gk gm gd gs:Nat)(d:Dk)(c:Word)(ws:List Word)(ns:List Int)(e:Ending)(w':World):Prop:=
 ∃(o:Dk × List UInt8 × Nat) (a:ByteArray),aW d c ws ns o∧e=fY a o.2.2∧(o.2.2=0->a.data.toList=o.2.1)∧o.2.2<=100∧cR N w w' gk gm gd gs o.1
theorem bsL(x:Word):(Ev.bs x).data.toList=x:=by simp[Ev.bs]
theorem lK{d:Dk}{ws:List Word}{ns:List Int}{o:Dk × List UInt8 × Nat}(h:∃k i l a,ns= [k,i,l,a]∧o=(if dB ⟨k,i,l,a⟩=true then (⟨⟨k,i,l,a⟩,fU⟩,dg,0) else (d,[],2))):aW d dg ws ns o:=by
 unfold aW;rw[if_pos rfl];exact h
theorem sA{d:Dk}{ws:List Word}{ns:List Int}{o:Dk × List UInt8 × Nat}(h:o=(CN d,bM,0)):aW d bM ws ns o:=by
 unfold aW;rw[if_neg (by decide),if_pos rfl]
 exact h
theorem oM{d:Dk}{ws:List Word}{ns:List Int}{o:Dk × List UInt8 × Nat}(h:∃x y z l n,ws= [x,y,z]∧Sc.Out (aG z) l n∧o=sj (cX (ll d.r) d.p (am x && am y) (Ev.bs x) (Ev.bs y) (Ev.bs (ae l)) n) d.r):aW d bj ws ns o:=by
 unfold aW;rw[if_neg (by decide),if_neg (by decide),if_pos rfl]
 exact h
theorem mW{d:Dk}{ws:List Word}{ns:List Int}{o:Dk × List UInt8 × Nat}(h:∃x y z t n l m b,ws= [x,y,z]∧Tok.Out (mR d.r.key) x t n∧Sc.Out (aG z) l m∧(lookM d.r d.p.st 1 t n=0->m=0->fp (ae l) (famM d.p.st t).scope.data.toList b 0)∧((lookM d.r d.p.st 1 t n≠0∨m≠0)->b=false)∧o=sj (rotateM (ll d.r) d.r d.p (am (aG y)) (Ev.bs (aG y)) t n (Ev.bs (ae l)) m b) d.r):aW d aR ws ns o:=by
 unfold aW;rw[if_neg (by decide),if_neg (by decide),if_neg (by decide),if_pos rfl]
 exact h
theorem sB{d:Dk}{ws:List Word}{ns:List Int}{o:Dk × List UInt8 × Nat}(h:∃x t n,ws= [x]∧Tok.Out (mR d.r.key) x t n∧o=(d,(mintM (ll d.r) d.r d.p t n).1.data.toList,(mintM (ll d.r) d.r d.p t n).2)):aW d cA ws ns o:=by
 unfold aW;rw[if_neg (by decide),if_neg (by decide),if_neg (by decide),if_neg (by decide),if_pos rfl]
 exact h
theorem sC{d:Dk}{ws:List Word}{ns:List Int}{o:Dk × List UInt8 × Nat}(h:∃x t n,ws= [x]∧Tok.Out (mR d.r.key) x t n∧o=(d,famL (showM d.r d.p t n).1,(showM d.r d.p t n).2)):aW d cI ws ns o:=by
 unfold aW;rw[if_neg (by decide),if_neg (by decide),if_neg (by decide),if_neg (by decide),if_neg (by decide),if_pos rfl]
 exact h
theorem sD{d:Dk}{ws:List Word}{ns:List Int}{o:Dk × List UInt8 × Nat}(h:∃i,ns= [i]∧o=(⟨d.r,(killM d.p i).1⟩,cu,(killM d.p i).2)):aW d cu ws ns o:=by
 unfold aW;rw[if_neg (by decide),if_neg (by decide),if_neg (by decide),if_neg (by decide),if_neg (by decide),if_neg (by decide),if_pos rfl]
 exact h
theorem sE{d:Dk}{ws:List Word}{ns:List Int}{o:Dk × List UInt8 × Nat}(h:o=(⟨d.r,(aH d.p).1⟩,cC,(aH d.p).2)):aW d cC ws ns o:=by
 unfold aW;rw[if_neg (by decide),if_neg (by decide),if_neg (by decide),if_neg (by decide),if_neg (by decide),if_neg (by decide),if_neg (by decide),if_pos rfl]
 exact h
theorem we{d:Dk}{ws:List Word}{ns:List Int}{o:Dk × List UInt8 × Nat}(h:∃i,ns= [i]∧o=(⟨d.r,pL d.p i⟩,dS,0)):aW d dS ws ns o:=by
 unfold aW;rw[if_neg (by decide),if_neg (by decide),if_neg (by decide),if_neg (by decide),if_neg (by decide),if_neg (by decide),if_neg (by decide),if_neg (by decide),if_pos rfl]
 exact h
theorem sF{d:Dk}{ws:List Word}{ns:List Int}{o:Dk × List UInt8 × Nat}(h:∃i,ns= [i]∧o=(⟨d.r,(eX d.p i).1⟩,Lib.itoa (eX d.p i).1.st.clock,(eX d.p i).2)):aW d dd ws ns o:=by
 unfold aW;rw[if_neg (by decide),if_neg (by decide),if_neg (by decide),if_neg (by decide),if_neg (by decide),if_neg (by decide),if_neg (by decide),if_neg (by decide),if_neg (by decide),if_pos rfl]
 exact h
theorem oN{d:Dk}{ws:List Word}{ns:List Int}{o:Dk × List UInt8 × Nat}(h:o=(⟨d.r,(sweepM d.r d.p).1⟩,Lib.itoa (sweepM d.r d.p).2.1,(sweepM d.r d.p).2.2)):aW d bY ws ns o:=by
 unfold aW;rw[if_neg (by decide),if_neg (by decide),if_neg (by decide),if_neg (by decide),if_neg (by decide),if_neg (by decide),if_neg (by decide),if_neg (by decide),if_neg (by decide),if_neg (by decide),if_pos rfl]
 exact h
theorem mX{d:Dk}{ws:List Word}{ns:List Int}{o:Dk × List UInt8 × Nat}(h:o=(d,Lib.itoa d.p.n,0)):aW d bC ws ns o:=by
 unfold aW;rw[if_neg (by decide),if_neg (by decide),if_neg (by decide),if_neg (by decide),if_neg (by decide),if_neg (by decide),if_neg (by decide),if_neg (by decide),if_neg (by decide),if_neg (by decide),if_neg (by decide),if_pos rfl]
 exact h
theorem wf{d:Dk}{ws:List Word}{ns:List Int}{o:Dk × List UInt8 × Nat}(h:o=(d,Lib.itoa d.p.lg ++ 32::dN d.p.dn,0)):aW d fJ ws ns o:=by
 unfold aW;rw[if_neg (by decide),if_neg (by decide),if_neg (by decide),if_neg (by decide),if_neg (by decide),if_neg (by decide),if_neg (by decide),if_neg (by decide),if_neg (by decide),if_neg (by decide),if_neg (by decide),if_neg (by decide),if_pos rfl]
 exact h
theorem sG{d:Dk}{ws:List Word}{ns:List Int}{o:Dk × List UInt8 × Nat}(h:o=(d,fI d.p.st,0)):aW d dF ws ns o:=by
 unfold aW;rw[if_neg (by decide),if_neg (by decide),if_neg (by decide),if_neg (by decide),if_neg (by decide),if_neg (by decide),if_neg (by decide),if_neg (by decide),if_neg (by decide),if_neg (by decide),if_neg (by decide),if_neg (by decide),if_neg (by decide),if_pos rfl]
 exact h
theorem oO{d:Dk}{ws:List Word}{ns:List Int}{o:Dk × List UInt8 × Nat}(h:∃x l n,ws= [x]∧Sc.Out (aG x) l n∧o=(d,wordL (ae l),n)):aW d cY ws ns o:=by
 unfold aW;rw[if_neg (by decide),if_neg (by decide),if_neg (by decide),if_neg (by decide),if_neg (by decide),if_neg (by decide),if_neg (by decide),if_neg (by decide),if_neg (by decide),if_neg (by decide),if_neg (by decide),if_neg (by decide),if_neg (by decide),if_neg (by decide),if_pos rfl]
 exact h
theorem wg{d:Dk}{ws:List Word}{ns:List Int}{o:Dk × List UInt8 × Nat}(h:∃i x y,ns= [i]∧ws= [x,y]∧o=(d,mR i y,0)):aW d gT ws ns o:=by
 unfold aW;rw[if_neg (by decide),if_neg (by decide),if_neg (by decide),if_neg (by decide),if_neg (by decide),if_neg (by decide),if_neg (by decide),if_neg (by decide),if_neg (by decide),if_neg (by decide),if_neg (by decide),if_neg (by decide),if_neg (by decide),if_neg (by decide),if_neg (by decide),if_pos rfl]
 exact h
theorem gc{d:Dk}{ws:List Word}{ns:List Int}{o:Dk × List UInt8 × Nat}(h:∃x a b e ys,ns= [a,b,e]∧ws=x::ys∧o=(if cw x=0 then (d,[],3) else if mayB ⟨cw x,a,b,e⟩=true then (d,(ll d.r ⟨cw x,a,b,e⟩).data.toList,0) else (d,[],1))):aW d dh ws ns o:=by
 unfold aW;rw[if_neg (by decide),if_neg (by decide),if_neg (by decide),if_neg (by decide),if_neg (by decide),if_neg (by decide),if_neg (by decide),if_neg (by decide),if_neg (by decide),if_neg (by decide),if_neg (by decide),if_neg (by decide),if_neg (by decide),if_neg (by decide),if_neg (by decide),if_neg (by decide),if_pos rfl]
 exact h
theorem sH{d:Dk}{ws:List Word}{ns:List Int}{o:Dk × List UInt8 × Nat}(h:o=(d,vW,0)):aW d fV ws ns o:=by
 unfold aW;rw[if_neg (by decide),if_neg (by decide),if_neg (by decide),if_neg (by decide),if_neg (by decide),if_neg (by decide),if_neg (by decide),if_neg (by decide),if_neg (by decide),if_neg (by decide),if_neg (by decide),if_neg (by decide),if_neg (by decide),if_neg (by decide),if_neg (by decide),if_neg (by decide),if_neg (by decide)]
 exact h
section
variable {N : Nat} {w : World} {gk gm gd gs : Nat} {d : Dk}
theorem Dr{gn nt ct nn cn:Nat}{bt:Option Addr}{k i l a:Int}{ws:List Word}(h:DkS N w gk gm gd gs d)(h0:N4 w gn k i l a)(hn:3<nn):
 Calls prog 227 #[p_ gk 0,.agg #[.slice bt nt ct,.slice (o_ gn 0) nn cn]] w (bT N w gk gm gd gs d dg ws [k,i,l,a]):=by
 obtain⟨gv,v,hI⟩:=h.st
 cases hr:dB ⟨k,i,l,a⟩ with
 |true=>
  refine (xJ N w gk gd gs gv gm gn nt ct bt nn cn d.r d.p v k i l a hI h.old h0 hn hr).mono ?_;rintro e w' ⟨rfl,gd',gs',gv',v',h1,h2,h3,h4⟩;refine⟨_,⟨#[110,101,119]⟩,lK ⟨k,i,l,a,rfl,if_pos hr |>.symm⟩,rfl,fun _=>rfl,by simp,gd',gs',⟨⟨gv',v',h1.mono (by omega)⟩,?_,h.old⟩,h2.mono (by simp),.inr h3,.inr h4,fun t ht _=>h1.far.2 ⟨az.above h1.sv.sp.fam (by omega),by have:=h1.sv.ord; omega⟩⟩
  exact h.ord.keep h2 (by simpa using h.ord.ne hI.box) (fun x hx=>hI.noInt x (by simp at hx ⊢; exact .inl hx))
 |false=>
  refine (Av N w gk gd gs gv gm gn nt ct bt nn cn d.r d.p v k i l a hI h.old h0 hn hr).mono ?_;rintro e w' ⟨rfl,hb⟩;exact⟨(d,[],2),⟨#[]⟩,lK ⟨k,i,l,a,rfl,(if_neg (by simp[hr])).symm⟩,rfl,fun h=>(by cases h),by simp,cR.same h hb⟩
theorem Ck{bt bn:Option Addr}{nt ct nn cn:Nat}{ws:List Word}{ns:List Int}(h:DkS N w gk gm gd gs d)(hN:N<97000):
 Calls prog 228 #[p_ gk 0,.agg #[.slice bt nt ct,.slice bn nn cn]] w (bT N w gk gm gd gs d bM ws ns):=by
 obtain⟨gv,v,hI⟩:=h.st;refine (Aw N w gk gd gs gv gm bt bn nt ct nn cn d.r d.p v hI h.old (by omega)).mono ?_;rintro e w' ⟨rfl,gs',gv',v',h1,h2,h3⟩;refine⟨_,⟨#[111,112,101,110]⟩,sA rfl,rfl,fun _=>rfl,by simp,gd,gs',⟨⟨gv',v',h1.mono (by omega)⟩,?_,h.old⟩,h2.mono (by simp),.inl rfl,.inr h3,fun t ht _=>h1.far.2 ⟨az.above h1.sv.sp.fam (by omega),by have:=h1.sv.ord; omega⟩⟩
 exact h.ord.keep h2 (by have:=hI.ne; have:=h.ord.ne hI.box; simp; omega) (fun x hx=>hI.noInt x (by simp at hx ⊢; omega))
theorem AL{gt nt ct:Nat}{bn:Option Addr}{nn cn:Nat}{x y z:Word}{ns:List Int}(h:DkS N w gk gm gd gs d)(h0:w.cell? ⟨gt,0,none⟩=some (.string (Ev.bs x)))(h1:w.cell? ⟨gt,1,none⟩=some (.string (Ev.bs y)))(h2:w.cell? ⟨gt,2,none⟩=some (.string (Ev.bs (aG z))))(hgt:gt≠gd∧gt≠gs)(hn:2<nt)(hx:x.length<=5000)(hy:y.length<=5000)(hz:(aG z).length<=5000)(hN:N<97000):
 Calls prog 229 #[p_ gk 0,.agg #[.slice (o_ gt 0) nt ct,.slice bn nn cn]] w (bT N w gk gm gd gs d bj [x,y,z] ns):=by
 obtain⟨gv,v,hI⟩:=h.st;obtain⟨l,m,hout⟩:=Sc.gY (aG z);refine (xL N w gk gd gs gv gm gt nt ct bn nn cn d.r d.p _ v (Ev.bs x) (Ev.bs y) (Ev.bs (aG z)) _ _ hI h0 h1 h2 hgt hn (fun W hW=>Ai N W gv gs gd d.r d.p v (Ev.bs x) (Ev.bs y) (Ev.bs (aG z)) l m hW (by rw[aT]; exact hx) (by rw[aT]; exact hy) (by rw[aT]; exact hz) (by rw[bsL]; exact hout) (by omega))).mono ?_
 rintro e w' ⟨rfl,v',hto⟩;rw[bsL,bsL,jt] at *;exact⟨_,_,oM ⟨x,y,z,l,m,rfl,hout,rfl⟩,rfl,fun _=>rfl,mU _ _ _ _ _ _ (eM hout),cR.sv hI h.ord h.old hto⟩
theorem xP{gt nt ct:Nat}{bn:Option Addr}{nn cn:Nat}{x y z:Word}{ns:List Int}(h:DkS N w gk gm gd gs d)(h0:w.cell? ⟨gt,0,none⟩=some (.string (Ev.bs x)))(h1:w.cell? ⟨gt,1,none⟩=some (.string (Ev.bs (aG y))))(h2:w.cell? ⟨gt,2,none⟩=some (.string (Ev.bs (aG z))))(hgt:gt≠gd∧gt≠gs)(hn:2<nt)(hx:x.length<=5000)(hy:(aG y).length<=5000)(hz:(aG z).length<=5000)(hN:N<97000):
 Calls prog 230 #[p_ gk 0,.agg #[.slice (o_ gt 0) nt ct,.slice bn nn cn]] w (bT N w gk gm gd gs d aR [x,y,z] ns):=by
 obtain⟨gv,v,hI⟩:=h.st;obtain⟨l,m,hout⟩:=Sc.gY (aG z);obtain⟨t,n,htok⟩:=Tok.out_any (tag d.r.key) x
 obtain⟨b,hb1,hb2⟩:∃b,(lookM d.r d.p.st 1 t n=0->m=0->fp (ae l) (famM d.p.st t).scope.data.toList b 0)∧((lookM d.r d.p.st 1 t n≠0∨m≠0)->b=false):=by
  by_cases hk:lookM d.r d.p.st 1 t n=0
  ·by_cases hm:m=0
   ·subst hm
    have c:bP (famM d.p.st t):=dw hI.sv.sp.ok.good (du (look_ok hk).1).2.2.1;obtain⟨l2,q2,-⟩:=c.2.2.2.2;exact⟨inB l l2,fun _ _=>⟨l,0,l2,0,eR hout,q2,.inr (.inr ⟨rfl,rfl,rfl,rfl⟩)⟩,fun h=>by rcases h with h | h; exact absurd hk h; exact absurd rfl h⟩
   ·exact⟨false,fun _ h=>absurd h hm,fun _=>rfl⟩
  ·exact⟨false,fun h=>absurd h hk,fun _=>rfl⟩
 refine (uB N w gk gd gs gv gm gt nt ct bn nn cn d.r d.p _ v (Ev.bs x) (Ev.bs (aG y)) (Ev.bs (aG z)) _ _ hI h0 h1 h2 hgt hn (fun W hW=>xH N W gv gs gd d.r d.p v (Ev.bs x) (Ev.bs (aG y)) (Ev.bs (aG z)) t n l m b hW (by rw[aT]; exact hx) (by rw[aT]; exact hy) (by rw[aT]; exact hz) (by rw[bsL]; exact htok) (by rw[bsL]; exact hout) hb1 (by omega))).mono ?_
 rintro e w' ⟨rfl,v',hto⟩;rw[bsL,jt] at *;exact⟨_,_,mW ⟨x,y,z,t,n,l,m,b,rfl,htok,hout,hb1,hb2,rfl⟩,rfl,fun _=>rfl,kV _ _ _ _ _ _ _ _ _ (eM hout),cR.sv hI h.ord h.old hto⟩
theorem Cl{gt nt ct:Nat}{bn:Option Addr}{nn cn:Nat}{x:Word}{ns:List Int}(h:DkS N w gk gm gd gs d)(h0:w.cell? ⟨gt,0,none⟩=some (.string (Ev.bs x)))(hgt:gt≠gd∧gt≠gs)(hn:0<nt)(hx:x.length<=5000):
 Calls prog 231 #[p_ gk 0,.agg #[.slice (o_ gt 0) nt ct,.slice bn nn cn]] w (bT N w gk gm gd gs d cA [x] ns):=by
 obtain⟨gv,v,hI⟩:=h.st;obtain⟨t,n,htok⟩:=Tok.out_any (tag d.r.key) x;refine (AF N w gk gd gs gv gm gt nt ct bn nn cn d.r d.p d.p v (Ev.bs x) _ _ hI h0 hgt hn (fun W hW=>(B7 N W gv gs gd d.r d.p v (Ev.bs x) t n hW (by rw[aT]; exact hx) (by rw[bsL]; exact htok)).mono (fun e w' q=>⟨q.1,v,aD.same hW.sp q.2⟩))).mono ?_
 rintro e w' ⟨rfl,v',hto⟩;rw[jt] at *;exact⟨_,_,sB ⟨x,t,n,rfl,htok,rfl⟩,rfl,fun _=>rfl,oH _ _ _ _ _,cR.sv (d:=d) hI h.ord h.old hto⟩
theorem Cm{gt nt ct:Nat}{bn:Option Addr}{nn cn:Nat}{x:Word}{ns:List Int}(h:DkS N w gk gm gd gs d)(h0:w.cell? ⟨gt,0,none⟩=some (.string (Ev.bs x)))(hgt:gt≠gd∧gt≠gs)(hn:0<nt)(hx:x.length<=5000):
 Calls prog 232 #[p_ gk 0,.agg #[.slice (o_ gt 0) nt ct,.slice bn nn cn]] w (bT N w gk gm gd gs d cI [x] ns):=by
 obtain⟨gv,v,hI⟩:=h.st;obtain⟨t,n,htok⟩:=Tok.out_any (tag d.r.key) x
 have c:(showM d.r d.p t n).2=0->bP (showM d.r d.p t n).1∧(famL (showM d.r d.p t n).1).length<=100000:=fun hz=>by
  have b:bP (showM d.r d.p t n).1:=by
   unfold showM at hz ⊢;split at hz
   ·rename_i h5; exact absurd hz h5
   ·rename_i h5
    rw[if_neg h5];split at hz
    ·cases hz
    ·rename_i h6
     rw[if_neg h6];exact dw hI.sv.sp.ok.good (du (look_ok (by simpa using h5)).1).2.2.1
  exact⟨b,by have:=jN b; omega⟩
 refine (AK N w gk gd gs gv gm gt nt ct bn nn cn d.r d.p d.p v (Ev.bs x) (showM d.r d.p t n).1 (showM d.r d.p t n).2 hI h0 hgt hn c (fun W hW=>(B8 N W gv gs gd d.r d.p v (Ev.bs x) t n hW (by rw[aT]; exact hx) (by rw[bsL]; exact htok)).mono (fun e w' q=>⟨q.1,v,aD.same hW.sp q.2⟩))).mono ?_
 rintro e w' ⟨rfl,v',hto⟩;exact⟨_,_,sC ⟨x,t,n,rfl,htok,rfl⟩,rfl,fun _=>rfl,oI _ _ _ _,cR.sv (d:=d) hI h.ord h.old hto⟩
theorem Cn{gn nt ct nn cn:Nat}{bt:Option Addr}{i:Int}{ws:List Word}(h:DkS N w gk gm gd gs d)(h0:w.cell? ⟨gn,0,none⟩=some (.int .i64 i))(hgt:gn≠gd∧gn≠gs)(hn:0<nn)(hN:N<97000):
 Calls prog 233 #[p_ gk 0,.agg #[.slice bt nt ct,.slice (o_ gn 0) nn cn]] w (bT N w gk gm gd gs d cu ws [i]):=by
 obtain⟨gv,v,hI⟩:=h.st;refine (At N w gk gd gs gv gm gn nt ct bt nn cn d.r d.p _ v i _ hI h0 hgt hn (fun W hW=>B6 N W gv gs gd d.r d.p v i hW (by omega))).mono ?_;rintro e w' ⟨rfl,v',hto⟩;exact⟨_,_,sD ⟨i,rfl,rfl⟩,rfl,fun _=>rfl,oJ _ _,cR.sv hI h.ord h.old hto⟩
theorem Co{bt bn:Option Addr}{nt ct nn cn:Nat}{ws:List Word}{ns:List Int}(h:DkS N w gk gm gd gs d)(hN:N<97000):
 Calls prog 234 #[p_ gk 0,.agg #[.slice bt nt ct,.slice bn nn cn]] w (bT N w gk gm gd gs d cC ws ns):=by
 obtain⟨gv,v,hI⟩:=h.st;refine (AG N w gk gd gs gv gm bt bn nt ct nn cn d.r d.p (aH d.p).1 v (aH d.p).2 hI (fun W hW=>(zT N W gs gd d.p v hW.sp (by omega)).mono (fun e w' q=>⟨q.1,v,q.2.1,q.2.2,.inl rfl⟩))).mono ?_;rintro e w' ⟨rfl,v',hto⟩;exact⟨_,_,sE rfl,rfl,fun _=>rfl,by have:=kq d.p; simp only; omega,cR.sv hI h.ord h.old hto⟩
theorem Ds{gn nt ct nn cn:Nat}{bt:Option Addr}{i:Int}{ws:List Word}(h:DkS N w gk gm gd gs d)(h0:w.cell? ⟨gn,0,none⟩=some (.int .i64 i))(hi:i<=9223372036854775807)(hn:0<nn):
 Calls prog 235 #[p_ gk 0,.agg #[.slice bt nt ct,.slice (o_ gn 0) nn cn]] w (bT N w gk gm gd gs d dS ws [i]):=by
 obtain⟨gv,v,hI⟩:=h.st;refine (Ce N w gk gd gs gv gm gn nt ct bt nn cn d.r d.p (pL d.p i) v i hI h0 hn (fun W hW=>(vQ N W gs gd d.p v i hi hW.sp).mono (fun e w' q=>⟨q.1,v,q.2.1.mono (by omega),q.2.2.mono (by simp),.inl rfl⟩))).mono ?_;rintro e w' ⟨rfl,v',hto⟩;exact⟨_,⟨#[99,117,116]⟩,we ⟨i,rfl,rfl⟩,rfl,fun _=>rfl,by simp,cR.sv hI h.ord h.old hto⟩
theorem Cp{gn nt ct nn cn:Nat}{bt:Option Addr}{i:Int}{ws:List Word}(h:DkS N w gk gm gd gs d)(h0:w.cell? ⟨gn,0,none⟩=some (.int .i64 i))(hgt:gn≠gd∧gn≠gs)(hn:0<nn)(hN:N<97000):
 Calls prog 236 #[p_ gk 0,.agg #[.slice bt nt ct,.slice (o_ gn 0) nn cn]] w (bT N w gk gm gd gs d dd ws [i]):=by
 obtain⟨gv,v,hI⟩:=h.st;refine (Au N w gk gd gs gv gm gn nt ct bt nn cn d.r d.p _ v i _ hI h0 hgt hn (fun W hW=>B5 N W gv gs gd d.r d.p v i hW (by omega))).mono ?_;rintro e w' ⟨rfl,v',hto⟩;exact⟨_,_,sF ⟨i,rfl,rfl⟩,rfl,fun _=>rfl,oK _ _,cR.sv hI h.ord h.old hto⟩
theorem AM{bt bn:Option Addr}{nt ct nn cn:Nat}{ws:List Word}{ns:List Int}(h:DkS N w gk gm gd gs d)(hN:N<97000):
 Calls prog 237 #[p_ gk 0,.agg #[.slice bt nt ct,.slice bn nn cn]] w (bT N w gk gm gd gs d bY ws ns):=by
 obtain⟨gv,v,hI⟩:=h.st;refine (xM N w gk gd gs gv gm bt bn nt ct nn cn d.r d.p _ v _ _ hI (oL hI.sv.sp.ok.good) (fun W hW=>Ah N W gv gs gd d.r d.p v hW (by omega))).mono ?_;rintro e w' ⟨rfl,v',hto⟩;exact⟨_,_,oN rfl,rfl,fun _=>rfl,mV _ _,cR.sv hI h.ord h.old hto⟩
theorem xQ{bt bn:Option Addr}{nt ct nn cn:Nat}{ws:List Word}{ns:List Int}(h:DkS N w gk gm gd gs d)(hN:N<97000):
 Calls prog 238 #[p_ gk 0,.agg #[.slice bt nt ct,.slice bn nn cn]] w (bT N w gk gm gd gs d bC ws ns):=by
 obtain⟨gv,v,hI⟩:=h.st;refine (uC N w gk gd gs gv gm bt bn nt ct nn cn d.r d.p v hI (by have:=hI.sv.sp.ok.few; omega)).mono ?_
 rintro e w' ⟨rfl,hb⟩;exact⟨_,_,mX rfl,(fZ _).symm,fun _=>rfl,by simp,cR.same h hb⟩
theorem Dt{bt bn:Option Addr}{nt ct nn cn:Nat}{ws:List Word}{ns:List Int}(h:DkS N w gk gm gd gs d):
 Calls prog 239 #[p_ gk 0,.agg #[.slice bt nt ct,.slice bn nn cn]] w (bT N w gk gm gd gs d fJ ws ns):=by
 obtain⟨gv,v,hI⟩:=h.st;refine (Ci N w gk gd gs gv gm bt bn nt ct nn cn d.r d.p v hI (by have:=hI.sv.sp.ok.low; unfold okN; omega)).mono ?_
 rintro e w' ⟨rfl,hb⟩;exact⟨_,_,wf rfl,(fZ _).symm,fun _=>rfl,by simp,cR.same h hb⟩
theorem Cq{bt bn:Option Addr}{nt ct nn cn:Nat}{ws:List Word}{ns:List Int}(h:DkS N w gk gm gd gs d):
 Calls prog 240 #[p_ gk 0,.agg #[.slice bt nt ct,.slice bn nn cn]] w (bT N w gk gm gd gs d dF ws ns):=by
 obtain⟨gv,v,hI⟩:=h.st;refine (p9 N w gk gd gs gv gm bt bn nt ct nn cn d.r d.p v hI).mono ?_;rintro e w' ⟨rfl,hb⟩;exact⟨_,_,sG rfl,(fZ _).symm,fun _=>rfl,by simp,cR.same h hb⟩
theorem Cr{bt bn:Option Addr}{nt ct nn cn:Nat}{ws:List Word}{ns:List Int}(h:DkS N w gk gm gd gs d):
 Calls prog 244 #[p_ gk 0,.agg #[.slice bt nt ct,.slice bn nn cn]] w (bT N w gk gm gd gs d fV ws ns):=by
 obtain⟨gv,v,hI⟩:=h.st;refine (Az w gk gm gd gs gv d.r bt bn nt ct nn cn hI.box h.ord).mono ?_;rintro e w' ⟨rfl,hb⟩;exact⟨_,_,sH rfl,(fZ _).symm,fun _=>rfl,by simp,cR.same h hb⟩
theorem AN{gt nt ct:Nat}{bn:Option Addr}{nn cn:Nat}{x:Word}{ns:List Int}(h:DkS N w gk gm gd gs d)(h0:w.cell? ⟨gt,0,none⟩=some (.string (Ev.bs (aG x))))(hn:0<nt)(hx:(aG x).length<=5000):
 Calls prog 241 #[p_ gk 0,.agg #[.slice (o_ gt 0) nt ct,.slice bn nn cn]] w (bT N w gk gm gd gs d cY [x] ns):=by
 obtain⟨gv,v,hI⟩:=h.st;obtain⟨l,m,hout⟩:=Sc.gY (aG x);refine (xO w _ gt nt ct bn nn cn (Ev.bs (aG x)) ⟨(ae l).toArray⟩ m h0 hn hI.sv.libs.base.err (fun W hW=>(j9 (Ev.bs (aG x)) W (by rw[aT]; exact hx) (hI.sv.libs.on hW).len).mono (fun e w' q=>?_))).mono ?_
 ·obtain⟨l2,m2,rfl,q2,q3⟩:=q
  rw[bsL] at q2;obtain⟨rfl,rfl⟩:=Sc.out_inj hout q2;exact⟨rfl,q3⟩
 rintro e w' ⟨rfl,hb⟩;exact⟨_,_,oO ⟨x,l,m,rfl,hout,rfl⟩,rfl,fun _=>oE _,by have:=eM hout; simp only; omega,cR.same h hb⟩
theorem Du{gt gn nt ct nn cn:Nat}{x y:Word}{i:Int}(h:DkS N w gk gm gd gs d)(h0:w.cell? ⟨gt,0,none⟩=some (.string (Ev.bs y)))(k0:w.cell? ⟨gn,0,none⟩=some (.int .i64 i))(hn:0<nt)(hm:0<nn)(hy:y.length<=5000):
 Calls prog 242 #[p_ gk 0,.agg #[.slice (o_ gt 0) nt ct,.slice (o_ gn 0) nn cn]] w (bT N w gk gm gd gs d gT [x,y] [i]):=by
 refine (Cd _ gt gn nt ct nn cn (Ev.bs y) i w h0 k0 hn hm (by rw[aT]; omega)).mono ?_
 rintro e w' ⟨rfl,hb⟩;rw[bsL];exact⟨_,_,wg ⟨i,x,y,rfl,rfl,rfl⟩,(fZ _).symm,fun _=>rfl,by simp,cR.same h hb⟩
theorem lL(x:Word):ep (Ev.bs x)=cw x:=by
 unfold ep cw;rw[bsL]
theorem AO{gt gn nt ct nn cn:Nat}{x:Word}{ys:List Word}{a b c:Int}(h:DkS N w gk gm gd gs d)(h0:w.cell? ⟨gt,0,none⟩=some (.string (Ev.bs x)))(k0:w.cell? ⟨gn,0,none⟩=some (.int .i64 a))(k1:w.cell? ⟨gn,1,none⟩=some (.int .i64 b))(k2:w.cell? ⟨gn,2,none⟩=some (.int .i64 c))(hn:0<nt)(hm:2<nn):
 Calls prog 243 #[p_ gk 0,.agg #[.slice (o_ gt 0) nt ct,.slice (o_ gn 0) nn cn]] w (bT N w gk gm gd gs d dh (x::ys) [a,b,c]):=by
 obtain⟨gv,v,hI⟩:=h.st;by_cases hk:cw x=0
 ·refine (uD w gk gd gs gv gm gt gn nt ct nn cn d.r (Ev.bs x) a b c hI.box h0 k0 k1 k2 hn hm ((lL x).trans hk)).mono ?_
  rintro e w' ⟨rfl,hb⟩;exact⟨(d,[],3),⟨#[]⟩,gc ⟨x,a,b,c,ys,rfl,rfl,(if_pos hk).symm⟩,rfl,fun h=>(by cases h),by simp,cR.same h hb⟩
 ·have f:ep (Ev.bs x)≠0:=by rw[lL]; exact hk
  cases hmy:mayB ⟨cw x,a,b,c⟩ with
  |true=>
   refine (oF w gk gd gs gv gm gt gn nt ct nn cn d.r (Ev.bs x) ⟨(ip d.r.key ⟨cw x,a,b,c⟩).toArray⟩ a b c 0 hI.box h0 k0 k1 k2 hn hm f hI.sv.libs.base.err (fun W hW=>by
    rw[lL];exact jp d.r.key ⟨cw x,a,b,c⟩ W (fO.1 hmy) (hI.sv.libs.on hW).base)).mono ?_
   rintro e w' ⟨rfl,hb⟩;exact⟨_,_,gc ⟨x,a,b,c,ys,rfl,rfl,((if_neg hk).trans (if_pos hmy)).symm⟩,rfl,fun _=>rfl,by simp,cR.same h hb⟩
  |false=>
   refine (oF w gk gd gs gv gm gt gn nt ct nn cn d.r (Ev.bs x) ByteArray.empty a b c 1 hI.box h0 k0 k1 k2 hn hm f hI.sv.libs.base.err (fun W hW=>by
    rw[lL];exact xA d.r.key ⟨cw x,a,b,c⟩ W (fun q=>by rw[yF q] at hmy; cases hmy))).mono ?_
   rintro e w' ⟨rfl,hb⟩;exact⟨(d,[],1),_,gc ⟨x,a,b,c,ys,rfl,rfl,((if_neg hk).trans (if_neg (by simp[hmy]))).symm⟩,rfl,fun h=>(by cases h),by simp,cR.same h hb⟩
end
end Go.Proofs.YtlailakofhenkabGreatDoor
namespace Go.Proofs.YtlailakofhenkabGreatDoor
open Go Go.RowKit Tok Sc Ev Tryz
def ge(ks:List Int):List Bool:=ks.map (fun k=>decide (k=2))
theorem xR:∀row∈cE,formOf row.1=some (ge row.2.2):=by decide
theorem uE:∀row∈cE,∀k∈row.2.2,k=0∨k=1∨k=2:=by decide
theorem kt{c:Word}(h:c∉aC):formOf c=none:=by
 have b:∀x∈aC,c≠x:=fun x hx e=>h (e ▸ hx);unfold formOf;rw[if_neg (b dS (by decide)),if_neg (b dF (by decide)),if_neg (b bj (by decide)),if_neg (b fV (by decide)),if_neg (b cu (by decide)),if_neg (b cY (by decide)),if_neg (b fJ (by decide)),if_neg (b cA (by decide)),if_neg (b dg (by decide)),if_neg (b bM (by decide)),if_neg (b aR (by decide)),if_neg (b cC (by decide)),if_neg (b cI (by decide)),if_neg (b bY (by decide)),if_neg (b gT (by decide)),if_neg (b dd (by decide)),if_neg (b dh (by decide)),if_neg (b bC (by decide))]
theorem sI:∀(ks:List Int) (ws:List Word),ws.length≠ks.length->numsW (ge ks) ws=none
 |[],[],h=>absurd rfl h
 |[],_::_,_=>rfl
 |k::ks,[],_=>by unfold ge; rw[List.map_cons]; cases decide (k=2) <;> rfl
 |k::ks,x::ws,h=>by
  have ih:=sI ks ws (fun e=>h (by simp[e]))
  unfold ge at ih ⊢;rw[List.map_cons]
  cases decide (k=2) with
  |false=>exact ih
  |true=>
   unfold numsW;rw[ih]
   cases numW x <;> rfl
theorem sJ:∀(ks:List Int) (ws:List Word) (j:Nat) (k:Int) (x:Word),ks[j]?=some k->ws[j]?=some x->nkW k x=none->numsW (ge ks) ws=none
 |[],_,j,_,_,h,_,_=>by simp at h
 |_::_,[],j,_,_,_,h,_=>by simp at h
 |k0::ks,x0::ws,0,k,x,h1,h2,h3=>by
  simp only[List.getElem?_cons_zero,Option.some.injEq] at h1 h2;subst h1; subst h2
  have hk:k0=2:=by
   unfold nkW at h3;split at h3
   ·assumption
   ·cases h3
  subst hk;have c:numW x0=none:=by simpa[nkW] using h3
  unfold ge;rw[List.map_cons];show numsW (true::_) _=none
  unfold numsW;rw[c]
 |k0::ks,x0::ws,j+1,k,x,h1,h2,h3=>by
  have b:=sJ ks ws j k x (by simpa using h1) (by simpa using h2) h3
  unfold ge at b ⊢;rw[List.map_cons]
  cases decide (k0=2) with
  |false=>exact b
  |true=>
   unfold numsW;rw[b]
   cases numW x0 <;> rfl
theorem xS(k:Int)(ks:List Int)(x:Word)(ws:List Word):bI (k::ks) (x::ws) (ws.length+1)=(nkW k x).getD [] ++ bI ks ws ws.length:=by
 unfold bI;simp
theorem wh:∀(ks:List Int) (ws:List Word),ws.length=ks.length->(∀(j:Nat) (k:Int) (x:Word),ks[j]?=some k->ws[j]?=some x->nkW k x≠none)->numsW (ge ks) ws=some (bI ks ws ws.length)
 |[],[],_,_=>rfl
 |[],_::_,h,_=>by simp at h
 |_::_,[],h,_=>by simp at h
 |k::ks,x::ws,h,hok=>by
  have ih:=wh ks ws (by simpa using h) (fun j k' x' h1 h2=>hok (j+1) k' x' (by simpa using h1) (by simpa using h2))
  have b:=hok 0 k x rfl rfl;rw[List.length_cons,xS];unfold ge at ih ⊢;rw[List.map_cons];by_cases hk:k=2
  ·subst hk
   show numsW (true::_) _=_
   cases hx:numW x with
   |none=>exact absurd (by simp[nkW,hx]) b
   |some n=>
    unfold numsW;rw[hx,ih];simp[nkW,hx]
  ·have c:decide (k=2)=false:=by simp[hk]
   rw[c];have e:(nkW k x).getD []= []:=by simp[nkW,hk]
   rw[e];exact ih
theorem dm{B:Nat}{w:World}{v:Value}{cs:List Value}(h:aE B w v cs)(h0:0<cs.length):∃g c,v=.slice (some ⟨g,0,none⟩) cs.length c∧B<=g∧∀i u,cs[i]?=some u->w.cell? ⟨g,i,none⟩=some u:=by
 rcases h with ⟨-,h2⟩ | ⟨g,c,h1,hr⟩
 ·subst h2; simp at h0
 ·exact⟨g,c,h1,hr.new,hr.holds⟩
theorem CQ(x:Word):nkW 0 x=some []:=rfl
theorem mY{x:Word}(h:nkW 2 x≠none):∃n,numW x=some n∧nkW 2 x=some [n]∧n<=9223372036854775807:=by
 cases hx:numW x with
 |none=>exact absurd (by simp[nkW,hx]) h
 |some n=>exact⟨n,rfl,by simp[nkW,hx],(Lib.atoiAll_bounds (iR hx).1).2⟩
theorem jQ(x:Word):(aG x).length<=x.length:=by
 unfold aG;split
 ·simp
 ·omega
section
variable {N : Nat} {w : World} {gk gm gd gs B : Nat} {d : Dk} {vt vn : Value} {ws : List Word}
theorem Cs(row:Word × Nat × List Int)(hr:row∈cE)(h:DkS N w gk gm gd gs d)(hlen:ws.length=row.2.2.length)(ht:aE B w vt ((cD row.2.2 ws ws.length).map Value.string))(hn:aE B w vn ((bI row.2.2 ws ws.length).map (Value.int .i64)))(hok:∀(j:Nat) (k:Int) (x:Word),row.2.2[j]?=some k->ws[j]?=some x->nkW k x≠none)(hB:gd<B∧gs<B)(hx:∀x∈ws,x.length<=5000)(hN:N<97000):
 Calls prog row.2.1 #[.pointer (some ⟨gk,0,none⟩),.agg #[vt,vn]] w (bT N w gk gm gd gs d row.1 ws (bI row.2.2 ws ws.length)):=by
 obtain⟨bt,nt,ct,rfl⟩:∃b n c,vt=.slice b n c:=by obtain⟨b,c,e⟩:=ht.slice; exact⟨b,_,c,e⟩
 obtain⟨bn,nn,cn,rfl⟩:∃b n c,vn=.slice b n c:=by obtain⟨b,c,e⟩:=hn.slice; exact⟨b,_,c,e⟩
 unfold cE at hr;simp only[List.mem_cons,List.not_mem_nil,or_false] at hr;rcases hr with rfl | rfl | rfl | rfl | rfl | rfl | rfl | rfl | rfl | rfl | rfl | rfl | rfl | rfl | rfl | rfl | rfl | rfl
 ·
  obtain⟨x,y,z,u,rfl⟩:∃x y z u,ws= [x,y,z,u]:=by
   match ws,hlen with
   |[x,y,z,u],_=>exact⟨x,y,z,u,rfl⟩
  obtain⟨n0,-,e0,b0⟩:=mY (hok 0 2 x rfl rfl);obtain⟨n1,-,e1,b1⟩:=mY (hok 1 2 y rfl rfl);obtain⟨n2,-,e2,b2⟩:=mY (hok 2 2 z rfl rfl);obtain⟨n3,-,e3,b3⟩:=mY (hok 3 2 u rfl rfl);have f:bI [2,2,2,2] [x,y,z,u] [x,y,z,u].length= [n0,n1,n2,n3]:=by simp[bI,e0,e1,e2,e3]
  simp only at hn;rw[f] at hn;obtain⟨gn,cn',e,hgn,hcn⟩:=dm hn (by simp)
  cases e
  have o:gn≠gd∧gn≠gs:=by omega
  simp only;rw[f];exact Dr h ⟨hcn 0 _ rfl,hcn 1 _ rfl,hcn 2 _ rfl,hcn 3 _ rfl⟩ (by simp)
 ·
  obtain rfl:ws= []:=by
   match ws,hlen with
   |[],_=>rfl
  exact Ck h hN
 ·
  obtain⟨x,y,z,rfl⟩:∃x y z,ws= [x,y,z]:=by
   match ws,hlen with
   |[x,y,z],_=>exact⟨x,y,z,rfl⟩
  have g:cD [0,0,1] [x,y,z] [x,y,z].length= [Ev.bs x,Ev.bs y,Ev.bs (aG z)]:=rfl;simp only at ht;rw[g] at ht;obtain⟨gt,ct',e,hgt,hct⟩:=dm ht (by simp)
  cases e
  have m:gt≠gd∧gt≠gs:=by omega
  exact AL h (hct 0 _ rfl) (hct 1 _ rfl) (hct 2 _ rfl) m (by simp) (hx x (by simp)) (hx y (by simp)) (Nat.le_trans (jQ z) (hx z (by simp))) hN
 ·
  obtain⟨x,y,z,rfl⟩:∃x y z,ws= [x,y,z]:=by
   match ws,hlen with
   |[x,y,z],_=>exact⟨x,y,z,rfl⟩
  have g:cD [0,1,1] [x,y,z] [x,y,z].length= [Ev.bs x,Ev.bs (aG y),Ev.bs (aG z)]:=rfl;simp only at ht;rw[g] at ht;obtain⟨gt,ct',e,hgt,hct⟩:=dm ht (by simp)
  cases e
  have m:gt≠gd∧gt≠gs:=by omega
  exact xP h (hct 0 _ rfl) (hct 1 _ rfl) (hct 2 _ rfl) m (by simp) (hx x (by simp)) (Nat.le_trans (jQ y) (hx y (by simp))) (Nat.le_trans (jQ z) (hx z (by simp))) hN
 ·
  obtain⟨x,rfl⟩:∃x,ws= [x]:=by
   match ws,hlen with
   |[x],_=>exact⟨x,rfl⟩
  have g:cD [0] [x] [x].length= [Ev.bs x]:=rfl;simp only at ht;rw[g] at ht;obtain⟨gt,ct',e,hgt,hct⟩:=dm ht (by simp)
  cases e
  have m:gt≠gd∧gt≠gs:=by omega
  exact Cl h (hct 0 _ rfl) m (by simp) (hx x (by simp))
 ·
  obtain⟨x,rfl⟩:∃x,ws= [x]:=by
   match ws,hlen with
   |[x],_=>exact⟨x,rfl⟩
  have g:cD [0] [x] [x].length= [Ev.bs x]:=rfl;simp only at ht;rw[g] at ht;obtain⟨gt,ct',e,hgt,hct⟩:=dm ht (by simp)
  cases e
  have m:gt≠gd∧gt≠gs:=by omega
  exact Cm h (hct 0 _ rfl) m (by simp) (hx x (by simp))
 ·
  obtain⟨x,rfl⟩:∃x,ws= [x]:=by
   match ws,hlen with
   |[x],_=>exact⟨x,rfl⟩
  obtain⟨n0,-,e0,b0⟩:=mY (hok 0 2 x rfl rfl);have f:bI [2] [x] [x].length= [n0]:=by simp[bI,e0]
  simp only at hn;rw[f] at hn;obtain⟨gn,cn',e,hgn,hcn⟩:=dm hn (by simp)
  cases e
  have o:gn≠gd∧gn≠gs:=by omega
  simp only;rw[f];exact Cn h (hcn 0 _ rfl) o (by simp) hN
 ·
  obtain rfl:ws= []:=by
   match ws,hlen with
   |[],_=>rfl
  exact Co h hN
 ·
  obtain⟨x,rfl⟩:∃x,ws= [x]:=by
   match ws,hlen with
   |[x],_=>exact⟨x,rfl⟩
  obtain⟨n0,-,e0,b0⟩:=mY (hok 0 2 x rfl rfl);have f:bI [2] [x] [x].length= [n0]:=by simp[bI,e0]
  simp only at hn;rw[f] at hn;obtain⟨gn,cn',e,hgn,hcn⟩:=dm hn (by simp)
  cases e
  have o:gn≠gd∧gn≠gs:=by omega
  simp only;rw[f];exact Ds h (hcn 0 _ rfl) b0 (by simp)
 ·
  obtain⟨x,rfl⟩:∃x,ws= [x]:=by
   match ws,hlen with
   |[x],_=>exact⟨x,rfl⟩
  obtain⟨n0,-,e0,b0⟩:=mY (hok 0 2 x rfl rfl);have f:bI [2] [x] [x].length= [n0]:=by simp[bI,e0]
  simp only at hn;rw[f] at hn;obtain⟨gn,cn',e,hgn,hcn⟩:=dm hn (by simp)
  cases e
  have o:gn≠gd∧gn≠gs:=by omega
  simp only;rw[f];exact Cp h (hcn 0 _ rfl) o (by simp) hN
 ·
  obtain rfl:ws= []:=by
   match ws,hlen with
   |[],_=>rfl
  exact AM h hN
 ·
  obtain rfl:ws= []:=by
   match ws,hlen with
   |[],_=>rfl
  exact xQ h hN
 ·
  obtain rfl:ws= []:=by
   match ws,hlen with
   |[],_=>rfl
  exact Dt h
 ·
  obtain rfl:ws= []:=by
   match ws,hlen with
   |[],_=>rfl
  exact Cq h
 ·
  obtain⟨x,rfl⟩:∃x,ws= [x]:=by
   match ws,hlen with
   |[x],_=>exact⟨x,rfl⟩
  have g:cD [1] [x] [x].length= [Ev.bs (aG x)]:=rfl;simp only at ht;rw[g] at ht;obtain⟨gt,ct',e,hgt,hct⟩:=dm ht (by simp)
  cases e
  have m:gt≠gd∧gt≠gs:=by omega
  exact AN h (hct 0 _ rfl) (by simp) (Nat.le_trans (jQ x) (hx x (by simp)))
 ·
  obtain⟨x,y,rfl⟩:∃x y,ws= [x,y]:=by
   match ws,hlen with
   |[x,y],_=>exact⟨x,y,rfl⟩
  obtain⟨n0,-,e0,b0⟩:=mY (hok 0 2 x rfl rfl);have f:bI [2,0] [x,y] [x,y].length= [n0]:=by simp[bI,CQ,e0]
  simp only at hn;rw[f] at hn;obtain⟨gn,cn',e,hgn,hcn⟩:=dm hn (by simp)
  cases e
  have o:gn≠gd∧gn≠gs:=by omega
  have g:cD [2,0] [x,y] [x,y].length= [Ev.bs y]:=rfl;simp only at ht;rw[g] at ht;obtain⟨gt,ct',e,hgt,hct⟩:=dm ht (by simp)
  cases e
  have m:gt≠gd∧gt≠gs:=by omega
  simp only;rw[f];exact Du h (hct 0 _ rfl) (hcn 0 _ rfl) (by simp) (by simp) (hx y (by simp))
 ·
  obtain⟨x,y,z,u,rfl⟩:∃x y z u,ws= [x,y,z,u]:=by
   match ws,hlen with
   |[x,y,z,u],_=>exact⟨x,y,z,u,rfl⟩
  obtain⟨n0,-,e0,b0⟩:=mY (hok 1 2 y rfl rfl);obtain⟨n1,-,e1,b1⟩:=mY (hok 2 2 z rfl rfl);obtain⟨n2,-,e2,b2⟩:=mY (hok 3 2 u rfl rfl);have f:bI [0,2,2,2] [x,y,z,u] [x,y,z,u].length= [n0,n1,n2]:=by simp[bI,CQ,e0,e1,e2]
  simp only at hn;rw[f] at hn;obtain⟨gn,cn',e,hgn,hcn⟩:=dm hn (by simp)
  cases e
  have o:gn≠gd∧gn≠gs:=by omega
  have g:cD [0,2,2,2] [x,y,z,u] [x,y,z,u].length= [Ev.bs x]:=rfl;simp only at ht;rw[g] at ht;obtain⟨gt,ct',e,hgt,hct⟩:=dm ht (by simp)
  cases e
  have m:gt≠gd∧gt≠gs:=by omega
  simp only;rw[f];exact AO h (hct 0 _ rfl) (hcn 0 _ rfl) (hcn 1 _ rfl) (hcn 2 _ rfl) (by simp) (by simp)
 ·
  obtain rfl:ws= []:=by
   match ws,hlen with
   |[],_=>rfl
  exact Cr h
end
end Go.Proofs.YtlailakofhenkabGreatDoor
