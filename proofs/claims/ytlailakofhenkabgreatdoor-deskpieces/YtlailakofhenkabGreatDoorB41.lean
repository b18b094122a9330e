import Derived.Test.YtlailakofhenkabGreatDoorB38
import Derived.Test.YtlailakofhenkabGreatDoorB40
namespace Go.Proofs.YtlailakofhenkabGreatDoor
open Go Go.RowKit Tok Sc Ev
theorem saveP_err (p:Pub):(saveP p).2≤14:=by
 unfold saveP;split
 ·simp
 ·split <;> simp
theorem addP_err (p:Pub) (e:E) (m:Bool):(addP p e m).2≤14:=by
 have h1:∀ q,(putP1 q e).2≤14:=fun q=>by unfold putP1; split <;> simp
 unfold addP;split
 ·simp
 split
 ·simp
 split
 ·simp
 split
 ·split
  ·exact h1 _
  ·exact saveP_err p
 ·exact h1 _
theorem giveM_err (tx:T→ByteArray) (p:Pub) (f:Fam):(giveM tx p f).2.2≤14:=by
 unfold giveM;split
 ·simp
 ·exact addP_err _ _ _
theorem scOut_err {s:List UInt8} {l:List Word} {n:Nat} (h:Sc.Out s l n):n≤4:=by
 rcases h with ⟨rfl,-⟩ | ⟨rfl,-⟩ | ⟨rfl,-⟩ <;> omega
theorem grantM_err (tx:T→ByteArray) (p:Pub) (ok:Bool) (a b c:ByteArray) {n:Nat} (hn:n≤4):(grantM tx p ok a b c n).2.2≤100:=by
 have h:=giveM_err tx p (newF p.st a b c);unfold grantM;split
 ·simp
 split
 ·simp only; omega
 split
 ·simp
 split
 ·simp
 ·omega
theorem errT_le (n:Nat):errT n≤5:=by
 match n with
 |0=>simp [errT]
 |1=>simp [errT]
 |n+2=>simp [errT]
theorem lookM_err (r:Rul) (s:St) (kind:Int) (t:T) (n:Nat):lookM r s kind t n≤10:=by
 have h0:look0 r s kind t n≤10:=by
  have:=errT_le n;unfold look0;split
  ·omega
  split
  ·omega
  split
  ·omega
  split
  ·omega
  ·split <;> omega
 unfold lookM;split
 ·exact h0
 ·split <;> omega
theorem rotateM_err (tx:T→ByteArray) (r:Rul) (p:Pub) (ok:Bool) (rq:ByteArray) (t:T) (n:Nat) (sc:ByteArray) {m:Nat} (b:Bool) (hm:m≤4):(rotateM tx r p ok rq t n sc m b).2.2≤100:=by
 have h1:=lookM_err r p.st 1 t n;have h2:=giveM_err tx p (nextF (famM p.st t) rq sc p.st.clock);have h3:=addP_err p (putE (deadF (famM p.st t))) true;unfold rotateM;split
 ·simp
 split
 ·simp only; omega
 split
 ·unfold turnM
  split
  ·simp only; omega
  split
  ·simp
  split
  ·simp
  ·omega
 split
 ·simp
 ·unfold spoilM
  simp only;split <;> omega
theorem mintM_err (tx:T→ByteArray) (r:Rul) (p:Pub) (t:T) (n:Nat):(mintM tx r p t n).2≤100:=by
 have h1:=lookM_err r p.st 1 t n;unfold mintM;split
 ·simp only; omega
 ·split <;> simp
theorem showM_err (r:Rul) (p:Pub) (t:T) (n:Nat):(showM r p t n).2≤100:=by
 have h1:=lookM_err r p.st 2 t n;unfold showM;split
 ·simp only; omega
 ·split <;> simp
theorem killM_err (p:Pub) (i:Int):(killM p i).2≤100:=by
 unfold killM;split
 ·simp
 ·split
  ·simp
  ·have:=addP_err p (putE (deadF ‹_›)) true
   omega
theorem tickM_err (p:Pub) (i:Int):(tickM p i).2≤100:=by
 unfold tickM;split
 ·simp
 ·have:=addP_err p (clockE (laterI p.st.clock i)) true
  omega
theorem sweepM_err (r:Rul) (p:Pub):(sweepM r p).2.2≤100:=by
 unfold sweepM;split
 ·simp
 ·rename_i f _
  have:=addP_err p (dropE f.id) true;simp only;omega
theorem okN_64 {n:Int} (h:okN n):-9223372036854775808≤n∧n≤9223372036854775807:=by
 obtain ⟨h1,h2⟩:=h;omega
theorem sweepM_id {r:Rul} {p:Pub} (h:Ev.Good p.st):-9223372036854775808≤(sweepM r p).2.1∧(sweepM r p).2.1≤9223372036854775807:=by
 unfold sweepM;split
 ·simp
 ·rename_i f hf
  have h1:=okN_64 (h.may f (List.mem_of_find?_eq_some hf)).1.1.1;simp only;split
  ·exact h1
  ·omega
theorem txt_eq (r:Rul):txtB r=txtW r:=rfl
theorem Tok.out_any (g:List UInt8→List UInt8) (x:List UInt8):∃ t n,Tok.Out g x t n:=by
 by_cases h:∃ t tag,Form x t tag
 ·obtain ⟨t,tag,hf⟩:=h
  by_cases e:tag=g (body t)
  ·exact ⟨t,0,Out.good t tag hf e⟩
  ·exact ⟨zero,2,Out.name t tag hf e⟩
 ·exact ⟨zero,1,Out.form (fun t tag hf=>h ⟨t,tag,hf⟩)⟩
structure DkS (N:Nat) (w:World) (gk gm gd gs:Nat) (d:Dk):Prop where
 st:∃ gv v,DkI N w gk gd gs gv gm d.r d.p v
 ord:HasOrd w gk gm
 old:OldsR gk
theorem DkI.noInt {N:Nat} {w:World} {gk gd gs gv gm:Nat} {r:Rul} {p:Pub} {v:Value} (h:DkI N w gk gd gs gv gm r p v):∀ x∈ [gk,gd,gs],∀ k:Int,w.cell? ⟨x,0,none⟩≠some (.int .i64 k):=by
 obtain ⟨A,F,l',hd,-⟩:=h.sv.sp.disk;obtain ⟨sv,hs⟩:=h.sv.sp.store;intro x hx k;simp only [List.mem_cons,List.not_mem_nil,or_false] at hx;rcases hx with rfl | rfl | rfl
 ·rw [h.box.c0]; simp
 ·rw [hd.blk 0 (by omega)]; simp
 ·rw [hs.p0]; simp
theorem HasOrd.ne {w:World} {gk gd gs gv gm:Nat} {r:Rul} (h:HasOrd w gk gm) (hb:DAt w gk gd gs gv gm r):gm≠gk:=by
 rintro rfl
 have:=h.noCell 0;rw [hb.c0] at this
 cases this
theorem DkS.on {N:Nat} {w w':World} {gk gm gd gs:Nat} {d:Dk} (h:DkS N w gk gm gd gs d) (hb:Below w.heap.size w w'):DkS N w' gk gm gd gs d:=by
 obtain ⟨gv,v,hI⟩:=h.st;exact ⟨⟨gv,v,hI.on hb⟩,h.ord.on hb,h.old⟩
theorem DkS.mono {N M:Nat} {w:World} {gk gm gd gs:Nat} {d:Dk} (h:DkS N w gk gm gd gs d) (hm:N≤M):DkS M w gk gm gd gs d:=by
 obtain ⟨gv,v,hI⟩:=h.st;exact ⟨⟨gv,v,hI.mono hm⟩,h.ord,h.old⟩
def FarV (w:World) (gk gs t:Nat):Prop:=(∀ v,w.cell? ⟨gs,6,none⟩=some v→NotIn v t)∧∀ gv,w.cell? ⟨gk,2,none⟩=some (.pointer (some ⟨gv,0,none⟩))→t≠gv
theorem DkI.far {N:Nat} {w:World} {gk gd gs gv gm:Nat} {r:Rul} {p:Pub} {v:Value} (h:DkI N w gk gd gs gv gm r p v) {t:Nat}:FarV w gk gs t↔NotIn v t∧t≠gv:=by
 obtain ⟨sv,hs⟩:=h.sv.sp.store;constructor
 ·rintro ⟨h1,h2⟩
  exact ⟨h1 v hs.p6,h2 gv h.box.c2⟩
 ·rintro ⟨h1,h2⟩
  refine ⟨fun v' hv'=>?_,fun gv' hg=>?_⟩
  ·rw [hs.p6] at hv'
   cases hv'
   exact h1
  ·rw [h.box.c2] at hg
   cases hg
   exact h2
theorem FarV.on {w w':World} {gk gs t:Nat} (h:FarV w gk gs t) (hb:Below w.heap.size w w') (h1:gk<w.heap.size) (h2:gs<w.heap.size):FarV w' gk gs t:=
 ⟨fun v hv=>h.1 v ((hb.cell (p:=⟨gs,6,none⟩) h2).symm.trans hv),fun gv hg=>h.2 gv ((hb.cell (p:=⟨gk,2,none⟩) h1).symm.trans hg)⟩
theorem DkS.lts {N:Nat} {w:World} {gk gm gd gs:Nat} {d:Dk} (h:DkS N w gk gm gd gs d):gk<w.heap.size∧gd<w.heap.size∧gs<w.heap.size∧gm<w.heap.size:=by
 obtain ⟨gv,v,hI⟩:=h.st;have h1:=hI.sv.sp.ord;have h2:=hI.sv.sp.lt;exact ⟨hI.box.lt,by omega,h2,hI.ml⟩
def DkTo (N:Nat) (w w':World) (gk gm gd gs:Nat) (d':Dk):Prop:=∃ gd' gs',DkS (N+22) w' gk gm gd' gs' d'∧Keep [gk,gd,gs] w w'∧(gd'=gd∨w.heap.size≤gd')∧(gs'=gs∨w.heap.size≤gs')∧∀ t,t<w.heap.size→FarV w gk gs t→FarV w' gk gs' t
theorem DkTo.same {N:Nat} {w w':World} {gk gm gd gs:Nat} {d:Dk} (h:DkS N w gk gm gd gs d) (hb:Below w.heap.size w w'):DkTo N w w' gk gm gd gs d:=
 ⟨gd,gs,(h.on hb).mono (by omega),Keep.of _ hb,.inl rfl,.inl rfl,fun _ _ hf=>hf.on hb h.lts.1 h.lts.2.2.1⟩
theorem DkTo.sv {N:Nat} {w w':World} {gk gm gd gs gv:Nat} {d:Dk} {q:Pub} {v v':Value} (h:DkI N w gk gd gs gv gm d.r d.p v) (ho:HasOrd w gk gm) (hol:OldsR gk) (ht:SPto N gs gd v w w' q v'):DkTo N w w' gk gm gd gs ⟨d.r,q⟩:=by
 have h':=h.to ht;refine ⟨gd,gs,⟨⟨gv,v',h'⟩,ho.keep ht.keep (by have:=h.ne; simp; omega) (fun x hx=>h.noInt x (by simp at hx ⊢; exact .inr hx)),hol⟩,ht.keep.mono (by simp),.inl rfl,.inl rfl,fun t hlt hf=>?_⟩
 obtain ⟨h1,h2⟩:=h.far.1 hf;exact h'.far.2 ⟨ht.notIn h1 hlt,h2⟩
theorem DkTo.post {N:Nat} {w w1 w':World} {gk gm gd gs:Nat} {d:Dk} (h:DkTo N w w1 gk gm gd gs d) (hb:Below w1.heap.size w1 w'):DkTo N w w' gk gm gd gs d:=by
 obtain ⟨gd',gs',q1,q2,q3,q4,q5⟩:=h;exact ⟨gd',gs',q1.on hb,q2.then hb,q3,q4,fun t ht hf=>(q5 t ht hf).on hb q1.lts.1 q1.lts.2.2.1⟩
theorem DkS.elsewhere {N:Nat} {w w':World} {gk gm gd gs:Nat} {d:Dk} {l:List Nat} (h:DkS N w gk gm gd gs d) (hk:Keep l w w') (hl:∀ t∈l,gk<t∧t≠gd∧t≠gs∧t≠gm∧FarV w gk gs t∧∀ k:Int,w.cell? ⟨t,0,none⟩≠some (.int .i64 k)):DkS N w' gk gm gd gs d:=by
 obtain ⟨gv,v,hI⟩:=h.st;have hgk:gk∉l:=fun hx=>by have:=(hl gk hx).1; omega
 have hgm:gm∉l:=fun hx=>(hl gm hx).2.2.2.1 rfl;refine ⟨⟨gv,v,hI.sv.elsewhereB hk (B:=gk) (Nat.le_of_lt hI.box.lt) h.old (fun x hx=>?_),hI.box.keep hk hgk,hI.ne,hI.out,Nat.lt_of_lt_of_le hI.ml hk.size⟩,h.ord.keep hk hgm (fun x hx=>(hl x hx).2.2.2.2.2),h.old⟩;obtain ⟨q1,q2,q3,q4,q5,q6⟩:=hl x hx;obtain ⟨q7,q8⟩:=hI.far.1 q5;exact ⟨by omega,q2,q3,q8,q7⟩
theorem FarV.elsewhere {w w':World} {gk gs t:Nat} {l:List Nat} (h:FarV w gk gs t) (hk:Keep l w w') (h1:gk<w.heap.size) (h2:gs<w.heap.size) (h3:gk∉l) (h4:gs∉l):FarV w' gk gs t:=
 ⟨fun v hv=>h.1 v ((hk.cell (p:=⟨gs,6,none⟩) h2 h4).symm.trans hv),fun gv hg=>h.2 gv ((hk.cell (p:=⟨gk,2,none⟩) h1 h3).symm.trans hg)⟩
theorem DkTo.told {N:Nat} {w w2 w3:World} {gk gm gd gs:Nat} {d0 d:Dk} {x y:ByteArray} (h0:DkS N w gk gm gd gs d0) (hb:Below w.heap.size w w2) (hlt:w.heap.size<w2.heap.size) (h:DkTo N w2 w3 gk gm gd gs d) (hc:w3.cell? ⟨w.heap.size,0,none⟩=some (.string x)):DkTo N w (w3.setCell ⟨w.heap.size,0,none⟩ (.string y)) gk gm gd gs d:=by
 obtain ⟨gd',gs',q1,q2,q3,q4,q5⟩:=h;obtain ⟨l1,l2,l3,l4⟩:=h0.lts;obtain ⟨gv,v,hI⟩:=h0.st;have hf:FarV w gk gs w.heap.size:=hI.far.2 ⟨NotIn.past hI.sv.sp.fam (Nat.le_refl _),by have:=hI.sv.box.lt; omega⟩
 have hf3:=q5 _ hlt (hf.on hb l1 l3);have hk:Keep [w.heap.size] w3 (w3.setCell ⟨w.heap.size,0,none⟩ (.string y)):=(Keep.refl _ _).setCell (p:=⟨w.heap.size,0,none⟩) (.inl (by simp)) _
 refine ⟨gd',gs',q1.elsewhere hk (fun t ht=>?_),?_,q3.imp id (fun h=>by omega),q4.imp id (fun h=>by omega),fun t ht hf=>(q5 t (by omega) (hf.on hb l1 l3)).elsewhere hk q1.lts.1 q1.lts.2.2.1 (by simp; omega) (by simp; omega)⟩
 ·obtain rfl:t=w.heap.size:=by simpa using ht
  exact ⟨l1,by omega,by omega,by omega,hf3,fun k=>by rw [hc]; simp⟩
 ·have h1:Keep [gk,gd,gs] w w3:=(Keep.of _ hb).trans q2
  exact ⟨hk.os.trans h1.os,hk.tape.trans h1.tape,hk.output.trans h1.output,Nat.le_trans h1.size hk.size,fun b hb1 hb2=>(hk.block b (Nat.lt_of_lt_of_le hb1 h1.size) (by simp; omega)).trans (h1.block b hb1 hb2)⟩
def OrdPost (N:Nat) (w:World) (gk gm gd gs:Nat) (d:Dk) (c:Word) (ws:List Word) (ns:List Int) (e:Ending) (w':World):Prop:=
 ∃ (o:Dk × List UInt8 × Nat) (a:ByteArray),DoesR d c ws ns o∧e=tellE a o.2.2∧(o.2.2=0→a.data.toList=o.2.1)∧o.2.2≤100∧DkTo N w w' gk gm gd gs o.1
theorem bsL (x:Word):(Ev.bs x).data.toList=x:=by simp [Ev.bs]
theorem doesNew {d:Dk} {ws:List Word} {ns:List Int} {o:Dk × List UInt8 × Nat} (h:∃ k i l a,ns= [k,i,l,a]∧o=(if rightB ⟨k,i,l,a⟩=true then (⟨⟨k,i,l,a⟩,zeroP⟩,cNew,0) else (d,[],2))):DoesR d cNew ws ns o:=by
 unfold DoesR;rw [if_pos rfl];exact h
theorem doesOpen {d:Dk} {ws:List Word} {ns:List Int} {o:Dk × List UInt8 × Nat} (h:o=(openD d,cOpen,0)):DoesR d cOpen ws ns o:=by
 unfold DoesR;rw [if_neg (by decide),if_pos rfl]
 exact h
theorem doesGrant {d:Dk} {ws:List Word} {ns:List Int} {o:Dk × List UInt8 × Nat} (h:∃ x y z l n,ws= [x,y,z]∧Sc.Out (textW z) l n∧o=pickT (grantM (txtW d.r) d.p (nameB x && nameB y) (Ev.bs x) (Ev.bs y) (Ev.bs (joined l)) n) d.r):DoesR d cGrant ws ns o:=by
 unfold DoesR;rw [if_neg (by decide),if_neg (by decide),if_pos rfl]
 exact h
theorem doesRotate {d:Dk} {ws:List Word} {ns:List Int} {o:Dk × List UInt8 × Nat} (h:∃ x y z t n l m b,ws= [x,y,z]∧Tok.Out (tagM d.r.key) x t n∧Sc.Out (textW z) l m∧(lookM d.r d.p.st 1 t n=0→m=0→WOut (joined l) (famM d.p.st t).scope.data.toList b 0)∧((lookM d.r d.p.st 1 t n≠0∨m≠0)→b=false)∧o=pickT (rotateM (txtW d.r) d.r d.p (nameB (textW y)) (Ev.bs (textW y)) t n (Ev.bs (joined l)) m b) d.r):DoesR d cRotate ws ns o:=by
 unfold DoesR;rw [if_neg (by decide),if_neg (by decide),if_neg (by decide),if_pos rfl]
 exact h
theorem doesMint {d:Dk} {ws:List Word} {ns:List Int} {o:Dk × List UInt8 × Nat} (h:∃ x t n,ws= [x]∧Tok.Out (tagM d.r.key) x t n∧o=(d,(mintM (txtW d.r) d.r d.p t n).1.data.toList,(mintM (txtW d.r) d.r d.p t n).2)):DoesR d cMint ws ns o:=by
 unfold DoesR;rw [if_neg (by decide),if_neg (by decide),if_neg (by decide),if_neg (by decide),if_pos rfl]
 exact h
theorem doesShow {d:Dk} {ws:List Word} {ns:List Int} {o:Dk × List UInt8 × Nat} (h:∃ x t n,ws= [x]∧Tok.Out (tagM d.r.key) x t n∧o=(d,famL (showM d.r d.p t n).1,(showM d.r d.p t n).2)):DoesR d cShow ws ns o:=by
 unfold DoesR;rw [if_neg (by decide),if_neg (by decide),if_neg (by decide),if_neg (by decide),if_neg (by decide),if_pos rfl]
 exact h
theorem doesKill {d:Dk} {ws:List Word} {ns:List Int} {o:Dk × List UInt8 × Nat} (h:∃ i,ns= [i]∧o=(⟨d.r,(killM d.p i).1⟩,cKill,(killM d.p i).2)):DoesR d cKill ws ns o:=by
 unfold DoesR;rw [if_neg (by decide),if_neg (by decide),if_neg (by decide),if_neg (by decide),if_neg (by decide),if_neg (by decide),if_pos rfl]
 exact h
theorem doesSave {d:Dk} {ws:List Word} {ns:List Int} {o:Dk × List UInt8 × Nat} (h:o=(⟨d.r,(saveP d.p).1⟩,cSave,(saveP d.p).2)):DoesR d cSave ws ns o:=by
 unfold DoesR;rw [if_neg (by decide),if_neg (by decide),if_neg (by decide),if_neg (by decide),if_neg (by decide),if_neg (by decide),if_neg (by decide),if_pos rfl]
 exact h
theorem doesCut {d:Dk} {ws:List Word} {ns:List Int} {o:Dk × List UInt8 × Nat} (h:∃ i,ns= [i]∧o=(⟨d.r,cutP d.p i⟩,cCut,0)):DoesR d cCut ws ns o:=by
 unfold DoesR;rw [if_neg (by decide),if_neg (by decide),if_neg (by decide),if_neg (by decide),if_neg (by decide),if_neg (by decide),if_neg (by decide),if_neg (by decide),if_pos rfl]
 exact h
theorem doesTick {d:Dk} {ws:List Word} {ns:List Int} {o:Dk × List UInt8 × Nat} (h:∃ i,ns= [i]∧o=(⟨d.r,(tickM d.p i).1⟩,Lib.itoa (tickM d.p i).1.st.clock,(tickM d.p i).2)):DoesR d cTick ws ns o:=by
 unfold DoesR;rw [if_neg (by decide),if_neg (by decide),if_neg (by decide),if_neg (by decide),if_neg (by decide),if_neg (by decide),if_neg (by decide),if_neg (by decide),if_neg (by decide),if_pos rfl]
 exact h
theorem doesSweep {d:Dk} {ws:List Word} {ns:List Int} {o:Dk × List UInt8 × Nat} (h:o=(⟨d.r,(sweepM d.r d.p).1⟩,Lib.itoa (sweepM d.r d.p).2.1,(sweepM d.r d.p).2.2)):DoesR d cSweep ws ns o:=by
 unfold DoesR;rw [if_neg (by decide),if_neg (by decide),if_neg (by decide),if_neg (by decide),if_neg (by decide),if_neg (by decide),if_neg (by decide),if_neg (by decide),if_neg (by decide),if_neg (by decide),if_pos rfl]
 exact h
theorem doesWrites {d:Dk} {ws:List Word} {ns:List Int} {o:Dk × List UInt8 × Nat} (h:o=(d,Lib.itoa d.p.n,0)):DoesR d cWrites ws ns o:=by
 unfold DoesR;rw [if_neg (by decide),if_neg (by decide),if_neg (by decide),if_neg (by decide),if_neg (by decide),if_neg (by decide),if_neg (by decide),if_neg (by decide),if_neg (by decide),if_neg (by decide),if_neg (by decide),if_pos rfl]
 exact h
theorem doesLog {d:Dk} {ws:List Word} {ns:List Int} {o:Dk × List UInt8 × Nat} (h:o=(d,Lib.itoa d.p.lg ++ 32::boolL d.p.dn,0)):DoesR d cLog ws ns o:=by
 unfold DoesR;rw [if_neg (by decide),if_neg (by decide),if_neg (by decide),if_neg (by decide),if_neg (by decide),if_neg (by decide),if_neg (by decide),if_neg (by decide),if_neg (by decide),if_neg (by decide),if_neg (by decide),if_neg (by decide),if_pos rfl]
 exact h
theorem doesFams {d:Dk} {ws:List Word} {ns:List Int} {o:Dk × List UInt8 × Nat} (h:o=(d,stateL d.p.st,0)):DoesR d cFams ws ns o:=by
 unfold DoesR;rw [if_neg (by decide),if_neg (by decide),if_neg (by decide),if_neg (by decide),if_neg (by decide),if_neg (by decide),if_neg (by decide),if_neg (by decide),if_neg (by decide),if_neg (by decide),if_neg (by decide),if_neg (by decide),if_neg (by decide),if_pos rfl]
 exact h
theorem doesLeast {d:Dk} {ws:List Word} {ns:List Int} {o:Dk × List UInt8 × Nat} (h:∃ x l n,ws= [x]∧Sc.Out (textW x) l n∧o=(d,wordL (joined l),n)):DoesR d cLeast ws ns o:=by
 unfold DoesR;rw [if_neg (by decide),if_neg (by decide),if_neg (by decide),if_neg (by decide),if_neg (by decide),if_neg (by decide),if_neg (by decide),if_neg (by decide),if_neg (by decide),if_neg (by decide),if_neg (by decide),if_neg (by decide),if_neg (by decide),if_neg (by decide),if_pos rfl]
 exact h
theorem doesTag {d:Dk} {ws:List Word} {ns:List Int} {o:Dk × List UInt8 × Nat} (h:∃ i x y,ns= [i]∧ws= [x,y]∧o=(d,tagM i y,0)):DoesR d cTag ws ns o:=by
 unfold DoesR;rw [if_neg (by decide),if_neg (by decide),if_neg (by decide),if_neg (by decide),if_neg (by decide),if_neg (by decide),if_neg (by decide),if_neg (by decide),if_neg (by decide),if_neg (by decide),if_neg (by decide),if_neg (by decide),if_neg (by decide),if_neg (by decide),if_neg (by decide),if_pos rfl]
 exact h
theorem doesToken {d:Dk} {ws:List Word} {ns:List Int} {o:Dk × List UInt8 × Nat} (h:∃ x a b e ys,ns= [a,b,e]∧ws=x::ys∧o=(if kindW x=0 then (d,[],3) else if mayB ⟨kindW x,a,b,e⟩=true then (d,(txtW d.r ⟨kindW x,a,b,e⟩).data.toList,0) else (d,[],1))):DoesR d cToken ws ns o:=by
 unfold DoesR;rw [if_neg (by decide),if_neg (by decide),if_neg (by decide),if_neg (by decide),if_neg (by decide),if_neg (by decide),if_neg (by decide),if_neg (by decide),if_neg (by decide),if_neg (by decide),if_neg (by decide),if_neg (by decide),if_neg (by decide),if_neg (by decide),if_neg (by decide),if_neg (by decide),if_pos rfl]
 exact h
theorem doesHelp {d:Dk} {ws:List Word} {ns:List Int} {o:Dk × List UInt8 × Nat} (h:o=(d,helpL,0)):DoesR d cHelp ws ns o:=by
 unfold DoesR;rw [if_neg (by decide),if_neg (by decide),if_neg (by decide),if_neg (by decide),if_neg (by decide),if_neg (by decide),if_neg (by decide),if_neg (by decide),if_neg (by decide),if_neg (by decide),if_neg (by decide),if_neg (by decide),if_neg (by decide),if_neg (by decide),if_neg (by decide),if_neg (by decide),if_neg (by decide)]
 exact h
section
variable {N : Nat} {w : World} {gk gm gd gs : Nat} {d : Dk}
theorem ordNew {gn nt ct nn cn:Nat} {bt:Option Addr} {k i l a:Int} {ws:List Word} (h:DkS N w gk gm gd gs d) (h0:N4 w gn k i l a) (hn:3<nn) :
 Calls Tryz.prog 227 #[.pointer (some ⟨gk,0,none⟩),.agg #[.slice bt nt ct,.slice (some ⟨gn,0,none⟩) nn cn]] w (OrdPost N w gk gm gd gs d cNew ws [k,i,l,a]):=by
 obtain ⟨gv,v,hI⟩:=h.st
 cases hr:rightB ⟨k,i,l,a⟩ with
 |true=>
  refine (begin_yes N w gk gd gs gv gm gn nt ct bt nn cn d.r d.p v k i l a hI h.old h0 hn hr).mono ?_;rintro e w' ⟨rfl,gd',gs',gv',v',h1,h2,h3,h4⟩;refine ⟨_,⟨#[110,101,119]⟩,doesNew ⟨k,i,l,a,rfl,if_pos hr |>.symm⟩,rfl,fun _=>rfl,by simp,gd',gs',⟨⟨gv',v',h1.mono (by omega)⟩,?_,h.old⟩,h2.mono (by simp),.inr h3,.inr h4,fun t ht _=>h1.far.2 ⟨NotIn.above h1.sv.sp.fam (by omega),by have:=h1.sv.ord; omega⟩⟩
  exact h.ord.keep h2 (by simpa using h.ord.ne hI.box) (fun x hx=>hI.noInt x (by simp at hx ⊢; exact .inl hx))
 |false=>
  refine (begin_no N w gk gd gs gv gm gn nt ct bt nn cn d.r d.p v k i l a hI h.old h0 hn hr).mono ?_;rintro e w' ⟨rfl,hb⟩;exact ⟨(d,[],2),⟨#[]⟩,doesNew ⟨k,i,l,a,rfl,(if_neg (by simp [hr])).symm⟩,rfl,fun h=>(by cases h),by simp,DkTo.same h hb⟩
theorem ordOpen {bt bn:Option Addr} {nt ct nn cn:Nat} {ws:List Word} {ns:List Int} (h:DkS N w gk gm gd gs d) (hN:N<97000) :
 Calls Tryz.prog 228 #[.pointer (some ⟨gk,0,none⟩),.agg #[.slice bt nt ct,.slice bn nn cn]] w (OrdPost N w gk gm gd gs d cOpen ws ns):=by
 obtain ⟨gv,v,hI⟩:=h.st;refine (open_yes N w gk gd gs gv gm bt bn nt ct nn cn d.r d.p v hI h.old (by omega)).mono ?_
 rintro e w' ⟨rfl,gs',gv',v',h1,h2,h3⟩;refine ⟨_,⟨#[111,112,101,110]⟩,doesOpen rfl,rfl,fun _=>rfl,by simp,gd,gs',⟨⟨gv',v',h1.mono (by omega)⟩,?_,h.old⟩,h2.mono (by simp),.inl rfl,.inr h3,fun t ht _=>h1.far.2 ⟨NotIn.above h1.sv.sp.fam (by omega),by have:=h1.sv.ord; omega⟩⟩
 exact h.ord.keep h2 (by have:=hI.ne; have:=h.ord.ne hI.box; simp; omega) (fun x hx=>hI.noInt x (by simp at hx ⊢; omega))
theorem ordGrant {gt nt ct:Nat} {bn:Option Addr} {nn cn:Nat} {x y z:Word} {ns:List Int} (h:DkS N w gk gm gd gs d) (h0:w.cell? ⟨gt,0,none⟩=some (.string (Ev.bs x))) (h1:w.cell? ⟨gt,1,none⟩=some (.string (Ev.bs y))) (h2:w.cell? ⟨gt,2,none⟩=some (.string (Ev.bs (textW z)))) (hgt:gt≠gd∧gt≠gs) (hn:2<nt) (hx:x.length≤5000) (hy:y.length≤5000) (hz:(textW z).length≤5000) (hN:N<97000) :
 Calls Tryz.prog 229 #[.pointer (some ⟨gk,0,none⟩),.agg #[.slice (some ⟨gt,0,none⟩) nt ct,.slice bn nn cn]] w (OrdPost N w gk gm gd gs d cGrant [x,y,z] ns):=by
 obtain ⟨gv,v,hI⟩:=h.st;obtain ⟨l,m,hout⟩:=Sc.out_ex (textW z);refine (dGrant_is N w gk gd gs gv gm gt nt ct bn nn cn d.r d.p _ v (Ev.bs x) (Ev.bs y) (Ev.bs (textW z)) _ _ hI h0 h1 h2 hgt hn (fun W hW=>grant_is N W gv gs gd d.r d.p v (Ev.bs x) (Ev.bs y) (Ev.bs (textW z)) l m hW (by rw [bs_size]; exact hx) (by rw [bs_size]; exact hy) (by rw [bs_size]; exact hz) (by rw [bsL]; exact hout) (by omega))).mono ?_
 rintro e w' ⟨rfl,v',hto⟩;rw [bsL,bsL,txt_eq] at *;exact ⟨_,_,doesGrant ⟨x,y,z,l,m,rfl,hout,rfl⟩,rfl,fun _=>rfl,grantM_err _ _ _ _ _ _ (scOut_err hout),DkTo.sv hI h.ord h.old hto⟩
theorem ordRotate {gt nt ct:Nat} {bn:Option Addr} {nn cn:Nat} {x y z:Word} {ns:List Int} (h:DkS N w gk gm gd gs d) (h0:w.cell? ⟨gt,0,none⟩=some (.string (Ev.bs x))) (h1:w.cell? ⟨gt,1,none⟩=some (.string (Ev.bs (textW y)))) (h2:w.cell? ⟨gt,2,none⟩=some (.string (Ev.bs (textW z)))) (hgt:gt≠gd∧gt≠gs) (hn:2<nt) (hx:x.length≤5000) (hy:(textW y).length≤5000) (hz:(textW z).length≤5000) (hN:N<97000) :
 Calls Tryz.prog 230 #[.pointer (some ⟨gk,0,none⟩),.agg #[.slice (some ⟨gt,0,none⟩) nt ct,.slice bn nn cn]] w (OrdPost N w gk gm gd gs d cRotate [x,y,z] ns):=by
 obtain ⟨gv,v,hI⟩:=h.st;obtain ⟨l,m,hout⟩:=Sc.out_ex (textW z);obtain ⟨t,n,htok⟩:=Tok.out_any (tag d.r.key) x
 obtain ⟨b,hb1,hb2⟩:∃ b,(lookM d.r d.p.st 1 t n=0→m=0→WOut (joined l) (famM d.p.st t).scope.data.toList b 0)∧((lookM d.r d.p.st 1 t n≠0∨m≠0)→b=false):=by
  by_cases hk:lookM d.r d.p.st 1 t n=0
  ·by_cases hm:m=0
   ·subst hm
    have hf:mayF (famM d.p.st t):=fam_may hI.sv.sp.ok.good (look_fam (look_ok hk).1).2.2.1;obtain ⟨l2,q2,-⟩:=hf.2.2.2.2;exact ⟨inB l l2,fun _ _=>⟨l,0,l2,0,out_joined hout,q2,.inr (.inr ⟨rfl,rfl,rfl,rfl⟩)⟩,fun h=>by rcases h with h | h; exact absurd hk h; exact absurd rfl h⟩
   ·exact ⟨false,fun _ h=>absurd h hm,fun _=>rfl⟩
  ·exact ⟨false,fun h=>absurd h hk,fun _=>rfl⟩
 refine (dRotate_is N w gk gd gs gv gm gt nt ct bn nn cn d.r d.p _ v (Ev.bs x) (Ev.bs (textW y)) (Ev.bs (textW z)) _ _ hI h0 h1 h2 hgt hn (fun W hW=>rotate_is N W gv gs gd d.r d.p v (Ev.bs x) (Ev.bs (textW y)) (Ev.bs (textW z)) t n l m b hW (by rw [bs_size]; exact hx) (by rw [bs_size]; exact hy) (by rw [bs_size]; exact hz) (by rw [bsL]; exact htok) (by rw [bsL]; exact hout) hb1 (by omega))).mono ?_
 rintro e w' ⟨rfl,v',hto⟩;rw [bsL,txt_eq] at *;exact ⟨_,_,doesRotate ⟨x,y,z,t,n,l,m,b,rfl,htok,hout,hb1,hb2,rfl⟩,rfl,fun _=>rfl,rotateM_err _ _ _ _ _ _ _ _ _ (scOut_err hout),DkTo.sv hI h.ord h.old hto⟩
theorem ordMint {gt nt ct:Nat} {bn:Option Addr} {nn cn:Nat} {x:Word} {ns:List Int} (h:DkS N w gk gm gd gs d) (h0:w.cell? ⟨gt,0,none⟩=some (.string (Ev.bs x))) (hgt:gt≠gd∧gt≠gs) (hn:0<nt) (hx:x.length≤5000) :
 Calls Tryz.prog 231 #[.pointer (some ⟨gk,0,none⟩),.agg #[.slice (some ⟨gt,0,none⟩) nt ct,.slice bn nn cn]] w (OrdPost N w gk gm gd gs d cMint [x] ns):=by
 obtain ⟨gv,v,hI⟩:=h.st;obtain ⟨t,n,htok⟩:=Tok.out_any (tag d.r.key) x;refine (dMint_is N w gk gd gs gv gm gt nt ct bn nn cn d.r d.p d.p v (Ev.bs x) _ _ hI h0 hgt hn (fun W hW=>(mint_is N W gv gs gd d.r d.p v (Ev.bs x) t n hW (by rw [bs_size]; exact hx) (by rw [bsL]; exact htok)).mono (fun e w' q=>⟨q.1,v,SPto.same hW.sp q.2⟩))).mono ?_
 rintro e w' ⟨rfl,v',hto⟩;rw [txt_eq] at *;exact ⟨_,_,doesMint ⟨x,t,n,rfl,htok,rfl⟩,rfl,fun _=>rfl,mintM_err _ _ _ _ _,DkTo.sv (d:=d) hI h.ord h.old hto⟩
theorem ordShow {gt nt ct:Nat} {bn:Option Addr} {nn cn:Nat} {x:Word} {ns:List Int} (h:DkS N w gk gm gd gs d) (h0:w.cell? ⟨gt,0,none⟩=some (.string (Ev.bs x))) (hgt:gt≠gd∧gt≠gs) (hn:0<nt) (hx:x.length≤5000) :
 Calls Tryz.prog 232 #[.pointer (some ⟨gk,0,none⟩),.agg #[.slice (some ⟨gt,0,none⟩) nt ct,.slice bn nn cn]] w (OrdPost N w gk gm gd gs d cShow [x] ns):=by
 obtain ⟨gv,v,hI⟩:=h.st;obtain ⟨t,n,htok⟩:=Tok.out_any (tag d.r.key) x
 have hF:(showM d.r d.p t n).2=0→mayF (showM d.r d.p t n).1∧(famL (showM d.r d.p t n).1).length≤100000:=fun hz=>by
  have hm:mayF (showM d.r d.p t n).1:=by
   unfold showM at hz ⊢;split at hz
   ·rename_i h5; exact absurd hz h5
   ·rename_i h5
    rw [if_neg h5];split at hz
    ·cases hz
    ·rename_i h6
     rw [if_neg h6];exact fam_may hI.sv.sp.ok.good (look_fam (look_ok (by simpa using h5)).1).2.2.1
  exact ⟨hm,by have:=famL_len hm; omega⟩
 refine (dShow_is N w gk gd gs gv gm gt nt ct bn nn cn d.r d.p d.p v (Ev.bs x) (showM d.r d.p t n).1 (showM d.r d.p t n).2 hI h0 hgt hn hF (fun W hW=>(show_is N W gv gs gd d.r d.p v (Ev.bs x) t n hW (by rw [bs_size]; exact hx) (by rw [bsL]; exact htok)).mono (fun e w' q=>⟨q.1,v,SPto.same hW.sp q.2⟩))).mono ?_
 rintro e w' ⟨rfl,v',hto⟩;exact ⟨_,_,doesShow ⟨x,t,n,rfl,htok,rfl⟩,rfl,fun _=>rfl,showM_err _ _ _ _,DkTo.sv (d:=d) hI h.ord h.old hto⟩
theorem ordKill {gn nt ct nn cn:Nat} {bt:Option Addr} {i:Int} {ws:List Word} (h:DkS N w gk gm gd gs d) (h0:w.cell? ⟨gn,0,none⟩=some (.int .i64 i)) (hgt:gn≠gd∧gn≠gs) (hn:0<nn) (hN:N<97000) :
 Calls Tryz.prog 233 #[.pointer (some ⟨gk,0,none⟩),.agg #[.slice bt nt ct,.slice (some ⟨gn,0,none⟩) nn cn]] w (OrdPost N w gk gm gd gs d cKill ws [i]):=by
 obtain ⟨gv,v,hI⟩:=h.st;refine (dKill_is N w gk gd gs gv gm gn nt ct bt nn cn d.r d.p _ v i _ hI h0 hgt hn (fun W hW=>kill_is N W gv gs gd d.r d.p v i hW (by omega))).mono ?_
 rintro e w' ⟨rfl,v',hto⟩;exact ⟨_,_,doesKill ⟨i,rfl,rfl⟩,rfl,fun _=>rfl,killM_err _ _,DkTo.sv hI h.ord h.old hto⟩
theorem ordSave {bt bn:Option Addr} {nt ct nn cn:Nat} {ws:List Word} {ns:List Int} (h:DkS N w gk gm gd gs d) (hN:N<97000) :
 Calls Tryz.prog 234 #[.pointer (some ⟨gk,0,none⟩),.agg #[.slice bt nt ct,.slice bn nn cn]] w (OrdPost N w gk gm gd gs d cSave ws ns):=by
 obtain ⟨gv,v,hI⟩:=h.st;refine (dSave_is N w gk gd gs gv gm bt bn nt ct nn cn d.r d.p (saveP d.p).1 v (saveP d.p).2 hI (fun W hW=>(saveS_is N W gs gd d.p v hW.sp (by omega)).mono (fun e w' q=>⟨q.1,v,q.2.1,q.2.2,.inl rfl⟩))).mono ?_
 rintro e w' ⟨rfl,v',hto⟩;exact ⟨_,_,doesSave rfl,rfl,fun _=>rfl,by have:=saveP_err d.p; simp only; omega,DkTo.sv hI h.ord h.old hto⟩
theorem ordCut {gn nt ct nn cn:Nat} {bt:Option Addr} {i:Int} {ws:List Word} (h:DkS N w gk gm gd gs d) (h0:w.cell? ⟨gn,0,none⟩=some (.int .i64 i)) (hi:i≤9223372036854775807) (hn:0<nn) :
 Calls Tryz.prog 235 #[.pointer (some ⟨gk,0,none⟩),.agg #[.slice bt nt ct,.slice (some ⟨gn,0,none⟩) nn cn]] w (OrdPost N w gk gm gd gs d cCut ws [i]):=by
 obtain ⟨gv,v,hI⟩:=h.st;refine (dCut_is N w gk gd gs gv gm gn nt ct bt nn cn d.r d.p (cutP d.p i) v i hI h0 hn (fun W hW=>(cutS_is N W gs gd d.p v i hi hW.sp).mono (fun e w' q=>⟨q.1,v,q.2.1.mono (by omega),q.2.2.mono (by simp),.inl rfl⟩))).mono ?_
 rintro e w' ⟨rfl,v',hto⟩;exact ⟨_,⟨#[99,117,116]⟩,doesCut ⟨i,rfl,rfl⟩,rfl,fun _=>rfl,by simp,DkTo.sv hI h.ord h.old hto⟩
theorem ordTick {gn nt ct nn cn:Nat} {bt:Option Addr} {i:Int} {ws:List Word} (h:DkS N w gk gm gd gs d) (h0:w.cell? ⟨gn,0,none⟩=some (.int .i64 i)) (hgt:gn≠gd∧gn≠gs) (hn:0<nn) (hN:N<97000) :
 Calls Tryz.prog 236 #[.pointer (some ⟨gk,0,none⟩),.agg #[.slice bt nt ct,.slice (some ⟨gn,0,none⟩) nn cn]] w (OrdPost N w gk gm gd gs d cTick ws [i]):=by
 obtain ⟨gv,v,hI⟩:=h.st;refine (dTick_is N w gk gd gs gv gm gn nt ct bt nn cn d.r d.p _ v i _ hI h0 hgt hn (fun W hW=>tick_is N W gv gs gd d.r d.p v i hW (by omega))).mono ?_
 rintro e w' ⟨rfl,v',hto⟩;exact ⟨_,_,doesTick ⟨i,rfl,rfl⟩,rfl,fun _=>rfl,tickM_err _ _,DkTo.sv hI h.ord h.old hto⟩
theorem ordSweep {bt bn:Option Addr} {nt ct nn cn:Nat} {ws:List Word} {ns:List Int} (h:DkS N w gk gm gd gs d) (hN:N<97000) :
 Calls Tryz.prog 237 #[.pointer (some ⟨gk,0,none⟩),.agg #[.slice bt nt ct,.slice bn nn cn]] w (OrdPost N w gk gm gd gs d cSweep ws ns):=by
 obtain ⟨gv,v,hI⟩:=h.st;refine (dSweep_is N w gk gd gs gv gm bt bn nt ct nn cn d.r d.p _ v _ _ hI (sweepM_id hI.sv.sp.ok.good) (fun W hW=>sweep_is N W gv gs gd d.r d.p v hW (by omega))).mono ?_
 rintro e w' ⟨rfl,v',hto⟩;exact ⟨_,_,doesSweep rfl,rfl,fun _=>rfl,sweepM_err _ _,DkTo.sv hI h.ord h.old hto⟩
theorem ordWrites {bt bn:Option Addr} {nt ct nn cn:Nat} {ws:List Word} {ns:List Int} (h:DkS N w gk gm gd gs d) (hN:N<97000) :
 Calls Tryz.prog 238 #[.pointer (some ⟨gk,0,none⟩),.agg #[.slice bt nt ct,.slice bn nn cn]] w (OrdPost N w gk gm gd gs d cWrites ws ns):=by
 obtain ⟨gv,v,hI⟩:=h.st;refine (dWrites_is N w gk gd gs gv gm bt bn nt ct nn cn d.r d.p v hI (by have:=hI.sv.sp.ok.few; omega)).mono ?_
 rintro e w' ⟨rfl,hb⟩;exact ⟨_,_,doesWrites rfl,(tellE_ok _).symm,fun _=>rfl,by simp,DkTo.same h hb⟩
theorem ordLog {bt bn:Option Addr} {nt ct nn cn:Nat} {ws:List Word} {ns:List Int} (h:DkS N w gk gm gd gs d) :
 Calls Tryz.prog 239 #[.pointer (some ⟨gk,0,none⟩),.agg #[.slice bt nt ct,.slice bn nn cn]] w (OrdPost N w gk gm gd gs d cLog ws ns):=by
 obtain ⟨gv,v,hI⟩:=h.st;refine (dLog_is N w gk gd gs gv gm bt bn nt ct nn cn d.r d.p v hI (by have:=hI.sv.sp.ok.low; unfold okN; omega)).mono ?_
 rintro e w' ⟨rfl,hb⟩;exact ⟨_,_,doesLog rfl,(tellE_ok _).symm,fun _=>rfl,by simp,DkTo.same h hb⟩
theorem ordFams {bt bn:Option Addr} {nt ct nn cn:Nat} {ws:List Word} {ns:List Int} (h:DkS N w gk gm gd gs d) :
 Calls Tryz.prog 240 #[.pointer (some ⟨gk,0,none⟩),.agg #[.slice bt nt ct,.slice bn nn cn]] w (OrdPost N w gk gm gd gs d cFams ws ns):=by
 obtain ⟨gv,v,hI⟩:=h.st;refine (dFamilies_is N w gk gd gs gv gm bt bn nt ct nn cn d.r d.p v hI).mono ?_;rintro e w' ⟨rfl,hb⟩;exact ⟨_,_,doesFams rfl,(tellE_ok _).symm,fun _=>rfl,by simp,DkTo.same h hb⟩
theorem ordHelp {bt bn:Option Addr} {nt ct nn cn:Nat} {ws:List Word} {ns:List Int} (h:DkS N w gk gm gd gs d) :
 Calls Tryz.prog 244 #[.pointer (some ⟨gk,0,none⟩),.agg #[.slice bt nt ct,.slice bn nn cn]] w (OrdPost N w gk gm gd gs d cHelp ws ns):=by
 obtain ⟨gv,v,hI⟩:=h.st;refine (dHelp_is w gk gm gd gs gv d.r bt bn nt ct nn cn hI.box h.ord).mono ?_;rintro e w' ⟨rfl,hb⟩;exact ⟨_,_,doesHelp rfl,(tellE_ok _).symm,fun _=>rfl,by simp,DkTo.same h hb⟩
theorem ordLeast {gt nt ct:Nat} {bn:Option Addr} {nn cn:Nat} {x:Word} {ns:List Int} (h:DkS N w gk gm gd gs d) (h0:w.cell? ⟨gt,0,none⟩=some (.string (Ev.bs (textW x)))) (hn:0<nt) (hx:(textW x).length≤5000) :
 Calls Tryz.prog 241 #[.pointer (some ⟨gk,0,none⟩),.agg #[.slice (some ⟨gt,0,none⟩) nt ct,.slice bn nn cn]] w (OrdPost N w gk gm gd gs d cLeast [x] ns):=by
 obtain ⟨gv,v,hI⟩:=h.st;obtain ⟨l,m,hout⟩:=Sc.out_ex (textW x);refine (dLeast_is w _ gt nt ct bn nn cn (Ev.bs (textW x)) ⟨(joined l).toArray⟩ m h0 hn hI.sv.libs.base.err (fun W hW=>(leastS_is (Ev.bs (textW x)) W (by rw [bs_size]; exact hx) (hI.sv.libs.on hW).len).mono (fun e w' q=>?_))).mono ?_
 ·obtain ⟨l2,m2,rfl,q2,q3⟩:=q
  rw [bsL] at q2;obtain ⟨rfl,rfl⟩:=Sc.out_inj hout q2;exact ⟨rfl,q3⟩
 rintro e w' ⟨rfl,hb⟩;exact ⟨_,_,doesLeast ⟨x,l,m,rfl,hout,rfl⟩,rfl,fun _=>dkWordB_L _,by have:=scOut_err hout; simp only; omega,DkTo.same h hb⟩
theorem ordTag {gt gn nt ct nn cn:Nat} {x y:Word} {i:Int} (h:DkS N w gk gm gd gs d) (h0:w.cell? ⟨gt,0,none⟩=some (.string (Ev.bs y))) (k0:w.cell? ⟨gn,0,none⟩=some (.int .i64 i)) (hn:0<nt) (hm:0<nn) (hy:y.length≤5000) :
 Calls Tryz.prog 242 #[.pointer (some ⟨gk,0,none⟩),.agg #[.slice (some ⟨gt,0,none⟩) nt ct,.slice (some ⟨gn,0,none⟩) nn cn]] w (OrdPost N w gk gm gd gs d cTag [x,y] [i]):=by
 refine (dTag_is _ gt gn nt ct nn cn (Ev.bs y) i w h0 k0 hn hm (by rw [bs_size]; omega)).mono ?_
 rintro e w' ⟨rfl,hb⟩;rw [bsL];exact ⟨_,_,doesTag ⟨i,x,y,rfl,rfl,rfl⟩,(tellE_ok _).symm,fun _=>rfl,by simp,DkTo.same h hb⟩
theorem kindW_B (x:Word):dkKindB (Ev.bs x)=kindW x:=by
 unfold dkKindB kindW;rw [bsL]
theorem ordToken {gt gn nt ct nn cn:Nat} {x:Word} {ys:List Word} {a b c:Int} (h:DkS N w gk gm gd gs d) (h0:w.cell? ⟨gt,0,none⟩=some (.string (Ev.bs x))) (k0:w.cell? ⟨gn,0,none⟩=some (.int .i64 a)) (k1:w.cell? ⟨gn,1,none⟩=some (.int .i64 b)) (k2:w.cell? ⟨gn,2,none⟩=some (.int .i64 c)) (hn:0<nt) (hm:2<nn) :
 Calls Tryz.prog 243 #[.pointer (some ⟨gk,0,none⟩),.agg #[.slice (some ⟨gt,0,none⟩) nt ct,.slice (some ⟨gn,0,none⟩) nn cn]] w (OrdPost N w gk gm gd gs d cToken (x::ys) [a,b,c]):=by
 obtain ⟨gv,v,hI⟩:=h.st;by_cases hk:kindW x=0
 ·refine (dToken_bad w gk gd gs gv gm gt gn nt ct nn cn d.r (Ev.bs x) a b c hI.box h0 k0 k1 k2 hn hm ((kindW_B x).trans hk)).mono ?_
  rintro e w' ⟨rfl,hb⟩;exact ⟨(d,[],3),⟨#[]⟩,doesToken ⟨x,a,b,c,ys,rfl,rfl,(if_pos hk).symm⟩,rfl,fun h=>(by cases h),by simp,DkTo.same h hb⟩
 ·have hk2:dkKindB (Ev.bs x)≠0:=by rw [kindW_B]; exact hk
  cases hmy:mayB ⟨kindW x,a,b,c⟩ with
  |true=>
   refine (dToken_ok w gk gd gs gv gm gt gn nt ct nn cn d.r (Ev.bs x) ⟨(textOf d.r.key ⟨kindW x,a,b,c⟩).toArray⟩ a b c 0 hI.box h0 k0 k1 k2 hn hm hk2 hI.sv.libs.base.err (fun W hW=>by
    rw [kindW_B];exact writeP_yes d.r.key ⟨kindW x,a,b,c⟩ W (mayB_iff.1 hmy) (hI.sv.libs.on hW).base)).mono ?_
   rintro e w' ⟨rfl,hb⟩;exact ⟨_,_,doesToken ⟨x,a,b,c,ys,rfl,rfl,((if_neg hk).trans (if_pos hmy)).symm⟩,rfl,fun _=>rfl,by simp,DkTo.same h hb⟩
  |false=>
   refine (dToken_ok w gk gd gs gv gm gt gn nt ct nn cn d.r (Ev.bs x) ByteArray.empty a b c 1 hI.box h0 k0 k1 k2 hn hm hk2 hI.sv.libs.base.err (fun W hW=>by
    rw [kindW_B];exact writeP_no d.r.key ⟨kindW x,a,b,c⟩ W (fun q=>by rw [mayB_t q] at hmy; cases hmy))).mono ?_
   rintro e w' ⟨rfl,hb⟩;exact ⟨(d,[],1),_,doesToken ⟨x,a,b,c,ys,rfl,rfl,((if_neg hk).trans (if_neg (by simp [hmy]))).symm⟩,rfl,fun h=>(by cases h),by simp,DkTo.same h hb⟩
end
end Go.Proofs.YtlailakofhenkabGreatDoor
