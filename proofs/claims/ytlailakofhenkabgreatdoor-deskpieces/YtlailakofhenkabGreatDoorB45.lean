import Derived.Test.YtlailakofhenkabGreatDoorB44
import Derived.Conc.Holds
import Derived.SevenTiedAt
namespace Go.Proofs.YtlailakofhenkabGreatDoor
open Go Go.RowKit Tok Sc Ev
theorem RowsK.nc {k B:Nat} {l:List Nat} {w w':World} {v:Value} {n:Nat} {cs:List Value} (h:RowsK k B w v n cs) (hk:Keep l w w') (hl:∀ x∈l,∀ j,w.cell? ⟨x,j,none⟩=none):RowsK k B w' v n cs:=by
 rcases h with h1 | ⟨g,c,h1,h2⟩
 ·exact .inl h1
 ·refine .inr ⟨g,c,h1,?_⟩
  by_cases hg:g∈l
  ·have hcell:=hl g hg
   have hc0:∀ j,¬ j<c*k:=fun j hj=>by
    have:=(h2.there j hj).1;rw [hcell j] at this
    cases this
   refine ⟨h2.new,Nat.lt_of_lt_of_le h2.lt hk.size,h2.len,h2.le,h2.max,h2.one,fun j u hj=>?_,fun j hj=>absurd hj (hc0 j)⟩
   have:=h2.holds j u hj;rw [hcell j] at this
   cases this
  ·exact h2.block hk.size (hk.block g h2.lt hg)
theorem SP.elsewhereC {l:List Nat} {N B:Nat} {w w':World} {gs gd:Nat} {p:Pub} {v:Value} (h:SP N w gs gd p v) (hk:Keep l w w') (hB:B≤w.heap.size) (ho:OldsR B) (hl:∀ x∈l,B≤x∧x≠gd∧x≠gs) (hf:Fams (gs+1) w' v p.st.fams):SP N w' gs gd p v:=by
 obtain ⟨A,sv,b,es,h1,h2,h3⟩:=h.run;obtain ⟨F,l',d1,d2,d3⟩:=h3.disk;have hb:Below B w w':=hk.below hB (fun x hx=>(hl x hx).1);have hn:gs∉l:=fun hx=>(hl gs hx).2.2 rfl;have hnd:gd∉l:=fun hx=>(hl gd hx).2.1 rfl;have hc:∀ i,w'.cell? ⟨gs,i,none⟩=w.cell? ⟨gs,i,none⟩:=fun i=>hk.cell (p:=⟨gs,i,none⟩) h3.store.lt hn;have hs:=h3.store;have hst:StoreAt w' gs gd p.dn sv p.lg p.st v:=⟨(hc 0).trans hs.p0,(hc 1).trans hs.p1,(hc 2).trans hs.p2,(hc 3).trans hs.p3,(hc 4).trans hs.p4,(hc 5).trans hs.p5,(hc 6).trans hs.p6,fun i=>(hk.frozen (p:=⟨gs,i,none⟩) hs.lt hn).trans (hs.pf i),hf,Nat.lt_of_lt_of_le hs.lt hk.size⟩
 exact ⟨h.ok,A,sv,b,es,h1,h2,⟨⟨F,l',d1.keep hk hnd h3.gdlt,d2,d3⟩,h3.libs.belowB hb ho.toA,(hb.cell (p:=⟨0,0,none⟩) ho.1.2.2).trans h3.err,hst,h3.ord,h3.olds,h3.oldE,Keep.refl _ _,Nat.lt_of_lt_of_le hs.lt hk.size⟩⟩
theorem DkS.nc {N:Nat} {w w':World} {gk gm gd gs:Nat} {d:Dk} {l:List Nat} (h:DkS N w gk gm gd gs d) (hk:Keep l w w') (hl:∀ x∈l,gk<x∧x≠gm∧∀ j,w.cell? ⟨x,j,none⟩=none):DkS N w' gk gm gd gs d∧gk∉l∧gs∉l:=by
 obtain ⟨gv,v,hI⟩:=h.st;obtain ⟨A,F,l',hd,-⟩:=hI.sv.sp.disk;obtain ⟨sv,hs⟩:=hI.sv.sp.store;have n1:gk∉l:=fun hx=>by have:=(hl gk hx).1; omega
 have n2:gs∉l:=fun hx=>by have:=(hl gs hx).2.2 0; rw [hs.p0] at this; cases this
 have n3:gd∉l:=fun hx=>by have:=(hl gd hx).2.2 0; rw [hd.blk 0 (by omega)] at this; cases this
 have n4:gv∉l:=fun hx=>by have:=(hl gv hx).2.2 0; rw [hI.sv.box.c0] at this; cases this
 have n5:gm∉l:=fun hx=>(hl gm hx).2.1 rfl;have hlt:=hI.box.lt;have hf:Fams (gs+1) w' v d.p.st.fams:=RowsK.nc hI.sv.sp.fam hk (fun x hx=>(hl x hx).2.2);have hsp:=hI.sv.sp.elsewhereC hk (B:=gk) (Nat.le_of_lt hlt) h.old (fun x hx=>⟨by have:=(hl x hx).1; omega,fun e=>n3 (e ▸ hx),fun e=>n2 (e ▸ hx)⟩) hf
 have hli:LibsR w':=hI.sv.libs.belowO (hk.below (B:=gk) (Nat.le_of_lt hlt) (fun x hx=>by have:=(hl x hx).1; omega)) h.old
 exact ⟨⟨⟨gv,v,⟨hsp,hI.sv.box.keep hk n4,hli,hI.sv.rul,hI.sv.ord,hI.sv.out,hI.sv.old⟩,hI.box.keep hk n1,hI.ne,hI.out,Nat.lt_of_lt_of_le hI.ml hk.size⟩,h.ord.keep hk n5 (fun x hx k=>by rw [(hl x hx).2.2 0]; simp),h.old⟩,n1,n2⟩
theorem Bld.cell0 {B:Nat} {w:World} {b:Nat} {v:Value} {bs:List UInt8} (h:Bld B w b v bs) (hne:bs≠ []∨v=.slice none 0 0):∀ r,v.ownBlock=some r→∃ x:UInt8,w.cell? ⟨r,0,none⟩=some (.int .u8 x.toNat):=by
 intro r hr;rcases hne with hne | hv
 ·cases bs with
  |nil=>exact absurd rfl hne
  |cons x xs=>
   have:=h.own.cells hr 0 (.int .u8 x.toNat) (by simp [Lib.byteCells])
   exact ⟨x,by simpa [Addr.add] using this⟩
 ·rw [hv] at hr
  cases hr
theorem Bld.box0 {B:Nat} {w:World} {b:Nat} {v:Value} {bs:List UInt8} (h:Bld B w b v bs):∃ p,w.cell? ⟨b,0,none⟩=some (.pointer p):=by
 rcases h.box with hb | hb
 ·exact ⟨_,by rw [Lib.cell_of_heap hb]; rfl⟩
 ·exact ⟨_,by rw [Lib.cell_of_heap hb]; rfl⟩
def SessTo:List (List UInt8)→Dk→Dk→List UInt8→Prop
 |[],d,d',o=>d'=d∧o= []
 |s::ls,d,d',o=>∃ d1 a o1,LineR d s d1 a∧SessTo ls d1 d' o1∧o=a ++ 10::o1
theorem SessTo.snoc {s a:List UInt8} {d2:Dk}:∀ {ls:List (List UInt8)} {d d':Dk} {o:List UInt8},SessTo ls d d' o→LineR d' s d2 a→SessTo (ls ++ [s]) d d2 (o ++ a ++ [10])
 |[],d,d',o,h,h'=>by
  obtain ⟨rfl,rfl⟩:=h;exact ⟨d2,a,[],h',⟨rfl,rfl⟩,by simp⟩
 |x::ls,d,d',o,h,h'=>by
  obtain ⟨d1,a1,o1,h1,h2,rfl⟩:=h;exact ⟨d1,a1,_,h1,h2.snoc h',by simp⟩
theorem SessTo.sess:∀ {ls:List (List UInt8)} {d d':Dk} {o:List UInt8},SessTo ls d d' o→SessR ls d o
 |[],_,_,_,h=>h.2
 |x::ls,d,d',o,h=>by
  obtain ⟨d1,a1,o1,h1,h2,rfl⟩:=h;exact ⟨d1,a1,o1,h1,h2.sess,rfl⟩
theorem errL_len {n:Nat} (h:n≤100):(errL n).length≤100:=by
 have:=digits13 (n:=(n:Int)) ⟨by omega,by omega⟩
 unfold errL;simp only [List.length_append,List.length_cons,List.length_nil];omega
theorem line_len {d d':Dk} {L a:List UInt8} (h:LineR d L d' a) (hg:Ev.Good d.p.st) (hr:RulOk d.r) (hg2:Ev.Good d'.p.st) (hn:d.p.n≤100000) (hlg:d.p.lg≤16):a.length≤100000:=by
 unfold LineR at h;split at h
 ·rw [h.2]; decide
 ·split at h
  ·rw [h.2]; have:=errL_len (n:=3) (by omega); omega
  ·split at h
   ·rw [h.2]; have:=errL_len (n:=3) (by omega); omega
   ·obtain ⟨o,h1,rfl,rfl⟩:=h
    have h2:=does_len h1 hg hr hg2 hn hlg;unfold Ev.told;split
    ·exact h2.1
    ·have:=errL_len h2.2; omega
structure Off (W:World) (gk gm gd gs t:Nat):Prop where
 k:gk<t
 d:t≠gd
 s:t≠gs
 m:t≠gm
 far:FarV W gk gs t
 lt:t<W.heap.size
theorem Off.notMem {W:World} {gk gm gd gs t:Nat} (h:Off W gk gm gd gs t):t∉ [gk,gd,gs]:=by
 have h1:=h.k;have h2:=h.d;have h3:=h.s;simp
 omega
structure SInv (w0:World) (gb gp gk gm:Nat) (pre:List (List UInt8)) (W:World) (d:Dk) (gd gs:Nat) (v:Value) (out:List UInt8):Prop where
 sess:SessTo pre startDk d out
 desk:DkS (22*pre.length) W gk gm gd gs d
 bld:Bld w0.heap.size W gb v out
 ptr:W.cell? ⟨gp,0,none⟩=some (.pointer (some ⟨gk,0,none⟩))
 offB:Off W gk gm gd gs gb
 offP:Off W gk gm gd gs gp
 offR:∀ r,v.ownBlock=some r→Off W gk gm gd gs r∧r≠gp
 bp:gb≠gp
 below:Below w0.heap.size w0 W
 len:out.length≤pre.length*100001
 nil:out≠ []∨v=.slice none 0 0
 lp:w0.heap.size≤gp
 lb:w0.heap.size≤gk
 ld:w0.heap.size≤gd
 ls:w0.heap.size≤gs
theorem SInv.nc {w0:World} {gb gp gk gm:Nat} {pre:List (List UInt8)} {W W':World} {d:Dk} {gd gs:Nat} {v:Value} {out:List UInt8} {l:List Nat} (h:SInv w0 gb gp gk gm pre W d gd gs v out) (hk:Keep l W W') (hl:∀ x∈l,gk<x∧x≠gm∧∀ j,W.cell? ⟨x,j,none⟩=none):SInv w0 gb gp gk gm pre W' d gd gs v out:=by
 obtain ⟨q1,q2,q3⟩:=h.desk.nc hk hl;obtain ⟨pb,hpb⟩:=h.bld.box0;have n1:gb∉l:=fun hx=>by have:=(hl gb hx).2.2 0; rw [hpb] at this; cases this
 have n2:gp∉l:=fun hx=>by have:=(hl gp hx).2.2 0; rw [h.ptr] at this; cases this
 have n3:∀ r,v.ownBlock=some r→r∉l:=fun r hr hx=>by
  obtain ⟨x,hx2⟩:=h.bld.cell0 h.nil r hr
  have:=(hl r hx).2.2 0;rw [hx2] at this
  cases this
 have lts:=h.desk.lts;have off:∀ t,Off W gk gm gd gs t→Off W' gk gm gd gs t:=fun t ho=>⟨ho.k,ho.d,ho.s,ho.m,ho.far.elsewhere hk lts.1 lts.2.2.1 q2 q3,Nat.lt_of_lt_of_le ho.lt hk.size⟩;have hsz:=h.below.size;exact ⟨h.sess,q1,h.bld.keep hk n1 n3,(hk.cell (p:=⟨gp,0,none⟩) h.offP.lt n2).trans h.ptr,off _ h.offB,off _ h.offP,fun r hr=>⟨off _ (h.offR r hr).1,(h.offR r hr).2⟩,h.bp,h.below.trans (hk.below hsz (fun x hx=>by have:=(hl x hx).1; have:=h.lb; omega)),h.len,h.nil,h.lp,h.lb,h.ld,h.ls⟩
theorem cells_ne {W:World} {k:Nat} {o:Obj} (hk:W.heap[k]?=some o) (ho:o.isCells=false) {g:Nat} {j:Nat} {u:Value} (hc:W.cell? ⟨g,j,none⟩=some u):g≠k:=by
 rintro rfl;unfold World.cell? at hc;rw [hk] at hc
 cases o <;> simp [Obj.isCells] at ho hc
theorem DkS.cells {N:Nat} {w:World} {gk gm gd gs:Nat} {d:Dk} (h:DkS N w gk gm gd gs d):∀ x∈ [gk,gd,gs],∃ u,w.cell? ⟨x,0,none⟩=some u:=by
 obtain ⟨gv,v,hI⟩:=h.st;obtain ⟨A,F,l',hd,-⟩:=hI.sv.sp.disk;obtain ⟨sv,hs⟩:=hI.sv.sp.store;intro x hx;simp only [List.mem_cons,List.not_mem_nil,or_false] at hx;rcases hx with rfl | rfl | rfl
 ·exact ⟨_,hI.box.c0⟩
 ·exact ⟨_,hd.blk 0 (by omega)⟩
 ·exact ⟨_,hs.p0⟩
theorem SInv.bld1 {w0:World} {gb gp gk gm:Nat} {pre:List (List UInt8)} {W W1:World} {d d':Dk} {gd gs N:Nat} {v:Value} {out:List UInt8} (h:SInv w0 gb gp gk gm pre W d gd gs v out) (hto:DkTo N W W1 gk gm gd gs d'):Bld w0.heap.size W1 gb v out∧w0.heap.size≤W1.heap.size∧W1.cell? ⟨gp,0,none⟩=some (.pointer (some ⟨gk,0,none⟩)):=by
 obtain ⟨gd',gs',q1,q2,-⟩:=hto;exact ⟨h.bld.keep q2 h.offB.notMem (fun r hr=>(h.offR r hr).1.notMem),Nat.le_trans h.below.size q2.size,(q2.cell (p:=⟨gp,0,none⟩) h.offP.lt h.offP.notMem).trans h.ptr⟩
theorem SInv.step {w0:World} {gb gp gk gm:Nat} {pre:List (List UInt8)} {W W1 W2 W3:World} {d d':Dk} {gd gs:Nat} {v v1 v2:Value} {out x a:List UInt8} (h:SInv w0 gb gp gk gm pre W d gd gs v out) (hN:22*pre.length<97000) (hline:LineR d x d' a) (hto:DkTo (22*pre.length) W W1 gk gm gd gs d')
 (hk1:Keep (gb::ownL v) W1 W2) (hn1:NewFrom W1.heap.size v v1) (hb2:Bld w0.heap.size W3 gb v2 (out ++ a ++ [10])) (hk2:Keep (gb::ownL v1) W2 W3) (hn2:NewFrom W2.heap.size v1 v2):(∃ gd' gs',SInv w0 gb gp gk gm (pre ++ [x]) W3 d' gd' gs' v2 (out ++ a ++ [10]))∧KeepsOthers W W3:=by
 obtain ⟨hbl1,hs1,hp1⟩:=h.bld1 hto;obtain ⟨gd',gs',q1,q2,q3,q4,q5⟩:=hto;have lts:=h.desk.lts;have lts1:=q1.lts;have hs12:=q2.size
 have hk12:Keep (gb::ownL v) W1 W3:=by
  refine ⟨hk2.os.trans hk1.os,hk2.tape.trans hk1.tape,hk2.output.trans hk1.output,Nat.le_trans hk1.size hk2.size,fun b hb hn=>(hk2.block b (Nat.lt_of_lt_of_le hb hk1.size) ?_).trans (hk1.block b hb hn)⟩;simp only [List.mem_cons,not_or] at hn ⊢;refine ⟨hn.1,fun hm=>?_⟩;rw [mem_ownL] at hm;rcases hn1 with e | e
  ·exact hn.2 (mem_ownL.2 (e ▸ hm))
  ·have:=e b hm
   omega
 have offW:∀ t∈gb::ownL v,Off W gk gm gd gs t∧t≠gp:=fun t ht=>by
  rcases List.mem_cons.1 ht with rfl | ht
  ·exact ⟨h.offB,h.bp⟩
  ·exact h.offR t (mem_ownL.1 ht)
 have ne:∀ t,Off W gk gm gd gs t→t≠gd'∧t≠gs':=fun t ho=>by
  have:=ho.lt
  have:=ho.d
  have:=ho.s;exact ⟨by omega,by omega⟩
 have hcell:∀ t∈gb::ownL v,∃ u,W1.cell? ⟨t,0,none⟩=some u∧∀ k:Int,u≠.int .i64 k:=fun t ht=>by
  rcases List.mem_cons.1 ht with rfl | ht
  ·obtain ⟨p,hp⟩:=hbl1.box0
   exact ⟨_,hp,fun k e=>by cases e⟩
  ·obtain ⟨y,hy⟩:=hbl1.cell0 h.nil t (mem_ownL.1 ht)
   exact ⟨_,hy,fun k e=>by cases e⟩
 have hd3:DkS (22*pre.length+22) W3 gk gm gd' gs' d':=q1.elsewhere hk12 (fun t ht=>by
  have ho:=(offW t ht).1;obtain ⟨u,hu,hnu⟩:=hcell t ht;exact ⟨ho.k,(ne t ho).1,(ne t ho).2,ho.m,q5 t ho.lt ho.far,fun k e=>hnu k (by rw [hu] at e; exact Option.some.inj e)⟩)
 have nk:gk∉gb::ownL v:=fun hx=>by have:=(offW gk hx).1.k; omega
 have ns:gs'∉gb::ownL v:=fun hx=>(ne gs' (offW gs' hx).1).2 rfl;have off3:∀ t,Off W gk gm gd gs t→Off W3 gk gm gd' gs' t:=fun t ho=>⟨ho.k,(ne t ho).1,(ne t ho).2,ho.m,(q5 t ho.lt ho.far).elsewhere hk12 lts1.1 lts1.2.2.1 nk ns,Nat.lt_of_lt_of_le ho.lt (Nat.le_trans hs12 hk12.size)⟩;have np:gp∉gb::ownL v:=fun hx=>(offW gp hx).2 rfl;obtain ⟨gv1,vv1,hI1⟩:=q1.st;obtain ⟨gv0,vv0,hI0⟩:=h.desk.st;have hsz:=h.below.size;refine ⟨⟨gd',gs',h.sess.snoc hline,?_,hb2,(hk12.cell (p:=⟨gp,0,none⟩) (Nat.lt_of_lt_of_le h.offP.lt hs12) np).trans hp1,off3 _ h.offB,off3 _ h.offP,fun r hr=>?_,h.bp,?_,?_,.inl (by simp),h.lp,h.lb,?_,?_⟩,?_,?_⟩
 ·rw [List.length_append,List.length_cons,List.length_nil]
  exact hd3.mono (by omega)
 ·have hor:v.ownBlock=some r∨W1.heap.size≤r:=by
   rcases hn2 with e | e
   ·rw [e] at hr
    rcases hn1 with e1 | e1
    ·exact .inl (e1 ▸ hr)
    ·exact .inr (e1 r hr)
   ·have:=e r hr
    have:=hk1.size;exact .inr (by omega)
  rcases hor with h5 | h5
  ·exact ⟨off3 _ (h.offR r h5).1,(h.offR r h5).2⟩
  ·refine ⟨⟨by omega,by omega,by omega,by omega,?_,(hb2.own.lt r hr).2⟩,by have:=h.offP.lt; omega⟩
   exact (hI1.far.2 ⟨NotIn.past hI1.sv.sp.fam h5,by have:=hI1.sv.box.lt; omega⟩:FarV W1 gk gs' r).elsewhere hk12 lts1.1 lts1.2.2.1 nk ns
 ·have h5:Below w0.heap.size W W1:=q2.below hsz (fun y hy=>by
   have:=h.lb
   have:=h.ld
   have:=h.ls;simp only [List.mem_cons,List.not_mem_nil,or_false] at hy;omega)
  have h6:Below w0.heap.size W1 W3:=hk12.below hs1 (fun y hy=>by
   rcases List.mem_cons.1 hy with rfl | hy
   ·exact hbl1.new
   ·exact (hbl1.own.lt y (mem_ownL.1 hy)).1)
  exact (h.below.trans h5).trans h6
 ·have hlen:=line_len hline hI0.sv.sp.ok.good hI0.sv.rul hI1.sv.sp.ok.good (by have:=hI0.sv.sp.ok.few; omega) hI0.sv.sp.ok.low
  have:=h.len;simp only [List.length_append,List.length_cons,List.length_nil];omega
 ·rcases q3 with rfl | e
  ·exact h.ld
  ·omega
 ·rcases q4 with rfl | e
  ·exact h.ls
  ·omega
 ·exact Nat.le_trans hs12 hk12.size
 ·intro k o hk ho
  have hlt:=(Array.getElem?_eq_some_iff.1 hk).1
  have h1:k∉ [gk,gd,gs]:=fun hx=>by
   obtain ⟨u,hu⟩:=h.desk.cells k hx;exact cells_ne hk ho hu rfl
  have h2:k∉gb::ownL v:=fun hx=>by
   rcases List.mem_cons.1 hx with rfl | hx
   ·obtain ⟨p,hp⟩:=h.bld.box0
    exact cells_ne hk ho hp rfl
   ·obtain ⟨y,hy⟩:=h.bld.cell0 h.nil k (mem_ownL.1 hx)
    exact cells_ne hk ho hy rfl
  rw [hk12.block k (Nat.lt_of_lt_of_le hlt hs12) h2,q2.block k hlt h1];exact hk
end Go.Proofs.YtlailakofhenkabGreatDoor
set_option maxRecDepth 100000
set_option maxHeartbeats 4000000
namespace Go.Proofs.YtlailakofhenkabGreatDoor
open Go Go.RowKit Go.Shelf Tok Sc Ev
attribute [local go_sem] Oper.semAt_some
theorem keepLen_put {w:World} (W:World) (l:Nat) (o o':Obj) (_:w.heap.size≤l) (h:W.heap[l]?=some o) (ho:o.isCells=false) (_:o.isWalk=false):KeepLen W (W.putObj l o'):=by
 rintro ⟨m,hm⟩;exact ⟨m,(World.cell?_of_block (World.putObj_heap_other (cells_ne h ho hm))).trans hm⟩
theorem DkS.libs {N:Nat} {w:World} {gk gm gd gs:Nat} {d:Dk} (h:DkS N w gk gm gd gs d):LibsR w:=by
 obtain ⟨gv,v,hI⟩:=h.st;exact hI.sv.libs
theorem sess_start {w w1:World} {gm gd gs:Nat} (h:DkS 0 w1 w.heap.size gm gd gs startDk) (hb:Below w.heap.size w w1) (hgd:w.heap.size≤gd) (s:ByteArray):SInv w (w1.heap.size+1) w1.heap.size w.heap.size gm [] (((w1.alloc (.cells #[.pointer (some ⟨w.heap.size,0,none⟩)] 161)).alloc (.cells #[.pointer none,.slice none 0 0] 166)).alloc (.cells #[.string s] 9)) startDk gd gs (.slice none 0 0) []:=by
 have hb3:Below w1.heap.size w1 (((w1.alloc (.cells #[.pointer (some ⟨w.heap.size,0,none⟩)] 161)).alloc (.cells #[.pointer none,.slice none 0 0] 166)).alloc (.cells #[.string s] 9)):=(((Below.refl _ w1).alloc (Nat.le_refl _) _).alloc (by simp) _).alloc (by simp; omega) _
 have lts:=h.lts;have hsz3:((((w1.alloc (.cells #[.pointer (some ⟨w.heap.size,0,none⟩)] 161)).alloc (.cells #[.pointer none,.slice none 0 0] 166)).alloc (.cells #[.string s] 9))).heap.size=w1.heap.size+3:=by simp
 obtain ⟨gv,v,hI⟩:=h.st;have hgs:=hI.sv.sp.ord;have off:∀ t,w1.heap.size≤t→t<w1.heap.size+3→Off (((w1.alloc (.cells #[.pointer (some ⟨w.heap.size,0,none⟩)] 161)).alloc (.cells #[.pointer none,.slice none 0 0] 166)).alloc (.cells #[.string s] 9)) w.heap.size gm gd gs t:=fun t h1 h2=>⟨by omega,by omega,by omega,by omega,(hI.far.2 ⟨NotIn.past hI.sv.sp.fam h1,by have:=hI.sv.box.lt; omega⟩:FarV w1 w.heap.size gs t).on hb3 lts.1 lts.2.2.1,by rw [hsz3]; exact h2⟩
 have hc1:((((w1.alloc (.cells #[.pointer (some ⟨w.heap.size,0,none⟩)] 161)).alloc (.cells #[.pointer none,.slice none 0 0] 166)).alloc (.cells #[.string s] 9))).heap[w1.heap.size+1]?=some (.cells #[.pointer none,.slice none 0 0] 166 (0,0)):=by
  rw [Below.heap_alloc _ _ _ (by simp)]
  have h5:(w1.alloc (.cells #[.pointer (some ⟨w.heap.size,0,none⟩)] 161)).heap.size=w1.heap.size+1:=by simp
  rw [← h5];exact World.alloc_heap_new _ _
 have hc0:((((w1.alloc (.cells #[.pointer (some ⟨w.heap.size,0,none⟩)] 161)).alloc (.cells #[.pointer none,.slice none 0 0] 166)).alloc (.cells #[.string s] 9))).cell? ⟨w1.heap.size,0,none⟩=some (.pointer (some ⟨w.heap.size,0,none⟩)):=by
  have q1:w1.heap.size<(w1.alloc (.cells #[.pointer (some ⟨w.heap.size,0,none⟩)] 161)).heap.size:=by simp
  have q2:w1.heap.size<((w1.alloc (.cells #[.pointer (some ⟨w.heap.size,0,none⟩)] 161)).alloc (.cells #[.pointer none,.slice none 0 0] 166)).heap.size:=by simp; omega
  exact ((World.cell?_alloc_lt _ _ _ q2).trans (World.cell?_alloc_lt _ _ _ q1)).trans ((World.cell?_alloc_at _ _ _ _ rfl).trans rfl)
 exact ⟨⟨rfl,rfl⟩,h.on hb3,⟨by have:=hb.size; omega,.inl hc1,World.ownsRow_nil _ _ _ _⟩,hc0,off _ (by omega) (by omega),off _ (by omega) (by omega),fun r hr=>(by cases hr),by omega,hb.trans (hb3.mono hb.size),by simp,.inr rfl,hb.size,Nat.le_refl _,hgd,by omega⟩
theorem session_short (s:ByteArray) (w:World) (hs:s.size≤4000) (hL:LibsR w) (hO:OldsR w.heap.size) :
 Calls Tryz.prog 48 #[.string s] w fun e w'=>∃ o,e=.returned (.string ⟨o.toArray⟩)∧SessionR s.data.toList o∧Below w.heap.size w w':=by
 have hgt:¬ (20000:Int)<(s.size:Int):=by omega
 have HND:Hid _:=newDesk_is w hL hO;have HS:Hid (s.size≤4000):=hs;have HOL:Hid (OldsR w.heap.size):=hO;clear hL hO hs;refine (callsIn_wide (n:=6)).1 ?_;refine callsIn_of_wp_marks Tryz.func48 rfl trivial ?_ rfl;simp only [Tryz.ntmps48,List.size_toArray,List.length_cons,List.length_nil,Nat.reduceAdd,Nat.reduceSub,Array.replicate_succ,Array.replicate_zero,List.push_toArray,List.append_toArray,List.nil_append,List.cons_append];gi_wp2
 refine ⟨trivial,(callsIn_wide.2 HND.out).mono ?_⟩;rintro e1 w1 ⟨gd,gs,gv,gm,v,rfl,hI,hO,hb1,hgd⟩;have HDS:Hid (DkS 0 w1 w.heap.size gm gd gs startDk):=⟨⟨gv,v,hI⟩,hO,HOL.out⟩;have HGD:Hid (w.heap.size≤gd):=hgd;have HB1:Hid _:=hb1;clear hI hO hb1 hgd;gi_wp2
 refine ⟨trivial,(callsIn_wide.2 (lines_is s _)).mono ?_⟩;rintro e2 w2 ⟨rfl,rfl⟩;have hb3:Below w1.heap.size w1 (((w1.alloc (.cells #[.pointer (some ⟨w.heap.size,0,none⟩)] 161)).alloc (.cells #[.pointer none,.slice none 0 0] 166)).alloc (.cells #[.string s] 9)):=(((Below.refl _ w1).alloc (Nat.le_refl _) _).alloc (by simp) _).alloc (by simp; omega) _
 have HSI:Hid (SInv w (w1.heap.size+1) w1.heap.size w.heap.size gm [] (((w1.alloc (.cells #[.pointer (some ⟨w.heap.size,0,none⟩)] 161)).alloc (.cells #[.pointer none,.slice none 0 0] 166)).alloc (.cells #[.string s] 9)) startDk gd gs (.slice none 0 0) []):=sess_start HDS.out HB1.out HGD.out s
 have HTX:Hid (((((w1.alloc (.cells #[.pointer (some ⟨w.heap.size,0,none⟩)] 161)).alloc (.cells #[.pointer none,.slice none 0 0] 166)).alloc (.cells #[.string s] 9))).cell? ⟨w1.heap.size+1+1,0,none⟩=some (.string s)):=by
  have h5:((w1.alloc (.cells #[.pointer (some ⟨w.heap.size,0,none⟩)] 161)).alloc (.cells #[.pointer none,.slice none 0 0] 166)).heap.size=w1.heap.size+1+1:=by simp
  show World.cell? _ _=_
  rw [← h5];exact (World.cell?_alloc_at _ _ _ _ rfl).trans rfl
 have HLN:Hid (LenOk (((w1.alloc (.cells #[.pointer (some ⟨w.heap.size,0,none⟩)] 161)).alloc (.cells #[.pointer none,.slice none 0 0] 166)).alloc (.cells #[.string s] 9))):=(HDS.out.libs.on hb3).len;have hsz3:((((w1.alloc (.cells #[.pointer (some ⟨w.heap.size,0,none⟩)] 161)).alloc (.cells #[.pointer none,.slice none 0 0] 166)).alloc (.cells #[.string s] 9))).heap.size=w1.heap.size+3:=by simp
 clear hb3;gi_wp2
 generalize (((w1.alloc (.cells #[.pointer (some ⟨w.heap.size,0,none⟩)] 161)).alloc (.cells #[.pointer none,.slice none 0 0] 166)).alloc (.cells #[.string s] 9))=W0 at *;have hseq:=lines_stops 5 (w1.heap.size+1+1) s.data.toList W0 (by omega) (by rw [show Ev.bs s.data.toList=s from rfl]; exact HTX.out) (by rw [toL]; have:=HS.out; omega) HLN.out
 refine wpIn_rangeFunc_ownG (F:=Fence.wide) rfl (by omega) (gf:=148) (lb:=#[.pointer (some ⟨w1.heap.size+1+1,0,none⟩)]) rfl trivial (enters_of Tryz.func148 (by kernel_rfl) rfl) hseq (fun h k x=>k (h x)) keepLen_put (Below.refl _ _) (fun _=>rfl)
  (fun pre W=>∃ (d:Dk) (gd gs:Nat) (v:Value) (out:List UInt8),Hid (SInv w (w1.heap.size+1) w1.heap.size w.heap.size gm (pre.map (·.1)) W d gd gs v out)) (fun _ _ _=>False) ?hI (fun _ _ _ _ _ hs _ _=>hs) ⟨_,_,_,_,_,HSI⟩
  (fun x=>{ tmps:=#[.string s,undef,.string ⟨#[]⟩,.pointer (some ⟨w1.heap.size,0,none⟩),.pointer (some ⟨w1.heap.size+1,0,none⟩),.string (Ev.bs x.1),.string s,.int .i64 s.size,.bool false,undef,undef,.pointer (some ⟨w.heap.size,0,none⟩),.string s,.func (.func 148) #[] #[.pointer (some ⟨w1.heap.size+1+1,0,none⟩)],.string (Ev.bs x.1),undef,undef,undef,undef,undef,undef],defers:= [] }) ?assign ?body ?done ?stop
 case hI=>
  rintro pre W W' row ⟨d,gd,gs,v,out,HSV⟩ hg hr;have hk:Keep row.toList W W':=⟨hg.os,hg.tape,hg.output,hg.size,fun i hi hn=>hg.block i hi (fun e=>hn (by rw [Eq.symm e]; simp))⟩
  have hlt:=HDS.out.lts;obtain ⟨gv3,v3,hI3⟩:=HDS.out.st;have hml:=hI3.ml;have hbl:=hI3.box.lt
  exact ⟨d,gd,gs,v,out,HSV.out.nc hk (fun x hx=>by
   obtain ⟨h1,o,h2,h3⟩:=hr x (by simpa using hx)
   refine ⟨by omega,by omega,fun j=>?_⟩
   unfold World.cell?;rw [h2]
   cases o <;> simp [Obj.isCells] at h3 ⊢)⟩
 case assign=>
  intro l x W K hK;gi_wp2
  exact hK
 case body=>
  rintro l pre x W ⟨d,gd,gs,v,out,HSV⟩ hlen;have hp:=HSV.out.ptr;gi_wp2
  have hlen2:pre.length≤4000:=by
   have h1:=(parts_small (c:=10) _ (trimF s.data.toList) (Nat.le_refl _)).2;have h2:=trim_le s.data.toList;have h3:s.data.toList.length=s.size:=Array.length_toList;have h4:=HS.out;have h5:(linesL s.data.toList).length=(parts 10 (trimF s.data.toList)).length:=rfl;omega
  have hmap:(pre.map (·.1)).length=pre.length:=List.length_map _;refine ⟨trivial,(CallsIn.inRound l (callsIn_wide.2 (answer_is (Ev.bs x.1) HSV.out.desk (by have:=x.2; simp [Ev.bs,ByteArray.size]; omega) (by omega)))).mono ?_⟩
  rintro e3 W1 ⟨d',a,rfl,hline,hto⟩;rw [show (Ev.bs x.1).data.toList=x.1 from by simp [Ev.bs]] at hline
  have HLI:Hid (LineR d x.1 d' a):=hline;have HTO:Hid (DkTo _ W W1 w.heap.size gm gd gs d'):=hto;have HBB:Hid _:=HSV.out.bld1 hto;have hp1:=HBB.out.2.2
  have HLL:Hid (out.length≤4000*100001∧a.length≤100000):=(show _∧_ by
   obtain ⟨gv0,vv0,hI0⟩:=HSV.out.desk.st;obtain ⟨gd',gs',q1,q2,-⟩:=hto;obtain ⟨gv1,vv1,hI1⟩:=q1.st;refine ⟨Nat.le_trans HSV.out.len (Nat.mul_le_mul_right _ (by omega)),line_len hline hI0.sv.sp.ok.good hI0.sv.rul hI1.sv.sp.ok.good (by have:=hI0.sv.sp.ok.few; omega) hI0.sv.sp.ok.low⟩)
  have HNN:Hid (22*(pre.map (·.1)).length<97000):=(show _<_ by omega)
  clear hline hto hlen2 hmap hlen hp;gi_wp2
  refine ⟨trivial,(CallsIn.inRound l (callsIn_wide.2 (bwrite_is ⟨a.toArray⟩ HBB.out.1 (by have:=HLL.out; simp [ByteArray.size]; omega) HBB.out.2.1))).mono ?_⟩
  rintro e4 W2 ⟨rfl,v1,hbl2,hk1,hn1⟩;have HBL2:Hid (Bld w.heap.size W2 (w1.heap.size+1) v1 (out ++ a)):=hbl2;have HK1:Hid _:=hk1;have HN1:Hid _:=hn1;clear hbl2 hk1 hn1 hp1;gi_wp2
  refine ⟨trivial,(CallsIn.inRound l (callsIn_wide.2 (bwrite_is ⟨#[10]⟩ HBL2.out (by have:=HLL.out; simp [ByteArray.size]; omega) (Nat.le_trans HBB.out.2.1 HK1.out.size)))).mono ?_⟩
  rintro e5 W3 ⟨rfl,v2,hbl3,hk2,hn2⟩;have HBL3:Hid (Bld w.heap.size W3 (w1.heap.size+1) v2 (out ++ a ++ [10])):=hbl3;have HK2:Hid _:=hk2;have HN2:Hid _:=hn2;clear hbl3 hk2 hn2;gi_wp2
  obtain ⟨⟨gd',gs',hS⟩,hKO⟩:=HSV.out.step HNN.out HLI.out HTO.out HK1.out HN1.out HBL3.out HK2.out HN2.out;refine ⟨hKO.from _,fun _=>hS.desk.libs.len,d',gd',gs',v2,out ++ a ++ [10],?_⟩
  show SInv _ _ _ _ _ (List.map (fun y:Ln=>y.1) (pre ++ [x])) _ _ _ _ _ _
  rw [List.map_append,List.map_cons,List.map_nil];exact hS
 case done=>
  rintro D ys W hD hys ⟨d,gd,gs,v,out,HSV⟩ hK;have HDD:Hid (W0.heap.size≤D):=hD;have HYS:Hid (List.map (fun x=>x.val) ys=linesL s.data.toList):=hys;clear hD hys;gi_wp2
  refine ⟨trivial,(callsIn_wide.2 (Any.Builder_String_any_k { Tryz.lays156 with } Tryz.Builder_Extra_156 w.heap.size (w1.heap.size+1) out W (Lib.IsBuilderF.of HSV.out.bld.is) HSV.out.below.size)).mono ?_⟩;rintro e3 W1 ⟨rfl,-,hb,ho⟩;have hsz5:=HSV.out.below.size;have hD3:=HDD.out;have hK':W1.heap[D]?=some (.deferred (some [])):=ho D _ hK (by intro e; simp only [Option.some.injEq] at e; omega) (fun c fz e=>by cases e)
  have HBE:Hid _:=hb;clear hb ho;gi_wp2
  refine ⟨by simp,.inl ⟨_,_,rfl,run_takeDeferred hK',?_⟩⟩
  refine ⟨_,results_tmp rfl _ _ _,out,rfl,?_,?_⟩
  ·have hq:¬ 20000<s.data.toList.length:=by have h4:=HS.out; have h3:s.data.toList.length=s.size:=Array.length_toList; omega
   unfold SessionR;rw [if_neg hq];have h5:=HSV.out.sess.sess;rw [HYS.out] at h5;exact h5
  ·exact (HSV.out.below.trans HBE.out).trans (belowK_b (w:=w) (Nat.le_refl _) _ _ _ _ (by have:=HB1.out.size; omega) hK' rfl rfl)
 case stop=>
  rintro D c pre W _ _ h _;exact h.elim
end Go.Proofs.YtlailakofhenkabGreatDoor
namespace Go.Proofs.YtlailakofhenkabGreatDoor
open Go Go.RowKit Go.Shelf Tok Sc Ev
attribute [local go_sem] Oper.semAt_some
theorem least_line:LineR startDk [108,101,97,115,116,32,98,43,97] startDk [97,43,98]:=by
 have hw:wordsL [108,101,97,115,116,32,98,43,97]= [cLeast,[98,43,97]]:=by
  unfold wordsL;rw [show ([108,101,97,115,116,32,98,43,97]:List UInt8)= [108,101,97,115,116] ++ 32:: [98,43,97] from rfl,parts_at _ (by decide),parts_no (by decide)]
  decide
 have hf:formOf cLeast=some [false]:=by decide
 have hp:words (textW [98,43,97])= [[98],[97]]:=by
  rw [show textW [98,43,97]= [98,43,97] from by decide,words_ne (by decide),show ([98,43,97]:List UInt8)= [98] ++ 43:: [97] from rfl,parts_at _ (by decide),parts_no (by decide)]
 unfold LineR;rw [hw];simp only [hf,numsW];refine ⟨(startDk,wordL (joined [[97],[98]]),0),?_,rfl,?_⟩
 ·unfold DoesR
  rw [if_neg (by decide),if_neg (by decide),if_neg (by decide),if_neg (by decide),if_neg (by decide),if_neg (by decide),if_neg (by decide),if_neg (by decide),if_neg (by decide),if_neg (by decide),if_neg (by decide),if_neg (by decide),if_neg (by decide),if_neg (by decide),if_pos rfl]
  refine ⟨[98,43,97],[[97],[98]],0,rfl,.inl ⟨rfl,?_,⟨?_,?_⟩,by decide,?_⟩,rfl⟩
  ·unfold formedB
   rw [hp];decide
  ·decide
  ·rw [hp]
   intro x;simp [or_comm]
  ·rw [hp]
   decide
 ·decide
theorem x_line:LineR startDk [120] startDk (errL 3):=by
 have hw:wordsL [120]= [[120]]:=by
  unfold wordsL;rw [parts_no (by decide)]
  decide
 exact line_none hw (by decide)
theorem sess_first:SessionR [108,101,97,115,116,32,98,43,97,10,120,10] [97,43,98,10,101,114,114,111,114,32,51,10]:=by
 have hl:linesL [108,101,97,115,116,32,98,43,97,10,120,10]= [[108,101,97,115,116,32,98,43,97],[120]]:=by
  unfold linesL;rw [show trimF [108,101,97,115,116,32,98,43,97,10,120,10]= [108,101,97,115,116,32,98,43,97] ++ 10:: [120] from by decide,parts_at _ (by decide),parts_no (by decide)]
 unfold SessionR;rw [if_neg (by decide),hl]
 exact ⟨startDk,_,_,least_line,⟨startDk,_,_,x_line,rfl,rfl⟩,by decide +kernel⟩
theorem sess_begins {a b:ByteArray} {o o2:List UInt8} (hn:a.size+b.size≤2500) (h:SessionR (a ++ (⟨#[10]⟩:ByteArray)).data.toList o) (h2:SessionR (a ++ (⟨#[10]⟩:ByteArray) ++ b).data.toList o2):∃ z,o2=o ++ z:=by
 have e1:(a ++ (⟨#[10]⟩:ByteArray)).data.toList=a.data.toList ++ [10]:=by simp
 have e2:(a ++ (⟨#[10]⟩:ByteArray) ++ b).data.toList=a.data.toList ++ 10::b.data.toList:=by simp
 rw [e1] at h;rw [e2] at h2;have ha:=toL a;have hb:=toL b;unfold SessionR at h h2;rw [if_neg (by simp; omega)] at h h2
 obtain ⟨ms,hm⟩:=lines_app a.data.toList b.data.toList;rw [hm] at h2;exact sess_app _ _ _ _ _ h h2
theorem deskPiecesLaw (a b:ByteArray) (w:World) (hn:a.size+b.size≤2500) (hL:LibsR w) (hO:OldsR w.heap.size) :
 Calls Tryz.prog 7 #[.string a,.string b] w fun e w'=>e=.returned (.bool true)∧Below w.heap.size w w':=by
 have hgt:¬ (2500:Int)<(a.size:Int)+(b.size:Int):=by omega
 have HN:Hid (a.size+b.size≤2500):=hn;have HL:Hid (LibsR w):=hL;have HO:Hid (OldsR w.heap.size):=hO;clear hn hL hO;go_enter Tryz.func7,Tryz.ntmps7
 go_wp2_with fail
 refine (session_short _ w (by decide) HL.out HO.out).mono ?_
 rintro e1 w1 ⟨o,rfl,hse,hb1⟩;obtain rfl:o=_:=session_inj hse sess_first;have HB1:Hid _:=hb1;clear hse hb1;go_wp2_with fail
 have hsz1:(a ++ (⟨#[10]⟩:ByteArray)).size=a.size+1:=by simp [ByteArray.size_append]; rfl
 refine (session_short (a ++ (⟨#[10]⟩:ByteArray)) w1 (by have:=HN.out; omega) (HL.out.belowO HB1.out HO.out) (HO.out.mono HB1.out.size)).mono ?_
 rintro e2 w2 ⟨o,rfl,hs1,hb2⟩;have HB2:Hid _:=HB1.out.trans (hb2.mono HB1.out.size);have HS1:Hid _:=hs1;clear hs1 hb2;go_wp2_with fail
 have hsz2:(a ++ (⟨#[10]⟩:ByteArray) ++ b).size=a.size+1+b.size:=by rw [ByteArray.size_append,hsz1]
 refine (session_short (a ++ (⟨#[10]⟩:ByteArray) ++ b) w2 (by have:=HN.out; omega) (HL.out.belowO HB2.out HO.out) (HO.out.mono HB2.out.size)).mono ?_
 rintro e3 w3 ⟨o2,rfl,hs2,hb3⟩;have HB3:Hid _:=HB2.out.trans (hb3.mono HB2.out.size);obtain ⟨z,rfl⟩:∃ z,o2=o ++ z:=sess_begins HN.out HS1.out hs2;clear hs2 hb3 hsz1 hsz2;have hle:(o.length:Int)≤(o.length:Int)+(z.length:Int):=by omega
 have HEX:Hid (((⟨(o ++ z).toArray⟩:ByteArray).extract 0 o.length).toList=o):=(show _=_ by simp [ByteArray.toList_eq])
 go_wp2_with fail
 rw [HEX.out,beq_self_eq_true];go_ret;exact ⟨rfl,HB3.out⟩
end Go.Proofs.YtlailakofhenkabGreatDoor
namespace Go.Proofs.YtlailakofhenkabGreatDoor
open Go Go.RowKit Go.ChangeShapes Go.WideShapes Go.ChangeAt Go.Joins Ev
open Go.WideMaps Go.WideElems
variable {H : Type} {enc : TypeId × Value → H} {w : World} {base : Nat} {spare : Nat → Bool} {held : Bool}
end Go.Proofs.YtlailakofhenkabGreatDoor
namespace Go.Proofs.YtlailakofhenkabGreatDoor
open Go
theorem leaving_of_handed {a:Assume} {C:Checked} {os:Os} {f:FuncId} {r:Reach} {Pre:World→Array Value→Prop} {Post:World→Array Value→Value→World→Prop} (h:ReturnsInHanded a C os f r Pre Post):ReturnsInLeavingWide a C os f r Pre Post:=fun enter=>by
 obtain ⟨h0,h1,h2,h3,h4⟩:=h enter;refine ⟨h0,h1,h2,h3,fun w tape i hf=>?_⟩;obtain ⟨n,v,w',r1,r2,r3,r4,⟨j,last,s1,s2,s3⟩,r5⟩:=h4 w tape i hf;exact ⟨n,v,w',r1,r2,r3,r4,⟨j,last,s1,s2,s3.2.1,onlyLeaving_of_quiet s3.1,s3.2.2⟩,r5⟩
theorem tied_goes (Lk:Looks) {p:Pinned} {s:OpenSpec} {c:OpenClaim} (kinds:List LaidKind) (tests:Bool) (har:Bool × String) (lk:Bool)
 (hc:c.holds p s) (hw:c.wfByText s=true) (htie:c.laidByTextAt Lk p kinds tests) (hst:c.start=.entering) (hnb:c.noBlocks=false∧c.again=false) (hm:p.checked.prog.mainIs=some (har.1,har.2.toList)) (hn:(!har.1 && har.2.isEmpty && !lk)=false)
 (hl:∀ f fn,p.checked.prog.funcNamed c.func=some f→p.checked.prog.funcs[f]?=some fn→lk=p.checked.prog.looks []∧∀ (j:Nat) t,fn.params[j]?=some t→p.checked.prog.wantsStandIn t=false) (hg:true=c.goesBy p.checked.prog) :
 Claim7.holds p (.plain s) { stood:={ row:=c,standIns:= [],harness:=har,looks:=lk },kinds:= [],alts:= [],goes:=true,laidByText:=true,laidKinds:=kinds,laidTests:=tests,laidLooks:=Lk }:=by
 have h6:∀ r:OpenClaim,Claim7.isSixth { stood:={ row:=r,standIns:= [],harness:=har,looks:=lk },kinds:= [] }=false:=fun r=>by simpa [Claim7.isSixth] using hn
 exact ⟨Claim7.tied_new_at Lk kinds tests (Claim7.new_of_sixth hc har lk hst hnb hm (h6 c) hl) hw,fun D hD=>(by cases hD),htie,(fun h=>by cases h),hg⟩
end Go.Proofs.YtlailakofhenkabGreatDoor
