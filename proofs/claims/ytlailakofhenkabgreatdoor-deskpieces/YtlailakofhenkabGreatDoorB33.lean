import Derived.Test.YtlailakofhenkabGreatDoorB30
import Derived.Test.YtlailakofhenkabGreatDoorB32
set_option maxRecDepth 100000
set_option maxHeartbeats 4000000
namespace Go.Proofs.YtlailakofhenkabGreatDoor
open Go Go.RowKit Tok Sc Ev
def tkW (k:Int) (x:Word):List ByteArray:=if k=0 then [Ev.bs x] else if k=1 then [Ev.bs (textW x)] else []
def nkW (k:Int) (x:Word):Option (List Int):=if k=2 then (numW x).map (fun n=> [n]) else some []
theorem dkTextB_bs (x:Word):dkTextB (Ev.bs x)=Ev.bs (textW x):=by
 unfold dkTextB textW Ev.bs;by_cases h:x= [95]
 ·subst h; rfl
 ·rw [if_neg (by simpa using h),if_neg h]
theorem read_len (F gk:Nat) (ka:Option Addr) (kn kc:Nat) (ba:Option Addr) (n c:Nat) (w:World) (hne:n≠kn) :
 Calls Tryz.prog 156 #[.agg #[.func (.func F) #[.pointer (some ⟨gk,0,none⟩)] #[],.slice ka kn kc],.slice ba n c] w fun e w'=>e=thrownE 3∧Below w.heap.size w w':=by
 have HB:Hid (Below w.heap.size w ((w.alloc (.cells #[.func (.func F) #[.pointer (some ⟨gk,0,none⟩)] #[],.slice ka kn kc] 253)).alloc (.cells #[.slice none 0 0,.slice none 0 0] 256))):=((Below.refl _ _).alloc (Nat.le_refl _) _).alloc (by simp) _
 have hk:((w.alloc (.cells #[.func (.func F) #[.pointer (some ⟨gk,0,none⟩)] #[],.slice ka kn kc] 253)).alloc (.cells #[.slice none 0 0,.slice none 0 0] 256)).cell? ⟨w.heap.size,1,none⟩=some (.slice ka kn kc):=(World.cell?_alloc_lt _ _ _ (by simp)).trans ((World.cell?_alloc_at _ _ _ _ rfl).trans rfl)
 have hb:((n:Int) == (kn:Int))=false:=by
  rw [beq_eq_false_iff_ne]; omega
 clear hne;go_enter Tryz.func156,Tryz.ntmps156
 go_wp2_with fail
 exact ⟨rfl,rfl,HB.out⟩
def tsOf (ks:List Int) (xs:List Word) (j:Nat):List ByteArray:=((List.zipWith tkW ks xs).take j).flatten
def nsOf (ks:List Int) (xs:List Word) (j:Nat):List Int:=((List.zipWith (fun k x=>(nkW k x).getD []) ks xs).take j).flatten
theorem tsOf_succ {ks:List Int} {xs:List Word} {j:Nat} {k:Int} {x:Word} (h1:ks[j]?=some k) (h2:xs[j]?=some x):tsOf ks xs (j+1)=tsOf ks xs j ++ tkW k x:=by
 unfold tsOf;rw [List.take_add_one];simp [List.getElem?_zipWith,h1,h2]
theorem nsOf_succ {ks:List Int} {xs:List Word} {j:Nat} {k:Int} {x:Word} (h1:ks[j]?=some k) (h2:xs[j]?=some x):nsOf ks xs (j+1)=nsOf ks xs j ++ (nkW k x).getD []:=by
 unfold nsOf;rw [List.take_add_one];simp [List.getElem?_zipWith,h1,h2]
theorem tkW_len (k:Int) (x:Word):(tkW k x).length≤1:=by
 unfold tkW;split
 ·simp
 ·split <;> simp
theorem tsOf_len (ks:List Int) (xs:List Word):∀ j,(tsOf ks xs j).length≤j
 |0=>by simp [tsOf]
 |j+1=>by
  have h:=tsOf_len ks xs j
  cases h1:ks[j]? with
  |none=>
   have e:tsOf ks xs (j+1)=tsOf ks xs j:=by unfold tsOf; rw [List.take_add_one]; simp [List.getElem?_zipWith,h1]
   rw [e]; omega
  |some k=>
   cases h2:xs[j]? with
   |none=>
    have e:tsOf ks xs (j+1)=tsOf ks xs j:=by unfold tsOf; rw [List.take_add_one]; simp [List.getElem?_zipWith,h1,h2]
    rw [e]; omega
   |some x=>
    rw [tsOf_succ h1 h2,List.length_append]
    have:=tkW_len k x;omega
theorem nkW_len (k:Int) (x:Word):((nkW k x).getD []).length≤1:=by
 unfold nkW;split
 ·cases numW x <;> simp
 ·simp
theorem nsOf_len (ks:List Int) (xs:List Word):∀ j,(nsOf ks xs j).length≤j
 |0=>by simp [nsOf]
 |j+1=>by
  have h:=nsOf_len ks xs j
  cases h1:ks[j]? with
  |none=>
   have e:nsOf ks xs (j+1)=nsOf ks xs j:=by unfold nsOf; rw [List.take_add_one]; simp [List.getElem?_zipWith,h1]
   rw [e]; omega
  |some k=>
   cases h2:xs[j]? with
   |none=>
    have e:nsOf ks xs (j+1)=nsOf ks xs j:=by unfold nsOf; rw [List.take_add_one]; simp [List.getElem?_zipWith,h1,h2]
    rw [e]; omega
   |some x=>
    rw [nsOf_succ h1 h2,List.length_append]
    have:=nkW_len k x;omega
structure RdI (WB:World) (ga:Nat) (vt vn:Value) (ts:List ByteArray) (ns:List Int) (w:World):Prop where
 c0:w.cell? ⟨ga,0,none⟩=some vt
 c1:w.cell? ⟨ga,1,none⟩=some vn
 fz:∀ i,w.frozen? ⟨ga,i,none⟩=false
 lt:ga<w.heap.size
 rt:Rows1 (ga+1) w vt (ts.map Value.string)
 rn:Rows1 (ga+1) w vn (ns.map (Value.int .i64))
 tn:Apart vt vn
 nt:Apart vn vt
 bel:Below WB.heap.size WB w
 low:WB.heap.size<ga
theorem RdI.on {WB:World} {ga:Nat} {vt vn:Value} {ts:List ByteArray} {ns:List Int} {w w':World} (h:RdI WB ga vt vn ts ns w) (hb:Below w.heap.size w w'):RdI WB ga vt vn ts ns w':=
 ⟨(hb.cell (p:=⟨ga,0,none⟩) h.lt).trans h.c0,(hb.cell (p:=⟨ga,1,none⟩) h.lt).trans h.c1,fun i=>(hb.frozen (p:=⟨ga,i,none⟩) h.lt).trans (h.fz i),Nat.lt_of_lt_of_le h.lt hb.size,h.rt.on hb,h.rn.on hb,h.tn,h.nt,h.bel.trans (hb.mono h.bel.size),h.low⟩
theorem Rows1.lower {B B':Nat} {w:World} {v:Value} {cs:List Value} (h:Rows1 B w v cs) (hB:B'≤B):Rows1 B' w v cs:=by
 rcases h with h1 | ⟨g,c,e,hr⟩
 ·exact .inl h1
 ·exact .inr ⟨g,c,e,⟨Nat.le_trans hB hr.new,hr.lt,hr.len,hr.le,hr.max,hr.holds,hr.there⟩⟩
theorem Rows1.keptBy {B:Nat} {w w':World} {v:Value} {cs:List Value} (h:Rows1 B w v cs) (hk:∀ l:List Nat,(∀ g o n c,v=.slice (some ⟨g,o,none⟩) n c→g∈l)→Keep l w w'):∃ l:List Nat,(∀ g∈l,B≤g∧∃ o n c,v=.slice (some ⟨g,o,none⟩) n c)∧Keep l w w':=by
 rcases h with ⟨e,-⟩ | ⟨g,c,e,hr⟩
 ·exact ⟨[],by simp,hk [] (fun g o n c h'=>by rw [e] at h'; cases h')⟩
 ·refine ⟨[g],?_,hk [g] (fun g' o n c h'=>?_)⟩
  ·intro g' hg'
   simp only [List.mem_singleton] at hg';subst hg';exact ⟨hr.new,_,_,_,e⟩
  ·rw [e] at h'
   simp only [Value.slice.injEq,Option.some.injEq,Addr.mk.injEq] at h';simp [h'.1.1]
theorem RdI.addT {WB:World} {ga:Nat} {vt vn vt':Value} {ts:List ByteArray} {ns:List Int} {x:ByteArray} {w w':World} (h:RdI WB ga vt vn ts ns w) (hr:Rows1 (ga+1) w' vt' (ts.map Value.string ++ [.string x])) (hk:∀ l:List Nat,(∀ g o n c,vt=.slice (some ⟨g,o,none⟩) n c→g∈l)→Keep l w w') (hn:∀ b,b<w.heap.size→NotIn vt b→NotIn vt' b) (ha:∀ y,Apart vt y→(∀ b,w.heap.size≤b→NotIn y b)→Apart vt' y) :
 RdI WB ga vt' vn (ts ++ [x]) ns (w'.setCell ⟨ga,0,none⟩ vt')∧(w'.cell? ⟨ga,0,none⟩).isSome=true∧w'.frozen? ⟨ga,0,none⟩=false∧∃ l:List Nat,(∀ g∈l,ga≤g)∧Keep l w (w'.setCell ⟨ga,0,none⟩ vt'):=by
 obtain ⟨l,hl,hkl⟩:=h.rt.keptBy hk;have hga:ga∉l:=fun hx=>by have:=(hl ga hx).1; omega
 have hc0:=(hkl.cell (p:=⟨ga,0,none⟩) h.lt hga).trans h.c0;have hc1:=(hkl.cell (p:=⟨ga,1,none⟩) h.lt hga).trans h.c1;have hf:∀ i,w'.frozen? ⟨ga,i,none⟩=false:=fun i=>(hkl.frozen (p:=⟨ga,i,none⟩) h.lt hga).trans (h.fz i);have hrn:Rows1 (ga+1) w' vn (ns.map (Value.int .i64)):=h.rn.keepOut hkl (fun g hg=>by obtain ⟨o,n,c,e⟩:=(hl g hg).2; exact h.tn g o n c e)
 have hk2:Keep [ga] w' (w'.setCell ⟨ga,0,none⟩ vt'):=(Keep.refl _ w').setCell (p:=⟨ga,0,none⟩) (.inl (by simp)) vt'
 have hlow:=h.low;have hlt':ga<w'.heap.size:=Nat.lt_of_lt_of_le h.lt hkl.size;have hb:Below WB.heap.size WB w':=h.bel.trans (hkl.below h.bel.size (fun g hg=>by have:=(hl g hg).1; omega))
 refine ⟨⟨World.cell?_setCell_same _ _ _ hc0,setO hc1 (by decide),fun i=>by rw [World.frozen?_setCell]; exact hf i,by simpa using hlt',?_,hrn.keepOut hk2 (by simp; exact hrn.notIn (Nat.lt_succ_self ga)),ha vn h.tn (fun b hb=>h.rn.past hb),?_,hb.trans (hk2.below hb.size (by simp; omega)),h.low⟩,by rw [hc0]; rfl,hf 0,l ++ [ga],?_,?_⟩
 ·rw [List.map_append]
  exact hr.keepOut hk2 (by simp; exact hr.notIn (Nat.lt_succ_self ga))
 ·intro g o n c e
  have hl2:=h.rn;rw [e] at hl2;rcases hl2 with ⟨h1,-⟩ | ⟨g',c',h1,hr'⟩
  ·cases h1
  ·simp only [Value.slice.injEq,Option.some.injEq,Addr.mk.injEq] at h1
   rw [h1.1.1];exact hn g' hr'.lt (by rw [← h1.1.1]; exact h.nt g o n c e)
 ·intro g hg
  rcases List.mem_append.1 hg with hg | hg
  ·have:=(hl g hg).1; omega
  ·simp only [List.mem_singleton] at hg; omega
 ·exact (hkl.mono (fun x hx=>List.mem_append_left _ hx)).trans (hk2.mono (fun x hx=>List.mem_append_right _ hx))
theorem RdI.addN {WB:World} {ga:Nat} {vt vn vn':Value} {ts:List ByteArray} {ns:List Int} {x:Int} {w w':World} (h:RdI WB ga vt vn ts ns w) (hr:Rows1 (ga+1) w' vn' (ns.map (Value.int .i64) ++ [.int .i64 x])) (hk:∀ l:List Nat,(∀ g o n c,vn=.slice (some ⟨g,o,none⟩) n c→g∈l)→Keep l w w') (hn:∀ b,b<w.heap.size→NotIn vn b→NotIn vn' b) (ha:∀ y,Apart vn y→(∀ b,w.heap.size≤b→NotIn y b)→Apart vn' y) :
 RdI WB ga vt vn' ts (ns ++ [x]) (w'.setCell ⟨ga,1,none⟩ vn')∧(w'.cell? ⟨ga,1,none⟩).isSome=true∧w'.frozen? ⟨ga,1,none⟩=false∧∃ l:List Nat,(∀ g∈l,ga≤g)∧Keep l w (w'.setCell ⟨ga,1,none⟩ vn'):=by
 obtain ⟨l,hl,hkl⟩:=h.rn.keptBy hk;have hga:ga∉l:=fun hx=>by have:=(hl ga hx).1; omega
 have hc0:=(hkl.cell (p:=⟨ga,0,none⟩) h.lt hga).trans h.c0;have hc1:=(hkl.cell (p:=⟨ga,1,none⟩) h.lt hga).trans h.c1;have hf:∀ i,w'.frozen? ⟨ga,i,none⟩=false:=fun i=>(hkl.frozen (p:=⟨ga,i,none⟩) h.lt hga).trans (h.fz i);have hrt:Rows1 (ga+1) w' vt (ts.map Value.string):=h.rt.keepOut hkl (fun g hg=>by obtain ⟨o,n,c,e⟩:=(hl g hg).2; exact h.nt g o n c e)
 have hk2:Keep [ga] w' (w'.setCell ⟨ga,1,none⟩ vn'):=(Keep.refl _ w').setCell (p:=⟨ga,1,none⟩) (.inl (by simp)) vn'
 have hlow:=h.low;have hlt':ga<w'.heap.size:=Nat.lt_of_lt_of_le h.lt hkl.size;have hb:Below WB.heap.size WB w':=h.bel.trans (hkl.below h.bel.size (fun g hg=>by have:=(hl g hg).1; omega))
 refine ⟨⟨setO hc0 (by decide),World.cell?_setCell_same _ _ _ hc1,fun i=>by rw [World.frozen?_setCell]; exact hf i,by simpa using hlt',hrt.keepOut hk2 (by simp; exact hrt.notIn (Nat.lt_succ_self ga)),?_,?_,ha vt h.nt (fun b hb=>h.rt.past hb),hb.trans (hk2.below hb.size (by simp; omega)),h.low⟩,by rw [hc1]; rfl,hf 1,l ++ [ga],?_,?_⟩
 ·rw [List.map_append]
  exact hr.keepOut hk2 (by simp; exact hr.notIn (Nat.lt_succ_self ga))
 ·intro g o n c e
  have hl2:=h.rt;rw [e] at hl2;rcases hl2 with ⟨h1,-⟩ | ⟨g',c',h1,hr'⟩
  ·cases h1
  ·simp only [Value.slice.injEq,Option.some.injEq,Addr.mk.injEq] at h1
   rw [h1.1.1];exact hn g' hr'.lt (by rw [← h1.1.1]; exact h.tn g o n c e)
 ·intro g hg
  rcases List.mem_append.1 hg with hg | hg
  ·have:=(hl g hg).1; omega
  ·simp only [List.mem_singleton] at hg; omega
 ·exact (hkl.mono (fun x hx=>List.mem_append_left _ hx)).trans (hk2.mono (fun x hx=>List.mem_append_right _ hx))
set_option maxHeartbeats 8000000
structure RR (w:World) (g:Nat):Prop where
 c0:∃ v,w.cell? ⟨g,0,none⟩=some v
 c1:∃ v,w.cell? ⟨g,1,none⟩=some v
 fz:∀ i,w.frozen? ⟨g,i,none⟩=false
 lt:g<w.heap.size
theorem RR.keep {l:List Nat} {w w':World} {g:Nat} (h:RR w g) (hk:Keep l w w') (hn:g∉l):RR w' g:=by
 obtain ⟨⟨v0,h0⟩,⟨v1,h1⟩,h2,h3⟩:=h;exact ⟨⟨v0,(hk.cell (p:=⟨g,0,none⟩) h3 hn).trans h0⟩,⟨v1,(hk.cell (p:=⟨g,1,none⟩) h3 hn).trans h1⟩,fun i=>(hk.frozen (p:=⟨g,i,none⟩) h3 hn).trans (h2 i),Nat.lt_of_lt_of_le h3 hk.size⟩
theorem RR.on {w w':World} {g:Nat} (h:RR w g) (hb:Below w.heap.size w w'):RR w' g:=h.keep (Keep.of [] hb) (by simp)
theorem rd_start (WB:World):RdI WB (WB.heap.size+1) (.slice none 0 0) (.slice none 0 0) [] [] ((WB.alloc (.cells #[.slice none 0 0,.slice none 0 0] 256)).alloc (.cells #[.slice none 0 0,.slice none 0 0] 256))∧RR ((WB.alloc (.cells #[.slice none 0 0,.slice none 0 0] 256)).alloc (.cells #[.slice none 0 0,.slice none 0 0] 256)) WB.heap.size:=by
 have hs:(WB.alloc (.cells #[.slice none 0 0,.slice none 0 0] 256)).heap.size=WB.heap.size+1:=by simp
 have hc:∀ j:Nat,((WB.alloc (.cells #[.slice none 0 0,.slice none 0 0] 256)).alloc (.cells #[.slice none 0 0,.slice none 0 0] 256)).cell? ⟨WB.heap.size+1,j,none⟩=(#[.slice none 0 0,.slice none 0 0]:Array Value)[j]?:=by
  rw [← hs]; exact fun j=>World.cell?_alloc_at _ _ _ _ rfl
 have h0:RR (WB.alloc (.cells #[.slice none 0 0,.slice none 0 0] 256)) WB.heap.size:=⟨⟨_,(World.cell?_alloc_at _ _ _ _ rfl).trans rfl⟩,⟨_,(World.cell?_alloc_at _ _ _ _ rfl).trans rfl⟩,fun i=>World.frozen?_alloc_at _ _ _ _ rfl,by simp⟩
 refine ⟨⟨(hc 0).trans rfl,(hc 1).trans rfl,fun i=>World.frozen?_alloc_at _ _ _ _ (by rw [hs]),by simp,.inl ⟨rfl,rfl⟩,.inl ⟨rfl,rfl⟩,fun g o n c e=>(by cases e),fun g o n c e=>(by cases e),((Below.refl _ _).alloc (Nat.le_refl _) _).alloc (by simp) _,Nat.lt_succ_self _⟩,h0.on ((Below.refl _ _).alloc (Nat.le_refl _) _)⟩
theorem fin_read {w WB wr:World} {ga go:Nat} {vt vn:Value} {ts:List ByteArray} {ns:List Int} (hb:Below go w WB) (h:RdI WB ga vt vn ts ns wr) (hr:RR wr (go+1)) (hg:w.heap.size=go) (hs:WB.heap.size=go+1) (hgg:WB.heap.size<ga) :
 ((wr.setCell ⟨go+1,0,none⟩ vt).setCell ⟨go+1,1,none⟩ vn).cell? ⟨go+1,0,none⟩=some vt∧((wr.setCell ⟨go+1,0,none⟩ vt).setCell ⟨go+1,1,none⟩ vn).cell? ⟨go+1,1,none⟩=some vn∧Below w.heap.size w ((wr.setCell ⟨go+1,0,none⟩ vt).setCell ⟨go+1,1,none⟩ vn)∧Rows1 w.heap.size ((wr.setCell ⟨go+1,0,none⟩ vt).setCell ⟨go+1,1,none⟩ vn) vt (ts.map Value.string)∧Rows1 w.heap.size ((wr.setCell ⟨go+1,0,none⟩ vt).setCell ⟨go+1,1,none⟩ vn) vn (ns.map (Value.int .i64)):=by
 subst hg;have hk:Keep [w.heap.size+1] wr ((wr.setCell ⟨w.heap.size+1,0,none⟩ vt).setCell ⟨w.heap.size+1,1,none⟩ vn):=((Keep.refl _ wr).setCell (p:=⟨w.heap.size+1,0,none⟩) (.inl (by simp)) vt).setCell (p:=⟨w.heap.size+1,1,none⟩) (.inl (by simp)) vn
 obtain ⟨⟨q0,c0⟩,⟨q1,c1⟩,z,lt⟩:=hr;have hbw:Below w.heap.size w wr:=hb.trans (h.bel.mono hb.size);refine ⟨setO (World.cell?_setCell_same _ _ _ c0) (by simp),World.cell?_setCell_same _ _ _ (setO c1 (by simp)),hbw.trans (hk.below hbw.size (by simp)),?_,?_⟩
 ·exact (h.rt.keepOut hk (by simp; exact h.rt.notIn (by omega))).lower (by omega)
 ·exact (h.rn.keepOut hk (by simp; exact h.rn.notIn (by omega))).lower (by omega)
theorem infoI0:(Tryz.prog.info? 3).map (fun i=>(i.zero,i.size,i.bytes))=some (some (.int .i64 0),1,8):=by kernel_rfl
theorem infoI:∃ i,Tryz.prog.info? 3=some i∧i.zero=some (.int .i64 0)∧i.size=1∧i.bytes=8:=by
 have h:=infoI0
 cases hi:Tryz.prog.info? 3 with
 |none=>rw [hi] at h; cases h
 |some i=>
  rw [hi] at h;simp only [Option.map_some,Option.some.injEq,Prod.mk.injEq] at h;exact ⟨i,rfl,h.1,h.2.1,h.2.2⟩
theorem infoT0:(Tryz.prog.info? 9).map (fun i=>(i.zero,i.size,i.bytes))=some (some (.string ⟨#[]⟩),1,16):=by kernel_rfl
theorem infoT:∃ i,Tryz.prog.info? 9=some i∧i.zero=some (.string ⟨#[]⟩)∧i.size=1∧i.bytes=16:=by
 have h:=infoT0
 cases hi:Tryz.prog.info? 9 with
 |none=>rw [hi] at h; cases h
 |some i=>
  rw [hi] at h;simp only [Option.map_some,Option.some.injEq,Prod.mk.injEq] at h;exact ⟨i,rfl,h.1,h.2.1,h.2.2⟩
theorem read_is (F gd:Nat) (ka:Option Addr) (ks:List Int) (kc:Nat) (ba:Option Addr) (xs:List Word) (c gks gb off:Nat) (w:World) (hlen:xs.length=ks.length) (hka:0<ks.length→ka=some ⟨gks,0,none⟩) (hks:∀ (i:Nat) (k:Int),ks[i]?=some k→w.cell? ⟨gks,i,none⟩=some (.int .i64 k)) (hgk:gks<w.heap.size) (hk3:∀ k∈ks,k=0∨k=1∨k=2)
 (hba:0<xs.length→ba=some ⟨gb,off,none⟩) (hws:∀ (i:Nat) (x:Word),xs[i]?=some x→w.cell? ⟨gb,off+i,none⟩=some (.string (Ev.bs x))) (hxs:∀ x∈xs,x.length≤10000) (hn:xs.length≤30000) (hL:LibsR w) :
 Calls Tryz.prog 156 #[.agg #[.func (.func F) #[.pointer (some ⟨gd,0,none⟩)] #[],.slice ka ks.length kc],.slice ba xs.length c] w fun e w'=>Below w.heap.size w w'∧((∃ vt vn,e=.returned (.agg #[vt,vn])∧Rows1 w.heap.size w' vt ((tsOf ks xs xs.length).map Value.string)∧Rows1 w.heap.size w' vn ((nsOf ks xs xs.length).map (Value.int .i64))∧∀ (j:Nat) (k:Int) (x:Word),ks[j]?=some k→xs[j]?=some x→nkW k x≠none)∨(e=thrownE 3∧∃ (j:Nat) (k:Int) (x:Word),ks[j]?=some k∧xs[j]?=some x∧nkW k x=none)):=by
 have hb0:Below w.heap.size w (w.alloc (.cells #[.func (.func F) #[.pointer (some ⟨gd,0,none⟩)] #[],.slice ka ks.length kc] 253)):=(Below.refl _ _).alloc (Nat.le_refl _) _;have HB0:Hid _:=hb0;have HO:Hid ((w.alloc (.cells #[.func (.func F) #[.pointer (some ⟨gd,0,none⟩)] #[],.slice ka ks.length kc] 253)).cell? ⟨w.heap.size,1,none⟩=some (.slice ka ks.length kc)):=(World.cell?_alloc_at _ _ _ _ rfl).trans rfl;have HSZ:Hid ((w.alloc (.cells #[.func (.func F) #[.pointer (some ⟨gd,0,none⟩)] #[],.slice ka ks.length kc] 253)).heap.size=w.heap.size+1):=by show _=_; simp
 have HOL:Hid (w.heap.size<(w.alloc (.cells #[.func (.func F) #[.pointer (some ⟨gd,0,none⟩)] #[],.slice ka ks.length kc] 253)).heap.size):=by show _<_; simp
 have HKS:Hid (∀ (i:Nat) (k:Int),ks[i]?=some k→(w.alloc (.cells #[.func (.func F) #[.pointer (some ⟨gd,0,none⟩)] #[],.slice ka ks.length kc] 253)).cell? ⟨gks,i,none⟩=some (.int .i64 k)):=fun i k h=>(hb0.cell (p:=⟨gks,i,none⟩) hgk).trans (hks i k h);have HGK:Hid (gks<(w.alloc (.cells #[.func (.func F) #[.pointer (some ⟨gd,0,none⟩)] #[],.slice ka ks.length kc] 253)).heap.size):=Nat.lt_of_lt_of_le hgk hb0.size;have HWS:Hid (∀ (i:Nat) (x:Word),xs[i]?=some x→(w.alloc (.cells #[.func (.func F) #[.pointer (some ⟨gd,0,none⟩)] #[],.slice ka ks.length kc] 253)).cell? ⟨gb,off+i,none⟩=some (.string (Ev.bs x))):=fun i x h=>(hb0.cell (p:=⟨gb,off+i,none⟩) (World.block_lt_of_cell? _ _ (hws i x h))).trans (hws i x h);have HL:Hid _:=hL.below hb0 rfl;have HLN:Hid (xs.length=ks.length):=hlen
 have HXS:Hid (∀ x∈xs,x.length≤10000):=hxs;have HK3:Hid (∀ k∈ks,k=0∨k=1∨k=2):=hk3;have HN:Hid (xs.length≤30000):=hn
 have hb:((xs.length:Int) != (ks.length:Int))=false:=by
  rw [bne_eq_false_iff_eq]; omega
 clear hks hws hL hlen hxs hk3 hb0 hgk hn;go_enter Tryz.func156,Tryz.ntmps156
 go_upto_region 1 with fail
 generalize hWB:(w.alloc (.cells #[.func (.func F) #[.pointer (some ⟨gd,0,none⟩)] #[],.slice ka ks.length kc] 253))=WB at *;clear hWB;generalize hgo:w.heap.size=go at *;have HGO:Hid (w.heap.size=go):=hgo;clear hgo;have hk1:(WB.alloc (.cells #[.slice none 0 0,.slice none 0 0] 256)).cell? ⟨go,1,none⟩=some (.slice ka ks.length kc):=(World.cell?_alloc_lt _ _ _ HOL.out).trans HO.out;go_upto_region 4 with fail
 have HRD0:Hid _:=(rd_start WB).1
 have HRR0:Hid (RR ((WB.alloc (.cells #[.slice none 0 0,.slice none 0 0] 256)).alloc (.cells #[.slice none 0 0,.slice none 0 0] 256)) (go+1)):=by
  have h:=(rd_start WB).2;rw [HSZ.out] at h;exact h
 clear hk1 hb;generalize hW2:((WB.alloc (.cells #[.slice none 0 0,.slice none 0 0] 256)).alloc (.cells #[.slice none 0 0,.slice none 0 0] 256))=W2 at *;clear hW2;generalize hga:WB.heap.size+1=ga at *;have HGG:Hid (WB.heap.size<ga):=by show _<_; omega
 clear hga;go_wp2_with fail
 go_loopg [17] xs.length (fun gk iv wr=>∃ (j:Nat) (vt vn:Value),j+gk=xs.length∧iv=.int .i64 j∧Hid (RdI WB ga vt vn (tsOf ks xs j) (nsOf ks xs j) wr)∧Hid (RR wr (go+1))∧Hid (∀ (i:Nat) (k:Int) (x:Word),i<j→ks[i]?=some k→xs[i]?=some x→nkW k x≠none))
 case atStart=>exact ⟨0,_,_,by omega,rfl,HRD0,HRR0,fun i k x h=>absurd h (by omega)⟩
 case round=>
  obtain ⟨j,vt,vn,hj,rfl,HR,HRR,HAL⟩:=hrel;have HJ:Hid (j+gk=xs.length):=hj;clear HRD0 HRR0 hj;by_cases hlt:j<xs.length
  ·have hltI:(j:Int)<(xs.length:Int):=by omega
   have hltk:j<ks.length:=by have:=HLN.out; omega
   have hltkI:(j:Int)<(ks.length:Int):=by omega
   obtain rfl:=hka (by omega)
   obtain ⟨x,hx⟩:∃ x,xs[j]?=some x:=⟨_,List.getElem?_eq_getElem hlt⟩;obtain ⟨k,hk⟩:∃ k,ks[j]?=some k:=⟨_,List.getElem?_eq_getElem hltk⟩;obtain rfl:=hba (by omega)
   have hcx:=HWS.out j x hx;have c1:=(HR.out.bel.cell (p:=⟨gb,off+j,none⟩) (World.block_lt_of_cell? _ _ hcx)).trans hcx;have c2:=(HR.out.bel.cell (p:=⟨gks,j,none⟩) HGK.out).trans (HKS.out j k hk);have c3:=(HR.out.bel.cell (p:=⟨go,1,none⟩) HOL.out).trans HO.out;clear hcx;have HX:Hid (x.length≤10000):=HXS.out x (List.mem_of_getElem? hx);have HXI:Hid (xs[j]?=some x):=hx;have HKI:Hid (ks[j]?=some k):=hk;have HJ3:Hid (j<30000):=by have:=HN.out; show j<30000; omega
   obtain ⟨bt,ct,hvt⟩:=HR.out.rt.slice;rw [List.length_map] at hvt;obtain rfl:=hvt;obtain ⟨bn,cn,hvn⟩:=HR.out.rn.slice;rw [List.length_map] at hvn;obtain rfl:=hvn;have a0:=HR.out.c0;have a1:=HR.out.c1;have HTL:Hid ((tsOf ks xs j).length≤30000):=by have h1:=tsOf_len ks xs j; have h2:=HJ3.out; show _≤30000; omega
   have HNL:Hid ((nsOf ks xs j).length≤30000):=by have h1:=nsOf_len ks xs j; have h2:=HJ3.out; show _≤30000; omega
   have hks3:=HK3.out k (List.mem_of_getElem? hk);clear hx hk hlt hltk;rcases hks3 with rfl | rfl | rfl
   ·have HE1:Hid (tsOf ks xs (j+1)=tsOf ks xs j ++ [Ev.bs x]):=by show _=_; rw [tsOf_succ HKI.out HXI.out]; rfl
    have HE2:Hid (nsOf ks xs (j+1)=nsOf ks xs j):=by show _=_; rw [nsOf_succ HKI.out HXI.out]; simp [nkW]
    have hal:Below wr.heap.size wr (wr.alloc (.cells #[.string (Ev.bs x)] 9)):=(Below.refl _ _).alloc (Nat.le_refl _) _;have HRA:Hid _:=HR.out.on hal;have HRRA:Hid _:=HRR.out.on hal;clear hal;obtain ⟨i0,hi,hz0,hz1,hz2⟩:=infoT;have HLT:Hid (ga+1≤(wr.alloc (.cells #[.string (Ev.bs x)] 9)).heap.size):=HRA.out.lt;have hlx:((tsOf ks xs j).map Value.string).length≤1000000:=by have:=HTL.out; simp; omega
    go_wp2_with (at_builtin; refine wpList_append_rows1 _ rfl _ _ 66 rfl 9 i0 (.string ⟨#[]⟩) 16 Tryz.underlying66 hi hz0 hz1 hz2 rfl (by decide) (ga+1) _ _ rfl HRA.out.rt HLT.out ⟨wr.heap.size,0,none⟩ 1 (.string (Ev.bs x)) rfl ((World.cell?_alloc_at _ _ _ _ rfl).trans rfl) rfl hlx ?_)
    intro vq wq hwq hsq hkq hnq haq;obtain ⟨bq,cq,hvq⟩:=hwq.slice;have e1:((tsOf ks xs j).map Value.string ++ [Value.string (Ev.bs x)]).length=(tsOf ks xs j).length+1:=by simp
    rw [e1] at hvq;obtain rfl:=hvq;clear e1;obtain ⟨hR2,hc0,hf0,l,hl,hkl⟩:=HRA.out.addT hwq (fun l hl=>hkq l (fun g o e=>hl g o _ _ (by rw [e]))) (fun b hb=>hnq b (by simpa using hb)) (fun y h1 h2=>haq y h1 (fun b hb=>h2 b (by simpa using hb)))
    have HR2:Hid _:=hR2;have HRR2:Hid _:=HRRA.out.keep hkl (fun hx=>by have h1:=hl _ hx; have h2:=HGG.out; have h3:=HSZ.out; omega)
    obtain ⟨v0,hc0⟩:=Option.isSome_iff_exists.1 hc0;clear hR2 hwq hsq hkq hnq haq hkl hl hi hz0 hz1 hz2 hlx a0 a1;go_wp2_with fail
    go_roundg (gk - 1)
    case measure=>have:=HJ.out; omega
    case rel=>
     refine ⟨j+1,_,_,by have:=HJ.out; omega,by have:=HJ3.out; congr 1; unfold wrap64; omega,(by rw [HE1.out,HE2.out]; exact HR2.out),HRR2,?_⟩
     intro i k y hi hk hy;by_cases hij:i<j
     ·exact HAL.out i k y hij hk hy
     ·obtain rfl:i=j:=by omega
      have h1:some k=some 0:=hk.symm.trans HKI.out;obtain rfl:=Option.some.inj h1;simp [nkW]
   ·have HE1:Hid (tsOf ks xs (j+1)=tsOf ks xs j ++ [Ev.bs (textW x)]):=by show _=_; rw [tsOf_succ HKI.out HXI.out]; rfl
    have HE2:Hid (nsOf ks xs (j+1)=nsOf ks xs j):=by show _=_; rw [nsOf_succ HKI.out HXI.out]; simp [nkW]
    clear a0 a1;go_upto_region 11 with fail
    refine RegD.R_ (fun W=>RdI WB ga (.slice bt (tsOf ks xs j).length ct) (.slice bn (nsOf ks xs j).length cn) (tsOf ks xs j) (nsOf ks xs j) W∧RR W (go+1)) 5 (by kernel_rfl) (⟨HR.out.on (Below.refl _ _).drew,HRR.out.on (Below.refl _ _).drew⟩) (fun hH=>?_)
    refine RegD.T_ 0 (v:=.pointer (some ⟨ga,0,none⟩)) rfl (by kernel_rfl) (fun _ _ _ h=>h) (.inl ⟨by rfl,fun W hW=>by go_simp⟩) hH ?_
    simp only [Act.put,pS1,pS2,pS3];refine RegD.T_ 1 (v:=.slice bt (tsOf ks xs j).length ct) rfl (by kernel_rfl) (fun _ _ _ h=>h) (.inl ⟨by rfl,fun W hW=>by have a0:=hW.1.c0; go_simp⟩) hH ?_
    simp only [Act.put,pS1,pS2,pS3];refine RegD.T_ 2 (v:=.string (Ev.bs x)) rfl (by kernel_rfl) (fun _ _ _ h=>h) (.inl ⟨by rfl,fun W hW=>by go_simp⟩) hH ?_
    simp only [Act.put,pS1,pS2,pS3];refine RegD.O_ 3 rfl (by kernel_rfl) ?_; intro K hK; go_simp
    go_at_call 248
    refine (dkTextOf_is _ _).mono ?_;rintro e6 w6 ⟨rfl,rfl⟩;rw [dkTextB_bs];go_wp2_with fail
    refine hK.out _ _ (hH) ?_;clear hK hH;intro hH;clear K;refine RegD.O_ 4 rfl (by kernel_rfl) ?_; intro K hK; go_simp
    have hal:=fun (W:World)=>(Below.refl W.heap.size W).alloc (Nat.le_refl _) (.cells #[.string (Ev.bs (textW x))] 9);have HRA:Hid _:=hH.1.on (hal _);have HRRA:Hid _:=hH.2.on (hal _);refine hK.out _ _ (⟨HRA.out,HRRA.out⟩) ?_;clear hK hH;intro hH;clear K;clear hal;have HH:Hid _:=hH;clear hH HRA HRRA;obtain ⟨i0,hi,hz0,hz1,hz2⟩:=infoT;generalize hWA:(wr.alloc (.cells #[.string (Ev.bs (textW x))] 9)).drew=WA at *
    have HCA:Hid (WA.cell? ⟨wr.heap.size,0,none⟩=some (.string (Ev.bs (textW x)))):=by
     subst hWA;exact (World.cell?_alloc_at _ _ _ _ rfl).trans rfl
    clear hWA;have hlx:((tsOf ks xs j).map Value.string).length≤1000000:=by have:=HTL.out; simp; omega
    have hrt:Rows1 (ga+1) WA (.slice bt (tsOf ks xs j).length ct) ((tsOf ks xs j).map Value.string):=HH.out.1.rt;refine RegD.L_ 5 rfl (by kernel_rfl) (by kernel_rfl) ?_
    intro K hK;rw [if_pos (by rfl)]
    refine oper_list (ops:=#[]) (by rfl) ?_
    refine wpList_append_rows1 _ rfl _ _ 66 rfl 9 i0 (.string ⟨#[]⟩) 16 Tryz.underlying66 hi hz0 hz1 hz2 rfl (by decide) (ga+1) _ _ rfl hrt HH.out.1.lt ⟨wr.heap.size,0,none⟩ 1 (.string (Ev.bs (textW x))) rfl HCA.out rfl hlx ?_
    intro vq wq hwq hsq hkq hnq haq;obtain ⟨bq,cq,hvq⟩:=hwq.slice;have e1:((tsOf ks xs j).map Value.string ++ [Value.string (Ev.bs (textW x))]).length=(tsOf ks xs j).length+1:=by simp
    rw [e1] at hvq;obtain rfl:=hvq;clear e1;obtain ⟨hR2,hc0,hf0,l,hl,hkl⟩:=HH.out.1.addT hwq hkq hnq haq;have HR2:Hid _:=hR2;have HRR2:Hid _:=HH.out.2.keep hkl (fun hx=>by have h1:=hl _ hx; have h2:=HGG.out; have h3:=HSZ.out; omega)
    obtain ⟨v0,hc0⟩:=Option.isSome_iff_exists.1 hc0;clear hR2 hwq hsq hkq hnq haq hkl hl hi hz0 hz1 hz2 hlx hrt;show K _ _
    simp only [Act.put,pS1,pS2,pS3];refine hK.out _ _ ?_;clear hK K;refine RegD.L_ 6 rfl (by kernel_rfl) (by kernel_rfl) ?_; intro K hK; go_simp
    refine hK.out _ _ ?_;clear hK K;refine RegD.L_ 7 rfl (by kernel_rfl) (by kernel_rfl) ?_; intro K hK; go_simp
    refine hK.out _ _ ?_;clear hK K;refine RegD.D_ (by kernel_rfl) ?_ _
    go_wp2_with fail
    go_roundg (gk - 1)
    case measure=>have:=HJ.out; omega
    case rel=>
     refine ⟨j+1,_,_,by have:=HJ.out; omega,by have:=HJ3.out; congr 1; unfold wrap64; omega,(by rw [HE1.out,HE2.out]; exact HR2.out),HRR2,?_⟩
     intro i k y hi hk hy;by_cases hij:i<j
     ·exact HAL.out i k y hij hk hy
     ·obtain rfl:i=j:=by omega
      have h1:some k=some 1:=hk.symm.trans HKI.out;obtain rfl:=Option.some.inj h1;simp [nkW]
   ·cases hnw:numW x with
    |some n=>
     have HE1:Hid (tsOf ks xs (j+1)=tsOf ks xs j):=by show _=_; rw [tsOf_succ HKI.out HXI.out]; simp [tkW]
     have HE2:Hid (nsOf ks xs (j+1)=nsOf ks xs j ++ [n]):=by show _=_; rw [nsOf_succ HKI.out HXI.out]; simp [nkW,hnw]
     have HNW:Hid (numW x=some n):=hnw;clear hnw;clear a0 a1;go_upto_region 13 with fail
     refine RegD.R_ (fun W=>RdI WB ga (.slice bt (tsOf ks xs j).length ct) (.slice bn (nsOf ks xs j).length cn) (tsOf ks xs j) (nsOf ks xs j) W∧RR W (go+1)) 5 (by kernel_rfl) (⟨HR.out.on (Below.refl _ _).drew,HRR.out.on (Below.refl _ _).drew⟩) (fun hH=>?_)
     refine RegD.T_ 0 (v:=.pointer (some ⟨ga,1,none⟩)) rfl (by kernel_rfl) (fun _ _ _ h=>h) (.inl ⟨by rfl,fun W hW=>by go_simp⟩) hH ?_
     simp only [Act.put,pS1,pS2,pS3];refine RegD.T_ 1 (v:=.slice bn (nsOf ks xs j).length cn) rfl (by kernel_rfl) (fun _ _ _ h=>h) (.inl ⟨by rfl,fun W hW=>by have a0:=hW.1.c1; go_simp⟩) hH ?_
     simp only [Act.put,pS1,pS2,pS3];refine RegD.T_ 2 (v:=.string (Ev.bs x)) rfl (by kernel_rfl) (fun _ _ _ h=>h) (.inl ⟨by rfl,fun W hW=>by go_simp⟩) hH ?_
     simp only [Act.put,pS1,pS2,pS3];refine RegD.O_ 3 rfl (by kernel_rfl) ?_; intro K hK; go_simp
     go_at_call 249
     refine (numberOf_yes (Ev.bs x) n _ HX.out (HL.out.below hH.1.bel rfl) HNW.out).mono ?_;rintro e6 w6 ⟨rfl,hb6⟩;go_wp2_with fail
     refine hK.out _ _ (⟨hH.1.on hb6,hH.2.on hb6⟩) ?_;clear hK hH;intro hH;clear K;clear hb6;refine RegD.O_ 4 rfl (by kernel_rfl) ?_; intro K hK; go_simp
     have hal:=fun (W:World)=>(Below.refl W.heap.size W).alloc (Nat.le_refl _) (.cells #[.int .i64 n] 3);have HRA:Hid _:=hH.1.on (hal _);have HRRA:Hid _:=hH.2.on (hal _);refine hK.out _ _ (⟨HRA.out,HRRA.out⟩) ?_;clear hK hH;intro hH;clear K;clear hal;have HH:Hid _:=hH;clear hH HRA HRRA;obtain ⟨i0,hi,hz0,hz1,hz2⟩:=infoI;generalize hWA:(w6.alloc (.cells #[.int .i64 n] 3))=WA at *
     have HCA:Hid (WA.cell? ⟨w6.heap.size,0,none⟩=some (.int .i64 n)):=by
      subst hWA;exact (World.cell?_alloc_at _ _ _ _ rfl).trans rfl
     clear hWA;have hlx:((nsOf ks xs j).map (Value.int .i64)).length≤1000000:=by have:=HNL.out; simp; omega
     have hrt:Rows1 (ga+1) WA (.slice bn (nsOf ks xs j).length cn) ((nsOf ks xs j).map (Value.int .i64)):=HH.out.1.rn;refine RegD.L_ 5 rfl (by kernel_rfl) (by kernel_rfl) ?_
     intro K hK;rw [if_pos (by rfl)]
     refine oper_list (ops:=#[]) (by rfl) ?_
     refine wpList_append_rows1 _ rfl _ _ 23 rfl 3 i0 (.int .i64 0) 8 Tryz.underlying23 hi hz0 hz1 hz2 rfl (by decide) (ga+1) _ _ rfl hrt HH.out.1.lt ⟨w6.heap.size,0,none⟩ 1 (.int .i64 n) rfl HCA.out rfl hlx ?_
     intro vq wq hwq hsq hkq hnq haq;obtain ⟨bq,cq,hvq⟩:=hwq.slice;have e1:((nsOf ks xs j).map (Value.int .i64) ++ [Value.int .i64 n]).length=(nsOf ks xs j).length+1:=by simp
     rw [e1] at hvq;obtain rfl:=hvq;clear e1;obtain ⟨hR2,hc0,hf0,l,hl,hkl⟩:=HH.out.1.addN hwq hkq hnq haq;have HR2:Hid _:=hR2;have HRR2:Hid _:=HH.out.2.keep hkl (fun hx=>by have h1:=hl _ hx; have h2:=HGG.out; have h3:=HSZ.out; omega)
     obtain ⟨v0,hc0⟩:=Option.isSome_iff_exists.1 hc0;clear hR2 hwq hsq hkq hnq haq hkl hl hi hz0 hz1 hz2 hlx hrt;show K _ _
     simp only [Act.put,pS1,pS2,pS3];refine hK.out _ _ ?_;clear hK K;refine RegD.L_ 6 rfl (by kernel_rfl) (by kernel_rfl) ?_; intro K hK; go_simp
     refine hK.out _ _ ?_;clear hK K;refine RegD.L_ 7 rfl (by kernel_rfl) (by kernel_rfl) ?_; intro K hK; go_simp
     refine hK.out _ _ ?_;clear hK K;refine RegD.D_ (by kernel_rfl) ?_ _
     go_wp2_with fail
     go_roundg (gk - 1)
     case measure=>have:=HJ.out; omega
     case rel=>
      refine ⟨j+1,_,_,by have:=HJ.out; omega,by have:=HJ3.out; congr 1; unfold wrap64; omega,(by rw [HE1.out,HE2.out]; exact HR2.out),HRR2,?_⟩
      intro i k y hi hk hy;by_cases hij:i<j
      ·exact HAL.out i k y hij hk hy
      ·obtain rfl:i=j:=by omega
       have h1:some k=some 2:=hk.symm.trans HKI.out;obtain rfl:=Option.some.inj h1;have h2:some y=some x:=hy.symm.trans HXI.out;obtain rfl:=Option.some.inj h2;simp [nkW,HNW.out]
    |none=>
     have HNW:Hid (numW x=none):=hnw;clear hnw a0 a1;go_upto_region 13 with fail
     refine RegD.R_ (fun W=>RdI WB ga (.slice bt (tsOf ks xs j).length ct) (.slice bn (nsOf ks xs j).length cn) (tsOf ks xs j) (nsOf ks xs j) W∧RR W (go+1)) 5 (by kernel_rfl) (⟨HR.out.on (Below.refl _ _).drew,HRR.out.on (Below.refl _ _).drew⟩) (fun hH=>?_)
     refine RegD.T_ 0 (v:=.pointer (some ⟨ga,1,none⟩)) rfl (by kernel_rfl) (fun _ _ _ h=>h) (.inl ⟨by rfl,fun W hW=>by go_simp⟩) hH ?_
     simp only [Act.put,pS1,pS2,pS3];refine RegD.T_ 1 (v:=.slice bn (nsOf ks xs j).length cn) rfl (by kernel_rfl) (fun _ _ _ h=>h) (.inl ⟨by rfl,fun W hW=>by have a0:=hW.1.c1; go_simp⟩) hH ?_
     simp only [Act.put,pS1,pS2,pS3];refine RegD.T_ 2 (v:=.string (Ev.bs x)) rfl (by kernel_rfl) (fun _ _ _ h=>h) (.inl ⟨by rfl,fun W hW=>by go_simp⟩) hH ?_
     simp only [Act.put,pS1,pS2,pS3];refine RegD.O_ 3 rfl (by kernel_rfl) ?_; intro K hK; go_simp
     go_at_call 249
     refine (numberOf_no (Ev.bs x) _ HX.out (HL.out.below hH.1.bel rfl) HNW.out).mono ?_;rintro e6 w6 ⟨rfl,hb6⟩;have HBB:Hid (Below WB.heap.size WB w6):=(hH.1.on hb6).bel;unfold thrownE;go_wp2_with fail
     have hbb:Below w.heap.size w w6:=by
      have h:=HB0.out;rw [← HGO.out] at h;exact h.trans (HBB.out.mono h.size)
     exact ⟨rfl,hbb,.inr ⟨rfl,j,2,x,HKI.out,HXI.out,by simp [nkW,HNW.out]⟩⟩
  ·obtain rfl:j=xs.length:=by have:=HJ.out; omega
   obtain ⟨bt,ct,hvt⟩:=HR.out.rt.slice;rw [List.length_map] at hvt;obtain rfl:=hvt;obtain ⟨bn,cn,hvn⟩:=HR.out.rn.slice;rw [List.length_map] at hvn;obtain rfl:=hvn;have a0:=HR.out.c0;have a1:=HR.out.c1;obtain ⟨q0,r0⟩:=HRR.out.c0;obtain ⟨q1,r1⟩:=HRR.out.c1;have rz:=HRR.out.fz;have HFN:=fin_read (HB0.out) HR.out HRR.out HGO.out HSZ.out HGG.out;have HFN:Hid _:=HFN;go_wp2_with fail
   clear a0 a1 r0 r1 rz;obtain ⟨f0,f1,hbf,ht1,hn1⟩:=HFN.out;exact bodyPost_ret (v:=.agg #[.slice bt (tsOf ks xs xs.length).length ct,.slice bn (nsOf ks xs xs.length).length cn]) (by simp [results,Tryz.results156,go_sem,f0,f1]) rfl ⟨hbf,.inl ⟨_,_,rfl,ht1,hn1,fun j k x hk hx=>HAL.out j k x (by obtain ⟨h1,-⟩:=List.getElem?_eq_some_iff.1 hx; exact h1) hk hx⟩⟩
structure AgB (w:World) (g:Nat) (bt bn:Option Addr) (nt ct nn cn:Nat):Prop where
 c0:w.cell? ⟨g,0,none⟩=some (.slice bt nt ct)
 c1:w.cell? ⟨g,1,none⟩=some (.slice bn nn cn)
 lt:g<w.heap.size
theorem AgB.keep {l:List Nat} {w w':World} {g:Nat} {bt bn:Option Addr} {nt ct nn cn:Nat} (h:AgB w g bt bn nt ct nn cn) (hk:Keep l w w') (hn:g∉l):AgB w' g bt bn nt ct nn cn:=
 ⟨(hk.cell (p:=⟨g,0,none⟩) h.lt hn).trans h.c0,(hk.cell (p:=⟨g,1,none⟩) h.lt hn).trans h.c1,Nat.lt_of_lt_of_le h.lt hk.size⟩
theorem AgB.on {w w':World} {g:Nat} {bt bn:Option Addr} {nt ct nn cn:Nat} (h:AgB w g bt bn nt ct nn cn) (hb:Below w.heap.size w w'):AgB w' g bt bn nt ct nn cn:=h.keep (Keep.of [] hb) (by simp)
theorem AgB.made (w:World) (bt bn:Option Addr) (nt ct nn cn:Nat) (t:TypeId):AgB (w.alloc (.cells #[.slice bt nt ct,.slice bn nn cn] t)) w.heap.size bt bn nt ct nn cn:=by
 refine ⟨?_,?_,by simp⟩ <;> exact (World.cell?_alloc_at _ _ _ _ rfl).trans rfl
theorem dTag_is (pd:Value) (gt gn nt ct nn cn:Nat) (x:ByteArray) (n:Int) (w:World) (ht:w.cell? ⟨gt,0,none⟩=some (.string x)) (hn:w.cell? ⟨gn,0,none⟩=some (.int .i64 n)) (h1:0<nt) (h2:0<nn) (hx:x.size≤100000) :
 Calls Tryz.prog 242 #[pd,.agg #[.slice (some ⟨gt,0,none⟩) nt ct,.slice (some ⟨gn,0,none⟩) nn cn]] w fun e w'=>e=.returned (.string ⟨(tagM n x.data.toList).toArray⟩)∧Below w.heap.size w w':=by
 have hb:Below w.heap.size w (w.alloc (.cells #[.slice (some ⟨gt,0,none⟩) nt ct,.slice (some ⟨gn,0,none⟩) nn cn] 256)):=(Below.refl _ _).alloc (Nat.le_refl _) _;have HB:Hid _:=hb;have HA:Hid _:=AgB.made w (some ⟨gt,0,none⟩) (some ⟨gn,0,none⟩) nt ct nn cn 256;have HT:Hid _:=(hb.cell (p:=⟨gt,0,none⟩) (World.block_lt_of_cell? _ _ ht)).trans ht;have HTL:Hid _:=Nat.lt_of_lt_of_le (World.block_lt_of_cell? _ _ ht) hb.size;have HN:Hid _:=(hb.cell (p:=⟨gn,0,none⟩) (World.block_lt_of_cell? _ _ hn)).trans hn;have h1z:¬ nt=0:=by omega
 have h2z:¬ nn=0:=by omega
 have HX:Hid (x.size≤9223372036854775807):=by show _≤_; omega
 clear ht hn hb h1 h2 hx;go_enter Tryz.func242,Tryz.ntmps242
 go_upto_region 1 with fail
 generalize hW:(w.alloc (.cells #[.slice (some ⟨gt,0,none⟩) nt ct,.slice (some ⟨gn,0,none⟩) nn cn] 256))=W at *;clear hW;generalize hg:w.heap.size=g at *;have HG:Hid (w.heap.size=g):=hg;clear hg;refine RegD.R_ (fun V=>AgB V g (some ⟨gt,0,none⟩) (some ⟨gn,0,none⟩) nt ct nn cn∧V.cell? ⟨gt,0,none⟩=some (.string x)∧V.cell? ⟨gn,0,none⟩=some (.int .i64 n)∧Below W.heap.size W V) 8 (by kernel_rfl) (⟨HA.out.on (Below.refl _ _).drew,HT.out,HN.out,(Below.refl _ _).drew⟩) (fun hH=>?_)
 refine RegD.T_ 0 (v:=.pointer (some ⟨g,1,none⟩)) rfl (by kernel_rfl) (fun _ _ _ h=>h) (.inl ⟨by rfl,fun W hW=>by go_simp⟩) hH ?_
 simp only [Act.put,pS1,pS2,pS3];refine RegD.T_ 1 (v:=.slice (some ⟨gn,0,none⟩) nn cn) rfl (by kernel_rfl) (fun _ _ _ h=>h) (.inl ⟨by rfl,fun W hW=>by have a0:=hW.1.c1; go_simp⟩) hH ?_
 simp only [Act.put,pS1,pS2,pS3];refine RegD.T_ 2 (v:=.pointer (some ⟨gn,0,none⟩)) rfl (by kernel_rfl) (fun _ _ _ h=>h) (.inl ⟨by rfl,fun W hW=>by go_simp⟩) hH ?_
 simp only [Act.put,pS1,pS2,pS3];refine RegD.T_ 3 (v:=.int .i64 n) rfl (by kernel_rfl) (fun _ _ _ h=>h) (.inl ⟨by rfl,fun W hW=>by have a0:=hW.2.2.1; go_simp⟩) hH ?_
 simp only [Act.put,pS1,pS2,pS3];refine RegD.T_ 4 (v:=.pointer (some ⟨g,0,none⟩)) rfl (by kernel_rfl) (fun _ _ _ h=>h) (.inl ⟨by rfl,fun W hW=>by go_simp⟩) hH ?_
 simp only [Act.put,pS1,pS2,pS3];refine RegD.T_ 5 (v:=.slice (some ⟨gt,0,none⟩) nt ct) rfl (by kernel_rfl) (fun _ _ _ h=>h) (.inl ⟨by rfl,fun W hW=>by have a0:=hW.1.c0; go_simp⟩) hH ?_
 simp only [Act.put,pS1,pS2,pS3];refine RegD.T_ 6 (v:=.pointer (some ⟨gt,0,none⟩)) rfl (by kernel_rfl) (fun _ _ _ h=>h) (.inl ⟨by rfl,fun W hW=>by go_simp⟩) hH ?_
 simp only [Act.put,pS1,pS2,pS3];refine RegD.T_ 7 (v:=.string x) rfl (by kernel_rfl) (fun _ _ _ h=>h) (.inl ⟨by rfl,fun W hW=>by have a0:=hW.2.1; go_simp⟩) hH ?_
 simp only [Act.put,pS1,pS2,pS3];refine RegD.L_ 8 rfl (by kernel_rfl) (by kernel_rfl) ?_; intro K hK; go_simp
 go_at_call 137
 refine (macTag_any n x _ HX.out).mono ?_;rintro e1 w1 ⟨rfl,hb1⟩;have HB1:Hid _:=hH.2.2.2.trans (hb1.mono hH.2.2.2.size);clear hH hb1;go_wp2_with fail
 refine hK.out _ _ ?_;clear hK K;refine RegD.L_ 9 rfl (by kernel_rfl) (by kernel_rfl) ?_; intro K hK; go_simp
 refine hK.out _ _ ?_;clear hK K;refine RegD.D_ (by kernel_rfl) ?_ _
 go_wp2_with fail
 go_ret;have hf:=HB.out.trans (HB1.out.mono (Nat.le_of_lt HA.out.lt));rw [← HG.out] at hf;exact ⟨rfl,hf⟩
end Go.Proofs.YtlailakofhenkabGreatDoor
