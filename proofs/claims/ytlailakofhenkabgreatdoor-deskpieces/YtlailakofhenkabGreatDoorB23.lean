import Derived.Test.YtlailakofhenkabGreatDoorB22
set_option maxRecDepth 100000
set_option maxHeartbeats 8000000
namespace Go.Proofs.YtlailakofhenkabGreatDoor
open Go Go.RowKit Tok Sc Ev
structure FB (w:World) (g:Nat) (f:Fam):Prop where
 c0:w.cell? ⟨g,0,none⟩=some (.int .i64 f.id)
 c1:w.cell? ⟨g,1,none⟩=some (.string f.client)
 c2:w.cell? ⟨g,2,none⟩=some (.string f.subject)
 c3:w.cell? ⟨g,3,none⟩=some (.string f.scope)
 c4:w.cell? ⟨g,4,none⟩=some (.int .i64 f.gen)
 c5:w.cell? ⟨g,5,none⟩=some (.int .i64 f.made)
 c6:w.cell? ⟨g,6,none⟩=some (.int .i64 f.used)
 c7:w.cell? ⟨g,7,none⟩=some (.string f.request)
 c8:w.cell? ⟨g,8,none⟩=some (.bool f.dead)
 lt:g<w.heap.size
 fz:∀ i,w.frozen? ⟨g,i,none⟩=false
theorem FB.made (w:World) (f:Fam) (t:TypeId):FB (w.alloc (.cells #[.int .i64 f.id,.string f.client,.string f.subject,.string f.scope,.int .i64 f.gen,.int .i64 f.made,.int .i64 f.used,.string f.request,.bool f.dead] t)) w.heap.size f:=by
 obtain ⟨h0,h1,h2,h3,h4,h5,h6,h7,h8⟩:=famAt_cells (famAt_made w f t _ rfl);exact ⟨h0,h1,h2,h3,h4,h5,h6,h7,h8,by simp,fun i=>World.frozen?_alloc_at _ _ _ _ rfl⟩
theorem FB.keep {l:List Nat} {w w':World} {g:Nat} {f:Fam} (h:FB w g f) (hk:Keep l w w') (hn:g∉l):FB w' g f:=by
 have hc:∀ i,w'.cell? ⟨g,i,none⟩=w.cell? ⟨g,i,none⟩:=fun i=>hk.cell (p:=⟨g,i,none⟩) h.lt hn;exact ⟨(hc 0).trans h.c0,(hc 1).trans h.c1,(hc 2).trans h.c2,(hc 3).trans h.c3,(hc 4).trans h.c4,(hc 5).trans h.c5,(hc 6).trans h.c6,(hc 7).trans h.c7,(hc 8).trans h.c8,Nat.lt_of_lt_of_le h.lt hk.size,fun i=>(hk.frozen (p:=⟨g,i,none⟩) h.lt hn).trans (h.fz i)⟩
theorem FB.on {w w':World} {g:Nat} {f:Fam} (h:FB w g f) (hb:Below w.heap.size w w'):FB w' g f:=h.keep (Keep.of [] hb) (by simp)
theorem FB.there {w:World} {g:Nat} {f:Fam} (h:FB w g f):∀ j,j<9→(w.cell? ⟨g,0+j,none⟩).isSome=true:=by
 intro j hj;have c0:=h.c0; have c1:=h.c1; have c2:=h.c2; have c3:=h.c3; have c4:=h.c4; have c5:=h.c5; have c6:=h.c6; have c7:=h.c7; have c8:=h.c8;rw [Nat.zero_add];match j,hj with
 |0,_=>rw [c0]; rfl
 |1,_=>rw [c1]; rfl
 |2,_=>rw [c2]; rfl
 |3,_=>rw [c3]; rfl
 |4,_=>rw [c4]; rfl
 |5,_=>rw [c5]; rfl
 |6,_=>rw [c6]; rfl
 |7,_=>rw [c7]; rfl
 |8,_=>rw [c8]; rfl
theorem frozen_setCells (g:Nat) (vs:List Value):∀ (o:Nat) (w:World) (a:Addr),(w.setCells g o vs).frozen? a=w.frozen? a:=by
 induction vs with
 |nil=>intro o w a; rfl
 |cons v vs ih=>
  intro o w a;show ((w.setCell ⟨g,o,none⟩ v).setCells g (o+1) vs).frozen? a=_
  rw [ih,World.frozen?_setCell]
theorem FB.set {w:World} {g:Nat} {f f':Fam} (h:FB w g f'):FB (w.setCells g 0 (famCs f)) g f:=by
 have hq:=fun (j:Nat) (hj:j<(famCs f).length)=>World.cell?_setCells_in g (famCs f) 0 w h.there j hj;have hlt:g<(w.setCells g 0 (famCs f)).heap.size:=Nat.lt_of_lt_of_le h.lt (below_setCellsW (B:=0) (Nat.zero_le _) _ 0 _).size
 have hc:∀ (j:Nat) (u:Value),(famCs f)[j]?=some u→(w.setCells g 0 (famCs f)).cell? ⟨g,j,none⟩=some u:=fun j u hj=>by
  obtain ⟨h1,h2⟩:=List.getElem?_eq_some_iff.1 hj
  have:=hq j h1;rw [Nat.zero_add,h2] at this;exact this
 exact ⟨hc 0 _ rfl,hc 1 _ rfl,hc 2 _ rfl,hc 3 _ rfl,hc 4 _ rfl,hc 5 _ rfl,hc 6 _ rfl,hc 7 _ rfl,hc 8 _ rfl,hlt,fun i=>by rw [frozen_setCells]; exact h.fz i⟩
theorem PredF.on {g:Nat} {lb:Array Value} {p:Fam→Bool} {w w':World} (h:PredF g lb p w) (hb:Below w.heap.size w w'):PredF g lb p w':=fun W f hm hW=>h W f hm (hb.trans (hW.mono hb.size))
theorem ofPred (i:Int) (B:Nat) (w:World) (hB:B<w.heap.size) (hc:w.cell? ⟨B,0,none⟩=some (.int .i64 i)):PredF 139 #[.pointer (some ⟨B,0,none⟩)] (isF i) w:=fun W f _ hb=>by
 have hc':W.cell? ⟨B,0,none⟩=some (.int .i64 i):=(hb.cell (p:=⟨B,0,none⟩) hB).trans hc;have hlt:B<W.heap.size:=Nat.lt_of_lt_of_le hB hb.size;obtain ⟨f1,f2,f3,f4,f5,f6,f7,f8,f9⟩:=f;have HB:Hid (Below W.heap.size W (W.alloc (.cells #[.int .i64 f1,.string f2,.string f3,.string f4,.int .i64 f5,.int .i64 f6,.int .i64 f7,.string f8,.bool f9] 40))):=(Below.refl _ _).alloc (Nat.le_refl _) _;have hne:B≠W.heap.size:=by omega
 have he:isF i ⟨f1,f2,f3,f4,f5,f6,f7,f8,f9⟩=(f1 == i):=by unfold isF; rfl
 rw [he];show Calls Tryz.prog 139 #[.agg #[.int .i64 f1,.string f2,.string f3,.string f4,.int .i64 f5,.int .i64 f6,.int .i64 f7,.string f8,.bool f9],.pointer (some ⟨B,0,none⟩)] W _
 clear he hc hb;go_enter Tryz.func139,Tryz.ntmps139
 go_wp2_with fail
 go_ret;exact ⟨rfl,HB.out⟩
theorem of_is (i:Int) (w:World):Calls Tryz.prog 84 #[.int .i64 i] w fun e w'=>e=.returned (.func (.func 139) #[] #[.pointer (some ⟨w.heap.size,0,none⟩)])∧w'=w.alloc (.cells #[.int .i64 i] 3):=by
 go_enter Tryz.func84,Tryz.ntmps84
 go_wp2_with fail
 go_ret;exact ⟨rfl,rfl⟩
theorem ofCalls:∀ args w,(callFunc 139 args).run Tryz.prog w=.ok (.enter 139 args) w:=enters_of Tryz.func139 (by kernel_rfl) rfl
theorem first_is {B:Nat} (l:List Fam) (v:Value) (g:Nat) (lb:Array Value) (p:Fam→Bool) (w:World) (hf:Fams B w v l) (hm:∀ f∈l,mayF f) (hl:l.length≤5000) (hp:PredF g lb p w) (eg:∀ args w,(callFunc g args).run Tryz.prog w=.ok (.enter g args) w) :
 Calls Tryz.prog 83 #[v,.func (.func g) #[] lb] w fun e w'=>e=.returned (.tuple #[famV ((l.find? p).getD zeroF),.bool (l.find? p).isSome])∧Below w.heap.size w w':=by
 obtain ⟨ba,ca,rfl⟩:=RowsK.slice hf;have HB0:Hid (Below w.heap.size w (w.alloc (.cells #[.int .i64 0,.string ⟨#[]⟩,.string ⟨#[]⟩,.string ⟨#[]⟩,.int .i64 0,.int .i64 0,.int .i64 0,.string ⟨#[]⟩,.bool false] 40))):=(Below.refl _ _).alloc (Nat.le_refl _) _;have hf0:Fams B (w.alloc (.cells #[.int .i64 0,.string ⟨#[]⟩,.string ⟨#[]⟩,.string ⟨#[]⟩,.int .i64 0,.int .i64 0,.int .i64 0,.string ⟨#[]⟩,.bool false] 40)) (.slice ba l.length ca) l:=RowsK.below hf HB0.out (Nat.le_refl _);have HF0:Hid _:=hf0;have HIX:Hid _:=indexF_is l (.slice ba l.length ca) g lb p _ hf0 hm hl (hp.on HB0.out) eg;have HFB:Hid (FB (w.alloc (.cells #[.int .i64 0,.string ⟨#[]⟩,.string ⟨#[]⟩,.string ⟨#[]⟩,.int .i64 0,.int .i64 0,.int .i64 0,.string ⟨#[]⟩,.bool false] 40)) w.heap.size zeroF):=FB.made w zeroF _;clear hf hm hp hf0
 cases hq:l.find? p with
 |none=>
  have HQ:Hid (l.find? p=none):=hq;clear hq;go_enter Tryz.func83,Tryz.ntmps83
  go_wp2_with fail
  refine Calls.mono HIX.out ?_;rintro e1 w1 ⟨⟨k,rfl,hk⟩,hb1⟩;have HF1:Hid (FB w1 w.heap.size zeroF):=HFB.out.on hb1;have HB1:Hid (Below w.heap.size w w1):=HB0.out.trans (hb1.mono HB0.out.size);clear hb1 HIX
  obtain rfl:k=-1:=by
   rcases hk with ⟨hk,-⟩ | ⟨j,-,hj,hs⟩
   ·exact hk
   ·rw [HQ.out] at hs; cases hs
  clear hk;have z0:=HF1.out.c0; have z1:=HF1.out.c1; have z2:=HF1.out.c2; have z3:=HF1.out.c3; have z4:=HF1.out.c4; have z5:=HF1.out.c5; have z6:=HF1.out.c6; have z7:=HF1.out.c7; have z8:=HF1.out.c8; have zf:=HF1.out.fz;have HBF:Hid (Below w.heap.size w (w1.setCells w.heap.size 0 (famCs zeroF))):=HB1.out.trans (below_setCellsW (Nat.le_refl _) _ 0 w1);have HFF:Hid (FB (w1.setCells w.heap.size 0 (famCs zeroF)) w.heap.size zeroF):=HF1.out.set;go_wp2_with fail
  generalize hWW:World.setCell _ ⟨w.heap.size,8,none⟩ _=WW;have hW2:w1.setCells w.heap.size 0 (famCs zeroF)=WW:=hWW;have HB2:=HBF.out;have HF2:=HFF.out;rw [hW2] at HB2 HF2;have q0:=HF2.c0; have q1:=HF2.c1; have q2:=HF2.c2; have q3:=HF2.c3; have q4:=HF2.c4; have q5:=HF2.c5; have q6:=HF2.c6; have q7:=HF2.c7; have q8:=HF2.c8;clear hW2 hWW HBF HFF z0 z1 z2 z3 z4 z5 z6 z7 z8 zf HF2;exact bodyPost_ret (v:=.tuple #[famV zeroF,.bool false]) (by simp [results,Tryz.results83,go_sem,q0,q1,q2,q3,q4,q5,q6,q7,q8,famV,famCs]) rfl ⟨rfl,HB2⟩
 |some y=>
  have HQ:Hid (l.find? p=some y):=hq;clear hq;go_enter Tryz.func83,Tryz.ntmps83
  go_wp2_with fail
  refine Calls.mono HIX.out ?_;rintro e1 w1 ⟨⟨k,rfl,hk⟩,hb1⟩;have HF1:Hid (FB w1 w.heap.size zeroF):=HFB.out.on hb1;have HB1:Hid (Below w.heap.size w w1):=HB0.out.trans (hb1.mono HB0.out.size);have hfw:Fams B w1 (.slice ba l.length ca) l:=RowsK.below HF0.out hb1 (Nat.le_refl _);have HFS:Hid (Fams B w1 (.slice ba l.length ca) l):=hfw;clear hfw hb1 HIX
  obtain ⟨j,rfl,hj,hy⟩:∃ j:Nat,k=j∧∃ hj:j<l.length,l[j]=y:=by
   rcases hk with ⟨-,hn⟩ | ⟨j,hk,hj,hs⟩
   ·rw [HQ.out] at hn; cases hn
   ·rw [HQ.out] at hs
    exact ⟨j,hk,hj,(Option.some.inj hs).symm⟩
  clear hk;have z0:=HF1.out.c0; have z1:=HF1.out.c1; have z2:=HF1.out.c2; have z3:=HF1.out.c3; have z4:=HF1.out.c4; have z5:=HF1.out.c5; have z6:=HF1.out.c6; have z7:=HF1.out.c7; have z8:=HF1.out.c8; have zf:=HF1.out.fz;have hfs:Fams B w1 (.slice ba l.length ca) l:=HFS.out;obtain ⟨gr,rfl,hgr,hfa⟩:=Fams.fam hfs j hj;clear hfs;rw [hy] at hfa;have hjI:(j:Int)<(l.length:Int):=by omega
  have hgw:w.heap.size≠gr∨True:=.inr trivial;clear hy hgw;have HBF:Hid (Below w.heap.size w (w1.setCells w.heap.size 0 (famCs y))):=HB1.out.trans (below_setCellsW (Nat.le_refl _) _ 0 w1);have HFF:Hid (FB (w1.setCells w.heap.size 0 (famCs y)) w.heap.size y):=HF1.out.set;obtain ⟨y1,y2,y3,y4,y5,y6,y7,y8,y9⟩:=y;have c0:=hfa.c0; have c1:=hfa.c1; have c2:=hfa.c2; have c3:=hfa.c3; have c4:=hfa.c4; have c5:=hfa.c5; have c6:=hfa.c6; have c7:=hfa.c7; have c8:=hfa.c8;simp only at c0 c1 c2 c3 c4 c5 c6 c7 c8;clear hfa;go_wp2_with fail
  generalize hWW:World.setCell _ ⟨w.heap.size,8,none⟩ _=WW;have hW2:w1.setCells w.heap.size 0 (famCs ⟨y1,y2,y3,y4,y5,y6,y7,y8,y9⟩)=WW:=hWW;have HB2:=HBF.out;have HF2:=HFF.out;rw [hW2] at HB2 HF2;have q0:=HF2.c0; have q1:=HF2.c1; have q2:=HF2.c2; have q3:=HF2.c3; have q4:=HF2.c4; have q5:=HF2.c5; have q6:=HF2.c6; have q7:=HF2.c7; have q8:=HF2.c8;simp only at q0 q1 q2 q3 q4 q5 q6 q7 q8;clear hW2 hWW HBF HFF z0 z1 z2 z3 z4 z5 z6 z7 z8 zf HF2 c0 c1 c2 c3 c4 c5 c6 c7 c8;exact bodyPost_ret (v:=.tuple #[famV ⟨y1,y2,y3,y4,y5,y6,y7,y8,y9⟩,.bool true]) (by simp [results,Tryz.results83,go_sem,q0,q1,q2,q3,q4,q5,q6,q7,q8,famV,famCs]) rfl ⟨rfl,HB2⟩
end Go.Proofs.YtlailakofhenkabGreatDoor
namespace Go.Proofs.YtlailakofhenkabGreatDoor
open Go.RowKit Sip Hex
def Tab16 (w:World):Prop:=w.cell? ⟨9,15,none⟩=some (.int .u8 4)
theorem Tab16.below {B:Nat} {w w':World} (h:Tab16 w) (hb:Below B w w') (hB:9<B):Tab16 w':=(hb.cell (p:=⟨9,15,none⟩) hB).trans h
end Go.Proofs.YtlailakofhenkabGreatDoor
set_option maxHeartbeats 4000000
namespace Go.Proofs.YtlailakofhenkabGreatDoor
open Go.RowKit Tok
def tokV (t:T):Value:=.agg #[.int .i64 t.k,.int .i64 t.f,.int .i64 t.g,.int .i64 t.e]
theorem below_grown (w:World) (k:Nat) (os:Array Obj):Below w.heap.size w (Go.Sort.grow (w.drewN k) os):=by
 have h:=below_drewN (Below.refl w.heap.size w) k;have hs:(w.drewN k).heap=w.heap:=by simp
 refine ⟨h.os,h.tape,h.output,?_,fun i hi=>?_⟩
 ·show w.heap.size≤((w.drewN k).heap ++ os).size
  rw [hs,Array.size_append]; omega
 ·show ((w.drewN k).heap ++ os)[i]?=w.heap[i]?
  rw [hs,Array.getElem?_append_left hi]
theorem tabIs_below {B:Nat} {w w':World} {name:String} {k:IntKind} {zs:List Int} {g:Nat} (h:Lib.TabIs Tryz.prog w name k zs) (hb:Below B w w') (hg:Tryz.prog.globalNamed name=some g) (hB:g<B):Lib.TabIs Tryz.prog w' name k zs:=by
 unfold Lib.TabIs World.var? at *;simp only [hg,Option.bind_some] at h ⊢;rw [hb.block g hB];exact h
def Bigs (n:Nat):Prop:=3<n∧9<n∧0<n
theorem Bigs.le {n m:Nat} (h:Bigs n) (k:n≤m):Bigs m:=⟨Nat.lt_of_lt_of_le h.1 k,Nat.lt_of_lt_of_le h.2.1 k,Nat.lt_of_lt_of_le h.2.2 k⟩
structure Libs (w:World):Prop where
 big:Bigs w.heap.size
 pow : Lib.TabIs Tryz.prog w "internal/strconv.uint64pow10" .u64 Lib.pow10Tab
 t16:Tab16 w
 err:ErrVar w
theorem gPow : Tryz.prog.globalNamed "internal/strconv.uint64pow10" = some 3 := by kernel_rfl
theorem Libs.below {B:Nat} {w w':World} (h:Libs w) (hb:Below B w w') (hB:Bigs B):Libs w' where
 big:=h.big.le hb.size
 pow:=tabIs_below h.pow hb gPow hB.1
 t16:=h.t16.below hb hB.2.1
 err:=(hb.cell (p:=⟨0,0,none⟩) hB.2.2).trans h.err
theorem itoa_is (n:Int) (w:World) (h0:0≤n) (h1:n≤9223372036854775807) (hL:Libs w):Calls Tryz.prog 57 #[.int .i64 n] w fun e w'=>e=.returned (.string ⟨(Lib.itoa n).toArray⟩)∧Below w.heap.size w w':=by
 refine (Tryz.strconv_Itoa n (by omega) h1 w hL.pow).mono ?_
 rintro e w' ⟨rfl,k,os,rfl⟩;exact ⟨rfl,below_grown _ _ _⟩
theorem inBounds_is (n:Int) (w:World):Calls Tryz.prog 215 #[.int .i64 n] w fun e w'=>e=.returned (.bool (okB n))∧w'=w:=by
 by_cases h0:0≤n
 ·by_cases h1:n≤1099511627776
  ·have hd:Hid (okB n=true):=okB_t ⟨h0,h1⟩
   go_enter Tryz.func215,Tryz.ntmps215
   go_wp2_with fail
   go_ret;exact ⟨by rw [hd.out]; rfl,rfl⟩
  ·have hd:Hid (okB n=false):=okB_f (fun h=>h1 h.2)
   go_enter Tryz.func215,Tryz.ntmps215
   go_wp2_with fail
   go_ret;exact ⟨by rw [hd.out]; rfl,rfl⟩
 ·have hd:Hid (okB n=false):=okB_f (fun h=>h0 h.1)
  go_enter Tryz.func215,Tryz.ntmps215
  go_wp2_with fail
  go_ret;exact ⟨by rw [hd.out]; rfl,rfl⟩
theorem mayBe_is (t:T) (w:World):Calls Tryz.prog 135 #[tokV t] w fun e w'=>e=.returned (.bool (mayB t))∧Below w.heap.size w w':=by
 obtain ⟨k,f,g,e⟩:=t;unfold tokV;simp only;go_enter Tryz.func135,Tryz.ntmps135
 go_wp2_with (go_at_call 215; refine (inBounds_is _ _).mono ?_; rintro e w' ⟨rfl,rfl⟩)
 all_goals (go_ret; refine ⟨congrArg Ending.returned (congrArg Value.bool ?_),(Below.refl w.heap.size w).alloc (Nat.le_refl _) _⟩)
 all_goals simp_all [mayB]
theorem bstr {x:ByteArray} {l:List UInt8} (h:x.data.toList=l):x=⟨l.toArray⟩:=by
 apply ByteArray.ext
 apply Array.toList_inj.1
 simpa using h
theorem quiet_itoa {W:World} (n:Int) (h0:0≤n) (h1:n≤9223372036854775807) (hL:Libs W):∀ d os,Calls Tryz.prog 57 #[.int .i64 n] (Go.Sort.grow (redrawn W d) os) fun e w''=>e=.returned (.string ⟨(Lib.itoa n).toArray⟩)∧∃ p:Regrown,w''=Go.Sort.grow (redrawn W p.d) p.os:=
 fun d os=>Calls.regrown_of (itoa_is n _ h0 h1 (hL.below (below_regrown W d os) hL.big))
theorem mixed:Tryz.prog.follows .mixedOrders=true:=by kernel_rfl
theorem bodyP_is (t:T) (w:World) (h:may t) (hL:Libs w):Calls Tryz.prog 136 #[tokV t] w fun e w'=>e=.returned (.string ⟨(body t).toArray⟩)∧Below w.heap.size w w':=by
 obtain ⟨k,f,g,e⟩:=t;obtain ⟨hk,hf,hg⟩:=h;unfold okN at hf hg;simp only at hk hf hg;have hB:Below w.heap.size w (w.alloc (.cells #[.int .i64 k,.int .i64 f,.int .i64 g,.int .i64 e] 142)):=(Below.refl _ _).alloc (Nat.le_refl _) _;have hL2:=hL.below hB hL.big;have c0:(w.alloc (.cells #[.int .i64 k,.int .i64 f,.int .i64 g,.int .i64 e] 142)).cell? ⟨w.heap.size,0,none⟩=some (.int .i64 k):=by simp
 have c1:(w.alloc (.cells #[.int .i64 k,.int .i64 f,.int .i64 g,.int .i64 e] 142)).cell? ⟨w.heap.size,1,none⟩=some (.int .i64 f):=by simp
 have c2:(w.alloc (.cells #[.int .i64 k,.int .i64 f,.int .i64 g,.int .i64 e] 142)).cell? ⟨w.heap.size,2,none⟩=some (.int .i64 g):=by simp
 have c3:(w.alloc (.cells #[.int .i64 k,.int .i64 f,.int .i64 g,.int .i64 e] 142)).cell? ⟨w.heap.size,3,none⟩=some (.int .i64 e):=by simp
 have hlt:w.heap.size<(w.alloc (.cells #[.int .i64 k,.int .i64 f,.int .i64 g,.int .i64 e] 142)).heap.size:=by simp
 have hlf:=Lib.itoa_length_le f (by omega) (by omega)
 have hlg:=Lib.itoa_length_le g (by omega) (by omega)
 have n1:¬ 9223372036854775807<1+(Lib.itoa f).length:=by omega
 have n2:¬ 9223372036854775807<1+(Lib.itoa f).length+1:=by omega
 have n3:¬ 9223372036854775807<1+(Lib.itoa f).length+1+(Lib.itoa g).length:=by omega
 have cf:=quiet_itoa f hf.1 (by omega) hL2
 have cg:=quiet_itoa g hg.1 (by omega) hL2
 have k1:=cell_regrown c1;have k2:=cell_regrown c2;unfold tokV;simp only;go_enter Tryz.func136,Tryz.ntmps136
 go_wp2_with fail
 generalize w.alloc (.cells #[.int .i64 k,.int .i64 f,.int .i64 g,.int .i64 e] 142)=W at *;have HL:Hid (Libs W):=hL2;have HB:Hid (Below w.heap.size w W):=hB;have HLT:Hid (w.heap.size<W.heap.size):=hlt;have hsz:Hid (w.heap.size≤W.heap.size):=hB.size;clear hL hL2 hB hlt;generalize hbb:w.heap.size=b at *;have HBb:Hid (w.heap.size=b):=hbb;clear hbb;refine wp_region_quiet_below mixed (by kernel_rfl) ?_
 repeat (quiet_step (first | exact cf _ _ | exact cg _ _))
 refine wpQuiet_nil ?_;intro W2 hw';obtain ⟨⟨dq,osq⟩,hw''⟩:=hw';have HB2:Below W.heap.size W W2:=by rw [hw'']; exact below_regrown W dq osq
 have HL2:=HL.out.below HB2 HL.out.big;have e0:=(HB2.cell (p:=⟨b,0,none⟩) HLT.out).trans c0;have e3:=(HB2.cell (p:=⟨b,3,none⟩) HLT.out).trans c3;clear hw'' cf cg k1 k2;rcases hk with ⟨rfl,rfl⟩ | ⟨rfl,he⟩
 ·go_wp2_with fail
  go_ret;exact ⟨congrArg Ending.returned (congrArg Value.string (bstr (by simp [body]))),by rw [HBb.out]; exact HB.out.trans (HB2.mono hsz.out)⟩
 ·unfold okN at he
  have hle:=Lib.itoa_length_le e (by omega) (by omega)
  have hi:Hid (0≤e∧e≤1099511627776):=he;clear he;go_wp2_with fail
  refine (itoa_is e _ hi.out.1 (by have:=hi.out.2; omega) HL2).mono ?_
  rintro e1 w3 ⟨rfl,hb3⟩;go_wp2_with fail
  go_ret;exact ⟨congrArg Ending.returned (congrArg Value.string (bstr (by simp [body]))),by rw [HBb.out]; exact (HB.out.trans (HB2.mono hsz.out)).trans (hb3.mono (Nat.le_trans hsz.out HB2.size))⟩
theorem body_len {t:T} (h:may t):(body t).length≤70:=by
 obtain ⟨k,f,g,e⟩:=t;obtain ⟨hk,hf,hg⟩:=h;unfold okN at *;simp only at hk hf hg;have hlf:=Lib.itoa_length_le f (by omega) (by omega)
 have hlg:=Lib.itoa_length_le g (by omega) (by omega)
 unfold body;simp only;rcases hk with ⟨rfl,rfl⟩ | ⟨rfl,he⟩
 ·rw [if_pos rfl]; simp; omega
 ·have hle:=Lib.itoa_length_le e (by omega) (by omega)
  rw [if_neg (by decide)]; simp; omega
def textOf (key:Int) (t:T):List UInt8:=body t ++ 46::tag key (body t)
theorem macTag_list (key:Int) (l:List UInt8) (w:World) (hl:l.length≤9223372036854775807):Calls Tryz.prog 137 #[.int .i64 key,.string ⟨l.toArray⟩] w fun e w'=>e=.returned (.string ⟨(tag key l).toArray⟩)∧Below w.heap.size w w':=by
 have h:=macTag_any key ⟨l.toArray⟩ w (by simpa [ByteArray.size] using hl)
 simpa using h
theorem tag_len (key:Int) (l:List UInt8):(tag key l).length=16:=Hex.hexsN_length _ _
theorem writeP_yes (key:Int) (t:T) (w:World) (h:may t) (hL:Libs w):Calls Tryz.prog 81 #[.int .i64 key,tokV t] w fun e w'=>e=.returned (.tuple #[.string ⟨(textOf key t).toArray⟩,.nilIface])∧Below w.heap.size w w':=by
 have hd:mayB t=true:=mayB_t h;have hl:=body_len h;have hlt:=tag_len key (body t);have HH:Hid (may t):=h;have HL:Hid (Libs w):=hL;have HX:Hid (textOf key t=body t ++ 46::tag key (body t)):=rfl;clear h hL;obtain ⟨k,f,g,e⟩:=t;unfold tokV;simp only;go_enter Tryz.func81,Tryz.ntmps81
 go_wp2_with fail
 refine (mayBe_is ⟨k,f,g,e⟩ _).mono ?_;rintro e1 w1 ⟨rfl,hb1⟩;rw [hd];have hB0:Below w.heap.size w (w.alloc (.cells #[.int .i64 k,.int .i64 f,.int .i64 g,.int .i64 e] 142)):=(Below.refl _ _).alloc (Nat.le_refl _) _;have c0:=(hb1.cell (p:=⟨w.heap.size,0,none⟩) (by simp)).trans (World.cell?_alloc_at _ _ _ _ rfl)
 have c1:=(hb1.cell (p:=⟨w.heap.size,1,none⟩) (by simp)).trans (World.cell?_alloc_at _ _ _ _ rfl)
 have c2:=(hb1.cell (p:=⟨w.heap.size,2,none⟩) (by simp)).trans (World.cell?_alloc_at _ _ _ _ rfl)
 have c3:=(hb1.cell (p:=⟨w.heap.size,3,none⟩) (by simp)).trans (World.cell?_alloc_at _ _ _ _ rfl)
 simp at c0 c1 c2 c3
 have HB1:Hid (Below w.heap.size w w1):=hB0.trans (hb1.mono hB0.size);have HL1:=HL.out.below HB1.out HL.out.big;clear hb1 hB0;go_wp2_with fail
 refine (bodyP_is ⟨k,f,g,e⟩ _ HH.out HL1).mono ?_;rintro e2 w2 ⟨rfl,hb2⟩;have HB2:Hid (Below w.heap.size w w2):=HB1.out.trans (hb2.mono HB1.out.size);clear hb2 c0 c1 c2 c3;generalize body ⟨k,f,g,e⟩=B at *;go_wp2_with fail
 refine (macTag_list key B _ (by omega)).mono ?_
 rintro e3 w3 ⟨rfl,hb3⟩;have HB3:Hid (Below w.heap.size w w3):=HB2.out.trans (hb3.mono HB2.out.size);clear hb3;generalize tag key B=G at *;go_wp2_with fail
 go_ret2;refine ⟨?_,HB3.out⟩;rw [HX.out];refine congrArg Ending.returned (congrArg Value.tuple ?_);rw [show (⟨B.toArray⟩ ++ ⟨#[46]⟩ ++ ⟨G.toArray⟩:ByteArray)=⟨(B ++ 46::G).toArray⟩ from bstr (by simp)]
 rfl
theorem writeP_no (key:Int) (t:T) (w:World) (h:¬ may t):Calls Tryz.prog 81 #[.int .i64 key,tokV t] w fun e w'=>e=.returned (.tuple #[.string ByteArray.empty,.iface 47 (.int .i64 1)])∧Below w.heap.size w w':=by
 have hd:mayB t=false:=mayB_f h;clear h;obtain ⟨k,f,g,e⟩:=t;unfold tokV;simp only;go_enter Tryz.func81,Tryz.ntmps81
 go_wp2_with fail
 refine (mayBe_is ⟨k,f,g,e⟩ _).mono ?_;rintro e1 w1 ⟨rfl,hb1⟩;rw [hd];have hB0:Below w.heap.size w (w.alloc (.cells #[.int .i64 k,.int .i64 f,.int .i64 g,.int .i64 e] 142)):=(Below.refl _ _).alloc (Nat.le_refl _) _;have HB1:Hid (Below w.heap.size w w1):=hB0.trans (hb1.mono hB0.size);clear hb1 hB0;go_wp2_with fail
 go_ret2;exact ⟨rfl,HB1.out⟩
def BigsR (n:Nat):Prop:=2<n∧4<n∧5<n
theorem BigsR.le {n m:Nat} (h:BigsR n) (k:n≤m):BigsR m:=⟨Nat.lt_of_lt_of_le h.1 k,Nat.lt_of_lt_of_le h.2.1 k,Nat.lt_of_lt_of_le h.2.2 k⟩
structure LibsR (w:World):Prop where
 base:Libs w
 big:BigsR w.heap.size
 len:∃ m,w.cell? ⟨2,0,none⟩=some (.int .i64 m)
 syn:∃ ev,w.cell? ⟨4,0,none⟩=some ev∧(ev=.nilIface∨∃ te pe,ev=.iface te pe)
 rng:∃ ev,w.cell? ⟨5,0,none⟩=some ev∧(ev=.nilIface∨∃ te pe,ev=.iface te pe)
theorem LibsR.below {B:Nat} {w w':World} (h:LibsR w) (hb:Below B w w') (hB:w.heap.size=B):LibsR w' where
 base:=h.base.below hb (hB ▸ h.base.big)
 big:=h.big.le hb.size
 len:=by
  obtain ⟨m,hm⟩:=h.len;exact ⟨m,(hb.cell (p:=⟨2,0,none⟩) (hB ▸ h.big.1)).trans hm⟩
 syn:=by
  obtain ⟨m,hm,k⟩:=h.syn;exact ⟨m,(hb.cell (p:=⟨4,0,none⟩) (hB ▸ h.big.2.1)).trans hm,k⟩
 rng:=by
  obtain ⟨m,hm,k⟩:=h.rng;exact ⟨m,(hb.cell (p:=⟨5,0,none⟩) (hB ▸ h.big.2.2)).trans hm,k⟩
theorem atoi_yes (s:ByteArray) (v:Int) (w:World) (hs:s.size≤10000) (h:Lib.atoiAll s.data.toList=.ok v):Calls Tryz.prog 181 #[.string s] w fun e w'=>e=.returned (.tuple #[.int .i64 v,.nilIface])∧Below w.heap.size w w':=by
 refine (Tryz.strconv_Atoi_ok s (by omega) v h w).mono ?_
 rintro e w' ⟨rfl,rfl | ⟨t,rfl⟩⟩
 ·exact ⟨rfl,Below.refl _ _⟩
 ·exact ⟨rfl,Joins.below_bytesWorld _ _ _ _ (Nat.le_refl _)⟩
theorem atoi_no (s:ByteArray) (w:World) (hs:s.size≤10000) (hL:LibsR w) (h:∀ v,Lib.atoiAll s.data.toList≠.ok v):Calls Tryz.prog 181 #[.string s] w fun e w'=>∃ v te pe,e=.returned (.tuple #[.int .i64 v,.iface te pe])∧Below w.heap.size w w':=by
 cases hc:Lib.atoiAll s.data.toList with
 |ok v=>exact absurd hc (h v)
 |range=>
  obtain ⟨ev,h1,h2⟩:=hL.rng;refine (Tryz.strconv_Atoi_range s (by omega) hc ev w h1 h2).mono ?_
  rintro e w' ⟨N,rfl,_,_,hb⟩;exact ⟨_,_,_,rfl,hb⟩
 |_=>
  obtain ⟨ev,h1,h2⟩:=hL.syn;refine (Tryz.strconv_Atoi_syntax s (by omega) hc ev w h1 h2).mono ?_
  rintro e w' ⟨N,rfl,_,_,hb⟩;exact ⟨_,_,_,rfl,hb⟩
theorem split_len (c:UInt8) (k:Nat) (l:List UInt8):∀ x∈Lib.splitK [c] 0 k l,x.length≤l.length:=by
 induction k generalizing l with
 |zero=>intro x hx; simp [Lib.splitK] at hx; subst hx; exact Nat.le_refl _
 |succ k ih=>
  rcases nilOr c l with h | ⟨a,b,rfl,h⟩
  ·rw [splitK_no h]; intro x hx; simp at hx; subst hx; exact Nat.le_refl _
  ·rw [splitK_at b h]
   intro x hx;simp only [List.mem_cons] at hx;rcases hx with rfl | hx
   ·simp
   ·have:=ih b x hx
    simp; omega
theorem isHex_is (c:UInt8) (w:World):Calls Tryz.prog 224 #[.int .u8 (c.toNat:Int)] w fun e w'=>e=.returned (.bool (isHexB c))∧w'=w:=by
 have HD:Hid (isHexB c=(decide (48≤c.toNat∧c.toNat≤57) || decide (97≤c.toNat∧c.toNat≤102))):=rfl;generalize c.toNat=n at *;go_enter Tryz.func224,Tryz.ntmps224
 go_wp2_with fail
 all_goals (go_ret; refine ⟨congrArg Ending.returned (congrArg Value.bool ?_),rfl⟩; rw [HD.out,Bool.eq_iff_iff]; simp; try omega)
theorem readNumbers_is (s:ByteArray) (w:World) (hs:s.size≤5000) (hL:LibsR w):Calls Tryz.prog 223 #[.string s] w fun e w'=>Below w.heap.size w w'∧
 ((∃ (ns:List Int) (g cap:Nat),e=.returned (.tuple #[.slice (some ⟨g,0,none⟩) ns.length cap,.bool true])∧Lib.splitK [46] 0 2 s.data.toList=ns.map Lib.itoa∧(∀ n∈ns,okN n)∧RowAt w.heap.size w' g cap ns.length (ns.map (Value.int .i64)))∨
  (e=.returned (.tuple #[.slice none 0 0,.bool false])∧¬ ∃ ns:List Int,Lib.splitK [46] 0 2 s.data.toList=ns.map Lib.itoa∧∀ n∈ns,okN n)):=by
 obtain ⟨m,hm⟩:=hL.len;have HL:Hid (LibsR w):=hL;have hps:=Lib.splitB_data ⟨#[46]⟩ 0 (min 3 (s.size+1) - 1) s
 have e3:Lib.splitK [46] 0 (min 3 (s.size+1) - 1) s.data.toList=Lib.splitK [46] 0 2 s.data.toList:=by
  have:=splitK_three 46 s.data.toList;rwa [show s.data.toList.length=s.size from Array.length_toList] at this
 rw [show (⟨#[46]⟩:ByteArray).data.toList= [46] from rfl,e3] at hps
 have hlenN:=Lib.splitB_length_le ⟨#[46]⟩ 0 (min 3 (s.size+1) - 1) s;have hsp:=Tryz.strings_SplitN s ⟨#[46]⟩ 3 m w (by omega) hm (by decide) (by decide) (by decide)
 generalize hP:Lib.splitB ⟨#[46]⟩ 0 (min 3 (s.size+1) - 1) s=ps at *;have HP:Hid (ps.map (·.data.toList)=Lib.splitK [46] 0 2 s.data.toList):=hps;have hN:ps.length≤min 3 (s.size+1):=by omega
 have hN3:ps.length≤3:=by omega
 generalize min 3 (s.size+1)=N at *;have hmk:=run_make_row' (P:=Tryz.prog) 23 3 (.int .i64 0) 8 Tryz.underlying23 (by kernel_rfl) rfl .i64 .i64 ps.length (by omega) (by omega)
 clear hps e3 hP hL;go_enter Tryz.func223,Tryz.ntmps223
 go_wp2_with fail
 refine hsp.mono ?_;rintro e w1 ⟨rfl,rfl⟩;clear hsp;go_wp2_with fail
 have hw0:Below w.heap.size w ((w.alloc (.cells (Lib.cellsOf ps N) 9)).alloc (.cells (madeCells #[.int .i64 0] ps.length) 3)):=by
  repeat (first | exact Below.refl _ _ | refine Below.alloc ?_ (by simp) _)
 have hcl:∀ i x,ps[i]?=some x→((w.alloc (.cells (Lib.cellsOf ps N) 9)).alloc (.cells (madeCells #[.int .i64 0] ps.length) 3)).cell? ⟨w.heap.size,i,none⟩=some (.string x):=by
  intro i x hx;have hi:=(List.getElem?_eq_some_iff.1 hx).1;rw [World.cell?_alloc_lt _ _ _ (by simp),World.cell?_alloc_new]
  unfold Lib.cellsOf;rw [List.getElem?_toArray,List.getElem?_append_left (by simpa using hi),List.getElem?_map,hx]
  rfl
 have hrow0:RowAt w.heap.size ((w.alloc (.cells (Lib.cellsOf ps N) 9)).alloc (.cells (madeCells #[.int .i64 0] ps.length) 3)) (w.heap.size+1) ps.length ps.length ((List.replicate ps.length (0:Int)).map (Value.int .i64)):=by
  have hmc:(madeCells #[.int .i64 0] ps.length).toList=List.replicate ps.length (.int .i64 0):=toList_madeCells_one _ _
  have hcell:∀ j,j<ps.length→((w.alloc (.cells (Lib.cellsOf ps N) 9)).alloc (.cells (madeCells #[.int .i64 0] ps.length) 3)).cell? ⟨w.heap.size+1,j,none⟩=some (.int .i64 0):=by
   intro j hj;rw [World.cell?_alloc_at _ _ _ _ (by simp)]
   rw [← Array.getElem?_toList,hmc,List.getElem?_replicate,if_pos hj]
  refine ⟨by omega,by simp,by simp,Nat.le_refl _,by unfold maxLen; omega,fun j u hj=>?_,fun j hj=>⟨by rw [hcell j hj]; rfl,World.frozen?_alloc_at _ _ _ _ (by simp)⟩⟩
  have hjl:=(List.getElem?_eq_some_iff.1 hj).1;simp only [List.map_replicate,List.length_replicate] at hjl;rw [List.map_replicate,List.getElem?_replicate,if_pos hjl] at hj;rw [hcell j hjl]; exact hj
 have hsz0:w.heap.size+1<((w.alloc (.cells (Lib.cellsOf ps N) 9)).alloc (.cells (madeCells #[.int .i64 0] ps.length) 3)).heap.size:=by simp
 generalize ((w.alloc (.cells (Lib.cellsOf ps N) 9)).alloc (.cells (madeCells #[.int .i64 0] ps.length) 3))=W at *;clear hmk
 go_loopg [17] ps.length (fun gk iv wr=>∃ (j:Nat) (ns:List Int),j+gk=ps.length∧iv=.int .i64 j∧ns.length=j∧(ps.take j).map (·.data.toList)=ns.map Lib.itoa∧(∀ n∈ns,okN n)∧Below w.heap.size w wr∧
  (∀ i x,ps[i]?=some x→wr.cell? ⟨w.heap.size,i,none⟩=some (.string x))∧w.heap.size+1<wr.heap.size∧RowAt w.heap.size wr (w.heap.size+1) ps.length ps.length ((ns ++ List.replicate gk 0).map (Value.int .i64)))
 case atStart=>exact ⟨0,[],by omega,rfl,rfl,by simp,by simp,hw0,hcl,hsz0,by simpa using hrow0⟩
 case round=>
  obtain ⟨j,ns,hk,rfl,hns,hit,hok,hb,hcl,hsz,hrow⟩:=hrel;have HK:Hid (j+gk=ps.length):=hk;have HNS:Hid (ns.length=j):=hns;have HIT:Hid ((ps.take j).map (·.data.toList)=ns.map Lib.itoa):=hit;have HOK:Hid (∀ n∈ns,okN n):=hok;have HB:Hid (Below w.heap.size w wr):=hb;have HCL:Hid (∀ i x,ps[i]?=some x→wr.cell? ⟨w.heap.size,i,none⟩=some (.string x)):=hcl;have HSZ:Hid (w.heap.size+1<wr.heap.size):=hsz;have HROW:Hid (RowAt w.heap.size wr (w.heap.size+1) ps.length ps.length ((ns ++ List.replicate gk 0).map (Value.int .i64))):=hrow;have hjle:j≤ps.length:=by omega
  clear hk hns hit hok hb hcl hsz hrow hw0 hrow0 hsz0;by_cases hj:j<ps.length
  ·obtain ⟨x,hx⟩:∃ x,ps[j]?=some x:=⟨_,List.getElem?_eq_getElem hj⟩
   have HX:Hid (ps[j]?=some x):=hx;have hc:=HCL.out j x hx
   have hxs:x.size≤5000:=by
    have hmem:x.data.toList∈Lib.splitK [46] 0 2 s.data.toList:=by
     rw [← HP.out];exact List.mem_map.2 ⟨x,List.mem_of_getElem? hx,rfl⟩
    have:=split_len 46 2 s.data.toList _ hmem;have e1:x.data.toList.length=x.size:=Array.length_toList;have e2:s.data.toList.length=s.size:=Array.length_toList;omega
   clear hx;have hjI:(j:Int)<(ps.length:Int):=by omega
   have HLr:=HL.out.below HB.out rfl;by_cases hgood:∃ n,okN n∧Lib.itoa n=x.data.toList
   ·obtain ⟨n,hn,hnx⟩:=hgood
    have hat:Lib.atoiAll x.data.toList=.ok n:=by rw [← hnx]; exact atoi_itoa hn.1 (by have:=hn.2; omega)
    obtain rfl:x=⟨(Lib.itoa n).toArray⟩:=bstr hnx.symm;have hd:okB n=true:=okB_t hn;have HN:Hid (okN n):=hn;clear hnx hn;go_wp2_with fail
    refine (atoi_yes _ n _ (by omega) hat).mono ?_
    rintro e w2 ⟨rfl,hb2⟩;have HB2:Hid (Below w.heap.size w w2):=HB.out.trans (hb2.mono HB.out.size);have HBr2:Hid (Below wr.heap.size wr w2):=hb2;clear hb2 hat;go_wp2_with fail
    refine (inBounds_is n _).mono ?_;rintro e w3 ⟨rfl,rfl⟩;rw [hd];go_wp2_with fail
    refine (itoa_is n _ HN.out.1 (by have:=HN.out.2; omega) (HL.out.below HB2.out rfl).base).mono ?_
    rintro e w3 ⟨rfl,hb3⟩;have HB3:Hid (Below w.heap.size w w3):=HB2.out.trans (hb3.mono HB2.out.size);have HBr3:Hid (Below wr.heap.size wr w3):=HBr2.out.trans (hb3.mono HBr2.out.size);clear hb3;have HROW3:Hid (RowAt w.heap.size w3 (w.heap.size+1) ps.length ps.length ((ns ++ List.replicate gk 0).map (Value.int .i64))):=HROW.out.below HBr3.out HSZ.out;have hthere:=HROW3.out.there j hj;obtain ⟨old,hold⟩:=Option.isSome_iff_exists.1 hthere.1;have hfz:=hthere.2;clear hthere;go_wp2_with fail
    go_roundg (gk - 1)
    case measure=>have:=HK.out; omega
    case rel=>
     have hk:=HK.out;have hns:=HNS.out;obtain ⟨g',rfl⟩:∃ g',gk=g'+1:=⟨gk - 1,by omega⟩
     refine ⟨j+1,ns ++ [n],by omega,by go_num,by simp [hns],?_,?_,?_,?_,?_,?_⟩
     ·rw [List.take_add_one,HX.out,List.map_append,HIT.out]; simp
     ·intro y hy
      simp only [List.mem_append,List.mem_singleton] at hy;rcases hy with hy | rfl
      ·exact HOK.out y hy
      ·exact HN.out
     ·exact HB3.out.setCell (p:=⟨w.heap.size+1,j,none⟩) (by simp) _
     ·intro i x hx
      refine (((Below.refl (w.heap.size+1) w3).setCell (p:=⟨w.heap.size+1,j,none⟩) (Nat.le_refl _) _).cell (p:=⟨w.heap.size,i,none⟩) (by simp)).trans ?_
      exact (HBr3.out.cell (p:=⟨w.heap.size,i,none⟩) (by have:=HSZ.out; simp; omega)).trans (HCL.out i x hx)
     ·have h1:=HSZ.out
      have h2:=HBr3.out.size;simp [World.setCell]; omega
     ·have h:=HROW3.out.store hj (.int .i64 n)
      have e1:((ns ++ List.replicate (g'+1) 0).map (Value.int .i64)).set j (.int .i64 n)=((ns ++ [n] ++ List.replicate g' 0).map (Value.int .i64)):=by
       rw [List.map_append,List.set_append_right _ _ (by simp [hns])]
       simp [hns,List.replicate_succ]
      rw [e1] at h;exact h
   ·have HBAD:Hid (¬ ∃ ns:List Int,Lib.splitK [46] 0 2 s.data.toList=ns.map Lib.itoa∧∀ n∈ns,okN n):=by
     rintro ⟨ms,h1,h2⟩;rw [← HP.out] at h1;have h3:(ps.map (·.data.toList))[j]?=(ms.map Lib.itoa)[j]?:=by rw [h1]
     rw [List.getElem?_map,List.getElem?_map,HX.out] at h3
     cases hm2:ms[j]? with
     |none=>rw [hm2] at h3; cases h3
     |some y=>
      rw [hm2] at h3;exact hgood ⟨y,h2 y (List.mem_of_getElem? hm2),(Option.some.inj h3).symm⟩
    by_cases hat:∃ v,Lib.atoiAll x.data.toList=.ok v
    ·obtain ⟨v,hat⟩:=hat
     go_wp2_with fail
     refine (atoi_yes _ v _ (by omega) hat).mono ?_
     rintro e w2 ⟨rfl,hb2⟩;have HB2:Hid (Below w.heap.size w w2):=HB.out.trans (hb2.mono HB.out.size);obtain ⟨hv0,hv1⟩:=Lib.atoiAll_bounds hat;have HV:Hid (0≤v→v≤9223372036854775807):=fun _=>hv1;clear hb2 hat hv0 hv1;by_cases hv:okN v
     ·have hd:okB v=true:=okB_t hv
      have hne:(Lib.itoa v == x.toList)=false:=by
       rw [beq_eq_false_iff_ne,ByteArray.toList_eq];intro he;exact hgood ⟨v,hv,he⟩
      have HN:Hid (okN v):=hv;clear hv hgood;go_wp2_with fail
      refine (inBounds_is v _).mono ?_;rintro e w3 ⟨rfl,rfl⟩;rw [hd];go_wp2_with fail
      refine (itoa_is v _ HN.out.1 (HV.out HN.out.1) (HL.out.below HB2.out rfl).base).mono ?_;rintro e w3 ⟨rfl,hb3⟩;have HB3:Hid (Below w.heap.size w w3):=HB2.out.trans (hb3.mono HB2.out.size);clear hb3;go_wp2_with fail
      go_ret2;exact ⟨HB3.out,.inr ⟨rfl,HBAD.out⟩⟩
     ·have hd:okB v=false:=okB_f hv
      clear hv hgood;go_wp2_with fail
      refine (inBounds_is v _).mono ?_;rintro e w3 ⟨rfl,rfl⟩;rw [hd];go_wp2_with fail
      go_ret2;exact ⟨HB2.out,.inr ⟨rfl,HBAD.out⟩⟩
    ·have hat':∀ v,Lib.atoiAll x.data.toList≠.ok v:=fun v h=>hat ⟨v,h⟩
     clear hgood hat;go_wp2_with fail
     refine (atoi_no _ _ (by omega) HLr hat').mono ?_
     rintro e w2 ⟨v,te,pe,rfl,hb2⟩;have HB2:Hid (Below w.heap.size w w2):=HB.out.trans (hb2.mono HB.out.size);clear hb2 hat';go_wp2_with fail
     go_ret2;exact ⟨HB2.out,.inr ⟨rfl,HBAD.out⟩⟩
  ·obtain rfl:j=ps.length:=by omega
   go_wp2_with fail
   go_ret2;refine ⟨HB.out,.inl ⟨ns,w.heap.size+1,ps.length,?_,?_,HOK.out,?_⟩⟩
   ·rw [HNS.out]; rfl
   ·rw [← HP.out,← HIT.out,List.take_of_length_le (Nat.le_refl _)]
   ·have h:=HROW.out
    have e0:gk=0:=by have:=HK.out; omega
    rw [e0,List.replicate_zero,List.append_nil] at h;rw [HNS.out];exact h
end Go.Proofs.YtlailakofhenkabGreatDoor
