import Derived.Test.YtlailakofhenkabGreatDoorB38
namespace Go.Proofs.YtlailakofhenkabGreatDoor
open Go Go.RowKit Tok Sc Ev
structure Sv2 (N:Nat) (w:World) (gv gs gd gx gr:Nat) (r:Rul) (p q:Pub) (v vr:Value):Prop where
 sv:SvIs N w gv gs gd r p v
 rv:RvIs N w gx gr r q vr
 two:Two N w gs gd gr p q v vr
 far:gd<gx∧gx≠gs∧gv≠gr
theorem Sv2.on {N:Nat} {w w':World} {gv gs gd gx gr:Nat} {r:Rul} {p q:Pub} {v vr:Value} (h:Sv2 N w gv gs gd gx gr r p q v vr) (hb:Below w.heap.size w w'):Sv2 N w' gv gs gd gx gr r p q v vr:=
 ⟨h.sv.on hb,h.rv.on hb,h.two.on hb,h.far⟩
theorem Sv2.toP {N:Nat} {w w':World} {gv gs gd gx gr:Nat} {r:Rul} {p q p':Pub} {v vr v':Value} (h:Sv2 N w gv gs gd gx gr r p q v vr) (ht:SPto N gs gd v w w' p' v'):Sv2 (N+22) w' gv gs gd gx gr r p' q v' vr:=by
 have hs:=h.sv.to ht;obtain ⟨f1,f2,f3⟩:=h.far;have hr:=h.two.far;have h2:=h.two.docKeep (M:=N+22) (by omega) ht.prog ht.keep (ht.notIn h.two.out h.two.doc.lt)
 exact ⟨hs,⟨h2.doc,ok_mono h.rv.ok (by omega),h.rv.box.keep ht.keep (by simp; omega),hs.libs,h.rv.rul,h.rv.ord,h.rv.out,h.rv.old⟩,h2,h.far⟩
theorem Sv2.toR {N:Nat} {w w':World} {gv gs gd gx gr:Nat} {r:Rul} {p q q':Pub} {v vr vr':Value} (h:Sv2 N w gv gs gd gx gr r p q v vr) (ht:RTo N gr vr w w' q' vr'):Sv2 (N+22) w' gv gs gd gx gr r p q' v vr':=by
 have hs:=h.rv.to ht;obtain ⟨f1,f2,f3⟩:=h.far;have h2:=(h.two.mono (Nat.le_add_right N 22)).progKeep ht.ok ht.doc ht.keep (ht.notIn h.two.outR (by have h1:=h.sv.ord; have h3:=h.sv.box.lt; omega))
 exact ⟨⟨h2.prog,h.sv.box.keep ht.keep (by simp; exact f3),hs.libs,h.sv.rul,h.sv.ord,h.sv.out,h.sv.old⟩,hs,h2,h.far⟩
end Go.Proofs.YtlailakofhenkabGreatDoor
namespace Go.Proofs.YtlailakofhenkabGreatDoor.Ev
open Go.Lib Tok Sc
def RotW (r:Rul) (s:St) (t:T) (n:Nat) (sc:ByteArray) (m:Nat) (b:Bool):Prop:=lookM r s 1 t n=0→m=0→WOut sc.data.toList (famM s t).scope.data.toList b 0
end Go.Proofs.YtlailakofhenkabGreatDoor.Ev
namespace Go.Proofs.YtlailakofhenkabGreatDoor
open Go Go.RowKit Tok Sc Ev
theorem txt_len (r:Rul) (t:T) (h:Tok.may t):(txtB r t).size≤5000:=by
 have h1:=body_len h;have h2:=tag_len r.key (body t);unfold txtB textOf;rw [bsize,List.length_append,List.length_cons];omega
theorem may_ref {i g:Int} (hi:okN i) (hg:okN g):Tok.may ⟨1,i,g,0⟩:=⟨.inl ⟨rfl,rfl⟩,hi,hg⟩
end Go.Proofs.YtlailakofhenkabGreatDoor
namespace Go.Proofs.YtlailakofhenkabGreatDoor
open Go Go.RowKit Go.Maps Go.WideMaps
section
variable {κ : Type} {L : κ → Lit} {P : Program} {k e : TypeId} {w : World} {b n : Nat} {G : κ → Option Value}
end
end Go.Proofs.YtlailakofhenkabGreatDoor
namespace Go.Proofs.YtlailakofhenkabGreatDoor
open Go Go.RowKit Tok Sc Ev
theorem wpList_append_rowK {P:Program} (w:World) {ops:Array Oper} {rest:List Oper} {o:Oper} {a:Act} {Q:Exit→Act→World→Prop}
 (hg:o.guard=none) (s x:Operand) (t:TypeId) (hop:o.op=Op.call { callee:=Callee.builtin Builtin.append,args:=#[s,x],argTypes:=#[t,t] })
 (e:TypeId) (i:TypeInfo) (z:Value) (bytes:Nat) (h1:P.underlying t=some (.slice e)) (h2:P.info? e=some i) (h3:i.zero=some z) (h4:i.size=1) (h5:i.bytes=bytes) (h6:z.cells.size=1)
 (B g n c:Nat) (cs:List Value) (hs:a.eval s=.slice (some ⟨g,0,none⟩) n c) (hrow:RowAt B w g c n cs)
 (ad:Addr) (c':Nat) (u:Value) (hx:a.eval x=.slice (some ad) 1 c') (hc:w.cell? ad=some u) (h1c:u.oneCell'=true)
 (b1:n+1≤maxLen) (b2:(n+1)*bytes≤140737488355328)
 (hK:∀ g' cc w',RowAt B w' g' cc (n+1) (cs ++ [u])→Keep [g] w w'→(g'=g∨w.heap.size≤g')→wpList P ops Q rest (a.put o.dst (.slice (some ⟨g',0,none⟩) (n+1) cc)) w') :
 wpList P ops Q (o::rest) a w:=by
 have hnews:∀ j v,[u][j]?=some v→w.cell? (ad.add j)=some v:=by
  intro j v hj;match j,hj with
  |0,hj=>simp at hj; subst hj; simpa [Addr.add] using hc
  |j+1,hj=>simp at hj
 refine wpList_append_arg w hg s x t hop e i z 1 bytes h1 h2 h3 h4 h5 h6 (by decide) g 0 n c cs hs (by rw [hrow.len]; simp) (fun j v hj=>by rw [Nat.zero_add]; exact hrow.holds j v hj) ad 1 c' [u] hx (by simp) hnews (by intro v hv; simp at hv; subst hv; exact h1c) (fun hr j hj=>?_) b1 b2 (fun hr=>?_) (fun hgr v' w' hown hgb=>?_)
 ·simp at hj; subst hj
  simpa using hrow.there n (by omega)
 ·have hw:w.setCells g (0+n*1) [u]=w.setCell ⟨g,n,none⟩ u:=by simp [World.setCells]
  rw [hw];have hth:=hrow.there n (by omega)
  obtain ⟨old,hold⟩:=Option.isSome_iff_exists.1 hth.1;refine hK g c _ ⟨hrow.new,by simp [World.setCell]; exact hrow.lt,by simp [hrow.len],by omega,hrow.max,fun j v hj=>?_,fun j hj=>?_⟩ ((Keep.refl _ _).setCell (p:=⟨g,n,none⟩) (.inl (by simp)) _) (.inl rfl)
  ·by_cases hjn:j<n
   ·rw [List.getElem?_append_left (by rw [hrow.len]; exact hjn)] at hj
    have:=hrow.holds j v hj;have hne:j≠n:=by omega
    go_simp
   ·have hj':j=n:=by
     have:=(List.getElem?_eq_some_iff.1 hj).1;simp [hrow.len] at this; omega
    subst hj';rw [List.getElem?_append_right (by rw [hrow.len]; omega),hrow.len] at hj
    simp at hj; subst hj
    go_simp
  ·have h:=hrow.there j hj
   obtain ⟨v,hv⟩:=Option.isSome_iff_exists.1 h.1;refine ⟨?_,?_⟩
   ·by_cases hjn:j=n
    ·subst hjn; go_simp
    ·go_simp
   ·simpa using h.2
 ·rcases hown.2 with ⟨hv,h0⟩ | ⟨g',cc,cur,hv,hge,hh,hle,hmx,hsz,htk⟩
  ·omega
  ·subst hv
   have hB:B≤w.heap.size:=Nat.le_trans hrow.new (Nat.le_of_lt hrow.lt)
   have hlt:g'<w'.heap.size:=by
    rcases Nat.lt_or_ge g' w'.heap.size with h | h
    ·exact h
    ·rw [Array.getElem?_eq_none h] at hh; cases hh
   refine hK g' cc w' ⟨Nat.le_trans hB hge,hlt,by simp [hrow.len],hle,hmx,fun j v hj=>?_,fun j hj=>?_⟩ (Keep.of _ ((Below.refl _ _).grown hgb (Nat.le_refl _) (fun k hk=>by cases hk))) (.inr hge)
   ·have hj2:=hown.cells (g:=g') rfl j v hj
    rw [Addr.add_lit,Nat.zero_add] at hj2; exact hj2
   ·have hjc:j<cur.size:=by omega
    simp [World.cell?,World.frozen?,hh,hjc]
theorem Words.keepOut {l:List Nat} {B:Nat} {w w':World} {v:Value} {xs:List ByteArray} (h:Words B w v xs) (hk:Keep l w w') (hl:∀ x∈l,NotIn v x):Words B w' v xs:=by
 rcases h with h1 | ⟨g,c,rfl,hr⟩
 ·exact .inl h1
 ·exact .inr ⟨g,c,rfl,hr.block hk.size (hk.block g hr.lt (fun hx=>hl g hx g 0 _ c rfl rfl))⟩
theorem Words.on {B:Nat} {w w':World} {v:Value} {xs:List ByteArray} (h:Words B w v xs) (hb:Below w.heap.size w w'):Words B w' v xs:=h.below hb (Nat.le_refl _)
theorem Words.notIn {B:Nat} {w:World} {v:Value} {xs:List ByteArray} (h:Words B w v xs) {b:Nat} (hb:b<B):NotIn v b:=by
 rcases h with ⟨rfl,-⟩ | ⟨g,c,rfl,hr⟩
 ·exact NotIn.nil _ _ _
 ·intro g' o n' c' he
  have:=hr.new;simp only [Value.slice.injEq,Option.some.injEq,Addr.mk.injEq] at he;omega
def Apart (v u:Value):Prop:=∀ g o n c,v=.slice (some ⟨g,o,none⟩) n c→NotIn u g
theorem wpList_append_wordsK {P:Program} (w:World) {ops:Array Oper} {rest:List Oper} {o:Oper} {a:Act} {Q:Exit→Act→World→Prop}
 (hg:o.guard=none) (s x:Operand) (t:TypeId) (hop:o.op=Op.call { callee:=Callee.builtin Builtin.append,args:=#[s,x],argTypes:=#[t,t] })
 (e:TypeId) (i:TypeInfo) (h1:P.underlying t=some (.slice e)) (h2:P.info? e=some i) (h3:i.zero=some (.string ⟨#[]⟩)) (h4:i.size=1) (h5:i.bytes=16)
 (B:Nat) (v:Value) (xs:List ByteArray) (hs:a.eval s=v) (h:Words B w v xs) (hB:B≤w.heap.size)
 (ad:Addr) (c':Nat) (u:ByteArray) (hx:a.eval x=.slice (some ad) 1 c') (hc:w.cell? ad=some (.string u)) (hn:xs.length≤1000000)
 (hK:∀ v' w',Words B w' v' (xs ++ [u])→w.heap.size≤w'.heap.size→(∀ l:List Nat,(∀ g o n c,v=.slice (some ⟨g,o,none⟩) n c→g∈l)→Keep l w w')→(∀ b,b<w.heap.size→NotIn v b→NotIn v' b)→(∀ y,Apart v y→(∀ b,w.heap.size≤b→NotIn y b)→Apart v' y)→wpList P ops Q rest (a.put o.dst v') w') :
 wpList P ops Q (o::rest) a w:=by
 rcases h with ⟨rfl,rfl⟩ | ⟨g,c,rfl,hr⟩
 ·have hsrc:Src P i.size t (.slice (some ad) 1 c') 1 [.string u] w:=by
   rw [h4];refine Src.ofSlice w h1 ad 1 c' [.string u] rfl (fun j y hj=>?_) (by intro y hy; simp at hy; subst hy; rfl)
   match j,hj with
   |0,hj=>simp at hj; subst hj; simpa [Addr.add] using hc
   |j+1,hj=>simp at hj
  have hrun:=run_append_grow_src w t t o.type e i _ h1 h2 h3 none 0 0 [] (run_firstCells_none w.drew i.size 0 0 0) _ 1 [.string u] hsrc (by omega) (by omega) (by rw [h5]; exact growslice_fits (by omega) (by omega))
  refine Lib.wpList_append_run w hg s x t t hop _ _ hs hx _ _ hrun ?_;have hm:=grownCap_le_maxLen w (0+1) 0 e (by unfold maxLen; omega)
  have hm1:=grownCap_ge w (0+1) 0 e;have hbl:Below w.heap.size w (w.drew.alloc (.cells (#[Value.string u] ++ Builtin.zeroCells #[Value.string ⟨#[]⟩] (grownCap w (0+1) 0 e - 1)) e)):=((Below.refl _ w).drew).alloc (Nat.le_refl _) _;refine hK _ _ (.inr ⟨_,_,rfl,rowAt_new (B:=B) (w:=w.drew) hB [.string u] 1 rfl (.string ⟨#[]⟩) _ e hm hm1⟩) hbl.size (fun l _=>Keep.of l hbl) (fun b hb _=>?_) (fun y _ hy=>?_)
  ·intro g o n c he
   simp only [Value.slice.injEq,Option.some.injEq,Addr.mk.injEq] at he
   have:w.drew.heap.size=w.heap.size:=rfl;omega
  ·intro g o n c he
   simp only [Value.slice.injEq,Option.some.injEq,Addr.mk.injEq] at he;exact hy g (by have:w.drew.heap.size=w.heap.size:=rfl; omega)
 ·refine wpList_append_rowK w hg s x t hop e i _ 16 h1 h2 h3 h4 h5 rfl B g xs.length c _ hs hr ad c' (.string u) hx hc rfl (by unfold maxLen; omega) (by omega) (fun g' cc w' hr' hk hg'=>?_)
  have e1:xs.length+1=(xs ++ [u]).length:=by simp
  rw [e1];refine hK _ _ (.inr ⟨g',cc,rfl,?_⟩) hk.size (fun l hl=>hk.mono (fun x hx=>by simp at hx; subst hx; exact hl _ _ _ _ rfl)) (fun b hb hn=>?_) (fun y hy hy2=>?_)
  ·rw [← e1,List.map_append]
   exact hr'
  ·intro g2 o n c he
   simp only [Value.slice.injEq,Option.some.injEq,Addr.mk.injEq] at he;rcases hg' with e | e
   ·have:=hn g 0 _ _ rfl; omega
   ·omega
  ·intro g2 o n c he
   simp only [Value.slice.injEq,Option.some.injEq,Addr.mk.injEq] at he;rcases hg' with e | e
   ·have:=hy g 0 _ _ rfl
    rw [← he.1.1,e]; exact this
   ·exact hy2 g2 (by omega)
section
variable {n c N gh gv gs gd b1 b2 b3 : Nat} {r : Rul} {p : Pub} {v vt : Value} {toks : List ByteArray} {S F : Int → Option Value} {G : List UInt8 → Option Value} {w0 w w' : World}
theorem Words.rowLt {B:Nat} {w:World} {xs:List ByteArray} {g o n c:Nat} (h:Words B w (.slice (some ⟨g,o,none⟩) n c) xs):g<w.heap.size:=by
 rcases h with ⟨h1,-⟩ | ⟨g',c',h1,hr⟩
 ·cases h1
 ·simp only [Value.slice.injEq,Option.some.injEq,Addr.mk.injEq] at h1
  rw [h1.1.1]; exact hr.lt
theorem Words.past {B:Nat} {w:World} {v:Value} {xs:List ByteArray} (h:Words B w v xs) {b:Nat} (hb:w.heap.size≤b):NotIn v b:=by
 intro g o n c e;rw [e] at h;rcases h with ⟨h1,-⟩ | ⟨g',c',h1,hr⟩
 ·cases h1
 ·simp only [Value.slice.injEq,Option.some.injEq,Addr.mk.injEq] at h1
  have:=hr.lt;omega
end
end Go.Proofs.YtlailakofhenkabGreatDoor
namespace Go.Proofs.YtlailakofhenkabGreatDoor
open Go Go.RowKit Tok Sc Ev
end Go.Proofs.YtlailakofhenkabGreatDoor
namespace Go.Proofs.YtlailakofhenkabGreatDoor
open Go Go.RowKit Sc
end Go.Proofs.YtlailakofhenkabGreatDoor
namespace Go.Proofs.YtlailakofhenkabGreatDoor
open Go Go.RowKit Tok Sc Ev
theorem giveM_size {r:Rul} {p:Pub} {f:Fam} (hf:mayF f):(giveM (txtB r) p f).2.1.size≤5000:=by
 have:=txt_len r _ (may_ref hf.1.1 hf.1.2.1);unfold giveM;split
 ·exact Nat.le_trans this (by omega)
 ·show (0:Nat)≤5000; omega
theorem grantM_size {r:Rul} {p:Pub} {cl su sc:ByteArray} {n:Nat} (h:Ev.Good p.st) (hc:nameB cl.data.toList=true) (hs:nameB su.data.toList=true) (hl:n=0→Lst sc.data.toList) (ok:Bool):(grantM (txtB r) p ok cl su sc n).2.1.size≤5000:=by
 unfold grantM;split
 ·show (0:Nat)≤5000; omega
 split
 ·show (0:Nat)≤5000; omega
 rename_i hn
 split
 ·show (0:Nat)≤5000; omega
 rename_i hx
 split
 ·show (0:Nat)≤5000; omega
 rcases may_new h hx hc hs (hl (by simpa using hn)) with ⟨-,h1,-⟩ | ⟨h1,-⟩ | ⟨h1,-⟩
 ·exact giveM_size h1
 ·cases h1
 ·cases h1
theorem rotateM_size {r:Rul} {p:Pub} {ok:Bool} {rq:ByteArray} {t:T} {n:Nat} {sc:ByteArray} {m:Nat} {b:Bool} (h:Ev.Good p.st) (hr:nameB rq.data.toList=true) (hl:m=0→Lst sc.data.toList):(rotateM (txtB r) r p ok rq t n sc m b).2.1.size≤5000:=by
 unfold rotateM;split
 ·show (0:Nat)≤5000; omega
 split
 ·show (0:Nat)≤5000; omega
 rename_i hk
 have hk:lookM r p.st 1 t n=0:=by simpa using hk
 have hf:mayF (famM p.st t):=fam_may h (look_fam (look_ok hk).1).2.2.1;split
 ·unfold turnM
  split
  ·show (0:Nat)≤5000; omega
  rename_i hm
  split
  ·show (0:Nat)≤5000; omega
  split
  ·show (0:Nat)≤5000; omega
  rename_i hg
  rcases may_next hf hg hr (hl (by simpa using hm)) h.clock with ⟨-,h1,-⟩ | ⟨h1,-⟩ | ⟨h1,-⟩
  ·exact giveM_size h1
  ·cases h1
  ·cases h1
 split
 ·exact Nat.le_trans (txt_len r _ (may_ref hf.1.1 hf.1.2.1)) (by omega)
 ·show (0:Nat)≤5000; omega
theorem mintM_size {r:Rul} {p:Pub} {t:T} {n:Nat} (h:Ev.Good p.st) (hr:RulOk r):(mintM (txtB r) r p t n).1.size≤5000:=by
 unfold mintM;split
 ·show (0:Nat)≤5000; omega
 rename_i hk
 have hk:lookM r p.st 1 t n=0:=by simpa using hk
 have hf:mayF (famM p.st t):=fam_may h (look_fam (look_ok hk).1).2.2.1;split
 ·show (0:Nat)≤5000; omega
 ·exact Nat.le_trans (txt_len r _ (may_mint hf h hr)) (by omega)
theorem lst_jn {s:List UInt8} {l:List Word} {m:Nat} (h:Sc.Out s l m) (hm:m=0):Lst (⟨(joined l).toArray⟩:ByteArray).data.toList:=by
 subst hm;exact ⟨l,by simpa using out_joined h,by simp⟩
theorem rot_b {r:Rul} {s:St} (h:Ev.Good s) (t:T) (n:Nat) {x:List UInt8} {l:List Word} {m:Nat} (ho:Sc.Out x l m):∃ b,RotW r s t n ⟨(joined l).toArray⟩ m b:=by
 by_cases hk:lookM r s 1 t n=0
 ·by_cases hm:m=0
  ·subst hm
   have hf:mayF (famM s t):=fam_may h (look_fam (look_ok hk).1).2.2.1;obtain ⟨l2,h2,-⟩:=hf.2.2.2.2;exact ⟨inB l l2,fun _ _=>⟨l,0,l2,0,out_joined ho,h2,.inr (.inr ⟨rfl,rfl,rfl,rfl⟩)⟩⟩
  ·exact ⟨false,fun _ h=>absurd h hm⟩
 ·exact ⟨false,fun h=>absurd h hk⟩
end Go.Proofs.YtlailakofhenkabGreatDoor
namespace Go.Proofs.YtlailakofhenkabGreatDoor
open Go Go.RowKit Tok Sc Ev
theorem Tok.out_some (g:List UInt8→List UInt8) (x:List UInt8):∃ t n,Tok.Out g x t n:=by
 by_cases h:∃ t tag,Form x t tag
 ·obtain ⟨t,tag,hf⟩:=h
  by_cases e:tag=g (body t)
  ·exact ⟨t,0,Out.good t tag hf e⟩
  ·exact ⟨zero,2,Out.name t tag hf e⟩
 ·exact ⟨zero,1,Out.form (fun t tag hf=>h ⟨t,tag,hf⟩)⟩
theorem SvIs.apart {l:List Nat} {N:Nat} {w w':World} {gv gs gd:Nat} {r:Rul} {p:Pub} {v:Value} (h:SvIs N w gv gs gd r p v) (hk:Keep l w w') (hl:∀ x∈l,gd<x∧x≠gs∧x≠gv∧NotIn v x):SvIs N w' gv gs gd r p v:=by
 have h1:=h.sp.ord;have h2:=h.sp.lt;have h3:=h.ord;exact ⟨h.sp.elsewhere hk (fun x hx=>⟨(hl x hx).1,(hl x hx).2.1,(hl x hx).2.2.2⟩),h.box.keep hk (fun hx=>(hl gv hx).2.2.1 rfl),h.libs.belowO (hk.below (B:=gd) (by omega) (fun x hx=>by have:=(hl x hx).1; omega)) h.old,h.rul,h.ord,h.out,h.old⟩
theorem Sv2.apart {l:List Nat} {N:Nat} {w w':World} {gv gs gd gx gr:Nat} {r:Rul} {p q:Pub} {v vr:Value} (h:Sv2 N w gv gs gd gx gr r p q v vr) (hk:Keep l w w') (hl:∀ x∈l,gd<x∧x≠gs∧x≠gv∧x≠gr∧x≠gx∧NotIn v x∧NotIn vr x):Sv2 N w' gv gs gd gx gr r p q v vr:=by
 have hs:=h.sv.apart hk (fun x hx=>⟨(hl x hx).1,(hl x hx).2.1,(hl x hx).2.2.1,(hl x hx).2.2.2.2.2.1⟩);have ht:=h.two.elsewhere hk (fun x hx=>⟨(hl x hx).1,(hl x hx).2.1,(hl x hx).2.2.2.1,(hl x hx).2.2.2.2.2.1,(hl x hx).2.2.2.2.2.2⟩);exact ⟨hs,⟨ht.doc,h.rv.ok,h.rv.box.keep hk (fun hx=>(hl gx hx).2.2.2.2.1 rfl),hs.libs,h.rv.rul,h.rv.ord,h.rv.out,h.rv.old⟩,ht,h.far⟩
theorem Sv2.mono {N M:Nat} {w:World} {gv gs gd gx gr:Nat} {r:Rul} {p q:Pub} {v vr:Value} (h:Sv2 N w gv gs gd gx gr r p q v vr) (hm:N≤M):Sv2 M w gv gs gd gx gr r p q v vr:=
 ⟨h.sv.mono hm,h.rv.mono hm,h.two.mono hm,h.far⟩
theorem Sv2.re {l:List Nat} {N M:Nat} {w w':World} {gv gs gd gx gr:Nat} {r:Rul} {p q p' q':Pub} {v vr:Value} (h:Sv2 N w gv gs gd gx gr r p q v vr) (h2:Two M w' gs gd gr p' q' v vr) (hk:Keep l w w') (hl:∀ x∈l,x=gd∨x=gs∨x=gr):Sv2 M w' gv gs gd gx gr r p' q' v vr:=by
 have h1:=h.sv.sp.ord;have h3:=h.sv.sp.lt;have h4:=h.sv.ord;have h5:=h.rv.ord;obtain ⟨f1,f2,f3⟩:=h.far;have f4:=h.two.far;have hlib:LibsR w':=h.sv.libs.belowO (hk.below (B:=gd) (by omega) (fun x hx=>by rcases hl x hx with rfl | rfl | rfl <;> omega)) h.sv.old
 exact ⟨⟨h2.prog,h.sv.box.keep hk (fun hx=>by rcases hl gv hx with e | e | e <;> omega),hlib,h.sv.rul,h.sv.ord,h.sv.out,h.sv.old⟩,⟨h2.doc,h2.ok,h.rv.box.keep hk (fun hx=>by rcases hl gx hx with e | e | e <;> omega),hlib,h.rv.rul,h.rv.ord,h.rv.out,h.rv.old⟩,h2,h.far⟩
theorem Sv2.left {N:Nat} {w:World} {gv gs gd gx gr:Nat} {r:Rul} {p q:Pub} {v vr:Value} (h:Sv2 N w gv gs gd gx gr r p q v vr) (hc:p.c=false) (l2:Int):Sv2 N w gv gs gd gx gr r ⟨p.st,p.lg,p.n,p.c,l2,p.dn⟩ q v vr:=
 ⟨⟨h.sv.sp.left hc l2,h.sv.box,h.sv.libs,h.sv.rul,h.sv.ord,h.sv.out,h.sv.old⟩,h.rv,h.two.left hc l2,h.far⟩
structure PV (w0:World) (n N gv gs gd gx gr:Nat) (r:Rul) (p q:Pub) (v vr vt:Value) (tks:List ByteArray) (w:World):Prop where
 two:Sv2 N w gv gs gd gx gr r p q v vr
 toks:Words (gd+1) w vt tks
 tn:tks.length≤n
 ts:∀ x∈tks,x.size≤5000
 nt:NotIn vt gv∧NotIn vt gs∧NotIn vt gx∧NotIn vt gr
 ap:Apart vt v
 apr:Apart vt vr
 bel:Below w0.heap.size w0 w
 low:w0.heap.size≤gd
section
variable {n N gv gs gd gx gr : Nat} {r : Rul} {p q : Pub} {v vr vt : Value} {tks : List ByteArray} {w0 w w' : World}
theorem PV.on (h:PV w0 n N gv gs gd gx gr r p q v vr vt tks w) (hb:Below w.heap.size w w'):PV w0 n N gv gs gd gx gr r p q v vr vt tks w':=
 ⟨h.two.on hb,h.toks.on hb,h.tn,h.ts,h.nt,h.ap,h.apr,h.bel.trans (hb.mono h.bel.size),h.low⟩
theorem PV.mono {m M:Nat} (h:PV w0 n N gv gs gd gx gr r p q v vr vt tks w) (hm:n≤m) (hM:N≤M):PV w0 m M gv gs gd gx gr r p q v vr vt tks w:=
 ⟨h.two.mono hM,h.toks,Nat.le_trans h.tn hm,h.ts,h.nt,h.ap,h.apr,h.bel,h.low⟩
theorem PV.td (h:PV w0 n N gv gs gd gx gr r p q v vr vt tks w):NotIn vt gd:=h.toks.notIn (Nat.lt_succ_self gd)
theorem PV.lts (h:PV w0 n N gv gs gd gx gr r p q v vr vt tks w):gd<w.heap.size∧gs<w.heap.size∧gv<w.heap.size∧gr<w.heap.size∧gx<w.heap.size:=by
 have h1:=h.two.sv.sp.ord;have h2:=h.two.sv.sp.lt;exact ⟨by omega,h2,h.two.sv.box.lt,h.two.rv.doc.lt,h.two.rv.box.lt⟩
theorem PV.toR {q':Pub} {vr':Value} (h:PV w0 n N gv gs gd gx gr r p q v vr vt tks w) (ht:RTo N gr vr w w' q' vr'):PV w0 n (N+22) gv gs gd gx gr r p q' v vr' vt tks w':=by
 refine ⟨h.two.toR ht,h.toks.keepOut ht.keep (by simp; exact h.nt.2.2.2),h.tn,h.ts,h.nt,h.ap,fun g o m c e=>?_,h.bel.trans (ht.keep.below h.bel.size (by have h1:=h.low; have h2:=h.two.two.far; simp; omega)),h.low⟩
 have hw:=h.toks;rw [e] at hw;exact ht.notIn (h.apr g o m c e) hw.rowLt
theorem PV.toP {p':Pub} {v':Value} (h:PV w0 n N gv gs gd gx gr r p q v vr vt tks w) (ht:SPto N gs gd v w w' p' v'):PV w0 n (N+22) gv gs gd gx gr r p' q v' vr vt tks w':=by
 refine ⟨h.two.toP ht,h.toks.keepOut ht.keep (by simp; exact ⟨h.td,h.nt.2.1⟩),h.tn,h.ts,h.nt,fun g o m c e=>?_,h.apr,h.bel.trans (ht.keep.below h.bel.size (by have h1:=h.low; have h2:=h.two.sv.sp.ord; simp; omega)),h.low⟩
 have hw:=h.toks;rw [e] at hw;exact ht.notIn (h.ap g o m c e) hw.rowLt
theorem PV.re {l:List Nat} {M:Nat} {p' q':Pub} (h:PV w0 n N gv gs gd gx gr r p q v vr vt tks w) (h2:Two M w' gs gd gr p' q' v vr) (hk:Keep l w w') (hl:∀ x∈l,x=gd∨x=gs∨x=gr):PV w0 n M gv gs gd gx gr r p' q' v vr vt tks w':=by
 have h1:=h.low;have h3:=h.two.sv.sp.ord;have h4:=h.two.two.far;refine ⟨h.two.re h2 hk hl,h.toks.keepOut hk (fun x hx=>?_),h.tn,h.ts,h.nt,h.ap,h.apr,h.bel.trans (hk.below h.bel.size (fun x hx=>by rcases hl x hx with e | e | e <;> omega)),h1⟩
 rcases hl x hx with rfl | rfl | rfl
 ·exact h.td
 ·exact h.nt.2.1
 ·exact h.nt.2.2.2
theorem PV.left (h:PV w0 n N gv gs gd gx gr r p q v vr vt tks w) (hc:p.c=false) (l2:Int):PV w0 n N gv gs gd gx gr r ⟨p.st,p.lg,p.n,p.c,l2,p.dn⟩ q v vr vt tks w:=
 ⟨h.two.left hc l2,h.toks,h.tn,h.ts,h.nt,h.ap,h.apr,h.bel,h.low⟩
theorem PV.anew {g2 gv2:Nat} {p':Pub} {v2:Value} {w1:World} (h:PV w0 n N gv gs gd gx gr r p q v vr vt tks w) (hle:w.heap.size≤g2) (h2:Two N w1 g2 gd gr p' q v2 vr) (hb1:Below w.heap.size w w1) (hle2:w1.heap.size≤gv2) (hs:SvIs N w' gv2 g2 gd r p' v2) (hb2:Below w1.heap.size w1 w'):PV w0 n N gv2 g2 gd gx gr r p' q v2 vr vt tks w':=by
 have hb:=hb1.trans (hb2.mono hb1.size);obtain ⟨l1,l2,l3,l4,l5⟩:=h.lts;have l6:=hb1.size;have hr:=h.two.rv.on hb;refine ⟨⟨hs,hr,h2.on hb2,h.two.far.1,by omega,by omega⟩,h.toks.on hb,h.tn,h.ts,⟨h.toks.past (by omega),h.toks.past hle,h.nt.2.2.1,h.nt.2.2.2⟩,fun g o m c e=>?_,h.apr,h.bel.trans (hb.mono h.bel.size),h.low⟩
 have hw:=h.toks;rw [e] at hw
 have:=hw.rowLt;exact NotIn.above h2.prog.fam (by omega)
theorem PV.kept (h:PV w0 n N gv gs gd gx gr r p q v vr vt tks w) (hk:∀ l:List Nat,(∀ g o n c,vt=.slice (some ⟨g,o,none⟩) n c→g∈l)→Keep l w w'):∃ l:List Nat,(∀ g∈l,gd<g∧g≠gs∧g≠gv∧g≠gr∧g≠gx∧NotIn v g∧NotIn vr g)∧Keep l w w':=by
 obtain ⟨n1,n2,n3,n4⟩:=h.nt;rcases h.toks with ⟨e,-⟩ | ⟨g,c,e,hr⟩
 ·exact ⟨[],by simp,hk [] (fun g o n c h'=>by rw [e] at h'; cases h')⟩
 ·refine ⟨[g],?_,hk [g] (fun g' o n c h'=>?_)⟩
  ·intro g' hg'
   simp only [List.mem_singleton] at hg';subst hg';exact ⟨hr.new,n2 g' 0 _ c e,n1 g' 0 _ c e,n4 g' 0 _ c e,n3 g' 0 _ c e,h.ap g' 0 _ c e,h.apr g' 0 _ c e⟩
  ·rw [e] at h'
   simp only [Value.slice.injEq,Option.some.injEq,Addr.mk.injEq] at h';simp [h'.1.1]
theorem PV.note {vt':Value} {x:ByteArray} (h:PV w0 n N gv gs gd gx gr r p q v vr vt tks w) (hx:x.size≤5000) (ht:Words (gd+1) w' vt' (tks ++ [x])) (hk:∀ l:List Nat,(∀ g o n c,vt=.slice (some ⟨g,o,none⟩) n c→g∈l)→Keep l w w') (hn:∀ b,b<w.heap.size→NotIn vt b→NotIn vt' b) (ha:∀ y,Apart vt y→(∀ b,w.heap.size≤b→NotIn y b)→Apart vt' y) :
 PV w0 (n+1) N gv gs gd gx gr r p q v vr vt' (tks ++ [x]) w':=by
 obtain ⟨l,hl,hkl⟩:=h.kept hk;obtain ⟨l1,l2,l3,l4,l5⟩:=h.lts;obtain ⟨n1,n2,n3,n4⟩:=h.nt;refine ⟨h.two.apart hkl hl,ht,by simp; exact h.tn,?_,⟨hn _ l3 n1,hn _ l2 n2,hn _ l5 n3,hn _ l4 n4⟩,ha v h.ap (fun b hb=>NotIn.past h.two.sv.sp.fam hb),ha vr h.apr (fun b hb=>NotIn.past h.two.rv.doc.fam hb),h.bel.trans (hkl.below h.bel.size (fun x hx=>by have h1:=(hl x hx).1; have h2:=h.low; omega)),h.low⟩
 intro y hy;rcases List.mem_append.1 hy with hy | hy
 ·exact h.ts y hy
 ·simp only [List.mem_singleton] at hy
  subst hy; exact hx
end
theorem grantM_short {r:Rul} {p:Pub} {cl su sc:ByteArray} {n:Nat} (h:Ev.Good p.st) (hl:n=0→Lst sc.data.toList):(grantM (txtB r) p (nameB cl.data.toList && nameB su.data.toList) cl su sc n).2.1.size≤5000:=by
 cases hb:(nameB cl.data.toList && nameB su.data.toList) with
 |true=>
  simp only [Bool.and_eq_true] at hb;exact grantM_size h hb.1 hb.2 hl true
 |false=>
  unfold grantM;rw [if_pos rfl];show noT.size≤5000
  decide
theorem rotateM_short {r:Rul} {p:Pub} {rq:ByteArray} {t:T} {n:Nat} {sc:ByteArray} {m:Nat} {b:Bool} (h:Ev.Good p.st) (hl:m=0→Lst sc.data.toList):(rotateM (txtB r) r p (nameB rq.data.toList) rq t n sc m b).2.1.size≤5000:=by
 cases hb:nameB rq.data.toList with
 |true=>exact rotateM_size h hb hl
 |false=>
  unfold rotateM;rw [if_pos rfl];show noT.size≤5000
  decide
theorem infoStr0:(Tryz.prog.info? 9).map (fun i=>(i.zero,i.size,i.bytes))=some (some (.string ⟨#[]⟩),1,16):=by kernel_rfl
theorem infoStr:∃ i,Tryz.prog.info? 9=some i∧i.zero=some (.string ⟨#[]⟩)∧i.size=1∧i.bytes=16:=by
 have h:=infoStr0
 cases hi:Tryz.prog.info? 9 with
 |none=>rw [hi] at h; cases h
 |some i=>
  rw [hi] at h;simp only [Option.map_some,Option.some.injEq,Prod.mk.injEq] at h;exact ⟨i,rfl,h.1,h.2.1,h.2.2⟩
end Go.Proofs.YtlailakofhenkabGreatDoor
namespace Go.Proofs.YtlailakofhenkabGreatDoor
open Go Go.RowKit Tok Sc Ev
theorem pairGrant (N gv gs gd gx gr:Nat) (r:Rul) (p:Pub) (v vr:Value) (xc xs xo:ByteArray) (hg:Ev.Good p.st) (hc:xc.size≤5000) (hs:xs.size≤5000) (ho:xo.size≤5000) (hN:N<97000):∃ (x:ByteArray) (n:Nat) (q:Pub),x.size≤5000∧
 (∀ W,RvIs N W gx gr r p vr→Calls Tryz.prog 26 #[.pointer (some ⟨gx,0,none⟩),.string xc,.string xs,.string xo] W fun e w'=>e=.returned (.tuple #[.string x,.int .i64 (n:Nat)])∧∃ v',RTo N gr vr W w' q v')∧
 (∀ W,SvIs (N+22) W gv gs gd r p v→Calls Tryz.prog 27 #[.pointer (some ⟨gv,0,none⟩),.string xc,.string xs,.string xo] W fun e w'=>e=.returned (.tuple #[.string x,errQ n])∧∃ v',SPto (N+22) gs gd v W w' q v'):=by
 obtain ⟨l,m,hol⟩:=Sc.out_ex xo.data.toList;exact ⟨_,_,_,grantM_short (r:=r) (cl:=xc) (su:=xs) hg (fun h=>lst_jn hol h),fun W h=>refGrant_is N W gx gr r p vr xc xs xo l m h hc hs ho hol (by omega),fun W h=>grant_is (N+22) W gv gs gd r p v xc xs xo l m h hc hs ho hol (by omega)⟩
theorem pairRotate (N gv gs gd gx gr:Nat) (r:Rul) (p:Pub) (v vr:Value) (xt xs xo:ByteArray) (hg:Ev.Good p.st) (ht:xt.size≤5000) (hs:xs.size≤5000) (ho:xo.size≤5000) (hN:N<97000):∃ (x:ByteArray) (n:Nat) (q:Pub),x.size≤5000∧
 (∀ W,RvIs N W gx gr r p vr→Calls Tryz.prog 28 #[.pointer (some ⟨gx,0,none⟩),.string xt,.string xs,.string xo] W fun e w'=>e=.returned (.tuple #[.string x,.int .i64 (n:Nat)])∧∃ v',RTo N gr vr W w' q v')∧
 (∀ W,SvIs (N+22) W gv gs gd r p v→Calls Tryz.prog 29 #[.pointer (some ⟨gv,0,none⟩),.string xt,.string xs,.string xo] W fun e w'=>e=.returned (.tuple #[.string x,errQ n])∧∃ v',SPto (N+22) gs gd v W w' q v'):=by
 obtain ⟨l,m,hol⟩:=Sc.out_ex xo.data.toList;obtain ⟨t,n,hot⟩:=Tok.out_some (tag r.key) xt.data.toList;obtain ⟨b,hb⟩:=rot_b hg t n hol (r:=r);exact ⟨_,_,_,rotateM_short (r:=r) (rq:=xs) (t:=t) (n:=n) (b:=b) hg (fun h=>lst_jn hol h),fun W h=>refRotate_is N W gx gr r p vr xt xs xo t n l m b h ht hs ho hot hol hb (by omega),fun W h=>rotate_is (N+22) W gv gs gd r p v xt xs xo t n l m b h ht hs ho hot hol hb (by omega)⟩
theorem pairMint (N gv gs gd gx gr:Nat) (r:Rul) (p:Pub) (v vr:Value) (xt:ByteArray) (hg:Ev.Good p.st) (hr:RulOk r) (ht:xt.size≤5000):∃ (x:ByteArray) (n:Nat),x.size≤5000∧
 (∀ W,RvIs N W gx gr r p vr→Calls Tryz.prog 30 #[.pointer (some ⟨gx,0,none⟩),.string xt] W fun e w'=>e=.returned (.tuple #[.string x,.int .i64 (n:Nat)])∧Below W.heap.size W w')∧
 (∀ W,SvIs N W gv gs gd r p v→Calls Tryz.prog 31 #[.pointer (some ⟨gv,0,none⟩),.string xt] W fun e w'=>e=.returned (.tuple #[.string x,errQ n])∧Below W.heap.size W w'):=by
 obtain ⟨t,n,hot⟩:=Tok.out_some (tag r.key) xt.data.toList;exact ⟨_,_,mintM_size (t:=t) (n:=n) hg hr,fun W h=>refMint_is N W gx gr r p vr xt t n h ht hot,fun W h=>mint_is N W gv gs gd r p v xt t n h ht hot⟩
theorem pairShow (N gv gs gd gx gr:Nat) (r:Rul) (p:Pub) (v vr:Value) (xt:ByteArray) (ht:xt.size≤5000):∃ (F:Fam) (n:Nat),
 (∀ W,RvIs N W gx gr r p vr→Calls Tryz.prog 32 #[.pointer (some ⟨gx,0,none⟩),.string xt] W fun e w'=>e=.returned (.tuple #[famV F,.int .i64 (n:Nat)])∧Below W.heap.size W w')∧
 (∀ W,SvIs N W gv gs gd r p v→Calls Tryz.prog 33 #[.pointer (some ⟨gv,0,none⟩),.string xt] W fun e w'=>e=.returned (.tuple #[famV F,errQ n])∧Below W.heap.size W w'):=by
 obtain ⟨t,n,hot⟩:=Tok.out_some (tag r.key) xt.data.toList;exact ⟨_,_,fun W h=>refShow_is N W gx gr r p vr xt t n h ht hot,fun W h=>show_is N W gv gs gd r p v xt t n h ht hot⟩
theorem pairKill (N gv gs gd gx gr:Nat) (r:Rul) (p:Pub) (v vr:Value) (i:Int) (hN:N<97000):∃ (n:Nat) (q:Pub),
 (∀ W,RvIs N W gx gr r p vr→Calls Tryz.prog 34 #[.pointer (some ⟨gx,0,none⟩),.int .i64 i] W fun e w'=>e=.returned (.int .i64 (n:Nat))∧∃ v',RTo N gr vr W w' q v')∧
 (∀ W,SvIs (N+22) W gv gs gd r p v→Calls Tryz.prog 35 #[.pointer (some ⟨gv,0,none⟩),.int .i64 i] W fun e w'=>e=.returned (errQ n)∧∃ v',SPto (N+22) gs gd v W w' q v'):=
 ⟨_,_,fun W h=>refKill_is N W gx gr r p vr i h (by omega),fun W h=>kill_is (N+22) W gv gs gd r p v i h (by omega)⟩
theorem pairTick (N gv gs gd gx gr:Nat) (r:Rul) (p:Pub) (v vr:Value) (i:Int) (hN:N<97000):∃ (n:Nat) (q:Pub),
 (∀ W,RvIs N W gx gr r p vr→Calls Tryz.prog 36 #[.pointer (some ⟨gx,0,none⟩),.int .i64 i] W fun e w'=>e=.returned (.int .i64 (n:Nat))∧∃ v',RTo N gr vr W w' q v')∧
 (∀ W,SvIs (N+22) W gv gs gd r p v→Calls Tryz.prog 37 #[.pointer (some ⟨gv,0,none⟩),.int .i64 i] W fun e w'=>e=.returned (errQ n)∧∃ v',SPto (N+22) gs gd v W w' q v'):=
 ⟨_,_,fun W h=>refTick_is N W gx gr r p vr i h (by omega),fun W h=>tick_is (N+22) W gv gs gd r p v i h (by omega)⟩
theorem pairSweep (N gv gs gd gx gr:Nat) (r:Rul) (p:Pub) (v vr:Value) (hN:N<97000):∃ (i:Int) (n:Nat) (q:Pub),
 (∀ W,RvIs N W gx gr r p vr→Calls Tryz.prog 38 #[.pointer (some ⟨gx,0,none⟩)] W fun e w'=>e=.returned (.tuple #[.int .i64 i,.int .i64 (n:Nat)])∧∃ v',RTo N gr vr W w' q v')∧
 (∀ W,SvIs (N+22) W gv gs gd r p v→Calls Tryz.prog 39 #[.pointer (some ⟨gv,0,none⟩)] W fun e w'=>e=.returned (.tuple #[.int .i64 i,errQ n])∧∃ v',SPto (N+22) gs gd v W w' q v'):=
 ⟨_,_,_,fun W h=>refSweep_is N W gx gr r p vr h (by omega),fun W h=>sweep_is (N+22) W gv gs gd r p v h (by omega)⟩
end Go.Proofs.YtlailakofhenkabGreatDoor
