import Derived.Test.YtlailakofhenkabGreatDoorB39
namespace Go.Proofs.YtlailakofhenkabGreatDoor
open Go Go.RowKit Tok Sc Ev
structure XA (w:World) (g:Nat) (xw xn xt:Int) (xc xs xo:ByteArray):Prop where
 c0:w.cell? ⟨g,0,none⟩=some (.int .i64 xw)
 c1:w.cell? ⟨g,1,none⟩=some (.int .i64 xn)
 c2:w.cell? ⟨g,2,none⟩=some (.int .i64 xt)
 c3:w.cell? ⟨g,3,none⟩=some (.string xc)
 c4:w.cell? ⟨g,4,none⟩=some (.string xs)
 c5:w.cell? ⟨g,5,none⟩=some (.string xo)
 lt:g<w.heap.size
theorem XA.keep {l:List Nat} {w w':World} {g:Nat} {xw xn xt:Int} {xc xs xo:ByteArray} (h:XA w g xw xn xt xc xs xo) (hk:Keep l w w') (hn:g∉l):XA w' g xw xn xt xc xs xo:=by
 have hc:∀ i,w'.cell? ⟨g,i,none⟩=w.cell? ⟨g,i,none⟩:=fun i=>hk.cell (p:=⟨g,i,none⟩) h.lt hn;exact ⟨(hc 0).trans h.c0,(hc 1).trans h.c1,(hc 2).trans h.c2,(hc 3).trans h.c3,(hc 4).trans h.c4,(hc 5).trans h.c5,Nat.lt_of_lt_of_le h.lt hk.size⟩
theorem XA.on {w w':World} {g:Nat} {xw xn xt:Int} {xc xs xo:ByteArray} (h:XA w g xw xn xt xc xs xo) (hb:Below w.heap.size w w'):XA w' g xw xn xt xc xs xo:=h.keep (Keep.of [] hb) (by simp)
theorem XA.made (w:World) (xw xn xt:Int) (xc xs xo:ByteArray) (t:TypeId):XA (w.alloc (.cells #[.int .i64 xw,.int .i64 xn,.int .i64 xt,.string xc,.string xs,.string xo] t)) w.heap.size xw xn xt xc xs xo:=by
 refine ⟨?_,?_,?_,?_,?_,?_,by simp⟩ <;> exact (World.cell?_alloc_at _ _ _ _ rfl).trans rfl
structure Ask6 where
 w:Int
 n:Int
 t:Int
 c:ByteArray
 s:ByteArray
 o:ByteArray
def ask6 (x:Ask6):List Value:= [.int .i64 x.w,.int .i64 x.n,.int .i64 x.t,.string x.c,.string x.s,.string x.o]
def Ask6Row (w:World) (g off:Nat) (ds:List Ask6):Prop:=∀ (i:Nat) (h:i<ds.length) (k:Nat) (x:Value),(ask6 ds[i])[k]?=some x→w.cell? ⟨g,off+i*6+k,none⟩=some x
structure RuB (w:World) (g:Nat) (k i l a:Int):Prop where
 c0:w.cell? ⟨g,0,none⟩=some (.int .i64 k)
 c1:w.cell? ⟨g,1,none⟩=some (.int .i64 i)
 c2:w.cell? ⟨g,2,none⟩=some (.int .i64 l)
 c3:w.cell? ⟨g,3,none⟩=some (.int .i64 a)
 lt:g<w.heap.size
theorem RuB.on {w w':World} {g:Nat} {k i l a:Int} (h:RuB w g k i l a) (hb:Below w.heap.size w w'):RuB w' g k i l a:=
 ⟨(hb.cell (p:=⟨g,0,none⟩) h.lt).trans h.c0,(hb.cell (p:=⟨g,1,none⟩) h.lt).trans h.c1,(hb.cell (p:=⟨g,2,none⟩) h.lt).trans h.c2,(hb.cell (p:=⟨g,3,none⟩) h.lt).trans h.c3,Nat.lt_of_lt_of_le h.lt hb.size⟩
theorem RuB.made (w:World) (k i l a:Int) (t:TypeId):RuB (w.alloc (.cells #[.int .i64 k,.int .i64 i,.int .i64 l,.int .i64 a] t)) w.heap.size k i l a:=by
 refine ⟨?_,?_,?_,?_,by simp⟩ <;> exact (World.cell?_alloc_at _ _ _ _ rfl).trans rfl
theorem bareZ2 (n:Nat) (w:World) (hE:ErrVar w):Calls Tryz.prog 23 #[errQ n,.int .i64 (n:Nat)] w fun e w'=>e=.returned (.bool true)∧Below w.heap.size w w':=bareQ n w hE
theorem begin_pv {WB W3 W4:World} {k i l a:Int} {gs gv gr:Nat} {v:Value} (hsp:SvIs 0 W3 gv gs WB.heap.size ⟨k,i,l,a⟩ emptyP v) (hb3:Below WB.heap.size WB W3) (hr:RefAt W4 gr emptyP (.slice none 0 0)) (hgr:W3.heap.size≤gr) (hb4:Below W3.heap.size W3 W4) (hgv:gv<gr) (ho:OldsR WB.heap.size) :
 PV WB 0 0 gv gs WB.heap.size W4.heap.size gr ⟨k,i,l,a⟩ emptyP emptyP v (.slice none 0 0) (.slice none 0 0) [] (W4.alloc (.cells #[.pointer (some ⟨gr,0,none⟩),.int .i64 k,.int .i64 i,.int .i64 l,.int .i64 a] 65))∧Below W4.heap.size W4 (W4.alloc (.cells #[.pointer (some ⟨gr,0,none⟩),.int .i64 k,.int .i64 i,.int .i64 l,.int .i64 a] 65)):=by
 have hb5:Below W4.heap.size W4 (W4.alloc (.cells #[.pointer (some ⟨gr,0,none⟩),.int .i64 k,.int .i64 i,.int .i64 l,.int .i64 a] 65)):=(Below.refl _ _).alloc (Nat.le_refl _) _
 have hbx:SvAt (W4.alloc (.cells #[.pointer (some ⟨gr,0,none⟩),.int .i64 k,.int .i64 i,.int .i64 l,.int .i64 a] 65)) W4.heap.size gr ⟨k,i,l,a⟩:=by
  refine ⟨?_,?_,?_,?_,?_,by simp⟩ <;> exact (World.cell?_alloc_at _ _ _ _ rfl).trans rfl
 have h4:=hsp.on hb4;have h5:=h4.on hb5;have h6:=hr.on hb5;have l1:=hsp.sp.ord;have l2:=hsp.sp.lt;have l3:=hsp.box.lt;have l4:=hr.lt;have l5:=hb4.size;have l6:=hb3.size;refine ⟨⟨⟨h5,⟨h6,ok_zero,hbx,h5.libs,hsp.rul,l4,NotIn.nil _ _ _,ho.mono (by omega)⟩,⟨h5.sp,ok_zero,h6,by omega,by omega,NotIn.past hsp.sp.fam hgr,NotIn.nil _ _ _⟩,by omega,by omega,by omega⟩,.inl ⟨rfl,rfl⟩,Nat.le_refl _,fun x hx=>(by cases hx),⟨NotIn.nil _ _ _,NotIn.nil _ _ _,NotIn.nil _ _ _,NotIn.nil _ _ _⟩,fun g o m c e=>(by cases e),fun g o m c e=>(by cases e),(hb3.trans (hb4.mono l6)).trans (hb5.mono (Nat.le_trans l6 l5)),Nat.le_refl _⟩,hb5⟩
theorem rem_in (x:Int) (n:Nat) (h0:0≤x) (hn:0<n) (h1:n≤9223372036854775807):∃ m:Nat,m<n∧x.tmod n=m:=by
 have a1:0≤x % n:=Int.emod_nonneg _ (by omega)
 have a2:x % n<n:=Int.emod_lt_of_pos _ (by omega)
 refine ⟨(x % n).toNat,by omega,?_⟩
 rw [Int.tmod_eq_emod_of_nonneg h0];omega
theorem PV.fresh {n N gv gs gd gx gr:Nat} {r:Rul} {p q:Pub} {v vr vt:Value} {tks:List ByteArray} {w0 w:World} (h:PV w0 n N gv gs gd gx gr r p q v vr vt tks w) (x:Nat) (hx:w.heap.size≤x):gd<x∧x≠gs∧x≠gv∧x≠gr∧x≠gx∧NotIn v x∧NotIn vr x∧NotIn vt x:=by
 obtain ⟨l1,l2,l3,l4,l5⟩:=h.lts;exact ⟨by omega,by omega,by omega,by omega,by omega,NotIn.past h.two.sv.sp.fam hx,NotIn.past h.two.rv.doc.fam hx,h.toks.past hx⟩
theorem PV.apart {l:List Nat} {n N gv gs gd gx gr:Nat} {r:Rul} {p q:Pub} {v vr vt:Value} {tks:List ByteArray} {w0 w w':World} (h:PV w0 n N gv gs gd gx gr r p q v vr vt tks w) (hk:Keep l w w') (hl:∀ x∈l,gd<x∧x≠gs∧x≠gv∧x≠gr∧x≠gx∧NotIn v x∧NotIn vr x∧NotIn vt x):PV w0 n N gv gs gd gx gr r p q v vr vt tks w':=
 ⟨h.two.apart hk (fun x hx=>⟨(hl x hx).1,(hl x hx).2.1,(hl x hx).2.2.1,(hl x hx).2.2.2.1,(hl x hx).2.2.2.2.1,(hl x hx).2.2.2.2.2.1,(hl x hx).2.2.2.2.2.2.1⟩),h.toks.keepOut hk (fun x hx=>(hl x hx).2.2.2.2.2.2.2),h.tn,h.ts,h.nt,h.ap,h.apr,h.bel.trans (hk.below h.bel.size (fun x hx=>by have h1:=(hl x hx).1; have h2:=h.low; omega)),h.low⟩
structure FB0 (w:World) (g:Nat):Prop where
 c:∀ i:Nat,i<9→∃ v,w.cell? ⟨g,i,none⟩=some v
 z:∀ i:Nat,w.frozen? ⟨g,i,none⟩=false
 lt:g<w.heap.size
theorem FB0.on {w w':World} {g:Nat} (h:FB0 w g) (hb:Below w.heap.size w w'):FB0 w' g:=
 ⟨fun i hi=>by obtain ⟨v,hv⟩:=h.c i hi; exact ⟨v,(hb.cell (p:=⟨g,i,none⟩) h.lt).trans hv⟩,fun i=>(hb.frozen (p:=⟨g,i,none⟩) h.lt).trans (h.z i),Nat.lt_of_lt_of_le h.lt hb.size⟩
theorem FB0.made (w:World) (t:TypeId):FB0 (w.alloc (.cells #[.int .i64 0,.string ⟨#[]⟩,.string ⟨#[]⟩,.string ⟨#[]⟩,.int .i64 0,.int .i64 0,.int .i64 0,.string ⟨#[]⟩,.bool false] t)) w.heap.size:=by
 refine ⟨fun i hi=>?_,fun i=>World.frozen?_alloc_at _ _ _ _ rfl,by simp⟩
 have hc:∀ j:Nat,(w.alloc (.cells #[.int .i64 0,.string ⟨#[]⟩,.string ⟨#[]⟩,.string ⟨#[]⟩,.int .i64 0,.int .i64 0,.int .i64 0,.string ⟨#[]⟩,.bool false] t)).cell? ⟨w.heap.size,j,none⟩=(#[.int .i64 0,.string ⟨#[]⟩,.string ⟨#[]⟩,.string ⟨#[]⟩,.int .i64 0,.int .i64 0,.int .i64 0,.string ⟨#[]⟩,.bool false]:Array Value)[j]?:=fun j=>World.cell?_alloc_at _ _ _ _ rfl;match i,hi with
 |0,_=>exact ⟨_,(hc 0).trans rfl⟩
 |1,_=>exact ⟨_,(hc 1).trans rfl⟩
 |2,_=>exact ⟨_,(hc 2).trans rfl⟩
 |3,_=>exact ⟨_,(hc 3).trans rfl⟩
 |4,_=>exact ⟨_,(hc 4).trans rfl⟩
 |5,_=>exact ⟨_,(hc 5).trans rfl⟩
 |6,_=>exact ⟨_,(hc 6).trans rfl⟩
 |7,_=>exact ⟨_,(hc 7).trans rfl⟩
 |8,_=>exact ⟨_,(hc 8).trans rfl⟩
theorem FB0.all {w:World} {g:Nat} (h:FB0 w g):(∃ v,w.cell? ⟨g,0,none⟩=some v)∧(∃ v,w.cell? ⟨g,1,none⟩=some v)∧(∃ v,w.cell? ⟨g,2,none⟩=some v)∧(∃ v,w.cell? ⟨g,3,none⟩=some v)∧(∃ v,w.cell? ⟨g,4,none⟩=some v)∧(∃ v,w.cell? ⟨g,5,none⟩=some v)∧(∃ v,w.cell? ⟨g,6,none⟩=some v)∧(∃ v,w.cell? ⟨g,7,none⟩=some v)∧(∃ v,w.cell? ⟨g,8,none⟩=some v):=
 ⟨h.c 0 (by omega),h.c 1 (by omega),h.c 2 (by omega),h.c 3 (by omega),h.c 4 (by omega),h.c 5 (by omega),h.c 6 (by omega),h.c 7 (by omega),h.c 8 (by omega)⟩
theorem FB0.keep {l:List Nat} {w w':World} {g:Nat} (h:FB0 w g) (hk:Keep l w w') (hn:g∉l):FB0 w' g:=
 ⟨fun i hi=>by obtain ⟨v,hv⟩:=h.c i hi; exact ⟨v,(hk.cell (p:=⟨g,i,none⟩) h.lt hn).trans hv⟩,fun i=>(hk.frozen (p:=⟨g,i,none⟩) h.lt hn).trans (h.z i),Nat.lt_of_lt_of_le h.lt hk.size⟩
structure FBx (w:World) (g:Nat) (f1:Int) (f2 f3 f4:ByteArray) (f5 f6 f7:Int) (f8:ByteArray) (f9:Bool):Prop where
 c0:w.cell? ⟨g,0,none⟩=some (.int .i64 f1)
 c1:w.cell? ⟨g,1,none⟩=some (.string f2)
 c2:w.cell? ⟨g,2,none⟩=some (.string f3)
 c3:w.cell? ⟨g,3,none⟩=some (.string f4)
 c4:w.cell? ⟨g,4,none⟩=some (.int .i64 f5)
 c5:w.cell? ⟨g,5,none⟩=some (.int .i64 f6)
 c6:w.cell? ⟨g,6,none⟩=some (.int .i64 f7)
 c7:w.cell? ⟨g,7,none⟩=some (.string f8)
 c8:w.cell? ⟨g,8,none⟩=some (.bool f9)
 lt:g<w.heap.size
theorem FBx.keep {l:List Nat} {w w':World} {g:Nat} {f1:Int} {f2 f3 f4:ByteArray} {f5 f6 f7:Int} {f8:ByteArray} {f9:Bool} (h:FBx w g f1 f2 f3 f4 f5 f6 f7 f8 f9) (hk:Keep l w w') (hn:g∉l):FBx w' g f1 f2 f3 f4 f5 f6 f7 f8 f9:=by
 have hc:∀ i,w'.cell? ⟨g,i,none⟩=w.cell? ⟨g,i,none⟩:=fun i=>hk.cell (p:=⟨g,i,none⟩) h.lt hn;exact ⟨(hc 0).trans h.c0,(hc 1).trans h.c1,(hc 2).trans h.c2,(hc 3).trans h.c3,(hc 4).trans h.c4,(hc 5).trans h.c5,(hc 6).trans h.c6,(hc 7).trans h.c7,(hc 8).trans h.c8,Nat.lt_of_lt_of_le h.lt hk.size⟩
theorem FBx.on {w w':World} {g:Nat} {f1:Int} {f2 f3 f4:ByteArray} {f5 f6 f7:Int} {f8:ByteArray} {f9:Bool} (h:FBx w g f1 f2 f3 f4 f5 f6 f7 f8 f9) (hb:Below w.heap.size w w'):FBx w' g f1 f2 f3 f4 f5 f6 f7 f8 f9:=h.keep (Keep.of [] hb) (by simp)
theorem setF_facts (w:World) (g:Nat) (f1:Int) (f2 f3 f4:ByteArray) (f5 f6 f7:Int) (f8:ByteArray) (f9:Bool) (h:FB0 w g):FBx (((((((((w.setCell ⟨g,0,none⟩ (.int .i64 f1)).setCell ⟨g,1,none⟩ (.string f2)).setCell ⟨g,2,none⟩ (.string f3)).setCell ⟨g,3,none⟩ (.string f4)).setCell ⟨g,4,none⟩ (.int .i64 f5)).setCell ⟨g,5,none⟩ (.int .i64 f6)).setCell ⟨g,6,none⟩ (.int .i64 f7)).setCell ⟨g,7,none⟩ (.string f8)).setCell ⟨g,8,none⟩ (.bool f9)) g f1 f2 f3 f4 f5 f6 f7 f8 f9∧Keep [g] w (((((((((w.setCell ⟨g,0,none⟩ (.int .i64 f1)).setCell ⟨g,1,none⟩ (.string f2)).setCell ⟨g,2,none⟩ (.string f3)).setCell ⟨g,3,none⟩ (.string f4)).setCell ⟨g,4,none⟩ (.int .i64 f5)).setCell ⟨g,5,none⟩ (.int .i64 f6)).setCell ⟨g,6,none⟩ (.int .i64 f7)).setCell ⟨g,7,none⟩ (.string f8)).setCell ⟨g,8,none⟩ (.bool f9)):=by
 have hk:Keep [g] w (((((((((w.setCell ⟨g,0,none⟩ (.int .i64 f1)).setCell ⟨g,1,none⟩ (.string f2)).setCell ⟨g,2,none⟩ (.string f3)).setCell ⟨g,3,none⟩ (.string f4)).setCell ⟨g,4,none⟩ (.int .i64 f5)).setCell ⟨g,5,none⟩ (.int .i64 f6)).setCell ⟨g,6,none⟩ (.int .i64 f7)).setCell ⟨g,7,none⟩ (.string f8)).setCell ⟨g,8,none⟩ (.bool f9)):=((((((((((Keep.refl [g] w).setCell (p:=⟨g,0,none⟩) (.inl (by simp)) (.int .i64 f1)).setCell (p:=⟨g,1,none⟩) (.inl (by simp)) (.string f2)).setCell (p:=⟨g,2,none⟩) (.inl (by simp)) (.string f3)).setCell (p:=⟨g,3,none⟩) (.inl (by simp)) (.string f4)).setCell (p:=⟨g,4,none⟩) (.inl (by simp)) (.int .i64 f5)).setCell (p:=⟨g,5,none⟩) (.inl (by simp)) (.int .i64 f6)).setCell (p:=⟨g,6,none⟩) (.inl (by simp)) (.int .i64 f7)).setCell (p:=⟨g,7,none⟩) (.inl (by simp)) (.string f8)).setCell (p:=⟨g,8,none⟩) (.inl (by simp)) (.bool f9))
 obtain ⟨⟨d0,c0⟩,⟨d1,c1⟩,⟨d2,c2⟩,⟨d3,c3⟩,⟨d4,c4⟩,⟨d5,c5⟩,⟨d6,c6⟩,⟨d7,c7⟩,⟨d8,c8⟩⟩:=h.all;refine ⟨⟨?_,?_,?_,?_,?_,?_,?_,?_,?_,Nat.lt_of_lt_of_le h.lt hk.size⟩,hk⟩ <;> go_simp
theorem fb0_first (w:World) (t:TypeId):FB0 ((w.alloc (.cells #[.int .i64 0,.string ⟨#[]⟩,.string ⟨#[]⟩,.string ⟨#[]⟩,.int .i64 0,.int .i64 0,.int .i64 0,.string ⟨#[]⟩,.bool false] t)).alloc (.cells #[.int .i64 0,.string ⟨#[]⟩,.string ⟨#[]⟩,.string ⟨#[]⟩,.int .i64 0,.int .i64 0,.int .i64 0,.string ⟨#[]⟩,.bool false] t)) w.heap.size:=
 (FB0.made w t).on ((Below.refl _ _).alloc (Nat.le_refl _) _)
theorem fb0_second (w:World) (t:TypeId):FB0 ((w.alloc (.cells #[.int .i64 0,.string ⟨#[]⟩,.string ⟨#[]⟩,.string ⟨#[]⟩,.int .i64 0,.int .i64 0,.int .i64 0,.string ⟨#[]⟩,.bool false] t)).alloc (.cells #[.int .i64 0,.string ⟨#[]⟩,.string ⟨#[]⟩,.string ⟨#[]⟩,.int .i64 0,.int .i64 0,.int .i64 0,.string ⟨#[]⟩,.bool false] t)) (w.heap.size+1):=by
 have h:=FB0.made (w.alloc (.cells #[.int .i64 0,.string ⟨#[]⟩,.string ⟨#[]⟩,.string ⟨#[]⟩,.int .i64 0,.int .i64 0,.int .i64 0,.string ⟨#[]⟩,.bool false] t)) t;rw [World.size_alloc] at h;exact h
end Go.Proofs.YtlailakofhenkabGreatDoor
