import Derived.Test.YtlailakofhenkabGreatDoorB7
set_option maxRecDepth 100000
set_option maxHeartbeats 8000000
namespace Go.Proofs.YtlailakofhenkabGreatDoor
open Go Go.RowKit Tok Sc Ev Tryz
theorem re(f:Fam)(b:Bool)(hb:b=true↔bP f)(hs:Small 5000 f)(w:World)(hL:aU w):Calls prog 184 #[ap f] w fun e w'=>e=.returned (.bool b)∧Below w.heap.size w w':=by
 obtain⟨f1,f2,f3,f4,f5,f6,f7,f8,f9⟩:=f;unfold Small at hs;unfold bP at hb;simp only at hs hb;obtain⟨s2,s3,s4,s8⟩:=hs
 have p:J (Below w.heap.size w ((w.alloc (.cells (F_ f1 f2 f3 f4 f5 f6 f7 f8 f9) 40)).alloc (.cells (Q_ f1 f5 f6 f7) 3))):=by
  show Below _ _ _
  repeat (first | exact Below.refl _ _ | refine Below.alloc ?_ (by simp; try omega) _)
 have o:J (b=true↔(okN f1∧okN f5∧okN f6∧okN f7)∧am f2.data.toList=true∧am f3.data.toList=true∧(f8.data.toList= []∨am f8.data.toList=true)∧Lst f4.data.toList):=hb;have B:J (aU ((w.alloc (.cells (F_ f1 f2 f3 f4 f5 f6 f7 f8 f9) 40)).alloc (.cells (Q_ f1 f5 f6 f7) 3))):=hL.below p.o;clear hb hL
 have k:Calls prog 185 #[.slice (o_ (w.heap.size+1) 0) 4 4] ((w.alloc (.cells (F_ f1 f2 f3 f4 f5 f6 f7 f8 f9) 40)).alloc (.cells (Q_ f1 f5 f6 f7) 3)) fun e w'=>e=.returned (.bool ([f1,f5,f6,f7].all okB))∧∃q,w'=((w.alloc (.cells (F_ f1 f2 f3 f4 f5 f6 f7 f8 f9) 40)).alloc (.cells (Q_ f1 f5 f6 f7) 3)).drewN q:=
  oa [f1,f5,f6,f7] (w.heap.size+1) 4 ((w.alloc (.cells (F_ f1 f2 f3 f4 f5 f6 f7 f8 f9) 40)).alloc (.cells (Q_ f1 f5 f6 f7) 3)) (by simp) (fun j hj=>by
   match j,hj with
   |0,_=>exact (World.cell?_alloc_at _ _ _ _ (by simp)).trans rfl
   |1,_=>exact (World.cell?_alloc_at _ _ _ _ (by simp)).trans rfl
   |2,_=>exact (World.cell?_alloc_at _ _ _ _ (by simp)).trans rfl
   |3,_=>exact (World.cell?_alloc_at _ _ _ _ (by simp)).trans rfl)
 have m1:((w.alloc (.cells (F_ f1 f2 f3 f4 f5 f6 f7 f8 f9) 40)).alloc (.cells (Q_ f1 f5 f6 f7) 3)).cell? (a_ w.heap.size 1)=some (.string f2):=Lib.cell?_alloc_some _ ((World.cell?_alloc_at _ _ _ _ (by simp)).trans rfl)
 have m2:((w.alloc (.cells (F_ f1 f2 f3 f4 f5 f6 f7 f8 f9) 40)).alloc (.cells (Q_ f1 f5 f6 f7) 3)).cell? (a_ w.heap.size 2)=some (.string f3):=Lib.cell?_alloc_some _ ((World.cell?_alloc_at _ _ _ _ (by simp)).trans rfl)
 have m3:((w.alloc (.cells (F_ f1 f2 f3 f4 f5 f6 f7 f8 f9) 40)).alloc (.cells (Q_ f1 f5 f6 f7) 3)).cell? (a_ w.heap.size 3)=some (.string f4):=Lib.cell?_alloc_some _ ((World.cell?_alloc_at _ _ _ _ (by simp)).trans rfl)
 have m7:((w.alloc (.cells (F_ f1 f2 f3 f4 f5 f6 f7 f8 f9) 40)).alloc (.cells (Q_ f1 f5 f6 f7) 3)).cell? (a_ w.heap.size 7)=some (.string f8):=Lib.cell?_alloc_some _ ((World.cell?_alloc_at _ _ _ _ (by simp)).trans rfl)
 unfold ap ac;simp only
 cases hbb: [f1,f5,f6,f7].all okB with
 |false=>
  have r:J (b=false):=bG o.o (fun h=>by
   obtain⟨⟨h1,h5,h6,h7⟩,_⟩:=h;simp[dt h1,dt h5,dt h6,dt h7] at hbb)
  rw[hbb] at k;clear hbb o;go_enter func184,ntmps184
  go_wp2_with fail;refine k.mono ?_;rintro e w' ⟨rfl,q,rfl⟩;have c:J (Below w.heap.size w (((w.alloc (.cells (F_ f1 f2 f3 f4 f5 f6 f7 f8 f9) 40)).alloc (.cells (Q_ f1 f5 f6 f7) 3)).drewN q)):=below_drewN' p.o q;generalize ((w.alloc _).alloc _)=W at *;go_wp2_with fail;go_ret;exact⟨by rw[r.o]; rfl,c.o⟩
 |true=>
  have n:J (okN f1∧okN f5∧okN f6∧okN f7):=by show _∧_; simpa[cU] using hbb
  rw[hbb] at k;clear hbb;go_enter func184,ntmps184
  go_wp2_with fail;refine k.mono ?_;rintro e w' ⟨rfl,q,rfl⟩;have c:J (Below w.heap.size w (((w.alloc (.cells (F_ f1 f2 f3 f4 f5 f6 f7 f8 f9) 40)).alloc (.cells (Q_ f1 f5 f6 f7) 3)).drewN q)):=below_drewN' p.o q;have A:J (aU (((w.alloc (.cells (F_ f1 f2 f3 f4 f5 f6 f7 f8 f9) 40)).alloc (.cells (Q_ f1 f5 f6 f7) 3)).drewN q)):=B.o.below (below_drewN' (E9 _ _) q);clear k B;generalize ((w.alloc _).alloc _)=W at *
  cases h2:am f2.data.toList with
  |false=>
   have r:J (b=false):=bG o.o (fun h=>by have:=h.2.1; rw[h2] at this; cases this)
   have g:J (am f2.data.toList=false):=h2;clear h2 o n;go_wp2_with fail;refine (da f2 _ (by omega)).mono ?_;rintro e w' ⟨rfl,rfl⟩;rw[g.o];go_wp2_with fail;go_ret;exact⟨by rw[r.o]; rfl,c.o⟩
  |true=>
   have g:J (am f2.data.toList=true):=h2
   cases h3:am f3.data.toList with
   |false=>
    have r:J (b=false):=bG o.o (fun h=>by have:=h.2.2.1; rw[h3] at this; cases this)
    have m:J (am f3.data.toList=false):=h3;clear h2 h3 o n;go_wp2_with fail;refine (da f2 _ (by omega)).mono ?_;rintro e w' ⟨rfl,rfl⟩;rw[g.o];go_wp2_with fail;refine (da f3 _ (by omega)).mono ?_;rintro e w' ⟨rfl,rfl⟩;rw[m.o];go_wp2_with fail;go_ret;exact⟨by rw[r.o]; rfl,c.o⟩
   |true=>
    have m:J (am f3.data.toList=true):=h3
    have z:J (b=true↔(f8.data.toList= []∨am f8.data.toList=true)∧Lst f4.data.toList):=by
     show b=true↔_
     rw[o.o,h2,h3]
     have:=n.o;simp[this]
    clear o n h2 h3;by_cases h8:f8.data.toList= []
    ·have C:f8.toList.isEmpty=true:=by rw[ByteArray.toList_eq,h8]; rfl
     have s:J (b=true↔Lst f4.data.toList):=by
      show b=true↔_
      rw[z.o];simp[h8]
     clear z h8;go_wp2_with fail;refine (da f2 _ (by omega)).mono ?_;rintro e w' ⟨rfl,rfl⟩;rw[g.o];go_wp2_with fail;refine (da f3 _ (by omega)).mono ?_;rintro e w' ⟨rfl,rfl⟩;rw[m.o];go_wp2_with fail;refine (mq f4 b s.o _ s4 A.o).mono ?_;rintro e w' ⟨rfl,hbe⟩;have t:J (Below w.heap.size w w'):=c.o.trans (hbe.mono c.o.size);clear hbe;go_wp2_with fail;go_ret;exact⟨rfl,t.o⟩
    ·have C:f8.toList.isEmpty=false:=by rw[ByteArray.toList_eq,List.isEmpty_eq_false_iff]; exact h8
     cases hn8:am f8.data.toList with
     |true=>
      have v:J (am f8.data.toList=true):=hn8
      have s:J (b=true↔Lst f4.data.toList):=by
       show b=true↔_
       rw[z.o];simp[hn8]
      clear z h8 hn8;go_wp2_with fail;refine (da f2 _ (by omega)).mono ?_;rintro e w' ⟨rfl,rfl⟩;rw[g.o];go_wp2_with fail;refine (da f3 _ (by omega)).mono ?_;rintro e w' ⟨rfl,rfl⟩;rw[m.o];go_wp2_with fail;refine (da f8 _ (by omega)).mono ?_;rintro e w' ⟨rfl,rfl⟩;rw[v.o];go_wp2_with fail;refine (mq f4 b s.o _ s4 A.o).mono ?_;rintro e w' ⟨rfl,hbe⟩;have t:J (Below w.heap.size w w'):=c.o.trans (hbe.mono c.o.size);clear hbe;go_wp2_with fail;go_ret;exact⟨rfl,t.o⟩
     |false=>
      have v:J (am f8.data.toList=false):=hn8
      have r:J (b=false):=bG z.o (fun h=>by
       rcases h.1 with h | h
       ·exact h8 h
       ·rw[hn8] at h; cases h)
      clear z h8 hn8;go_wp2_with fail;refine (da f2 _ (by omega)).mono ?_;rintro e w' ⟨rfl,rfl⟩;rw[g.o];go_wp2_with fail;refine (da f3 _ (by omega)).mono ?_;rintro e w' ⟨rfl,rfl⟩;rw[m.o];go_wp2_with fail;refine (da f8 _ (by omega)).mono ?_;rintro e w' ⟨rfl,rfl⟩;rw[v.o];go_wp2_with fail;go_ret;exact⟨by rw[r.o]; rfl,c.o⟩
theorem vC(i:Int)(w:World)(n:Nat)(ho:w.heap.size=n):Calls prog 185 #[.slice (o_ n 0) 1 1] (w.alloc (.cells #[.int .i64 i] 3)) fun e w'=>e=.returned (.bool (okB i))∧∃q,w'=(w.alloc (.cells #[.int .i64 i] 3)).drewN q:=by
 have h:=oa [i] n 1 (w.alloc (.cells #[.i_ i] 3)) (by simp) (fun j hj=>by
  match j,hj with
  |0,_=>exact (World.cell?_alloc_at _ _ _ _ (by simp[ho])).trans rfl)
 simpa using h
theorem Bu(f:Fam)(i t:Int)(b:Bool)(hb:b=true↔Ev.may ⟨1,f,i,t⟩)(hs:Small 5000 f)(w:World)(hL:aU w):Calls prog 113 #[evV ⟨1,f,i,t⟩] w fun e w'=>e=.returned (.bool b)∧Below w.heap.size w w':=by
 rw[CL] at hb;by_cases hi:i=0
 ·by_cases ht:t=0
  ·subst hi; subst ht
   have c:b=true↔bP f:=by rw[hb]; simp
   have g:∀W,aU W->Calls prog 184 #[ap f] W fun e w'=>e=.returned (.bool b)∧Below W.heap.size W w':=fun W h=>re f b c hs W h;obtain⟨f1,f2,f3,f4,f5,f6,f7,f8,f9⟩:=f;unfold ap ac at g;simp only at g;have n:J (aU (w.alloc (.cells (E_ 1 f1 f2 f3 f4 f5 f6 f7 f8 f9 0 0) 42))):=hL.below (bA _ _);have j:J _:=bA w (.cells (E_ 1 f1 f2 f3 f4 f5 f6 f7 f8 f9 0 0) 42);clear hb c hs hL;unfold evV aX;simp only;go_enter func113,ntmps113
   go_wp2_with fail
   refine (g _ n.o).mono ?_;rintro e w' ⟨rfl,hbe⟩;have k:J (Below w.heap.size w w'):=j.o.tm hbe;clear hbe;go_wp2_with fail
   go_ret;exact⟨rfl,k.o⟩
  ·have m:J (b=false):=bG hb (fun h=>ht h.2.2)
   have o:(t == 0)=false:=by rw[beq_eq_false_iff_ne]; exact ht
   subst hi;obtain⟨f1,f2,f3,f4,f5,f6,f7,f8,f9⟩:=f;clear hb hs hL;unfold evV aX;simp only;go_enter func113,ntmps113
   go_wp2_with fail
   go_ret;refine⟨by rw[m.o]; rfl,?_⟩
   repeat (first | exact Below.refl _ _ | refine Below.alloc ?_ (by simp) _)
 ·have m:J (b=false):=bG hb (fun h=>hi h.2.1)
  have p:(i == 0)=false:=by rw[beq_eq_false_iff_ne]; exact hi
  obtain⟨f1,f2,f3,f4,f5,f6,f7,f8,f9⟩:=f;clear hb hs hL;unfold evV aX;simp only;go_enter func113,ntmps113
  go_wp2_with fail
  go_ret;refine⟨by rw[m.o]; rfl,?_⟩
  repeat (first | exact Below.refl _ _ | refine Below.alloc ?_ (by simp) _)
theorem Bv(f:Fam)(i t:Int)(b:Bool)(hb:b=true↔Ev.may ⟨2,f,i,t⟩)(w:World):Calls prog 113 #[evV ⟨2,f,i,t⟩] w fun e w'=>e=.returned (.bool b)∧Below w.heap.size w w':=by
 rw[CJ] at hb;by_cases hz:f=zeroF∧t=0
 ·obtain⟨rfl,rfl⟩:=hz
  have c:J (b=okB i):=by
   show b=okB i
   rw[Bool.eq_iff_iff,cU,hb];simp
  clear hb;have g:=fun (W:World) n ho=>vC i W n ho;unfold evV aX zeroF;simp only;go_enter func113,ntmps113
  go_wp2_with fail;refine (g _ _ (by simp)).mono ?_;rintro e w' ⟨rfl,q,rfl⟩;go_wp2_with fail;go_ret;refine⟨by rw[c.o]; rfl,below_drewN' ?_ q⟩
  repeat (first | exact Below.refl _ _ | refine Below.alloc ?_ (by simp) _)
 ·have c:J _:=bG hb (fun h=>hz ⟨h.1,h.2.2⟩)
  have j:J _:=hz;clear hb hz;obtain⟨f1,f2,f3,f4,f5,f6,f7,f8,f9⟩:=f;unfold evV aX;simp only;go_enter func113,ntmps113
  go_wp2_with fail
  all_goals first
   |(exfalso; refine j.o ?_; unfold zeroF; simp_all [gD]; done)
   |(go_ret; refine⟨by rw[c.o]; rfl,?_⟩; repeat (first | exact Below.refl _ _ | refine Below.alloc ?_ (by simp) _))
theorem Bw(f:Fam)(i t:Int)(b:Bool)(hb:b=true↔Ev.may ⟨3,f,i,t⟩)(w:World):Calls prog 113 #[evV ⟨3,f,i,t⟩] w fun e w'=>e=.returned (.bool b)∧Below w.heap.size w w':=by
 rw[CK] at hb;by_cases hz:f=zeroF∧i=0
 ·obtain⟨rfl,rfl⟩:=hz
  have c:J (b=okB t):=by
   show b=okB t
   rw[Bool.eq_iff_iff,cU,hb];simp
  clear hb;have g:=fun (W:World) n ho=>vC t W n ho;unfold evV aX zeroF;simp only;go_enter func113,ntmps113
  go_wp2_with fail;refine (g _ _ (by simp)).mono ?_;rintro e w' ⟨rfl,q,rfl⟩;go_wp2_with fail;go_ret;refine⟨by rw[c.o]; rfl,below_drewN' ?_ q⟩
  repeat (first | exact Below.refl _ _ | refine Below.alloc ?_ (by simp) _)
 ·have c:J _:=bG hb (fun h=>hz ⟨h.1,h.2.1⟩)
  have j:J _:=hz;clear hb hz;obtain⟨f1,f2,f3,f4,f5,f6,f7,f8,f9⟩:=f;unfold evV aX;simp only;go_enter func113,ntmps113
  go_wp2_with fail
  all_goals first
   |(exfalso; refine j.o ?_; unfold zeroF; simp_all [gD]; done)
   |(go_ret; refine⟨by rw[c.o]; rfl,?_⟩; repeat (first | exact Below.refl _ _ | refine Below.alloc ?_ (by simp) _))
theorem zo(k:Int)(f:Fam)(i t:Int)(b:Bool)(hb:b=true↔Ev.may ⟨k,f,i,t⟩)(h1:k≠1)(h2:k≠2)(h3:k≠3)(w:World):Calls prog 113 #[evV ⟨k,f,i,t⟩] w fun e w'=>e=.returned (.bool b)∧Below w.heap.size w w':=by
 have c:J _:=bG hb (zl h1 h2 h3);clear hb;obtain⟨f1,f2,f3,f4,f5,f6,f7,f8,f9⟩:=f;unfold evV aX;simp only;go_enter func113,ntmps113
 go_wp2_with fail;go_ret;refine⟨by rw[c.o]; rfl,?_⟩
 repeat (first | exact Below.refl _ _ | refine Below.alloc ?_ (by simp) _)
theorem oc(e:E)(b:Bool)(hb:b=true↔Ev.may e)(hs:Small 5000 e.fam)(w:World)(hL:aU w):Calls prog 113 #[evV e] w fun e w'=>e=.returned (.bool b)∧Below w.heap.size w w':=by
 obtain⟨k,f,i,t⟩:=e;by_cases h1:k=1
 ·subst h1; exact Bu f i t b hb hs w hL
 by_cases h2:k=2
 ·subst h2; exact Bv f i t b hb w
 by_cases h3:k=3
 ·subst h3; exact Bw f i t b hb w
 exact zo k f i t b hb h1 h2 h3 w
abbrev bs8(l:List UInt8):ByteArray:=⟨l.toArray⟩
theorem oe(s:ByteArray)(w:World):Calls prog 187 #[.string s] w fun e w'=>e=.returned (.string (bs8 (wordL s.data.toList)))∧w'=w:=by
 by_cases h:s.data.toList= []
 ·have c:s.toList.isEmpty=true:=by rw[ByteArray.toList_eq,h]; rfl
  have b:J (wordL s.data.toList= [95]):=by show _=_; rw[h]; rfl
  clear h;go_enter func187,ntmps187
  go_wp2_with fail
  go_ret;exact⟨by rw[b.o]; rfl,rfl⟩
 ·have c:s.toList.isEmpty=false:=by rw[ByteArray.toList_eq,List.isEmpty_eq_false_iff]; exact h
  have b:J (wordL s.data.toList=s.data.toList):=if_neg h;clear h;go_enter func187,ntmps187
  go_wp2_with fail
  go_ret;exact⟨by rw[b.o]; rfl,rfl⟩
theorem rf(d:Bool)(w:World):Calls prog 188 #[.bool d] w fun e w'=>e=.returned (.string (bs8 (nT d)))∧w'=w:=by
 cases d
 ·go_enter func188,ntmps188
  go_wp2_with fail;go_ret;exact⟨rfl,rfl⟩
 ·go_enter func188,ntmps188
  go_wp2_with fail;go_ret;exact⟨rfl,rfl⟩
def aO(w:World)(g:Nat)(xs:List ByteArray):Prop:=g<w.heap.size∧∀(j:Nat) x,xs[j]?=some x->w.cell? ⟨g,0+j,none⟩=some (.string x)
theorem bH(w:World)(xs:List ByteArray)(t:TypeId):aO (w.alloc (.cells (xs.map Value.string).toArray t)) w.heap.size xs:=by
 refine⟨by simp,fun j x hj=>?_⟩
 rw[World.cell?_alloc_at _ _ _ _ rfl];simp[hj]
theorem By(f:Fam)(w:World)(h:bP f)(hL:bv w):Calls prog 115 #[evV ⟨1,f,0,0⟩] w fun e w'=>∃g,e=.returned (.slice (some ⟨g,0,none⟩) 10 10)∧aO w' g ((hU f).map bs8)∧Below w.heap.size w w':=by
 obtain⟨⟨h1,h5,h6,h7⟩,_⟩:=h;have k:=fun (W:World) (hW:bv W)=>bQ f.id W h1.1 (by have:=h1.2; omega) hW
 have m:=fun (W:World) (hW:bv W)=>bQ f.gen W h5.1 (by have:=h5.2; omega) hW
 have n:=fun (W:World) (hW:bv W)=>bQ f.made W h6.1 (by have:=h6.2; omega) hW
 have o:=fun (W:World) (hW:bv W)=>bQ f.used W h7.1 (by have:=h7.2; omega) hW
 clear h1 h5 h6 h7;obtain⟨f1,f2,f3,f4,f5,f6,f7,f8,f9⟩:=f;simp only at k m n o
 have c:J (Below w.heap.size w ((w.alloc (.cells #[.int .i64 1,.int .i64 f1,.string f2,.string f3,.string f4,.int .i64 f5,.int .i64 f6,.int .i64 f7,.string f8,.bool f9,.int .i64 0,.int .i64 0] 42)).alloc (.cells #[.int .i64 f1,.string f2,.string f3,.string f4,.int .i64 f5,.int .i64 f6,.int .i64 f7,.string f8,.bool f9] 40))):=by
  show Below _ _ _
  repeat (first | exact Below.refl _ _ | refine Below.alloc ?_ (by simp; try omega) _)
 unfold evV aX;simp only;go_enter func115,ntmps115
 have j:WS w (w.heap.size+1) ⟨f1,f2,f3,f4,f5,f6,f7,f8,f9⟩ ((w.alloc (.cells #[.int .i64 1,.int .i64 f1,.string f2,.string f3,.string f4,.int .i64 f5,.int .i64 f6,.int .i64 f7,.string f8,.bool f9,.int .i64 0,.int .i64 0] 42)).alloc (.cells #[.int .i64 f1,.string f2,.string f3,.string f4,.int .i64 f5,.int .i64 f6,.int .i64 f7,.string f8,.bool f9] 40)):=
  ⟨hL.below c.o,eU _ ⟨f1,f2,f3,f4,f5,f6,f7,f8,f9⟩ _ _ (by simp),by simp,c.o⟩
 go_wp2_with fail
 generalize hg:w.heap.size+1=g at *;generalize ((w.alloc _).alloc _)=W at *
 go_region_held3 (fun w'=>(w'.cell? (a_ g 0)=some (.int .i64 f1)∧w'.cell? (a_ g 1)=some (.string f2)∧w'.cell? (a_ g 2)=some (.string f3)∧w'.cell? (a_ g 3)=some (.string f4)∧w'.cell? (a_ g 4)=some (.int .i64 f5)∧w'.cell? (a_ g 5)=some (.int .i64 f6)∧w'.cell? (a_ g 6)=some (.int .i64 f7)∧w'.cell? (a_ g 7)=some (.string f8)∧w'.cell? (a_ g 8)=some (.bool f9)∧WS w g ⟨f1,f2,f3,f4,f5,f6,f7,f8,f9⟩ w')) (first | exact vy j | exact ly (by assumption) (by assumption) | exact ly (by assumption) ((E9 _ _).alloc (Fa _) _))
  (first
   |(go_at_call_of 57 (Value.int IntKind.i64 f1); refine (k _ (iM (by assumption))).mono ?_; rintro e w' ⟨rfl,b⟩)
   |(go_at_call_of 57 (Value.int IntKind.i64 f5); refine (m _ (iM (by assumption))).mono ?_; rintro e w' ⟨rfl,b⟩)
   |(go_at_call_of 57 (Value.int IntKind.i64 f6); refine (n _ (iM (by assumption))).mono ?_; rintro e w' ⟨rfl,b⟩)
   |(go_at_call_of 57 (Value.int IntKind.i64 f7); refine (o _ (iM (by assumption))).mono ?_; rintro e w' ⟨rfl,b⟩)
   |(go_at_call_of 187 (Value.string f4); refine (oe f4 _).mono ?_; rintro e w' ⟨rfl,rfl⟩; have b:=E9 w'.heap.size w')
   |(go_at_call_of 187 (Value.string f8); refine (oe f8 _).mono ?_; rintro e w' ⟨rfl,rfl⟩; have b:=E9 w'.heap.size w')
   |(go_at_call_of 188 (Value.bool f9); refine (rf f9 _).mono ?_; rintro e w' ⟨rfl,rfl⟩; have b:=E9 w'.heap.size w'))
 rename_i hS
 have p:J (Below w.heap.size w _):=hS.2.2.2.2.2.2.2.2.2.below;clear hS;go_wp2_with fail
 go_ret;exact⟨_,rfl,bH _ ((hU ⟨f1,f2,f3,f4,f5,f6,f7,f8,f9⟩).map bs8) _,p.o⟩
theorem Bz(i:Int)(w:World)(h:okN i)(hL:bv w):Calls prog 115 #[evV ⟨2,zeroF,i,0⟩] w fun e w'=>∃g,e=.returned (.slice (some ⟨g,0,none⟩) 2 2)∧aO w' g (([[100],Lib.itoa i]:List Word).map bs8)∧Below w.heap.size w w':=by
 have c:=fun (W:World) (hW:bv W)=>bQ i W h.1 (by have:=h.2; omega) hW
 have f:J (bv w):=hL;clear hL;unfold evV aX zeroF;simp only;go_enter func115,ntmps115
 go_wp2_with fail
 have b:Below w.heap.size w ((w.alloc (.cells (g_ 2 i 0) 42)).alloc (.cells f_ 40)):=by
  repeat (first | exact Below.refl _ _ | refine Below.alloc ?_ (by simp; try omega) _)
 refine (c _ (f.o.below b)).mono ?_;rintro e w' ⟨rfl,hb⟩;have j:J (Below w.heap.size w (w'.alloc (.cells #[.string ⟨#[100]⟩,.string ⟨(Lib.itoa i).toArray⟩] 9))):=(b.trans (hb.mono b.size)).alloc (b.trans (hb.mono b.size)).size _;clear b hb;go_wp2_with fail
 go_ret;exact⟨_,rfl,bH w' (([[100],Lib.itoa i]:List Word).map bs8) _,j.o⟩
theorem BA(i:Int)(w:World)(h:okN i)(hL:bv w):Calls prog 115 #[evV ⟨3,zeroF,0,i⟩] w fun e w'=>∃g,e=.returned (.slice (some ⟨g,0,none⟩) 2 2)∧aO w' g (([[99],Lib.itoa i]:List Word).map bs8)∧Below w.heap.size w w':=by
 have c:=fun (W:World) (hW:bv W)=>bQ i W h.1 (by have:=h.2; omega) hW
 have f:J (bv w):=hL;clear hL;unfold evV aX zeroF;simp only;go_enter func115,ntmps115
 go_wp2_with fail
 have b:Below w.heap.size w ((w.alloc (.cells (g_ 3 0 i) 42)).alloc (.cells f_ 40)):=by
  repeat (first | exact Below.refl _ _ | refine Below.alloc ?_ (by simp; try omega) _)
 refine (c _ (f.o.below b)).mono ?_;rintro e w' ⟨rfl,hb⟩;have j:J (Below w.heap.size w (w'.alloc (.cells #[.string ⟨#[99]⟩,.string ⟨(Lib.itoa i).toArray⟩] 9))):=(b.trans (hb.mono b.size)).alloc (b.trans (hb.mono b.size)).size _;clear b hb;go_wp2_with fail
 go_ret;exact⟨_,rfl,bH w' (([[99],Lib.itoa i]:List Word).map bs8) _,j.o⟩
theorem wU(e:E)(w:World)(h:Ev.may e)(hL:bv w):Calls prog 115 #[evV e] w fun r w'=>∃g,r=.returned (.slice (some ⟨g,0,none⟩) (aQ e).length (aQ e).length)∧aO w' g ((aQ e).map bs8)∧Below w.heap.size w w':=by
 obtain⟨k,f,i,t⟩:=e;rcases h with ⟨hk,hf,hi,ht⟩ | ⟨hk,hf,hi,ht⟩ | ⟨hk,hf,hi,ht⟩ <;> simp only at hk hf hi ht <;> subst hk
 ·subst hi; subst ht
  exact By f w hf hL
 ·subst hf; subst ht
  exact Bz i w hi hL
 ·subst hf; subst hi
  exact BA t w ht hL
theorem pu(l:List Word):(l.map bs8).map (·.data.toList)=l:=by
 rw[List.map_map];exact List.map_id' l
theorem zp(e:E)(g:Nat)(w:World)(h:Ev.may e)(hw:aO w g ((aQ e).map bs8)):Calls prog 114 #[.slice (o_ g 0) (aQ e).length (aQ e).length,.string ⟨#[32]⟩] w fun r w'=>r=.returned (.string (bs8 (line e)))∧Below w.heap.size w w':=by
 have b:=line_len h;have hn:(aQ e).length<=10:=by obtain⟨x,l,h1,h2⟩:=je e; rw[h1]; simp; omega
 have c:=strings_Join g 0 (aQ e).length ((aQ e).map bs8) ⟨#[32]⟩ w hw.2 hw.1 (by rw[List.length_map]; omega) (by rw[List.length_map]; exact Nat.le_refl _) (by rw[pu]; unfold line at b; exact Fe b (by omega))
 rw[List.length_map,pu] at c;exact c
theorem ji(e:E)(w:World)(h:Ev.may e)(hs:Small 5000 e.fam)(hL:bv w):Calls prog 55 #[evV e] w fun r w'=>r=.returned (.tuple #[.string (bs8 (line e)),.nilIface])∧Below w.heap.size w w':=by
 have z:=fun (W:World) (hW:aU W)=>oc e true (by simp[h]) hs W hW
 have A:=fun (W:World) (hW:bv W)=>wU e W h hW;have D:=fun (g:Nat) (W:World) (hW:aO W g ((aQ e).map bs8))=>zp e g W h hW;have B:Hid _:=hL;have F:Hid (line e=line e):=rfl;clear h hs hL;generalize hln:line e=LN at *;generalize hwl:(aQ e).length=n at *;generalize (aQ e).map bs8=ws at *;clear hln hwl F;obtain⟨k,⟨f1,f2,f3,f4,f5,f6,f7,f8,f9⟩,i,t⟩:=e;unfold evV aX at *;simp only at z A ⊢;have b:Hid _:=bA w (.cells (E_ k f1 f2 f3 f4 f5 f6 f7 f8 f9 i t) 42);have C:∀(w':World),Below (w.heap.size+1) (w.alloc (.cells (E_ k f1 f2 f3 f4 f5 f6 f7 f8 f9 i t) 42)) w'->∀j,w'.cell? (a_ w.heap.size j)=(w.alloc (.cells (E_ k f1 f2 f3 f4 f5 f6 f7 f8 f9 i t) 42)).c_ w.heap.size j:=fun w' hb j=>hb.cell (p:=(a_ w.heap.size j)) (Fj _);have c:(w.alloc (.cells (E_ k f1 f2 f3 f4 f5 f6 f7 f8 f9 i t) 42)).heap.size=w.heap.size+1:=by simp
 go_enter func55,ntmps55
 go_wp2_with fail;refine (z _ (B.o.below b.o).len).mono ?_;rintro e1 w1 ⟨rfl,hb1⟩;have f:Hid _:=b.o.tm hb1;rw[c] at hb1;have q:=C w1 hb1;clear C hb1 c;have G:w1.c_ w.heap.size 0=some (.i_ k):=(q 0).trans ((Fb _ _ _ _ rfl).trans rfl);have H:w1.c_ w.heap.size 1=some (.i_ f1):=(q 1).trans ((Fb _ _ _ _ rfl).trans rfl);have I:w1.c_ w.heap.size 2=some (.string f2):=(q 2).trans ((Fb _ _ _ _ rfl).trans rfl);have J:w1.c_ w.heap.size 3=some (.string f3):=(q 3).trans ((Fb _ _ _ _ rfl).trans rfl);have L:w1.c_ w.heap.size 4=some (.string f4):=(q 4).trans ((Fb _ _ _ _ rfl).trans rfl);have M:w1.c_ w.heap.size 5=some (.i_ f5):=(q 5).trans ((Fb _ _ _ _ rfl).trans rfl);have N:w1.c_ w.heap.size 6=some (.i_ f6):=(q 6).trans ((Fb _ _ _ _ rfl).trans rfl)
 have O:w1.c_ w.heap.size 7=some (.i_ f7):=(q 7).trans ((Fb _ _ _ _ rfl).trans rfl);have R:w1.c_ w.heap.size 8=some (.string f8):=(q 8).trans ((Fb _ _ _ _ rfl).trans rfl);have T:w1.c_ w.heap.size 9=some (.bool f9):=(q 9).trans ((Fb _ _ _ _ rfl).trans rfl);have m:w1.c_ w.heap.size 10=some (.i_ i):=(q 10).trans ((Fb _ _ _ _ rfl).trans rfl);have o:w1.c_ w.heap.size 11=some (.i_ t):=(q 11).trans ((Fb _ _ _ _ rfl).trans rfl);clear q;go_wp2_with fail;refine (A _ (B.o.below f.o)).mono ?_;rintro e2 w2 ⟨g,rfl,hg,hb2⟩;have s:Hid _:=f.o.tm hb2;have U:Hid _:=hg;clear hb2 hg G H I J L M N O R T m o;go_wp2_with fail;refine (D g _ U.o).mono ?_;rintro e3 w3 ⟨rfl,hb3⟩;have v:Hid _:=s.o.tm hb3;clear hb3;go_wp2_with fail;go_ret2;exact⟨rfl,v.o⟩
theorem og(e:E)(w:World)(h:¬ Ev.may e)(hs:Small 5000 e.fam)(hL:aU w):Calls prog 55 #[evV e] w fun r w'=>r=.returned (.tuple #[.string ⟨#[]⟩,.iface 47 (.int .i64 1)])∧Below w.heap.size w w':=by
 have f:=fun (W:World) (hW:aU W)=>oc e false (by simp[h]) hs W hW
 have g:J (aU w):=hL;clear h hs hL;obtain⟨k,⟨f1,f2,f3,f4,f5,f6,f7,f8,f9⟩,i,t⟩:=e;unfold evV aX at *;simp only at f ⊢;have b:J (Below w.heap.size w (w.alloc (.cells (E_ k f1 f2 f3 f4 f5 f6 f7 f8 f9 i t) 42))):=(E9 _ _).alloc (Fa _) _;go_enter func55,ntmps55
 go_wp2_with fail
 refine (f _ (g.o.below b.o)).mono ?_;rintro e1 w1 ⟨rfl,hb1⟩;have c:J (Below w.heap.size w w1):=b.o.trans (hb1.mono b.o.size);clear hb1;go_wp2_with fail
 go_ret2;exact⟨rfl,c.o⟩
def mr(s:ByteArray)(v:Int):Prop:=∀m,okN m->s.data.toList=Lib.itoa m->v=m
def jj(s t:ByteArray):Prop:=t.size<=s.size∧∀x:List UInt8,(95:UInt8)∉x->s.data.toList=wordL x->t.data.toList=x
theorem dD(s:ByteArray)(w:World)(hs:s.size<=10000)(hL:aY w):Calls prog 193 #[.string s] w fun e w'=>∃v,e=.returned (.int .i64 v)∧Below w.heap.size w w'∧mr s v:=by
 have b:J _:=hL;clear hL;go_enter func193,ntmps193
 go_wp2_with fail;refine (wL s _ hs b.o).mono ?_;rintro e w' ⟨v,err,rfl,hb,hv⟩;have c:J _:=hb;have f:J _:=hv;clear hb hv;go_wp2_with fail;go_ret;exact⟨v,rfl,c.o,f.o⟩
theorem wV{s:ByteArray}(h:s≠⟨#[95]⟩):jj s s:=by
 refine⟨Fa _,fun x hx hs=>?_⟩;unfold wordL at hs;split at hs
 ·exact absurd (aK hs) h
 ·exact hs
theorem tU:jj ⟨#[95]⟩ ⟨#[]⟩:=by
 refine⟨by simp[ByteArray.size],fun x hx hs=>?_⟩
 unfold wordL at hs;split at hs
 ·rename_i h; exact h.symm
 ·exfalso; rw[<- hs] at hx; simp at hx
theorem iN(s:ByteArray)(w:World)(hs:s.size<=10000):Calls prog 194 #[.string s] w fun e w'=>∃t,e=.returned (.string t)∧Below w.heap.size w w'∧jj s t:=by
 by_cases h:s=⟨#[95]⟩
 ·subst h
  go_enter func194,ntmps194
  go_wp2_with fail;go_ret;exact⟨_,rfl,E9 _ _,tU⟩
 ·have b:(s.toList == [95])=false:=by
   rw[beq_eq_false_iff_ne,ByteArray.toList_eq];intro he;exact h (aK he)
  have c:J _:=wV h;clear h;go_enter func194,ntmps194
  go_wp2_with fail;refine (qW s _ hs).mono ?_;rintro e w' ⟨rfl,hb⟩;have f:J _:=hb;clear hb;go_wp2_with fail;go_ret;exact⟨s,rfl,f.o,c.o⟩
def au(w:World)(b i:Nat):Value:=(w.cell? ⟨b,i,none⟩).getD undef
variable {b g:Nat}{w w' w0:World}
theorem bm{i:Nat}(h:(w.cell? ⟨b,i,none⟩).isSome=true):w.cell? ⟨b,i,none⟩=some (au w b i):=by
 unfold au
 cases hc:w.cell? (a_ b i) with
 |none=>rw[hc] at h; cases h
 |some v=>rfl
structure OS (w0:World) (b g:Nat) (ws:List ByteArray) (w':World):Prop where
 libs:aY w'
 words:aO w' g ws
 lt:b<w'.heap.size
 new:w0.heap.size<=b
 ne:b≠g
 there:∀i,i<12->(w'.cell? ⟨b,i,none⟩).isSome=true
 free:∀i,w'.frozen? ⟨b,i,none⟩=false
 below:Below w0.heap.size w0 w'
 old:4<w0.heap.size∧5<w0.heap.size∧3<w0.heap.size∧2<w0.heap.size
variable {ws:List ByteArray}
theorem OS.on(h:OS w0 b g ws w)(hb:Below w.heap.size w w'):OS w0 b g ws w' where
 libs:=h.libs.below hb
 words:=⟨Fd h.words.1 hb.size,fun j x hj=>(hb.cell (p:=(a_ g (0+j))) h.words.1).trans (h.words.2 j x hj)⟩
 lt:=Fd h.lt hb.size
 new:=h.new
 ne:=h.ne
 there:=fun i hi=>by rw[hb.cell (p:=(a_ b i)) h.lt]; exact h.there i hi
 free:=fun i=>(hb.frozen (p:=(a_ b i)) h.lt).trans (h.free i)
 below:=h.below.tm hb
 old:=h.old
theorem OS.set(h:OS w0 b g ws w)(i:Nat)(v:Value):OS w0 b g ws (w.setCell ⟨b,i,none⟩ v) where
 libs:=by
  have c:Below w0.heap.size w (w.setCell (a_ b i) v):=(E9 _ _).setCell (p:=(a_ b i)) h.new v;have f:=h.old;refine⟨⟨?_,ic h.libs.base.pow c yX f.2.2.1,?_⟩,?_,?_⟩
  ·simpa using h.libs.base.big
  ·obtain⟨m,hm⟩:=h.libs.base.len
   exact⟨m,(c.cell (p:=(a_ 2 0)) f.2.2.2).trans hm⟩
  ·obtain⟨m,hm,k⟩:=h.libs.syn
   exact⟨m,(c.cell (p:=(a_ 4 0)) f.1).trans hm,k⟩
  ·obtain⟨m,hm,k⟩:=h.libs.rng
   exact⟨m,(c.cell (p:=(a_ 5 0)) f.2.1).trans hm,k⟩
 words:=⟨by simpa using h.words.1,fun j x hj=>(World.cell?_setCell_other _ _ _ _ (by intro e; exact h.ne (congrArg Addr.block e))).trans (h.words.2 j x hj)⟩
 lt:=by simpa using h.lt
 new:=h.new
 ne:=h.ne
 there:=fun j hj=>by
  by_cases hij:j=i
  ·subst hij
   obtain⟨u,hu⟩:=Option.isSome_iff_exists.1 (h.there j hj);rw[World.cell?_setCell_same _ _ _ hu];rfl
  ·rw[World.cell?_setCell_other _ _ _ _ (by intro e; exact hij (congrArg Addr.off e).symm)]
   exact h.there j hj
 free:=fun j=>by rw[World.frozen?_setCell]; exact h.free j
 below:=h.below.setCell (p:=(a_ b i)) h.new v
 old:=h.old
variable {x0 x1 x2 x3 x4 x5 x6 x7 x8 x9:ByteArray}
theorem lz(h:OS w0 b g [x0,x1,x2,x3,x4,x5,x6,x7,x8,x9] w):(w.cell? ⟨g,0,none⟩=some (.string x0)∧w.cell? ⟨g,1,none⟩=some (.string x1)∧w.cell? ⟨g,2,none⟩=some (.string x2)∧w.cell? ⟨g,3,none⟩=some (.string x3)∧w.cell? ⟨g,4,none⟩=some (.string x4)∧w.cell? ⟨g,5,none⟩=some (.string x5)∧w.cell? ⟨g,6,none⟩=some (.string x6)∧w.cell? ⟨g,7,none⟩=some (.string x7)∧w.cell? ⟨g,8,none⟩=some (.string x8)∧w.cell? ⟨g,9,none⟩=some (.string x9)∧w.cell? ⟨b,0,none⟩=some (au w b 0)∧w.cell? ⟨b,1,none⟩=some (au w b 1)∧w.cell? ⟨b,2,none⟩=some (au w b 2)∧w.cell? ⟨b,3,none⟩=some (au w b 3)∧w.cell? ⟨b,4,none⟩=some (au w b 4)∧w.cell? ⟨b,5,none⟩=some (au w b 5)∧w.cell? ⟨b,6,none⟩=some (au w b 6)∧w.cell? ⟨b,7,none⟩=some (au w b 7)∧w.cell? ⟨b,8,none⟩=some (au w b 8)∧w.cell? ⟨b,9,none⟩=some (au w b 9)∧w.cell? ⟨b,10,none⟩=some (au w b 10)∧w.cell? ⟨b,11,none⟩=some (au w b 11)∧(∀i,w.frozen? ⟨b,i,none⟩=false)∧OS w0 b g [x0,x1,x2,x3,x4,x5,x6,x7,x8,x9] w):=by
 have c:∀j x,([x0,x1,x2,x3,x4,x5,x6,x7,x8,x9]:List ByteArray)[j]?=some x->w.c_ g j=some (.string x):=fun j x hj=>by have:=h.words.2 j x hj; rwa [Fl] at this
 exact⟨c 0 x0 rfl,c 1 x1 rfl,c 2 x2 rfl,c 3 x3 rfl,c 4 x4 rfl,c 5 x5 rfl,c 6 x6 rfl,c 7 x7 rfl,c 8 x8 rfl,c 9 x9 rfl,bm (h.there 0 (by omega)),bm (h.there 1 (by omega)),bm (h.there 2 (by omega)),bm (h.there 3 (by omega)),bm (h.there 4 (by omega)),bm (h.there 5 (by omega)),bm (h.there 6 (by omega)),bm (h.there 7 (by omega)),bm (h.there 8 (by omega)),bm (h.there 9 (by omega)),bm (h.there 10 (by omega)),bm (h.there 11 (by omega)),h.free,h⟩
theorem pw(h:(w.cell? ⟨g,0,none⟩=some (.string x0)∧w.cell? ⟨g,1,none⟩=some (.string x1)∧w.cell? ⟨g,2,none⟩=some (.string x2)∧w.cell? ⟨g,3,none⟩=some (.string x3)∧w.cell? ⟨g,4,none⟩=some (.string x4)∧w.cell? ⟨g,5,none⟩=some (.string x5)∧w.cell? ⟨g,6,none⟩=some (.string x6)∧w.cell? ⟨g,7,none⟩=some (.string x7)∧w.cell? ⟨g,8,none⟩=some (.string x8)∧w.cell? ⟨g,9,none⟩=some (.string x9)∧w.cell? ⟨b,0,none⟩=some (au w b 0)∧w.cell? ⟨b,1,none⟩=some (au w b 1)∧w.cell? ⟨b,2,none⟩=some (au w b 2)∧w.cell? ⟨b,3,none⟩=some (au w b 3)∧w.cell? ⟨b,4,none⟩=some (au w b 4)∧w.cell? ⟨b,5,none⟩=some (au w b 5)∧w.cell? ⟨b,6,none⟩=some (au w b 6)∧w.cell? ⟨b,7,none⟩=some (au w b 7)∧w.cell? ⟨b,8,none⟩=some (au w b 8)∧w.cell? ⟨b,9,none⟩=some (au w b 9)∧w.cell? ⟨b,10,none⟩=some (au w b 10)∧w.cell? ⟨b,11,none⟩=some (au w b 11)∧(∀i,w.frozen? ⟨b,i,none⟩=false)∧OS w0 b g [x0,x1,x2,x3,x4,x5,x6,x7,x8,x9] w)):OS w0 b g [x0,x1,x2,x3,x4,x5,x6,x7,x8,x9] w:=h.2.2.2.2.2.2.2.2.2.2.2.2.2.2.2.2.2.2.2.2.2.2.2
theorem rg(h:(w.cell? ⟨g,0,none⟩=some (.string x0)∧w.cell? ⟨g,1,none⟩=some (.string x1)∧w.cell? ⟨g,2,none⟩=some (.string x2)∧w.cell? ⟨g,3,none⟩=some (.string x3)∧w.cell? ⟨g,4,none⟩=some (.string x4)∧w.cell? ⟨g,5,none⟩=some (.string x5)∧w.cell? ⟨g,6,none⟩=some (.string x6)∧w.cell? ⟨g,7,none⟩=some (.string x7)∧w.cell? ⟨g,8,none⟩=some (.string x8)∧w.cell? ⟨g,9,none⟩=some (.string x9)∧w.cell? ⟨b,0,none⟩=some (au w b 0)∧w.cell? ⟨b,1,none⟩=some (au w b 1)∧w.cell? ⟨b,2,none⟩=some (au w b 2)∧w.cell? ⟨b,3,none⟩=some (au w b 3)∧w.cell? ⟨b,4,none⟩=some (au w b 4)∧w.cell? ⟨b,5,none⟩=some (au w b 5)∧w.cell? ⟨b,6,none⟩=some (au w b 6)∧w.cell? ⟨b,7,none⟩=some (au w b 7)∧w.cell? ⟨b,8,none⟩=some (au w b 8)∧w.cell? ⟨b,9,none⟩=some (au w b 9)∧w.cell? ⟨b,10,none⟩=some (au w b 10)∧w.cell? ⟨b,11,none⟩=some (au w b 11)∧(∀i,w.frozen? ⟨b,i,none⟩=false)∧OS w0 b g [x0,x1,x2,x3,x4,x5,x6,x7,x8,x9] w))(hb:Below w.heap.size w w'):(w'.cell? ⟨g,0,none⟩=some (.string x0)∧w'.cell? ⟨g,1,none⟩=some (.string x1)∧w'.cell? ⟨g,2,none⟩=some (.string x2)∧w'.cell? ⟨g,3,none⟩=some (.string x3)∧w'.cell? ⟨g,4,none⟩=some (.string x4)∧w'.cell? ⟨g,5,none⟩=some (.string x5)∧w'.cell? ⟨g,6,none⟩=some (.string x6)∧w'.cell? ⟨g,7,none⟩=some (.string x7)∧w'.cell? ⟨g,8,none⟩=some (.string x8)∧w'.cell? ⟨g,9,none⟩=some (.string x9)∧w'.cell? ⟨b,0,none⟩=some (au w' b 0)∧w'.cell? ⟨b,1,none⟩=some (au w' b 1)∧w'.cell? ⟨b,2,none⟩=some (au w' b 2)∧w'.cell? ⟨b,3,none⟩=some (au w' b 3)∧w'.cell? ⟨b,4,none⟩=some (au w' b 4)∧w'.cell? ⟨b,5,none⟩=some (au w' b 5)∧w'.cell? ⟨b,6,none⟩=some (au w' b 6)∧w'.cell? ⟨b,7,none⟩=some (au w' b 7)∧w'.cell? ⟨b,8,none⟩=some (au w' b 8)∧w'.cell? ⟨b,9,none⟩=some (au w' b 9)∧w'.cell? ⟨b,10,none⟩=some (au w' b 10)∧w'.cell? ⟨b,11,none⟩=some (au w' b 11)∧(∀i,w'.frozen? ⟨b,i,none⟩=false)∧OS w0 b g [x0,x1,x2,x3,x4,x5,x6,x7,x8,x9] w'):=lz ((pw h).on hb)
theorem zq(h:OS w0 b g [x0,x1,x2,x3,x4,x5,x6,x7,x8,x9] w):(w.drew.cell? ⟨g,0,none⟩=some (.string x0)∧w.drew.cell? ⟨g,1,none⟩=some (.string x1)∧w.drew.cell? ⟨g,2,none⟩=some (.string x2)∧w.drew.cell? ⟨g,3,none⟩=some (.string x3)∧w.drew.cell? ⟨g,4,none⟩=some (.string x4)∧w.drew.cell? ⟨g,5,none⟩=some (.string x5)∧w.drew.cell? ⟨g,6,none⟩=some (.string x6)∧w.drew.cell? ⟨g,7,none⟩=some (.string x7)∧w.drew.cell? ⟨g,8,none⟩=some (.string x8)∧w.drew.cell? ⟨g,9,none⟩=some (.string x9)∧w.drew.cell? ⟨b,0,none⟩=some (au w.drew b 0)∧w.drew.cell? ⟨b,1,none⟩=some (au w.drew b 1)∧w.drew.cell? ⟨b,2,none⟩=some (au w.drew b 2)∧w.drew.cell? ⟨b,3,none⟩=some (au w.drew b 3)∧w.drew.cell? ⟨b,4,none⟩=some (au w.drew b 4)∧w.drew.cell? ⟨b,5,none⟩=some (au w.drew b 5)∧w.drew.cell? ⟨b,6,none⟩=some (au w.drew b 6)∧w.drew.cell? ⟨b,7,none⟩=some (au w.drew b 7)∧w.drew.cell? ⟨b,8,none⟩=some (au w.drew b 8)∧w.drew.cell? ⟨b,9,none⟩=some (au w.drew b 9)∧w.drew.cell? ⟨b,10,none⟩=some (au w.drew b 10)∧w.drew.cell? ⟨b,11,none⟩=some (au w.drew b 11)∧(∀i,w.drew.frozen? ⟨b,i,none⟩=false)∧OS w0 b g [x0,x1,x2,x3,x4,x5,x6,x7,x8,x9] w.drew):=lz (h.on (E9 _ _).drew)
theorem BB{iw:Nat}{u:Value}(h:OS w0 b g [x0,x1,x2,x3,x4,x5,x6,x7,x8,x9] (w.setCell ⟨b,iw,none⟩ u)):((w.setCell ⟨b,iw,none⟩ u).cell? ⟨g,0,none⟩=some (.string x0)∧(w.setCell ⟨b,iw,none⟩ u).cell? ⟨g,1,none⟩=some (.string x1)∧(w.setCell ⟨b,iw,none⟩ u).cell? ⟨g,2,none⟩=some (.string x2)∧(w.setCell ⟨b,iw,none⟩ u).cell? ⟨g,3,none⟩=some (.string x3)∧(w.setCell ⟨b,iw,none⟩ u).cell? ⟨g,4,none⟩=some (.string x4)∧(w.setCell ⟨b,iw,none⟩ u).cell? ⟨g,5,none⟩=some (.string x5)∧(w.setCell ⟨b,iw,none⟩ u).cell? ⟨g,6,none⟩=some (.string x6)∧(w.setCell ⟨b,iw,none⟩ u).cell? ⟨g,7,none⟩=some (.string x7)∧(w.setCell ⟨b,iw,none⟩ u).cell? ⟨g,8,none⟩=some (.string x8)∧(w.setCell ⟨b,iw,none⟩ u).cell? ⟨g,9,none⟩=some (.string x9)∧(w.setCell ⟨b,iw,none⟩ u).cell? ⟨b,0,none⟩=some (au (w.setCell ⟨b,iw,none⟩ u) b 0)∧(w.setCell ⟨b,iw,none⟩ u).cell? ⟨b,1,none⟩=some (au (w.setCell ⟨b,iw,none⟩ u) b 1)∧(w.setCell ⟨b,iw,none⟩ u).cell? ⟨b,2,none⟩=some (au (w.setCell ⟨b,iw,none⟩ u) b 2)∧(w.setCell ⟨b,iw,none⟩ u).cell? ⟨b,3,none⟩=some (au (w.setCell ⟨b,iw,none⟩ u) b 3)∧(w.setCell ⟨b,iw,none⟩ u).cell? ⟨b,4,none⟩=some (au (w.setCell ⟨b,iw,none⟩ u) b 4)∧(w.setCell ⟨b,iw,none⟩ u).cell? ⟨b,5,none⟩=some (au (w.setCell ⟨b,iw,none⟩ u) b 5)∧(w.setCell ⟨b,iw,none⟩ u).cell? ⟨b,6,none⟩=some (au (w.setCell ⟨b,iw,none⟩ u) b 6)∧(w.setCell ⟨b,iw,none⟩ u).cell? ⟨b,7,none⟩=some (au (w.setCell ⟨b,iw,none⟩ u) b 7)∧(w.setCell ⟨b,iw,none⟩ u).cell? ⟨b,8,none⟩=some (au (w.setCell ⟨b,iw,none⟩ u) b 8)∧(w.setCell ⟨b,iw,none⟩ u).cell? ⟨b,9,none⟩=some (au (w.setCell ⟨b,iw,none⟩ u) b 9)∧(w.setCell ⟨b,iw,none⟩ u).cell? ⟨b,10,none⟩=some (au (w.setCell ⟨b,iw,none⟩ u) b 10)∧(w.setCell ⟨b,iw,none⟩ u).cell? ⟨b,11,none⟩=some (au (w.setCell ⟨b,iw,none⟩ u) b 11)∧(∀i,(w.setCell ⟨b,iw,none⟩ u).frozen? ⟨b,i,none⟩=false)∧OS w0 b g [x0,x1,x2,x3,x4,x5,x6,x7,x8,x9] (w.setCell ⟨b,iw,none⟩ u)):=lz h
theorem jG(h:(w.cell? ⟨g,0,none⟩=some (.string x0)∧w.cell? ⟨g,1,none⟩=some (.string x1)∧w.cell? ⟨g,2,none⟩=some (.string x2)∧w.cell? ⟨g,3,none⟩=some (.string x3)∧w.cell? ⟨g,4,none⟩=some (.string x4)∧w.cell? ⟨g,5,none⟩=some (.string x5)∧w.cell? ⟨g,6,none⟩=some (.string x6)∧w.cell? ⟨g,7,none⟩=some (.string x7)∧w.cell? ⟨g,8,none⟩=some (.string x8)∧w.cell? ⟨g,9,none⟩=some (.string x9)∧w.cell? ⟨b,0,none⟩=some (au w b 0)∧w.cell? ⟨b,1,none⟩=some (au w b 1)∧w.cell? ⟨b,2,none⟩=some (au w b 2)∧w.cell? ⟨b,3,none⟩=some (au w b 3)∧w.cell? ⟨b,4,none⟩=some (au w b 4)∧w.cell? ⟨b,5,none⟩=some (au w b 5)∧w.cell? ⟨b,6,none⟩=some (au w b 6)∧w.cell? ⟨b,7,none⟩=some (au w b 7)∧w.cell? ⟨b,8,none⟩=some (au w b 8)∧w.cell? ⟨b,9,none⟩=some (au w b 9)∧w.cell? ⟨b,10,none⟩=some (au w b 10)∧w.cell? ⟨b,11,none⟩=some (au w b 11)∧(∀i,w.frozen? ⟨b,i,none⟩=false)∧OS w0 b g [x0,x1,x2,x3,x4,x5,x6,x7,x8,x9] w)):aY w:=(pw h).libs
theorem lA(h:OS w0 b g [x0,x1] w):(w.cell? ⟨g,0,none⟩=some (.string x0)∧w.cell? ⟨g,1,none⟩=some (.string x1)∧w.cell? ⟨b,0,none⟩=some (au w b 0)∧w.cell? ⟨b,1,none⟩=some (au w b 1)∧w.cell? ⟨b,2,none⟩=some (au w b 2)∧w.cell? ⟨b,3,none⟩=some (au w b 3)∧w.cell? ⟨b,4,none⟩=some (au w b 4)∧w.cell? ⟨b,5,none⟩=some (au w b 5)∧w.cell? ⟨b,6,none⟩=some (au w b 6)∧w.cell? ⟨b,7,none⟩=some (au w b 7)∧w.cell? ⟨b,8,none⟩=some (au w b 8)∧w.cell? ⟨b,9,none⟩=some (au w b 9)∧w.cell? ⟨b,10,none⟩=some (au w b 10)∧w.cell? ⟨b,11,none⟩=some (au w b 11)∧(∀i,w.frozen? ⟨b,i,none⟩=false)∧OS w0 b g [x0,x1] w):=by
 have c:∀j x,([x0,x1]:List ByteArray)[j]?=some x->w.c_ g j=some (.string x):=fun j x hj=>by have:=h.words.2 j x hj; rwa [Fl] at this
 exact⟨c 0 x0 rfl,c 1 x1 rfl,bm (h.there 0 (by omega)),bm (h.there 1 (by omega)),bm (h.there 2 (by omega)),bm (h.there 3 (by omega)),bm (h.there 4 (by omega)),bm (h.there 5 (by omega)),bm (h.there 6 (by omega)),bm (h.there 7 (by omega)),bm (h.there 8 (by omega)),bm (h.there 9 (by omega)),bm (h.there 10 (by omega)),bm (h.there 11 (by omega)),h.free,h⟩
def iX(ws:List ByteArray)(e:E):Prop:=∀e',Ev.may e'->ws.map (·.data.toList)=aQ e'->e=e'
theorem gF{x:List UInt8}(h:x= []∨am x=true∨Lst x):(95:UInt8)∉x:=by
 rcases h with h | h | h
 ·rw[h]; simp
 ·exact jD h (by decide)
 ·exact pj h (by decide) (by decide)
variable {n1:Int}
theorem wX{n5 n6 n7:Int}{t2 t3 t4 t8:ByteArray}(h1:mr x1 n1)(h5:mr x5 n5)(h6:mr x6 n6)(h7:mr x7 n7)(h2:jj x2 t2)(h3:jj x3 t3)(h4:jj x4 t4)(h8:jj x8 t8):
 iX [x0,x1,x2,x3,x4,x5,x6,x7,x8,x9] ⟨1,⟨n1,t2,t3,t4,n5,n6,n7,t8,x9.toList == [49]⟩,0,0⟩:=by
 intro e' hm hw;obtain⟨k,⟨f1,f2,f3,f4,f5,f6,f7,f8,f9⟩,i,t⟩:=e';unfold aQ hU at hw;simp only at hw;rcases hm with ⟨hk,⟨⟨o1,o5,o6,o7⟩,hc,hs,hr,hl⟩,hi,ht⟩ | ⟨hk,_,hi,ht⟩ | ⟨hk,_,hi,ht⟩ <;> simp only at*<;> subst hk
 ·subst hi; subst ht
  rw[if_pos rfl] at hw;simp only[List.map_cons,List.map_nil,List.cons.injEq,and_true] at hw;obtain⟨e0,e1,e2,e3,e4,e5,e6,e7,e8,e9⟩:=hw;have b:∀ {x:List UInt8},am x=true->x=wordL x:=fun {x} h=>(if_neg (Bh h)).symm;have c:=aK (h2.2 _ (gF (.inr (.inl hc))) (e2.trans (b hc)));have f:=aK (h3.2 _ (gF (.inr (.inl hs))) (e3.trans (b hs)));have g:=aK (h4.2 _ (gF (.inr (.inr hl))) e4);have j:=aK (h8.2 _ (gF (hr.imp id .inl)) e8)
  have m:(x9.toList == [49])=f9:=by
   rw[ByteArray.toList_eq,e9]
   cases f9 <;> rfl
  rw[h1 _ o1 e1,h5 _ o5 e5,h6 _ o6 e6,h7 _ o7 e7,c,f,g,j,m]
 ·simp at hw
 ·simp at hw
theorem tV(h0:x0.data.toList= [100])(h1:mr x1 n1):iX [x0,x1] ⟨2,zeroF,n1,0⟩:=by
 intro e' hm hw;obtain⟨k,f,i,t⟩:=e';unfold aQ hU at hw;simp only at hw;rcases hm with ⟨hk,_,hi,ht⟩ | ⟨hk,hf,hi,ht⟩ | ⟨hk,_,hi,ht⟩ <;> simp only at*<;> subst hk
 ·simp at hw
 ·subst hf; subst ht
  simp at hw
  rw[h1 _ hi hw.2]
 ·simp[h0] at hw
theorem rh(h0:x0.data.toList= [99])(h1:mr x1 n1):iX [x0,x1] ⟨3,zeroF,0,n1⟩:=by
 intro e' hm hw;obtain⟨k,f,i,t⟩:=e';unfold aQ hU at hw;simp only at hw;rcases hm with ⟨hk,_,hi,ht⟩ | ⟨hk,hf,hi,ht⟩ | ⟨hk,hf,hi,ht⟩ <;> simp only at*<;> subst hk
 ·simp at hw
 ·simp[h0] at hw
 ·subst hf; subst hi
  simp at hw
  rw[h1 _ ht hw.2]
theorem zr(h0:ws[0]?=some x0)(hp:x0.data.toList= [112]->ws.length≠10)(hd:x0.data.toList= [100]->ws.length≠2)(hc:x0.data.toList= [99]->ws.length≠2)(e:E):iX ws e:=by
 intro e' hm hw;exfalso
 obtain⟨k,f,i,t⟩:=e';have b:=congrArg List.length hw;have c:=congrArg (fun l=>l[0]?) hw;rw[List.length_map] at b;simp only[List.getElem?_map,h0,Option.map_some] at c;unfold aQ hU at b c;simp only at b c;rcases hm with ⟨hk,_⟩ | ⟨hk,_⟩ | ⟨hk,_⟩ <;> simp only at hk <;> subst hk
 ·simp at b c
  exact hp c b
 ·simp at b c
  exact hd c b
 ·simp at b c
  exact hc c b
end Go.Proofs.YtlailakofhenkabGreatDoor
