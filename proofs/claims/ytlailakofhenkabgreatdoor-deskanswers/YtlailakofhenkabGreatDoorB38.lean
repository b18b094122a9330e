import Derived.Test.YtlailakofhenkabGreatDoorB37
set_option maxRecDepth 100000
set_option maxHeartbeats 4000000
namespace Go.Proofs.YtlailakofhenkabGreatDoor
open Go.RowKit Tok Tryz
theorem nd(s:ByteArray)(w:World)(hs:s.size<=10000)(hL:av w):Calls prog 181 #[.string s] w fun e w'=>∃v err,e=.returned (.tuple #[.int .i64 v,err])∧Below w.heap.size w w'∧∀m,okN m->s.data.toList=Lib.itoa m->v=m:=by
 by_cases h:∃v,Lib.atoiAll s.data.toList=.ok v
 ·obtain⟨v,h⟩:=h
  refine (iq s v w hs h).mono ?_;rintro e w' ⟨rfl,hb⟩;refine⟨v,_,rfl,hb,fun m hm he=>?_⟩;rw[he,dl hm.1 (by have:=hm.2; omega)] at h
  injection h with h;exact h.symm
 ·refine (pS s w hs hL (fun v hv=>h ⟨v,hv⟩)).mono ?_
  rintro e w' ⟨v,te,pe,rfl,hb⟩;refine⟨v,_,rfl,hb,fun m hm he=>absurd ⟨m,?_⟩ h⟩;rw[he,dl hm.1 (by have:=hm.2; omega)]
variable {n0 n1 n2 v:Int}{ps:List ByteArray}{x:ByteArray}
theorem dQ.put0(h:dQ (ps.map (·.data.toList)) 0 n0 n1 n2)(hx:ps[0]?=some x)(hv:∀m,okN m->x.data.toList=Lib.itoa m->v=m):dQ (ps.map (·.data.toList)) 1 v n1 n2:=by
 intro j m hj hm he;by_cases hjj:j=0
 ·subst hjj
  rw[List.getElem?_map,hx] at he
  have:=hv m hm (Option.some.inj he);simp[this]
 ·have:=h j m (by omega) hm he
  simp_all
theorem dQ.put1(h:dQ (ps.map (·.data.toList)) 1 n0 n1 n2)(hx:ps[1]?=some x)(hv:∀m,okN m->x.data.toList=Lib.itoa m->v=m):dQ (ps.map (·.data.toList)) 2 n0 v n2:=by
 intro j m hj hm he;by_cases hjj:j=1
 ·subst hjj
  rw[List.getElem?_map,hx] at he
  have:=hv m hm (Option.some.inj he);simp[this]
 ·have:=h j m (by omega) hm he
  simp_all
theorem dQ.put2(h:dQ (ps.map (·.data.toList)) 2 n0 n1 n2)(hx:ps[2]?=some x)(hv:∀m,okN m->x.data.toList=Lib.itoa m->v=m):dQ (ps.map (·.data.toList)) 3 n0 n1 v:=by
 intro j m hj hm he;by_cases hjj:j=2
 ·subst hjj
  rw[List.getElem?_map,hx] at he
  have:=hv m hm (Option.some.inj he);simp[this]
 ·have:=h j m (by omega) hm he
  simp_all
theorem dQ.past{ws:List (List UInt8)}{j:Nat}(h:dQ ws j n0 n1 n2)(hj:3<=j):dQ ws (j+1) n0 n1 n2:=by
 intro i m hi hm he;by_cases hij:i=j
 ·exact⟨fun h=>by omega,fun h=>by omega,fun h=>by omega⟩
 ·exact h i m (by omega) hm he
structure RW (w:World) (ps:List ByteArray) (n0 n1 n2:Int) (wr:World):Prop where
 below:Below w.heap.size w wr
 size:w.heap.size+1+1<wr.heap.size
 words:∀j x,ps[j]?=some x->wr.cell? ⟨w.heap.size+1,1+j,none⟩=some (.string x)
 c0:wr.cell? ⟨w.heap.size+1+1,0,none⟩=some (.int .i64 n0)
 c1:wr.cell? ⟨w.heap.size+1+1,1,none⟩=some (.int .i64 n1)
 c2:wr.cell? ⟨w.heap.size+1+1,2,none⟩=some (.int .i64 n2)
 cf:∀i,wr.frozen? ⟨w.heap.size+1+1,i,none⟩=false
 b0:wr.cell? ⟨w.heap.size,0,none⟩=some (.int .i64 0)
 b1:wr.cell? ⟨w.heap.size,1,none⟩=some (.int .i64 0)
 b2:wr.cell? ⟨w.heap.size,2,none⟩=some (.int .i64 0)
 b3:wr.cell? ⟨w.heap.size,3,none⟩=some (.int .i64 0)
 bf:∀i,wr.frozen? ⟨w.heap.size,i,none⟩=false
variable {w wr:World}
theorem RW.on{w':World}(h:RW w ps n0 n1 n2 wr)(hb:Below wr.heap.size wr w'):RW w ps n0 n1 n2 w':=by
 have hs:=h.size;have c:∀b i,b<wr.heap.size->w'.cell? (a_ b i)=wr.c_ b i:=fun b i hl=>hb.cell (p:=(a_ b i)) hl;have f:∀b i,b<wr.heap.size->w'.frozen? (a_ b i)=wr.frozen? (a_ b i):=fun b i hl=>hb.frozen (p:=(a_ b i)) hl
 exact⟨h.below.tm hb,Nat.lt_of_lt_of_le h.size hb.size,fun j x hx=>by rw[c _ _ (by omega)]; exact h.words j x hx,by rw[c _ _ (by omega)]; exact h.c0,by rw[c _ _ (by omega)]; exact h.c1,by rw[c _ _ (by omega)]; exact h.c2,fun i=>by rw[f _ _ (by omega)]; exact h.cf i,
  by rw[c _ _ (by omega)]; exact h.b0,by rw[c _ _ (by omega)]; exact h.b1,by rw[c _ _ (by omega)]; exact h.b2,by rw[c _ _ (by omega)]; exact h.b3,fun i=>by rw[f _ _ (by omega)]; exact h.bf i⟩
theorem RW.put0(h:RW w ps n0 n1 n2 wr)(v:Int):RW w ps v n1 n2 (wr.setCell ⟨w.heap.size+1+1,0,none⟩ (.int .i64 v)):=by
 have b:∀a:Addr,a≠⟨w.heap.size+1+1,0,none⟩->(wr.setCell ⟨w.heap.size+1+1,0,none⟩ (.int .i64 v)).cell? a=wr.cell? a:=fun a ha=>Fm _ _ _ _ (Ne.symm ha)
 exact⟨h.below.setCell (by simp; omega) _,by simpa using h.size,fun j x hx=>(b _ (by simp)).trans (h.words j x hx),World.cell?_setCell_same _ _ _ h.c0,(b _ (by simp)).trans h.c1,(b _ (by simp)).trans h.c2,
  fun i=>by simpa using h.cf i,(b _ (by simp)).trans h.b0,(b _ (by simp)).trans h.b1,(b _ (by simp)).trans h.b2,(b _ (by simp)).trans h.b3,fun i=>by simpa using h.bf i⟩
theorem RW.put1(h:RW w ps n0 n1 n2 wr)(v:Int):RW w ps n0 v n2 (wr.setCell ⟨w.heap.size+1+1,1,none⟩ (.int .i64 v)):=by
 have b:∀a:Addr,a≠⟨w.heap.size+1+1,1,none⟩->(wr.setCell ⟨w.heap.size+1+1,1,none⟩ (.int .i64 v)).cell? a=wr.cell? a:=fun a ha=>Fm _ _ _ _ (Ne.symm ha)
 exact⟨h.below.setCell (by simp; omega) _,by simpa using h.size,fun j x hx=>(b _ (by simp)).trans (h.words j x hx),(b _ (by simp)).trans h.c0,World.cell?_setCell_same _ _ _ h.c1,(b _ (by simp)).trans h.c2,
  fun i=>by simpa using h.cf i,(b _ (by simp)).trans h.b0,(b _ (by simp)).trans h.b1,(b _ (by simp)).trans h.b2,(b _ (by simp)).trans h.b3,fun i=>by simpa using h.bf i⟩
theorem RW.put2(h:RW w ps n0 n1 n2 wr)(v:Int):RW w ps n0 n1 v (wr.setCell ⟨w.heap.size+1+1,2,none⟩ (.int .i64 v)):=by
 have b:∀a:Addr,a≠⟨w.heap.size+1+1,2,none⟩->(wr.setCell ⟨w.heap.size+1+1,2,none⟩ (.int .i64 v)).cell? a=wr.cell? a:=fun a ha=>Fm _ _ _ _ (Ne.symm ha)
 exact⟨h.below.setCell (by simp; omega) _,by simpa using h.size,fun j x hx=>(b _ (by simp)).trans (h.words j x hx),(b _ (by simp)).trans h.c0,(b _ (by simp)).trans h.c1,World.cell?_setCell_same _ _ _ h.c2,
  fun i=>by simpa using h.cf i,(b _ (by simp)).trans h.b0,(b _ (by simp)).trans h.b1,(b _ (by simp)).trans h.b2,(b _ (by simp)).trans h.b3,fun i=>by simpa using h.bf i⟩
theorem AV(w:World)(p0:ByteArray)(ps:List ByteArray)(tw tn:TypeId):RW w ps 0 0 0 (((w.alloc (.cells #[.int .i64 0,.int .i64 0,.int .i64 0,.int .i64 0] 137)).alloc (.cells ((p0::ps).map Value.string).toArray tw)).alloc (.cells #[.int .i64 0,.int .i64 0,.int .i64 0] tn)) where
 below:=by repeat (first | exact Below.refl _ _ | refine Below.alloc ?_ (by simp; try omega) _)
 size:=by simp
 words:=by
  intro j x hx;rw[World.cell?_alloc_lt _ _ _ (by simp),World.cell?_alloc_at _ _ _ _ (by simp)]
  simp[Nat.add_comm 1 j,hx]
 c0:=by rw[World.cell?_alloc_at _ _ _ _ (by simp)]; rfl
 c1:=by rw[World.cell?_alloc_at _ _ _ _ (by simp)]; rfl
 c2:=by rw[World.cell?_alloc_at _ _ _ _ (by simp)]; rfl
 cf:=fun i=>by rw[World.frozen?_alloc_at _ _ _ _ (by simp)]
 b0:=by rw[World.cell?_alloc_lt _ _ _ (by simp; omega),World.cell?_alloc_lt _ _ _ (by simp),World.cell?_alloc_new]; rfl
 b1:=by rw[World.cell?_alloc_lt _ _ _ (by simp; omega),World.cell?_alloc_lt _ _ _ (by simp),World.cell?_alloc_new]; rfl
 b2:=by rw[World.cell?_alloc_lt _ _ _ (by simp; omega),World.cell?_alloc_lt _ _ _ (by simp),World.cell?_alloc_new]; rfl
 b3:=by rw[World.cell?_alloc_lt _ _ _ (by simp; omega),World.cell?_alloc_lt _ _ _ (by simp),World.cell?_alloc_new]; rfl
 bf:=fun i=>by rw[World.frozen?_alloc_past _ _ _ (by simp; omega),World.frozen?_alloc_past _ _ _ (by simp),World.frozen?_alloc_at _ _ _ _ rfl]
theorem kZ{W:World}(t:T)(ht:may t)(hL:kf W):∀d os,Calls prog 133 #[aL t] (Go.Sort.grow (redrawn W d) os) fun e w''=>e=.returned (.string ⟨(body t).toArray⟩)∧∃p:Regrown,w''=Go.Sort.grow (redrawn W p.d) p.os:=
 fun d os=>Calls.regrown_of (rW t _ ht (hL.below (below_regrown W d os) hL.big))
theorem AW(key:Int)(s:ByteArray)(w:World)(hs:s.size<=5000)(hL:av w):Calls prog 131 #[.i_ key,.string s] w fun e w'=>Below w.heap.size w w'∧
 ∃t n,Out (tag key) s.data.toList t n∧e=.returned (.tuple #[aL t,.int .i64 (D8 n)]):=by
 have HL:Hid (av w):=hL;have Ek:Below w.heap.size w (w.alloc (.cells (Q_ 0 0 0 0) 137)):=(E9 _ _).alloc (Fa _) _;have El:Hid (Below w.heap.size w (w.alloc (.cells (Q_ 0 0 0 0) 137))):=Ek;have EC:Hid (av (w.alloc (.cells (Q_ 0 0 0 0) 137))):=hL.below Ek rfl;clear hL Ek;have Eh:s.data.toList.length=s.size:=Fg;rcases yw 46 s.data.toList with hno | ⟨a,b,hab,Z⟩
 ·have p:=vp hno
  have HF:Hid (∀t tag,¬ Tok.j1 s.data.toList t tag):=by
   intro t tag h;apply hno
   rw[h.2.2]; simp
  clear hno Eh;go_enter func131,ntmps131
  go_wp2_with fail;refine (strings_LastIndexByte s 46 (by omega) _).mono ?_;rintro e w1 ⟨rfl,rfl⟩;have F:Lib.lastIndexByte s 46=-1:=p;rw[F];clear F p;go_wp2_with fail;exact bodyPost_ret (v:=.tuple #[aL zero,.i_ 3]) (by simp[results,results131,go_sem,aL,zero]) rfl ⟨El.o,zero,1,Out.form HF.o,rfl⟩
 ·have p:=last_at hab Z
  have Ed:a.length+(b.length+1)=s.size:=by rw[<- Eh,hab]; simp
  have Ee:Hid (s.data.toList=a ++ 46::b):=hab;have Ep:s.extract 0 a.length=⟨a.toArray⟩:=lj (by rw[jL,hab]; simp)
  have ED:s.extract (a.length+1) s.size=⟨b.toArray⟩:=lj (by rw[jL,hab,<- Ed,show a.length+(b.length+1) - (a.length+1)=b.length by omega]; simp)
  have I:Hid (s.extract 0 a.length=⟨a.toArray⟩):=Ep;have HX2:Hid (s.extract (a.length+1) s.size=⟨b.toArray⟩):=ED;have HNB:Hid ((46:UInt8)∉b):=Z
  have HF:Hid (∀t' tag',Tok.j1 s.data.toList t' tag'->body t'=a∧tag'=b):=by
   intro t' tag' h;have e:=hab.symm.trans h.2.2;obtain⟨e1,e2⟩:=iI e Z (eq h.2.1);exact⟨e1.symm,e2.symm⟩
  clear Ep hab Z;by_cases h16:b.length=16
  ·have Er:(↑(⟨b.toArray⟩:ByteArray).size:Int)=16:=by simp[ByteArray.size,h16]
   go_enter func131,ntmps131
   go_wp2_with fail;refine (strings_LastIndexByte s 46 (by omega) _).mono ?_;rintro e w1 ⟨rfl,rfl⟩;have F:Lib.lastIndexByte s 46=a.length:=p;rw[F];clear F p;go_wp2_with fail;have Ei:Hid (b.length=16):=h16;have Es:Hid (∀k (h:k<b.length),b.take (k+1)=b.take k ++ [b[k]]):=fun k h=>by rw[List.take_succ_eq_append_getElem h]
   have EK:¬ b.length<16:=by omega
   clear Er h16;go_loopg [30] 16 (fun gk i wr=>∃k:Nat,k+gk=16∧i=.i_ k∧(∀x∈b.take k,dJ x)∧wr=w.alloc (.cells (Q_ 0 0 0 0) 137))
   case atStart=>exact⟨0,by omega,rfl,by simp,rfl⟩
   case round=>
    obtain⟨k,hk,rfl,hall,rfl⟩:=hrel;have HK:Hid (k+gk=16):=hk;have Et:k<=16:=by omega
    have HA:Hid (∀x∈b.take k,dJ x):=hall;clear hk hall;by_cases hlt:k<16
    ·have Eu:k<b.length:=by omega
     go_wp2_with fail;have Ew:Hid (({ data:=b.toArray }:ByteArray)[k]'(by simpa[ByteArray.size] using Eu)=b[k]):=by show b.toArray[k]=b[k]; simp
     by_cases hx:dJ b[k]
     ·have EE:0<=Lib.indexByte nH b[k]:=(wj _).2 hx
      have HX:Hid (dJ b[k]):=hx;clear hx;refine (strings_IndexByte _ _ _).mono ?_;rintro e w' ⟨rfl,rfl⟩;rw[Ew.o,show Lib.indexByte (⟨#[48,49,50,51,52,53,54,55,56,57,97,98,99,100,101,102]⟩:ByteArray).data.toList (((b[k].toNat:Nat):Int).toNat.toUInt8)=Lib.indexByte nH b[k] by simp[nH]]
      generalize Lib.indexByte nH b[k]=q at *;go_wp2_with fail;go_roundg (gk - 1)
      case measure=>have:=HK.o; omega
      case rel=>
       refine⟨k+1,by have:=HK.o; omega,by go_num,?_,rfl⟩
       rw[Es.o k Eu];intro x hxm;simp only[List.mem_append,List.mem_singleton] at hxm;rcases hxm with hxm | rfl
       ·exact HA.o x hxm
       ·exact HX.o
     ·have EE:Lib.indexByte nH b[k]<0:=by have:=mt (wj _).1 hx; omega
      have M:Hid (Out (tag key) s.data.toList zero 1):=Out.form (fun t' tag' h=>hx (by
       have e:=(HF.o t' tag' h).2;subst e;exact h.2.1.2 _ (Fw _)))
      clear hx;refine (strings_IndexByte _ _ _).mono ?_;rintro e w' ⟨rfl,rfl⟩;rw[Ew.o,show Lib.indexByte (⟨#[48,49,50,51,52,53,54,55,56,57,97,98,99,100,101,102]⟩:ByteArray).data.toList (((b[k].toNat:Nat):Int).toNat.toUInt8)=Lib.indexByte nH b[k] by simp[nH]]
      generalize Lib.indexByte nH b[k]=q at *;go_wp2_with fail;exact bodyPost_ret (v:=.tuple #[aL zero,.i_ 3]) (by simp[results,results131,go_sem,aL,zero]) rfl ⟨El.o,zero,1,M.o,rfl⟩
    ·obtain rfl:k=16:=by omega
     go_wp2_with fail;rw[I.o];have Ef:Hid (kE b):=⟨Ei.o,by have h:=HA.o; rwa [List.take_of_length_le (by have:=Ei.o; omega)] at h⟩
     obtain⟨m,C⟩:=EC.o.len;have Ex:=strings_Split ⟨a.toArray⟩ ⟨#[46]⟩ m _ (by simp[ByteArray.size]; omega) C (by decide)
     have Em:=Lib.splitB_all ⟨#[46]⟩ (by decide) 0 _ ⟨a.toArray⟩ rfl
     have Ey:=gW 46 ⟨a.toArray⟩;have EF:Lib.countB ⟨a.toArray⟩ ⟨#[46]⟩<=5000:=Nat.le_trans (Lib.countB_le ⟨#[46]⟩ (by decide) _ ⟨a.toArray⟩ (Nat.le_refl _)) (by simp[ByteArray.size]; omega)
     generalize Lib.splitB ⟨#[46]⟩ 0 (Lib.countB ⟨a.toArray⟩ ⟨#[46]⟩) ⟨a.toArray⟩=ps at *;generalize Lib.countB ⟨a.toArray⟩ ⟨#[46]⟩=L at *
     obtain⟨p0,ps,rfl⟩:∃p0 ps',ps=p0::ps':=by
      cases ps with
      |nil=>simp at Em
      |cons p0 ps'=>exact⟨p0,ps',rfl⟩
     have hL:ps.length=L:=by simpa using Em
     have HP:Hid (parts 46 a=p0.data.toList::ps.map (·.data.toList)):=by show parts 46 a=_; simpa using Ey.symm
     clear Em Ey C HA Et hlt;refine Ex.mono ?_;rintro e w2 ⟨rfl,rfl⟩;clear Ex;have Ej:Hid (ps.length=L):=hL
     have EG:Hid (∀(j:Nat) (x:ByteArray),ps[j]?=some x->x.size<=5000):=by
      intro j x hx;have C:x.data.toList∈parts 46 a:=by rw[HP.o]; exact List.mem_cons_of_mem _ (List.mem_map.2 ⟨x,FE hx,rfl⟩)
      have h1:=oy 46 _ a _ C;simp at h1
      omega
     clear hL;by_cases hL0:L=0
     all_goals
      go_wp2_with fail;go_loopg [47] L (fun gk i wr=>∃(j:Nat) (n0 n1 n2:Int),j+gk=L∧i=.i_ j∧dQ (ps.map (·.data.toList)) j n0 n1 n2∧RW w ps n0 n1 n2 wr)
      case atStart=>exact⟨0,0,0,0,by omega,rfl,fun j m hj=>absurd hj (by omega),AV w p0 ps _ _⟩
      case round=>
       obtain⟨j,n0,n1,n2,hj,rfl,h3,hrw⟩:=hrel;have HJ:Hid (j+gk=L):=hj;have EH:j<=L:=by omega
       have H3:Hid (dQ (ps.map (·.data.toList)) j n0 n1 n2):=h3;have O:Hid (RW w ps n0 n1 n2 wr):=hrw;have Eg:=HL.o.below hrw.below rfl;have Ed:=hrw.size;clear hj h3 ;by_cases hlt:j<L
       ·first
        |(exfalso; omega)
        |obtain⟨x,hx⟩:∃x,ps[j]?=some x:=⟨_,List.getElem?_eq_getElem (by rw[Ej.o]; exact hlt)⟩
         have En:=hrw.words j x hx;have hxs:=EG.o j x hx;have HX:Hid (ps[j]?=some x):=hx;clear hrw hx;rcases (show j=0∨j=1∨j=2∨3<=j by omega) with rfl | rfl | rfl | h3j
         ·go_wp2_with fail
          refine (nd x _ (by omega) Eg).mono ?_;rintro e w3 ⟨v,err,rfl,hb3,hv⟩;have f:=O.o.on hb3;have G:Hid (RW w ps n0 n1 n2 w3):=f;have HV:Hid (∀m,okN m->x.data.toList=Lib.itoa m->v=m):=hv;have Ez:=f.c0;have EA:=f.cf 0;clear hb3 hv f En;go_wp2_with fail;go_roundg (gk - 1)
          case measure=>have:=HJ.o; omega
          case rel=>exact⟨1,v,n1,n2,by have:=HJ.o; omega,by go_num,dQ.put0 H3.o HX.o HV.o,G.o.put0 v⟩
         ·go_wp2_with fail
          refine (nd x _ (by omega) Eg).mono ?_;rintro e w3 ⟨v,err,rfl,hb3,hv⟩;have f:=O.o.on hb3;have G:Hid (RW w ps n0 n1 n2 w3):=f;have HV:Hid (∀m,okN m->x.data.toList=Lib.itoa m->v=m):=hv;have Ez:=f.c1;have EA:=f.cf 1;clear hb3 hv f En;go_wp2_with fail;go_roundg (gk - 1)
          case measure=>have:=HJ.o; omega
          case rel=>exact⟨2,n0,v,n2,by have:=HJ.o; omega,by go_num,dQ.put1 H3.o HX.o HV.o,G.o.put1 v⟩
         ·go_wp2_with fail
          refine (nd x _ (by omega) Eg).mono ?_;rintro e w3 ⟨v,err,rfl,hb3,hv⟩;have f:=O.o.on hb3;have G:Hid (RW w ps n0 n1 n2 w3):=f;have HV:Hid (∀m,okN m->x.data.toList=Lib.itoa m->v=m):=hv;have Ez:=f.c2;have EA:=f.cf 2;clear hb3 hv f En;go_wp2_with fail;go_roundg (gk - 1)
          case measure=>have:=HJ.o; omega
          case rel=>exact⟨3,n0,n1,v,by have:=HJ.o; omega,by go_num,dQ.put2 H3.o HX.o HV.o,G.o.put2 v⟩
         ·have EL:¬ j<3:=by omega
          go_wp2_with fail;go_roundg (gk - 1)
          case measure=>have:=HJ.o; omega
          case rel=>exact⟨j+1,n0,n1,n2,by have:=HJ.o; omega,by go_num,dQ.past H3.o h3j,O.o⟩
       ·have EB:¬ j<L:=hlt
        have HT:Hid (∀t,may t->body t=a->t=⟨1,n0,n1,0⟩∨t=⟨2,n0,n1,n2⟩):=by
         intro t ht Z;refine uQ HP.o ?_ ht Z;rw[List.length_map,Ej.o,show L=j by omega]
         exact H3.o
        clear hrw;go_wp2_with fail;clear EF hlt EH EB Eg Ed;have hi1:(a.length:Int)<=(s.size:Int):=by omega
        have hi2:a.length<=s.size:=by omega
        go_loopg [13] 2 (fun gk i wr=>∃kd:Nat,kd+gk=3∧1<=kd∧i=.i_ kd∧RW w ps n0 n1 n2 wr∧(2<=kd->¬ (may ⟨1,n0,n1,0⟩∧body ⟨1,n0,n1,0⟩=a))∧(3<=kd->¬ (may ⟨2,n0,n1,n2⟩∧body ⟨2,n0,n1,n2⟩=a)))
        case atStart=>exact⟨1,by omega,by omega,rfl,O.o,fun h=>by omega,fun h=>by omega⟩
        case round=>
         obtain⟨kd,hkd,hk1,rfl,hrw,hno1,hno2⟩:=hrel;have H:Hid (kd+gk=3):=hkd;have HR:Hid (RW w ps n0 n1 n2 wr):=hrw;have Eo:Hid (2<=kd->¬ (may ⟨1,n0,n1,0⟩∧body ⟨1,n0,n1,0⟩=a)):=hno1;have EI:Hid (3<=kd->¬ (may ⟨2,n0,n1,n2⟩∧body ⟨2,n0,n1,n2⟩=a)):=hno2;have hcs:=hrw.c0;have EM:=hrw.c1;have EN:=hrw.c2;have Ed:=hrw.size;clear hno1 hno2;rcases (show kd=1∨kd=2∨kd=3 by omega) with rfl | rfl | rfl
         ·clear hkd hk1 hrw
          have D:fk wr.heap.size ⟨1,n0,n1,0⟩ (wr.alloc (.cells (Q_ 1 n0 n1 0) 137)):=fk.made wr ⟨1,n0,n1,0⟩ 137;have B:Below wr.heap.size wr (wr.alloc (.cells (Q_ 1 n0 n1 0) 137)):=(E9 wr.heap.size wr).alloc (Fa _) _;by_cases C:may ⟨1,n0,n1,0⟩
          ·go_wp2_with fail
           refine (fe key ⟨1,n0,n1,0⟩ _ C (HL.o.below (HR.o.on B).below rfl).base).mono ?_;rintro e w3 ⟨rfl,hb3⟩;have r:=(HR.o.on B).on hb3;have z:=D.on hb3 D.lt;have J:Hid (RW w ps n0 n1 n2 w3):=r;have k0:=cell_regrown z.c0;have k1:=cell_regrown z.c1;have k2:=cell_regrown z.c2;have k3:=cell_regrown z.c3;have R:Hid (fk wr.heap.size ⟨1,n0,n1,0⟩ w3):=z;have cB:=kZ ⟨1,n0,n1,0⟩ C (HL.o.below r.below rfl).base;have HM:Hid (may ⟨1,n0,n1,0⟩):=C;clear D B hb3 r z C;unfold aL at cB;simp only at k0 k1 k2 k3 cB;go_wp2_with fail;refine wp_region_quiet_below mixed (by kernel_rfl) ?_
           repeat (quiet_step (first | exact cB _ _))
           refine wpQuiet_nil ?_;intro W2 hw';obtain⟨⟨dq,osq⟩,hw''⟩:=hw';have o:=below_regrown w3 dq osq;rw[<- hw''] at o;have c:Hid (RW w ps n0 n1 n2 W2):=J.o.on o;have T:Hid (fk wr.heap.size ⟨1,n0,n1,0⟩ W2):=R.o.on o R.o.lt;clear hw'' cB k0 k1 k2 k3 o;have U:=c.o.b0;have V:=c.o.b1;have W:=c.o.b2;have X:=c.o.b3;have f0:=c.o.bf 0;have f1:=c.o.bf 1;have f2:=c.o.bf 2;have f3:=c.o.bf 3;go_wp2_with fail
           ·have N:Hid (body ⟨1,n0,n1,0⟩=a):=by
             have E:=‹(body ⟨1,n0,n1,0⟩ == (s.extract 0 a.length).toList)=true›;rw[I.o,ByteArray.toList_eq] at E;show _=a
             exact beq_iff_eq.1 E
            rw[I.o];refine (fC key a _ (by omega) (HL.o.below c.o.below rfl).base).mono ?_;rintro e w4 ⟨rfl,hb4⟩;have g:=c.o.on hb4;have A:=T.o.on hb4 T.o.lt;have Y:Hid (RW w ps n0 n1 n2 w4):=g;have EJ:Hid (fk wr.heap.size ⟨1,n0,n1,0⟩ w4):=A;clear hb4 U V W X f0 f1 f2 f3;have U:=g.b0;have V:=g.b1;have W:=g.b2;have X:=g.b3;have f0:=g.bf 0;have f1:=g.bf 1;have f2:=g.bf 2;have f3:=g.bf 3;have x0:=A.c0;have x1:=A.c1;have x2:=A.c2;have x3:=A.c3;simp only at x0 x1 x2 x3;clear g A;go_wp2_with fail
            ·rename_i E
             have hg:¬ b=tag key a:=by simpa using E
             have M:Hid (Out (tag key) s.data.toList zero 2):=Out.name _ b ⟨HM.o,Ef.o,by rw[Ee.o,N.o]⟩ (by rw[N.o]; exact hg)
             exact bodyPost_ret (v:=.tuple #[aL zero,.i_ 5]) (by simp[results,results131,go_sem,aL,zero,U,V,W,X]) rfl ⟨(((Y.o.below.setCell (Nat.le_refl _) _).setCell (Nat.le_refl _) _).setCell (Nat.le_refl _) _).setCell (Nat.le_refl _) _,zero,2,M.o,rfl⟩
            ·rename_i E
             have hg:b=tag key a:=by simpa using E
             have M:Hid (Out (tag key) s.data.toList ⟨1,n0,n1,0⟩ 0):=Out.good _ b ⟨HM.o,Ef.o,by rw[Ee.o,N.o]⟩ (by rw[N.o]; exact hg)
             exact bodyPost_ret (v:=.tuple #[aL ⟨1,n0,n1,0⟩,.i_ 0]) (by simp[results,results131,go_sem,aL,U,V,W,X]) rfl ⟨(((Y.o.below.setCell (Nat.le_refl _) _).setCell (Nat.le_refl _) _).setCell (Nat.le_refl _) _).setCell (Nat.le_refl _) _,⟨1,n0,n1,0⟩,0,M.o,rfl⟩
           ·have N:Hid (¬ body ⟨1,n0,n1,0⟩=a):=by
             have E:=‹(body ⟨1,n0,n1,0⟩ == (s.extract 0 a.length).toList)=false›;rw[I.o,ByteArray.toList_eq] at E;show ¬ _=a
             exact beq_eq_false_iff_ne.1 E
            go_roundg (gk - 1)
            case measure=>have:=H.o; omega
            case rel=>exact⟨2,by have:=H.o; omega,by omega,by go_num,c.o,fun _ h=>N.o h.2,fun h=>by omega⟩
          ·go_wp2_with fail
           refine (kg key ⟨1,n0,n1,0⟩ _ C).mono ?_;rintro e w3 ⟨rfl,hb3⟩;have r:=(HR.o.on B).on hb3;have J:Hid (RW w ps n0 n1 n2 w3):=r;have HM:Hid (¬ may ⟨1,n0,n1,0⟩):=C;clear D B hb3 r C;go_wp2_with fail;refine wp_region_quiet_below mixed (by kernel_rfl) ?_
           repeat (quiet_step (fail))
           refine wpQuiet_nil ?_;intro W2 hw';obtain⟨⟨dq,osq⟩,hw''⟩:=hw';have o:=below_regrown w3 dq osq;rw[<- hw''] at o;have c:Hid (RW w ps n0 n1 n2 W2):=J.o.on o;clear hw'' o;go_wp2_with fail;go_roundg (gk - 1)
           case measure=>have:=H.o; omega
           case rel=>exact⟨2,by have:=H.o; omega,by omega,by go_num,c.o,fun _ h=>HM.o h.1,fun h=>by omega⟩
         ·clear hkd hk1 hrw
          have D:fk wr.heap.size ⟨2,n0,n1,n2⟩ (wr.alloc (.cells (Q_ 2 n0 n1 n2) 137)):=fk.made wr ⟨2,n0,n1,n2⟩ 137;have B:Below wr.heap.size wr (wr.alloc (.cells (Q_ 2 n0 n1 n2) 137)):=(E9 wr.heap.size wr).alloc (Fa _) _;by_cases C:may ⟨2,n0,n1,n2⟩
          ·go_wp2_with fail
           refine (fe key ⟨2,n0,n1,n2⟩ _ C (HL.o.below (HR.o.on B).below rfl).base).mono ?_;rintro e w3 ⟨rfl,hb3⟩;have r:=(HR.o.on B).on hb3;have z:=D.on hb3 D.lt;have J:Hid (RW w ps n0 n1 n2 w3):=r;have k0:=cell_regrown z.c0;have k1:=cell_regrown z.c1;have k2:=cell_regrown z.c2;have k3:=cell_regrown z.c3;have R:Hid (fk wr.heap.size ⟨2,n0,n1,n2⟩ w3):=z;have cB:=kZ ⟨2,n0,n1,n2⟩ C (HL.o.below r.below rfl).base;have HM:Hid (may ⟨2,n0,n1,n2⟩):=C;clear D B hb3 r z C;unfold aL at cB;simp only at k0 k1 k2 k3 cB;go_wp2_with fail;refine wp_region_quiet_below mixed (by kernel_rfl) ?_
           repeat (quiet_step (first | exact cB _ _))
           refine wpQuiet_nil ?_;intro W2 hw';obtain⟨⟨dq,osq⟩,hw''⟩:=hw';have o:=below_regrown w3 dq osq;rw[<- hw''] at o;have c:Hid (RW w ps n0 n1 n2 W2):=J.o.on o;have T:Hid (fk wr.heap.size ⟨2,n0,n1,n2⟩ W2):=R.o.on o R.o.lt;clear hw'' cB k0 k1 k2 k3 o;have U:=c.o.b0;have V:=c.o.b1;have W:=c.o.b2;have X:=c.o.b3;have f0:=c.o.bf 0;have f1:=c.o.bf 1;have f2:=c.o.bf 2;have f3:=c.o.bf 3;go_wp2_with fail
           ·have N:Hid (body ⟨2,n0,n1,n2⟩=a):=by
             have E:=‹(body ⟨2,n0,n1,n2⟩ == (s.extract 0 a.length).toList)=true›;rw[I.o,ByteArray.toList_eq] at E;show _=a
             exact beq_iff_eq.1 E
            rw[I.o];refine (fC key a _ (by omega) (HL.o.below c.o.below rfl).base).mono ?_;rintro e w4 ⟨rfl,hb4⟩;have g:=c.o.on hb4;have A:=T.o.on hb4 T.o.lt;have Y:Hid (RW w ps n0 n1 n2 w4):=g;have EJ:Hid (fk wr.heap.size ⟨2,n0,n1,n2⟩ w4):=A;clear hb4 U V W X f0 f1 f2 f3;have U:=g.b0;have V:=g.b1;have W:=g.b2;have X:=g.b3;have f0:=g.bf 0;have f1:=g.bf 1;have f2:=g.bf 2;have f3:=g.bf 3;have x0:=A.c0;have x1:=A.c1;have x2:=A.c2;have x3:=A.c3;simp only at x0 x1 x2 x3;clear g A;go_wp2_with fail
            ·rename_i E
             have hg:¬ b=tag key a:=by simpa using E
             have M:Hid (Out (tag key) s.data.toList zero 2):=Out.name _ b ⟨HM.o,Ef.o,by rw[Ee.o,N.o]⟩ (by rw[N.o]; exact hg)
             exact bodyPost_ret (v:=.tuple #[aL zero,.i_ 5]) (by simp[results,results131,go_sem,aL,zero,U,V,W,X]) rfl ⟨(((Y.o.below.setCell (Nat.le_refl _) _).setCell (Nat.le_refl _) _).setCell (Nat.le_refl _) _).setCell (Nat.le_refl _) _,zero,2,M.o,rfl⟩
            ·rename_i E
             have hg:b=tag key a:=by simpa using E
             have M:Hid (Out (tag key) s.data.toList ⟨2,n0,n1,n2⟩ 0):=Out.good _ b ⟨HM.o,Ef.o,by rw[Ee.o,N.o]⟩ (by rw[N.o]; exact hg)
             exact bodyPost_ret (v:=.tuple #[aL ⟨2,n0,n1,n2⟩,.i_ 0]) (by simp[results,results131,go_sem,aL,U,V,W,X]) rfl ⟨(((Y.o.below.setCell (Nat.le_refl _) _).setCell (Nat.le_refl _) _).setCell (Nat.le_refl _) _).setCell (Nat.le_refl _) _,⟨2,n0,n1,n2⟩,0,M.o,rfl⟩
           ·have N:Hid (¬ body ⟨2,n0,n1,n2⟩=a):=by
             have E:=‹(body ⟨2,n0,n1,n2⟩ == (s.extract 0 a.length).toList)=false›;rw[I.o,ByteArray.toList_eq] at E;show ¬ _=a
             exact beq_eq_false_iff_ne.1 E
            go_roundg (gk - 1)
            case measure=>have:=H.o; omega
            case rel=>exact⟨3,by have:=H.o; omega,by omega,by go_num,c.o,fun _=>Eo.o (by omega),fun _ h=>N.o h.2⟩
          ·go_wp2_with fail
           refine (kg key ⟨2,n0,n1,n2⟩ _ C).mono ?_;rintro e w3 ⟨rfl,hb3⟩;have r:=(HR.o.on B).on hb3;have J:Hid (RW w ps n0 n1 n2 w3):=r;have HM:Hid (¬ may ⟨2,n0,n1,n2⟩):=C;clear D B hb3 r C;go_wp2_with fail;refine wp_region_quiet_below mixed (by kernel_rfl) ?_
           repeat (quiet_step (fail))
           refine wpQuiet_nil ?_;intro W2 hw';obtain⟨⟨dq,osq⟩,hw''⟩:=hw';have o:=below_regrown w3 dq osq;rw[<- hw''] at o;have c:Hid (RW w ps n0 n1 n2 W2):=J.o.on o;clear hw'' o;go_wp2_with fail;go_roundg (gk - 1)
           case measure=>have:=H.o; omega
           case rel=>exact⟨3,by have:=H.o; omega,by omega,by go_num,c.o,fun _=>Eo.o (by omega),fun _ h=>HM.o h.1⟩
         ·have M:Hid (Out (tag key) s.data.toList zero 1):=Out.form (fun t' tag' h=>by
           have Z:=(HF.o t' tag' h).1;rcases HT.o t' h.1 Z with rfl | rfl
           ·exact Eo.o (by omega) ⟨h.1,Z⟩
           ·exact EI.o (by omega) ⟨h.1,Z⟩)
          have U:=hrw.b0;have V:=hrw.b1;have W:=hrw.b2;have X:=hrw.b3;have f0:=hrw.bf 0;have f1:=hrw.bf 1;have f2:=hrw.bf 2;have f3:=hrw.bf 3;go_wp2_with fail;exact bodyPost_ret (v:=.tuple #[aL zero,.i_ 3]) (by simp[results,results131,go_sem,aL,zero,U,V,W,X]) rfl ⟨(((hrw.below.setCell (Nat.le_refl _) _).setCell (Nat.le_refl _) _).setCell (Nat.le_refl _) _).setCell (Nat.le_refl _) _,zero,1,M.o,rfl⟩
  ·have M:Hid (Out (tag key) s.data.toList zero 1):=Out.form (fun t' tag' h=>h16 ((HF.o t' tag' h).2 ▸ h.2.1.1))
   have Er:¬ (↑(⟨b.toArray⟩:ByteArray).size:Int)=16:=by simp[ByteArray.size]; omega
   go_enter func131,ntmps131
   go_wp2_with fail;refine (strings_LastIndexByte s 46 (by omega) _).mono ?_;rintro e w1 ⟨rfl,rfl⟩;have F:Lib.lastIndexByte s 46=a.length:=p;rw[F];clear F p;go_wp2_with fail;exact bodyPost_ret (v:=.tuple #[aL zero,.i_ 3]) (by simp[results,results131,go_sem,aL,zero]) rfl ⟨El.o,zero,1,M.o,rfl⟩
end Go.Proofs.YtlailakofhenkabGreatDoor
