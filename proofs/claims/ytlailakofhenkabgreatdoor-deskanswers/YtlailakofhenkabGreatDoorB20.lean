import Derived.Test.YtlailakofhenkabGreatDoorB19
set_option maxRecDepth 100000
set_option maxHeartbeats 8000000
namespace Go.Proofs.YtlailakofhenkabGreatDoor
open Go.RowKit Tok Tryz
theorem jL(s:ByteArray)(i j:Nat):(s.extract i j).data.toList=(s.data.toList.drop i).take (j - i):=by
 simp
def D8:Nat->Int
 |0=>0
 |1=>3
 |_=>5
def D9:Nat->Value
 |0=>.nilIface
 |1=>.iface 47 (.int .i64 3)
 |_=>.iface 47 (.int .i64 5)
theorem Ac(key:Int)(s:ByteArray)(w:World)(hs:s.size<=5000)(hL:av w):Calls prog 91 #[.i_ key,.string s] w fun e w'=>Below w.heap.size w w'∧
 ∃t n,Out (tag key) s.data.toList t n∧e=.returned (.tuple #[aL t,D9 n]):=by
 have R:Hid _:=hL;have q:Below w.heap.size w (w.alloc (.cells (Q_ 0 0 0 0) 142)):=(E9 _ _).alloc (Fa _) _;have B:Hid _:=q;have T:Hid _:=hL.below q rfl;clear hL q;have p:s.data.toList.length=s.size:=Fg;rcases yw 46 s.data.toList with hno | ⟨a,b,hab,hb⟩
 ·have c:=vp hno
  have H:Hid (∀t tag,¬ Tok.j1 s.data.toList t tag):=by
   intro t tag h;apply hno
   rw[h.2.2]; simp
  clear hno p;go_enter func91,ntmps91
  go_wp2_with fail
  refine (strings_LastIndex_one s ⟨#[46]⟩ rfl (by omega) _).mono ?_
  rintro e w1 ⟨rfl,rfl⟩;have g:Lib.lastIndexByte s (((⟨#[46]⟩:ByteArray)[0]'(by decide)).toNat:Int)=-1:=c
  rw[g];clear g c;go_wp2_with fail
  exact bodyPost_ret (v:=.tuple #[aL zero,.iface 47 (.i_ 3)]) (by simp[results,results91,go_sem,aL,zero]) rfl ⟨B.o,zero,1,Out.form H.o,rfl⟩
 ·have c:=last_at hab hb
  have I:a.length+(b.length+1)=s.size:=by rw[<- p,hab]; simp
  have m:Hid _:=hab;have C:s.extract 0 a.length=⟨a.toArray⟩:=lj (by rw[jL,hab]; simp)
  have D:s.extract (a.length+1) s.size=⟨b.toArray⟩:=lj (by rw[jL,hab,<- I,show a.length+(b.length+1) - (a.length+1)=b.length by omega]; simp)
  have J:Hid _:=C;have L:Hid _:=D;clear C D;have E:Hid _:=hb;clear hab hb;go_enter func91,ntmps91
  go_wp2_with fail
  refine (strings_LastIndex_one s ⟨#[46]⟩ rfl (by omega) _).mono ?_
  rintro e w1 ⟨rfl,rfl⟩;have g:Lib.lastIndexByte s (((⟨#[46]⟩:ByteArray)[0]'(by decide)).toNat:Int)=a.length:=c
  rw[g];clear g c;go_wp2_with fail
  go_region
  rw[J.o,L.o];have j:Hid _:=B.o.drew;have r:=R.o.below j.o rfl;go_wp2_with fail
  refine (sb ⟨a.toArray⟩ _ (by simp[ByteArray.size]; omega) r).mono ?_
  rintro e w2 ⟨hb2,⟨t,rfl,htm,htb⟩ | ⟨rfl,hbad⟩⟩
  ·obtain⟨hc,hf⟩:=sa hb2
   have f:Hid _:=j.o.trans (hb2.mono j.o.size);have F:w.heap.size<w2.heap.size:=by have:=hb2.size; simp at this; omega
   have M:w.heap.size≠w2.heap.size:=by omega
   have z:w.heap.size<w2.heap.size+1:=by omega
   clear hb2 r;unfold aL;simp only;go_wp2_with fail
   have H:Hid (∀t' tag',Tok.j1 s.data.toList t' tag'->t'=t∧tag'=b):=by
    intro t' tag' h;have e:=m.o.symm.trans h.2.2;obtain⟨e1,e2⟩:=iI e E.o (eq h.2.1);exact⟨qI h.1 htm (by rw[<- e1,htb]),e2.symm⟩
   have N:Hid _:=htm;have o:Hid _:=htb;clear htm htb;refine (Ab ⟨b.toArray⟩ _ (by simp[ByteArray.size]; omega)).mono ?_
   rintro e w3 ⟨rfl,rfl⟩;by_cases hx:kE b
   ·have k:fG (⟨b.toArray⟩:ByteArray).data.toList=true:=qJ hx
    rw[k];have O:Hid _:=hx;clear k hx;go_wp2_with fail
    refine (kP key a _ (by omega)).mono ?_
    rintro e w4 ⟨rfl,hb4⟩;obtain⟨hc4,hf4⟩:=sa hb4;have G:Hid _:=(f.o.alloc f.o.size _).trans (hb4.mono (Nat.le_trans f.o.size (by simp)))
    have U:w2.heap.size<w4.heap.size:=by have:=hb4.size; simp at this; omega
    clear hb4;go_wp2_with fail
    refine (mw ⟨b.toArray⟩ ⟨(tag key a).toArray⟩ _ (by simp[ByteArray.size]; omega) (by simp[ByteArray.size,lH])).mono ?_
    rintro e w5 ⟨rfl,d5,rfl⟩;by_cases hg:b=tag key a
    ·have k:decide ((⟨b.toArray⟩:ByteArray).data.toList=(⟨(tag key a).toArray⟩:ByteArray).data.toList)=true:=decide_eq_true hg
     rw[k];have A:Hid (Out (tag key) s.data.toList t 0):=Out.good t b ⟨N.o,O.o,by rw[m.o,o.o]⟩ (by rw[o.o]; exact hg)
     clear k hg;go_wp2_with fail
     exact bodyPost_ret (v:=.tuple #[aL t,.nilIface]) (by simp[results,results91,go_sem,aL,hc4,hc,F,z]) rfl ⟨(((((below_drewN G.o _).setCell (Nat.le_refl _) _).setCell (Nat.le_refl _) _).setCell (Nat.le_refl _) _).setCell (Nat.le_refl _) _),t,0,A.o,rfl⟩
    ·have k:decide ((⟨b.toArray⟩:ByteArray).data.toList=(⟨(tag key a).toArray⟩:ByteArray).data.toList)=false:=decide_eq_false hg
     rw[k];have A:Hid (Out (tag key) s.data.toList zero 2):=Out.name t b ⟨N.o,O.o,by rw[m.o,o.o]⟩ (by rw[o.o]; exact hg)
     clear k hg;go_wp2_with fail
     exact bodyPost_ret (v:=.tuple #[aL zero,.iface 47 (.i_ 5)]) (by simp[results,results91,go_sem,aL,zero,hc4,hc,F,z]) rfl ⟨(((((below_drewN G.o _).setCell (Nat.le_refl _) _).setCell (Nat.le_refl _) _).setCell (Nat.le_refl _) _).setCell (Nat.le_refl _) _),zero,2,A.o,rfl⟩
   ·have k:fG (⟨b.toArray⟩:ByteArray).data.toList=false:=lT hx
    rw[k];have A:Hid (Out (tag key) s.data.toList zero 1):=Out.form (fun t' tag' h=>hx ((H.o t' tag' h).2 ▸ h.2.1));clear k hx;go_wp2_with fail
    exact bodyPost_ret (v:=.tuple #[aL zero,.iface 47 (.i_ 3)]) (by simp[results,results91,go_sem,aL,zero,hc,F]) rfl ⟨((((f.o.setCell (Nat.le_refl _) _).setCell (Nat.le_refl _) _).setCell (Nat.le_refl _) _).setCell (Nat.le_refl _) _).alloc (by simpa using f.o.size) _,zero,1,A.o,rfl⟩
  ·obtain⟨hc,hf⟩:=sa hb2
   have f:Hid _:=j.o.trans (hb2.mono j.o.size);have F:w.heap.size<w2.heap.size:=by have:=hb2.size; simp at this; omega
   have M:w.heap.size≠w2.heap.size:=by omega
   have z:w.heap.size<w2.heap.size+1:=by omega
   clear hb2 r;unfold aL zero;simp only;go_wp2_with fail
   have A:Hid (Out (tag key) s.data.toList zero 1):=Out.form (fun t' tag' h=>by
    have e:=m.o.symm.trans h.2.2;obtain⟨e1,e2⟩:=iI e E.o (eq h.2.1);exact hbad t' h.1 e1.symm)
   clear hbad;exact bodyPost_ret (v:=.tuple #[aL zero,.iface 47 (.i_ 3)]) (by simp[results,results91,go_sem,aL,zero,hc,F]) rfl ⟨((((f.o.setCell (Nat.le_refl _) _).setCell (Nat.le_refl _) _).setCell (Nat.le_refl _) _).setCell (Nat.le_refl _) _).alloc (by simpa using f.o.size) _,zero,1,A.o,rfl⟩
open Go Sc Ev RegD
attribute [local go_sem] rA oA
structure eD (w:World) (gv gs:Nat) (r:Rul):Prop where
 c0:w.cell? ⟨gv,0,none⟩=some (.pointer (some ⟨gs,0,none⟩))
 c1:w.cell? ⟨gv,1,none⟩=some (.int .i64 r.key)
 c2:w.cell? ⟨gv,2,none⟩=some (.int .i64 r.idle)
 c3:w.cell? ⟨gv,3,none⟩=some (.int .i64 r.life)
 c4:w.cell? ⟨gv,4,none⟩=some (.int .i64 r.access)
 lt:gv<w.heap.size
variable {gs gv:Nat}{r:Rul}{w w':World}
theorem eD.keep{l:List Nat}(h:eD w gv gs r)(hk:af l w w')(hn:gv∉l):eD w' gv gs r:=by
 have b:∀i,w'.cell? (a_ gv i)=w.c_ gv i:=fun i=>hk.cell (p:=(a_ gv i)) h.lt hn;exact⟨(b 0).trans h.c0,(b 1).trans h.c1,(b 2).trans h.c2,(b 3).trans h.c3,(b 4).trans h.c4,Fd h.lt hk.size⟩
theorem eD.on(h:eD w gv gs r)(hb:Below w.heap.size w w'):eD w' gv gs r:=h.keep (af.of [] hb) (by simp)
def txtB(r:Rul)(t:T):ByteArray:=⟨(ip r.key t).toArray⟩
def bE(n:Nat):Prop:=xz n∧rX n
theorem av.belowO{B:Nat}(h:av w)(hb:Below B w w')(ho:bE B):av w' where
 base:=h.base.below hb ho.1
 big:=h.big.le hb.size
 len:=by
  obtain⟨m,hm⟩:=h.len;exact⟨m,(hb.cell (p:=(a_ 2 0)) ho.2.1).trans hm⟩
 syn:=by
  obtain⟨m,hm,k⟩:=h.syn;exact⟨m,(hb.cell (p:=(a_ 4 0)) ho.2.2.1).trans hm,k⟩
 rng:=by
  obtain⟨m,hm,k⟩:=h.rng;exact⟨m,(hb.cell (p:=(a_ 5 0)) ho.2.2.2).trans hm,k⟩
theorem av.on(h:av w)(hb:Below w.heap.size w w'):av w':=h.below hb rfl
structure be (N:Nat) (w:World) (gv gs gd:Nat) (r:Rul) (p:Pub) (v:Value):Prop where
 sp:SP N w gs gd p v
 box:eD w gv gs r
 libs:av w
 rul:fA r
 ord:gs<gv
 out:az v gv
 old:bE gd
theorem be.on{N:Nat}{w w':World}{gv gs gd:Nat}{r:Rul}{p:Pub}{v:Value}(h:be N w gv gs gd r p v)(hb:Below w.heap.size w w'):be N w' gv gs gd r p v:=
 ⟨h.sp.on hb,h.box.on hb,h.libs.on hb,h.rul,h.ord,h.out,h.old⟩
theorem be.to{N:Nat}{gd:Nat}{p q:Pub}{v v':Value}(h:be N w gv gs gd r p v)(ht:aD N gs gd v w w' q v'):be (N+22) w' gv gs gd r q v':=by
 have h1:=h.sp.ord;have h2:=h.sp.lt;have h3:=h.ord;exact⟨ht.prog,h.box.keep ht.keep (by simp; omega),h.libs.belowO (ht.keep.below (B:=gd) (by omega) (fun x hx=>by simp at hx; omega)) h.old,h.rul,h.ord,ht.notIn h.out h.box.lt,h.old⟩
theorem be.mono{N M:Nat}{w:World}{gv gs gd:Nat}{r:Rul}{p:Pub}{v:Value}(h:be N w gv gs gd r p v)(hm:N<=M):be M w gv gs gd r p v:=⟨h.sp.mono hm,h.box,h.libs,h.rul,h.ord,h.out,h.old⟩
theorem Ad(w:World)(gv gs:Nat)(r:Rul)(f:Fam)(now:Int)(hA:eD w gv gs r)(hr:fA r)(hf:bP f):
 Calls prog 89 #[p_ gv 0,ap f,.i_ now] w fun e w'=>e=.returned (.bool (dR r now f))∧Below w.heap.size w w':=by
 obtain⟨f1,f2,f3,f4,f5,f6,f7,f8,f9⟩:=f;have g:J (Below w.heap.size w (w.alloc (.cells (F_ f1 f2 f3 f4 f5 f6 f7 f8 f9) 40))):=(E9 _ _).alloc (Fa _) _;have k:J (FB (w.alloc (.cells (F_ f1 f2 f3 f4 f5 f6 f7 f8 f9) 40)) w.heap.size ⟨f1,f2,f3,f4,f5,f6,f7,f8,f9⟩):=FB.made w ⟨f1,f2,f3,f4,f5,f6,f7,f8,f9⟩ _;have m:J _:=hA.on g.o;have p:J _:=hf.1.2.2.2;have n:J _:=hf.1.2.2.1;have b:J _:=hr;have q:=hA.lt;unfold ap ac;simp only;by_cases h1:aZ f7 r.idle<now
 ·have o:J (dR r now ⟨f1,f2,f3,f4,f5,f6,f7,f8,f9⟩=true):=by show _=true; unfold dR; simp[h1]
  go_enter func89,ntmps89
  go_upto_region 1 with fail;refine region_ (fun W=>FB W w.heap.size ⟨f1,f2,f3,f4,f5,f6,f7,f8,f9⟩∧eD W gv gs r) 22 ⟨k.o.on (E9 _ _).drew,m.o.on (E9 _ _).drew⟩ fun hH=>?_;refine RegD.take1 0 (.i_ now) rfl hH (fun W hW=>by go_simp) ?_;simp only[Act.put,pS1,pS2,pS3];refine RegD.take1 1 (p_ w.heap.size 6) rfl hH (fun W hW=>by go_simp) ?_;simp only[Act.put,pS1,pS2,pS3];refine RegD.take1 2 (.i_ f7) rfl hH (fun W hW=>by have j:=hW.1.c6; go_simp) ?_
  simp only[Act.put,pS1,pS2,pS3];refine RegD.take1 3 (p_ gv 0) rfl hH (fun W hW=>by go_simp) ?_;simp only[Act.put,pS1,pS2,pS3];refine RegD.take1 4 (p_ gv 0) rfl hH (fun W hW=>by go_simp) ?_;simp only[Act.put,pS1,pS2,pS3];refine RegD.take1 5 (p_ gv 1) rfl hH (fun W hW=>by go_simp) ?_;simp only[Act.put,pS1,pS2,pS3];refine RegD.take1 6 (p_ gv 2) rfl hH (fun W hW=>by go_simp) ?_;simp only[Act.put,pS1,pS2,pS3];refine RegD.take1 7 (.i_ r.idle) rfl hH (fun W hW=>by have j:=hW.2.c2; go_simp) ?_
  simp only[Act.put,pS1,pS2,pS3];refine one_ 8 ?_; intro K hK; go_simp;go_at_call 82;refine (eY _ _ p.o b.o.idle _).mono ?_;rintro e1 w1 ⟨rfl,rfl⟩;go_wp2_with fail;refine hK.out _ _ (hH) ?_;intro hH;refine RegD.take1 9 (.bool true) rfl hH (fun W hW=>by go_simp) ?_;simp only[Act.put,pS1,pS2,pS3];refine RegD.take1 10 (.bool true) rfl hH (fun W hW=>by go_simp) ?_;simp only[Act.put,pS1,pS2,pS3];refine tk1 11 (v:=undef) rfl (by kernel_rfl) (fun _ _ _ h=>h) (.inr ⟨by rfl,rfl⟩) hH ?_;simp only[Act.put,pS1,pS2,pS3];refine tk1 12 (v:=undef) rfl (by kernel_rfl) (fun _ _ _ h=>h) (.inr ⟨by rfl,rfl⟩) hH ?_;simp only[Act.put,pS1,pS2,pS3];refine tk1 13 (v:=undef) rfl (by kernel_rfl) (fun _ _ _ h=>h) (.inr ⟨by rfl,rfl⟩) hH ?_;simp only[Act.put,pS1,pS2,pS3];refine tk1 14 (v:=undef) rfl (by kernel_rfl) (fun _ _ _ h=>h) (.inr ⟨by rfl,rfl⟩) hH ?_;simp only[Act.put,pS1,pS2,pS3];refine tk1 15 (v:=undef) rfl (by kernel_rfl) (fun _ _ _ h=>h) (.inr ⟨by rfl,rfl⟩) hH ?_;simp only[Act.put,pS1,pS2,pS3];refine tk1 16 (v:=undef) rfl (by kernel_rfl) (fun _ _ _ h=>h) (.inr ⟨by rfl,rfl⟩) hH ?_;simp only[Act.put,pS1,pS2,pS3];refine tk1 17 (v:=undef) rfl (by kernel_rfl) (fun _ _ _ h=>h) (.inr ⟨by rfl,rfl⟩) hH ?_;simp only[Act.put,pS1,pS2,pS3];refine tk1 18 (v:=undef) rfl (by kernel_rfl) (fun _ _ _ h=>h) (.inr ⟨by rfl,rfl⟩) hH ?_
  simp only[Act.put,pS1,pS2,pS3];refine tk1 19 (v:=undef) rfl (by kernel_rfl) (fun _ _ _ h=>h) (.inr ⟨by rfl,rfl⟩) hH ?_;simp only[Act.put,pS1,pS2,pS3];refine tk1 20 (v:=undef) rfl (by kernel_rfl) (fun _ _ _ h=>h) (.inr ⟨by rfl,rfl⟩) hH ?_;simp only[Act.put,pS1,pS2,pS3];refine RegD.take1 21 (.bool true) rfl hH (fun W hW=>by go_simp) ?_;simp only[Act.put,pS1,pS2,pS3];have c:J _:=g.o.drew;refine late_ 22 ?_; intro K hK; go_simp;refine hK.out _ _ ?_;refine done_ ?_;go_wp2_with fail;go_ret;exact⟨by rw[o.o]; rfl,c.o⟩
 ·by_cases h2:aZ f6 r.life<now
  ·have o:J (dR r now ⟨f1,f2,f3,f4,f5,f6,f7,f8,f9⟩=true):=by show _=true; unfold dR; simp[h2]
   go_enter func89,ntmps89
   go_upto_region 1 with fail;refine region_ (fun W=>FB W w.heap.size ⟨f1,f2,f3,f4,f5,f6,f7,f8,f9⟩∧eD W gv gs r) 22 ⟨k.o.on (E9 _ _).drew,m.o.on (E9 _ _).drew⟩ fun hH=>?_;refine RegD.take1 0 (.i_ now) rfl hH (fun W hW=>by go_simp) ?_;simp only[Act.put,pS1,pS2,pS3];refine RegD.take1 1 (p_ w.heap.size 6) rfl hH (fun W hW=>by go_simp) ?_;simp only[Act.put,pS1,pS2,pS3];refine RegD.take1 2 (.i_ f7) rfl hH (fun W hW=>by have j:=hW.1.c6; go_simp) ?_
   simp only[Act.put,pS1,pS2,pS3];refine RegD.take1 3 (p_ gv 0) rfl hH (fun W hW=>by go_simp) ?_;simp only[Act.put,pS1,pS2,pS3];refine RegD.take1 4 (p_ gv 0) rfl hH (fun W hW=>by go_simp) ?_;simp only[Act.put,pS1,pS2,pS3];refine RegD.take1 5 (p_ gv 1) rfl hH (fun W hW=>by go_simp) ?_;simp only[Act.put,pS1,pS2,pS3];refine RegD.take1 6 (p_ gv 2) rfl hH (fun W hW=>by go_simp) ?_;simp only[Act.put,pS1,pS2,pS3];refine RegD.take1 7 (.i_ r.idle) rfl hH (fun W hW=>by have j:=hW.2.c2; go_simp) ?_
   simp only[Act.put,pS1,pS2,pS3];refine one_ 8 ?_; intro K hK; go_simp;go_at_call 82;refine (eY _ _ p.o b.o.idle _).mono ?_;rintro e1 w1 ⟨rfl,rfl⟩;go_wp2_with fail;refine hK.out _ _ (hH) ?_;intro hH;refine RegD.take1 9 (.bool false) rfl hH (fun W hW=>by go_simp) ?_;simp only[Act.put,pS1,pS2,pS3];refine RegD.take1 10 (.bool false) rfl hH (fun W hW=>by go_simp) ?_;simp only[Act.put,pS1,pS2,pS3];refine RegD.take1 11 (.i_ now) rfl hH (fun W hW=>by go_simp) ?_;simp only[Act.put,pS1,pS2,pS3];refine RegD.take1 12 (p_ w.heap.size 5) rfl hH (fun W hW=>by go_simp) ?_;simp only[Act.put,pS1,pS2,pS3];refine RegD.take1 13 (.i_ f6) rfl hH (fun W hW=>by have j:=hW.1.c5; go_simp) ?_
   simp only[Act.put,pS1,pS2,pS3];refine RegD.take1 14 (p_ gv 0) rfl hH (fun W hW=>by go_simp) ?_;simp only[Act.put,pS1,pS2,pS3];refine RegD.take1 15 (p_ gv 0) rfl hH (fun W hW=>by go_simp) ?_;simp only[Act.put,pS1,pS2,pS3];refine RegD.take1 16 (p_ gv 1) rfl hH (fun W hW=>by go_simp) ?_;simp only[Act.put,pS1,pS2,pS3];refine RegD.take1 17 (p_ gv 3) rfl hH (fun W hW=>by go_simp) ?_;simp only[Act.put,pS1,pS2,pS3];refine RegD.take1 18 (.i_ r.life) rfl hH (fun W hW=>by have j:=hW.2.c3; go_simp) ?_
   simp only[Act.put,pS1,pS2,pS3];refine one_ 19 ?_; intro K hK; go_simp;go_at_call 82;refine (eY _ _ n.o b.o.life _).mono ?_;rintro e2 w2 ⟨rfl,rfl⟩;go_wp2_with fail;refine hK.out _ _ (hH) ?_;intro hH;refine RegD.take1 20 (.bool true) rfl hH (fun W hW=>by go_simp) ?_;simp only[Act.put,pS1,pS2,pS3];refine RegD.take1 21 (.bool true) rfl hH (fun W hW=>by go_simp) ?_;simp only[Act.put,pS1,pS2,pS3];have c:J _:=g.o.drew;refine late_ 22 ?_; intro K hK; go_simp;refine hK.out _ _ ?_;refine done_ ?_;go_wp2_with fail;go_ret;exact⟨by rw[o.o]; rfl,c.o⟩
  ·have o:J (dR r now ⟨f1,f2,f3,f4,f5,f6,f7,f8,f9⟩=false):=by show _=false; unfold dR; simp[h1,h2]
   go_enter func89,ntmps89
   go_upto_region 1 with fail;refine region_ (fun W=>FB W w.heap.size ⟨f1,f2,f3,f4,f5,f6,f7,f8,f9⟩∧eD W gv gs r) 22 ⟨k.o.on (E9 _ _).drew,m.o.on (E9 _ _).drew⟩ fun hH=>?_;refine RegD.take1 0 (.i_ now) rfl hH (fun W hW=>by go_simp) ?_;simp only[Act.put,pS1,pS2,pS3];refine RegD.take1 1 (p_ w.heap.size 6) rfl hH (fun W hW=>by go_simp) ?_;simp only[Act.put,pS1,pS2,pS3];refine RegD.take1 2 (.i_ f7) rfl hH (fun W hW=>by have j:=hW.1.c6; go_simp) ?_
   simp only[Act.put,pS1,pS2,pS3];refine RegD.take1 3 (p_ gv 0) rfl hH (fun W hW=>by go_simp) ?_;simp only[Act.put,pS1,pS2,pS3];refine RegD.take1 4 (p_ gv 0) rfl hH (fun W hW=>by go_simp) ?_;simp only[Act.put,pS1,pS2,pS3];refine RegD.take1 5 (p_ gv 1) rfl hH (fun W hW=>by go_simp) ?_;simp only[Act.put,pS1,pS2,pS3];refine RegD.take1 6 (p_ gv 2) rfl hH (fun W hW=>by go_simp) ?_;simp only[Act.put,pS1,pS2,pS3];refine RegD.take1 7 (.i_ r.idle) rfl hH (fun W hW=>by have j:=hW.2.c2; go_simp) ?_
   simp only[Act.put,pS1,pS2,pS3];refine one_ 8 ?_; intro K hK; go_simp;go_at_call 82;refine (eY _ _ p.o b.o.idle _).mono ?_;rintro e1 w1 ⟨rfl,rfl⟩;go_wp2_with fail;refine hK.out _ _ (hH) ?_;intro hH;refine RegD.take1 9 (.bool false) rfl hH (fun W hW=>by go_simp) ?_;simp only[Act.put,pS1,pS2,pS3];refine RegD.take1 10 (.bool false) rfl hH (fun W hW=>by go_simp) ?_;simp only[Act.put,pS1,pS2,pS3];refine RegD.take1 11 (.i_ now) rfl hH (fun W hW=>by go_simp) ?_;simp only[Act.put,pS1,pS2,pS3];refine RegD.take1 12 (p_ w.heap.size 5) rfl hH (fun W hW=>by go_simp) ?_;simp only[Act.put,pS1,pS2,pS3];refine RegD.take1 13 (.i_ f6) rfl hH (fun W hW=>by have j:=hW.1.c5; go_simp) ?_
   simp only[Act.put,pS1,pS2,pS3];refine RegD.take1 14 (p_ gv 0) rfl hH (fun W hW=>by go_simp) ?_;simp only[Act.put,pS1,pS2,pS3];refine RegD.take1 15 (p_ gv 0) rfl hH (fun W hW=>by go_simp) ?_;simp only[Act.put,pS1,pS2,pS3];refine RegD.take1 16 (p_ gv 1) rfl hH (fun W hW=>by go_simp) ?_;simp only[Act.put,pS1,pS2,pS3];refine RegD.take1 17 (p_ gv 3) rfl hH (fun W hW=>by go_simp) ?_;simp only[Act.put,pS1,pS2,pS3];refine RegD.take1 18 (.i_ r.life) rfl hH (fun W hW=>by have j:=hW.2.c3; go_simp) ?_
   simp only[Act.put,pS1,pS2,pS3];refine one_ 19 ?_; intro K hK; go_simp;go_at_call 82;refine (eY _ _ n.o b.o.life _).mono ?_;rintro e2 w2 ⟨rfl,rfl⟩;go_wp2_with fail;refine hK.out _ _ (hH) ?_;intro hH;refine RegD.take1 20 (.bool false) rfl hH (fun W hW=>by go_simp) ?_;simp only[Act.put,pS1,pS2,pS3];refine RegD.take1 21 (.bool false) rfl hH (fun W hW=>by go_simp) ?_;simp only[Act.put,pS1,pS2,pS3];have c:J _:=g.o.drew;refine late_ 22 ?_; intro K hK; go_simp;refine hK.out _ _ ?_;refine done_ ?_;go_wp2_with fail;go_ret;exact⟨by rw[o.o]; rfl,c.o⟩
theorem bc(N:Nat)(w:World)(gv gs gd:Nat)(r:Rul)(p:Pub)(v:Value)(h:be N w gv gs gd r p v):
 Calls prog 43 #[p_ gv 0] w fun e w'=>∃v',e=.returned (stV p.st.clock p.st.next v')∧ah w.heap.size w' v' p.st.fams∧Below w.heap.size w w':=by
 have c:J (Below w.heap.size w (w.alloc (.cells (S_ 0 0 none 0 0) 36))):=(E9 _ _).alloc (Fa _) _;have f:J _:=h.on c.o;have c0:=f.o.box.c0;have A:∀i,(w.alloc (.cells (S_ 0 0 none 0 0) 36)).cell? (a_ w.heap.size i)=((S_ 0 0 none 0 0):Array Value)[i]?:=fun i=>Fb _ _ _ _ rfl;have m:J _:=A;have n:∀i,(w.alloc (.cells (S_ 0 0 none 0 0) 36)).frozen? (a_ w.heap.size i)=false:=fun i=>Ff _ _ _ _ rfl;have o:J _:=n;have B:(w.alloc (.cells (S_ 0 0 none 0 0) 36)).heap.size=w.heap.size+1:=by simp
 have g:J _:=B;unfold stV;go_enter func43,ntmps43
 go_wp2_with fail
 refine (xu _ _ _ _ _ _ f.o.sp).mono ?_;rintro e1 w1 ⟨v1,rfl,hf1,hb1⟩;obtain⟨b1,c1,rfl⟩:=ag.slice hf1;unfold stV;have q:J _:=c.o.trans (hb1.mono c.o.size);have b:w.heap.size<(w.alloc (.cells (S_ 0 0 none 0 0) 36)).heap.size:=by rw[g.o]; omega
 have C:=(hb1.cell (p:=(a_ w.heap.size 0)) b).trans ((m.o 0).trans rfl);have D:=(hb1.cell (p:=(a_ w.heap.size 1)) b).trans ((m.o 1).trans rfl);have E:=(hb1.cell (p:=(a_ w.heap.size 2)) b).trans ((m.o 2).trans rfl);have zf:∀i,w1.frozen? (a_ w.heap.size i)=false:=fun i=>(hb1.frozen (p:=(a_ w.heap.size i)) b).trans (o.o i);have s:J (ah (w.heap.size+1) w1 (.slice b1 p.st.fams.length c1) p.st.fams):=by rw[<- g.o]; exact hf1
 have t:J (Below w.heap.size w (((w1.setCell (a_ w.heap.size 0) (.i_ p.st.clock)).setCell (a_ w.heap.size 1) (.i_ p.st.next)).setCell (a_ w.heap.size 2) (.slice b1 p.st.fams.length c1))):=q.o.trans (gJ _ 0 1 2 _ _ _ _)
 have z:J (ah w.heap.size (((w1.setCell (a_ w.heap.size 0) (.i_ p.st.clock)).setCell (a_ w.heap.size 1) (.i_ p.st.next)).setCell (a_ w.heap.size 2) (.slice b1 p.st.fams.length c1)) (.slice b1 p.st.fams.length c1) p.st.fams):=
  ag.mono (((s.o.other (a:=(a_ w.heap.size 0)) (Fj _) _).other (a:=(a_ w.heap.size 1)) (Fj _) _).other (a:=(a_ w.heap.size 2)) (Fj _) _) (FC _)
 obtain⟨q0,q1,q2⟩:=@bB w1 w.heap.size (.i_ p.st.clock) (.i_ p.st.next) (.slice b1 p.st.fams.length c1) _ _ _ C D E;go_wp2_with fail
 have j:=t.o;have k:=z.o;generalize World.setCell _ (a_ w.heap.size 2) _=WW at *;exact bodyPost_ret (v:=.agg (S_ p.st.clock p.st.next b1 p.st.fams.length c1)) (by simp[results,results43,go_sem,q0,q1,q2]) rfl ⟨_,rfl,k,j⟩
theorem mP(N:Nat)(w:World)(gv gs gd:Nat)(r:Rul)(p:Pub)(v:Value)(f:Fam)(h:be N w gv gs gd r p v)(hf:bP f):
 Calls prog 77 #[p_ gv 0,ap f] w fun e w'=>e=.returned (.tuple #[.string (txtB r ⟨1,f.id,f.gen,0⟩),.nilIface])∧Below w.heap.size w w':=by
 have c:Tok.may ⟨1,f.id,f.gen,0⟩:=⟨.inl ⟨rfl,rfl⟩,hf.1.1,hf.1.2.1⟩;obtain⟨f1,f2,f3,f4,f5,f6,f7,f8,f9⟩:=f;have b:J (Below w.heap.size w (w.alloc (.cells (F_ f1 f2 f3 f4 f5 f6 f7 f8 f9) 40))):=(E9 _ _).alloc (Fa _) _;have g:J (FB (w.alloc (.cells (F_ f1 f2 f3 f4 f5 f6 f7 f8 f9) 40)) w.heap.size ⟨f1,f2,f3,f4,f5,f6,f7,f8,f9⟩):=FB.made w ⟨f1,f2,f3,f4,f5,f6,f7,f8,f9⟩ _;have j:J _:=h.box.on b.o;have k:J (∀(W:World),Below (w.alloc (.cells (F_ f1 f2 f3 f4 f5 f6 f7 f8 f9) 40)).drew.heap.size (w.alloc (.cells (F_ f1 f2 f3 f4 f5 f6 f7 f8 f9) 40)).drew W->Calls prog 81 #[.i_ r.key,.agg (Q_ 1 f1 f5 0)] W fun e w'=>e=.returned (.tuple #[.string (txtB r ⟨1,f1,f5,0⟩),.nilIface])∧Below W.heap.size W w'):=fun W hW=>jp r.key ⟨1,f1,f5,0⟩ W c (((h.libs.on b.o).on (E9 _ _).drew).on hW).base;unfold ap ac;simp only
 go_enter func77,ntmps77
 go_upto_region 1 with fail
 refine region_ (fun W=>FB W w.heap.size ⟨f1,f2,f3,f4,f5,f6,f7,f8,f9⟩∧eD W gv gs r) 14 ⟨g.o.on (E9 _ _).drew,j.o.on (E9 _ _).drew⟩ fun hH=>?_;refine an [(0,p_ gv 0),(1,p_ gv 0),(2,p_ gv 1),(3,p_ gv 1),(4,.i_ r.key),(5,p_ w.heap.size 0),(6,.i_ f1),(7,p_ w.heap.size 4),(8,.i_ f5),(9,.agg (Q_ 1 f1 f5 0))] hH (fun W hW=>by have n:=hW.2.c1; have n:=hW.1.c0; have n:=hW.1.c4;go_simp) ?_;simp only[pA,oA,Act.put,pS1]
 refine one_ 10 ?_; intro K hK; go_simp;go_at_call 81
 refine (k.o _ (E9 _ _)).mono ?_;rintro e1 w1 ⟨rfl,hb1⟩;go_wp2_with fail
 have m:J _:=b.o.drew.trans (hb1.mono (by simp))
 refine hK.out _ _ (⟨hH.1.on hb1,hH.2.on hb1⟩) ?_;intro hH;refine an [(11,.string (txtB r ⟨1,f1,f5,0⟩)),(12,.nilIface),(13,.string (txtB r ⟨1,f1,f5,0⟩))] hH (fun W hW=>by go_simp) ?_;simp only[pA,oA,Act.put,pS1]
 refine late_ 14 ?_; intro K hK; go_simp;refine hK.out _ _ ?_;refine done_ ?_;go_wp2_with fail
 go_ret2;exact⟨rfl,m.o⟩
theorem sd(N:Nat)(w:World)(gv gs gd:Nat)(r:Rul)(p:Pub)(v:Value)(f:Fam)(h:be N w gv gs gd r p v)(hf:Ev.may (aI f))(hN:N<99000):
 Calls prog 130 #[p_ gv 0,ap f] w fun e w'=>e=.returned (aB (addP p (aI f) true).2)∧∃v',aD N gs gd v w w' (addP p (aI f) true).1 v':=by
 obtain⟨f1,f2,f3,f4,f5,f6,f7,f8,f9⟩:=f;have c:J (Below w.heap.size w (w.alloc (.cells (F_ f1 f2 f3 f4 f5 f6 f7 f8 f9) 40))):=(E9 _ _).alloc (Fa _) _;have j:J (FB (w.alloc (.cells (F_ f1 f2 f3 f4 f5 f6 f7 f8 f9) 40)) w.heap.size ⟨f1,f2,f3,f4,f5,f6,f7,f8,f9⟩):=FB.made w ⟨f1,f2,f3,f4,f5,f6,f7,f8,f9⟩ _;have k:J _:=h.box.on c.o;have m:J (w.heap.size≠gd∧w.heap.size≠gs):=by have t:=h.sp.lt; have z:=h.sp.ord; show _∧_; omega
 have o:J (gv≠gd∧gv≠gs):=by have t:=h.ord; have z:=h.sp.ord; show _∧_; omega
 have g:=pQ N (w.alloc (.cells (F_ f1 f2 f3 f4 f5 f6 f7 f8 f9) 40)).drew gs gd p v (aI ⟨f1,f2,f3,f4,f5,f6,f7,f8,f9⟩) hf ((h.sp.on c.o).on (E9 _ _).drew) hN;have b:J (∀_:Unit,Calls prog 17 #[p_ gs 0,.agg (E_ 1 f1 f2 f3 f4 f5 f6 f7 f8 f9 0 0)] (w.alloc (.cells (F_ f1 f2 f3 f4 f5 f6 f7 f8 f9) 40)).drew fun e w'=>e=.returned (aB (addP p (aI ⟨f1,f2,f3,f4,f5,f6,f7,f8,f9⟩) true).2)∧∃v',aD N gs gd v (w.alloc (.cells (F_ f1 f2 f3 f4 f5 f6 f7 f8 f9) 40)).drew w' (addP p (aI ⟨f1,f2,f3,f4,f5,f6,f7,f8,f9⟩) true).1 v'):=fun _=>g;unfold ap ac;simp only;generalize addP p (aI ⟨f1,f2,f3,f4,f5,f6,f7,f8,f9⟩) true=Q at *;obtain⟨q,n⟩:=Q;simp only at b ⊢;go_enter func130,ntmps130
 go_upto_region 1 with fail
 refine region_ (fun W=>FB W w.heap.size ⟨f1,f2,f3,f4,f5,f6,f7,f8,f9⟩∧eD W gv gs r) 7 ⟨j.o.on (E9 _ _).drew,k.o.on (E9 _ _).drew⟩ fun hH=>?_;refine an [(0,p_ gv 0),(1,p_ gv 0),(2,p_ gv 0),(3,p_ gs 0),(4,.agg (F_ f1 f2 f3 f4 f5 f6 f7 f8 f9)),(5,.agg (E_ 1 f1 f2 f3 f4 f5 f6 f7 f8 f9 0 0))] hH (fun W hW=>by have A:=hW.2.c0; have A:=hW.1.c0; have a1:=hW.1.c1; have a2:=hW.1.c2; have a3:=hW.1.c3; have a4:=hW.1.c4; have a5:=hW.1.c5; have a6:=hW.1.c6; have a7:=hW.1.c7; have a8:=hW.1.c8;go_simp) ?_;simp only[pA,oA,Act.put,pS1]
 refine one_ 6 ?_; intro K hK; go_simp;go_at_call 17
 refine (b.o ()).mono ?_;rintro e1 w1 ⟨rfl,v1,hto⟩;have s:J _:=aD.pre c.o.drew hto;go_wp2_with fail
 refine hK.out _ _ (⟨hH.1.keep hto.keep (by have:=m.o; simp; omega),hH.2.keep hto.keep (by have:=o.o; simp; omega)⟩) ?_
 intro hH;refine late_ 7 ?_; intro K hK; go_simp;refine hK.out _ _ ?_;refine done_ ?_;go_wp2_with fail
 go_ret;exact⟨rfl,_,s.o⟩
theorem FB.dead{g:Nat}{f:Fam}(h:FB w g f):FB (w.setCell ⟨g,8,none⟩ (.bool true)) g (cz f):=
 ⟨al h.c0 (by decide),al h.c1 (by decide),al h.c2 (by decide),al h.c3 (by decide),al h.c4 (by decide),al h.c5 (by decide),al h.c6 (by decide),al h.c7 (by decide),World.cell?_setCell_same _ _ _ h.c8,by simpa using h.lt,fun i=>by rw[World.frozen?_setCell]; exact h.fz i⟩
theorem vT(N:Nat)(w:World)(gv gs gd:Nat)(r:Rul)(p:Pub)(v:Value)(f:Fam)(h:be N w gv gs gd r p v)(hf:Ev.may (aI f))(hN:N<98000):
 Calls prog 72 #[p_ gv 0,ap f] w fun e w'=>e=.returned (.tuple #[.string (giveM (txtB r) p f).2.1,aB (giveM (txtB r) p f).2.2])∧∃v',aD N gs gd v w w' (giveM (txtB r) p f).1 v':=by
 have k:bP f:=by
  rcases hf with ⟨-,j,-⟩ | ⟨j,-⟩ | ⟨j,-⟩
  ·exact j
  ·cases j
  ·cases j
 obtain⟨f1,f2,f3,f4,f5,f6,f7,f8,f9⟩:=f;have c:J (Below w.heap.size w (w.alloc (.cells (F_ f1 f2 f3 f4 f5 f6 f7 f8 f9) 40))):=(E9 _ _).alloc (Fa _) _;have m:J (FB (w.alloc (.cells (F_ f1 f2 f3 f4 f5 f6 f7 f8 f9) 40)) w.heap.size ⟨f1,f2,f3,f4,f5,f6,f7,f8,f9⟩):=FB.made w ⟨f1,f2,f3,f4,f5,f6,f7,f8,f9⟩ _;have o:J _:=h.on c.o;have b:J (∀_:Unit,Calls prog 130 #[p_ gv 0,.agg (F_ f1 f2 f3 f4 f5 f6 f7 f8 f9)] (w.alloc (.cells (F_ f1 f2 f3 f4 f5 f6 f7 f8 f9) 40)) fun e w'=>e=.returned (aB (addP p (aI ⟨f1,f2,f3,f4,f5,f6,f7,f8,f9⟩) true).2)∧∃v',aD N gs gd v (w.alloc (.cells (F_ f1 f2 f3 f4 f5 f6 f7 f8 f9) 40)) w' (addP p (aI ⟨f1,f2,f3,f4,f5,f6,f7,f8,f9⟩) true).1 v'):=fun _=>sd N (w.alloc (.cells (F_ f1 f2 f3 f4 f5 f6 f7 f8 f9) 40)) gv gs gd r p v ⟨f1,f2,f3,f4,f5,f6,f7,f8,f9⟩ o.o hf (by omega)
 have s:J (∀(W:World) (q:Pub) (v:Value),be (N+22) W gv gs gd r q v->Calls prog 77 #[p_ gv 0,.agg (F_ f1 f2 f3 f4 f5 f6 f7 f8 f9)] W fun e w'=>e=.returned (.tuple #[.string (txtB r ⟨1,f1,f5,0⟩),.nilIface])∧Below W.heap.size W w'):=fun W q v hW=>mP (N+22) W gv gs gd r q v ⟨f1,f2,f3,f4,f5,f6,f7,f8,f9⟩ hW k;have t:J (w.heap.size≠gd∧w.heap.size≠gs):=by have j:=h.sp.lt; have h2:=h.sp.ord; show _∧_; omega
 obtain⟨z0,z1,z2,z3,z4,z5,z6,z7,z8,-⟩:=m.o;simp only at z0 z1 z2 z3 z4 z5 z6 z7 z8;unfold giveM ap ac;simp only;clear h hf k;generalize addP p (aI ⟨f1,f2,f3,f4,f5,f6,f7,f8,f9⟩) true=Q at *;obtain⟨q,n⟩:=Q;simp only at b ⊢
 cases n with
 |zero=>
  rw[if_pos rfl];go_enter func72,ntmps72
  go_wp2_with fail
  refine (b.o ()).mono ?_;rintro e1 w1 ⟨rfl,v1,hto⟩;have z:J _:=hto;have A:J _:=o.o.to hto;have B:J _:=m.o.keep hto.keep (by have:=t.o; simp; omega)
  clear hto b z0 z1 z2 z3 z4 z5 z6 z7 z8;obtain⟨z0,z1,z2,z3,z4,z5,z6,z7,z8,-⟩:=B.o;simp only at z0 z1 z2 z3 z4 z5 z6 z7 z8;rw[show aB 0=.nilIface from rfl]
  go_wp2_with fail
  refine (s.o _ _ _ A.o).mono ?_;rintro e2 w2 ⟨rfl,hb2⟩;have g:J _:=(z.o.post hb2).pre c.o;clear hb2;go_wp2_with fail
  go_ret2;exact⟨rfl,_,g.o⟩
 |succ n=>
  rw[if_neg (by omega)]
  go_enter func72,ntmps72
  go_wp2_with fail
  refine (b.o ()).mono ?_;rintro e1 w1 ⟨rfl,v1,hto⟩;have g:J _:=hto.pre c.o;clear hto b;rw[aV];go_wp2_with fail
  go_ret2;exact⟨rfl,_,g.o⟩
theorem vU(N:Nat)(w:World)(gv gs gd:Nat)(r:Rul)(p:Pub)(v:Value)(f:Fam)(h:be N w gv gs gd r p v)(hf:bP f)(hN:N<98000):
 Calls prog 85 #[p_ gv 0,ap f] w fun e w'=>e=.returned (aB (addP p (aI (cz f)) true).2)∧∃v',aD N gs gd v w w' (addP p (aI (cz f)) true).1 v':=by
 have b:=mJ hf;obtain⟨f1,f2,f3,f4,f5,f6,f7,f8,f9⟩:=f;have c:J (Below w.heap.size w (w.alloc (.cells (F_ f1 f2 f3 f4 f5 f6 f7 f8 true) 40))):=(E9 _ _).alloc (Fa _) _;have g:J (FB (w.alloc (.cells (F_ f1 f2 f3 f4 f5 f6 f7 f8 f9) 40)) w.heap.size ⟨f1,f2,f3,f4,f5,f6,f7,f8,f9⟩):=FB.made w ⟨f1,f2,f3,f4,f5,f6,f7,f8,f9⟩ _;have k:J (FB (w.alloc (.cells (F_ f1 f2 f3 f4 f5 f6 f7 f8 true) 40)) w.heap.size ⟨f1,f2,f3,f4,f5,f6,f7,f8,true⟩):=FB.made w ⟨f1,f2,f3,f4,f5,f6,f7,f8,true⟩ _
 have j:J (∀_:Unit,Calls prog 130 #[p_ gv 0,.agg (F_ f1 f2 f3 f4 f5 f6 f7 f8 true)] (w.alloc (.cells (F_ f1 f2 f3 f4 f5 f6 f7 f8 true) 40)) fun e w'=>e=.returned (aB (addP p (aI ⟨f1,f2,f3,f4,f5,f6,f7,f8,true⟩) true).2)∧∃v',aD N gs gd v (w.alloc (.cells (F_ f1 f2 f3 f4 f5 f6 f7 f8 true) 40)) w' (addP p (aI ⟨f1,f2,f3,f4,f5,f6,f7,f8,true⟩) true).1 v'):=fun _=>sd N _ gv gs gd r p v ⟨f1,f2,f3,f4,f5,f6,f7,f8,true⟩ (h.on c.o) b (by omega)
 have n:=g.o.c8;have zf:=g.o.fz;obtain⟨y0,y1,y2,y3,y4,y5,y6,y7,y8,-⟩:=k.o;simp only at n y0 y1 y2 y3 y4 y5 y6 y7 y8;unfold cz ap ac;simp only;clear h hf b;generalize addP p (aI ⟨f1,f2,f3,f4,f5,f6,f7,f8,true⟩) true=Q at *;go_enter func85,ntmps85
 go_wp2_with fail
 refine (j.o ()).mono ?_;rintro e1 w1 ⟨rfl,v1,hto⟩;have m:J _:=hto.pre c.o;clear hto j;go_wp2_with fail
 go_ret;exact⟨rfl,_,m.o⟩
theorem Ae(N:Nat)(w:World)(gv gs gd:Nat)(r:Rul)(p:Pub)(v:Value)(f:Fam)(h:be N w gv gs gd r p v)(hf:bP f)(hN:N<98000):
 Calls prog 78 #[p_ gv 0,ap f] w fun e w'=>e=.returned (aB (spoilM p f).2.2)∧∃v',aD N gs gd v w w' (spoilM p f).1 v':=by
 obtain⟨f1,f2,f3,f4,f5,f6,f7,f8,f9⟩:=f;have c:J (Below w.heap.size w (w.alloc (.cells (F_ f1 f2 f3 f4 f5 f6 f7 f8 f9) 40))):=(E9 _ _).alloc (Fa _) _;have j:J (FB (w.alloc (.cells (F_ f1 f2 f3 f4 f5 f6 f7 f8 f9) 40)) w.heap.size ⟨f1,f2,f3,f4,f5,f6,f7,f8,f9⟩):=FB.made w ⟨f1,f2,f3,f4,f5,f6,f7,f8,f9⟩ _;have b:J (∀_:Unit,Calls prog 85 #[p_ gv 0,.agg (F_ f1 f2 f3 f4 f5 f6 f7 f8 f9)] (w.alloc (.cells (F_ f1 f2 f3 f4 f5 f6 f7 f8 f9) 40)) fun e w'=>e=.returned (aB (addP p (aI (cz ⟨f1,f2,f3,f4,f5,f6,f7,f8,f9⟩)) true).2)∧∃v',aD N gs gd v (w.alloc (.cells (F_ f1 f2 f3 f4 f5 f6 f7 f8 f9) 40)) w' (addP p (aI (cz ⟨f1,f2,f3,f4,f5,f6,f7,f8,f9⟩)) true).1 v'):=fun _=>vU N (w.alloc (.cells (F_ f1 f2 f3 f4 f5 f6 f7 f8 f9) 40)) gv gs gd r p v ⟨f1,f2,f3,f4,f5,f6,f7,f8,f9⟩ (h.on c.o) hf hN;obtain⟨z0,z1,z2,z3,z4,z5,z6,z7,z8,-⟩:=j.o
 simp only at z0 z1 z2 z3 z4 z5 z6 z7 z8;unfold spoilM ap ac;simp only;clear h hf;generalize addP p (aI (cz ⟨f1,f2,f3,f4,f5,f6,f7,f8,f9⟩)) true=Q at *;obtain⟨q,n⟩:=Q;simp only at b ⊢
 cases n with
 |zero=>
  rw[if_pos rfl];go_enter func78,ntmps78
  go_wp2_with fail
  refine (b.o ()).mono ?_;rintro e1 w1 ⟨rfl,v1,hto⟩;have g:J _:=hto.pre c.o;clear hto b;rw[show aB 0=.nilIface from rfl]
  go_wp2_with fail
  go_ret;exact⟨rfl,_,g.o⟩
 |succ n=>
  rw[if_neg (by omega)]
  go_enter func78,ntmps78
  go_wp2_with fail
  refine (b.o ()).mono ?_;rintro e1 w1 ⟨rfl,v1,hto⟩;have g:J _:=hto.pre c.o;clear hto b;rw[aV];go_wp2_with fail
  go_ret;exact⟨rfl,_,g.o⟩
end Go.Proofs.YtlailakofhenkabGreatDoor
