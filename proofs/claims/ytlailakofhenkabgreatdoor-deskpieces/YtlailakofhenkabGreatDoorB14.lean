import Derived.Test.YtlailakofhenkabGreatDoorB5
namespace Go.Proofs.YtlailakofhenkabGreatDoor
open Go Go.RowKit
theorem RowK.set {k B:Nat} {w:World} {g c n:Nat} {cs:List Value} (h:RowK k B w g c n cs) (i:Nat) (hi:i<n) (us:List Value) (hu:us.length=k) (h1:∀ u∈us,u.oneCell'=true) :
 RowK k B (w.setCells g (i*k) us) g c n (cs.take (i*k) ++ us ++ cs.drop ((i+1)*k)):=by
 have e1:(i+1)*k=i*k+k:=Nat.succ_mul i k;have e2:(i+1)*k≤n*k:=Nat.mul_le_mul_right k hi;have e3:n*k≤c*k:=Nat.mul_le_mul_right k h.le;have hlen:=h.len;have ht:(cs.take (i*k)).length=i*k:=by rw [List.length_take]; omega
 have htu:(cs.take (i*k) ++ us).length=i*k+k:=by rw [List.length_append,ht,hu]
 refine h.setCells (i*k) us (by omega) h.le ?_ ?_ (fun j u hj=>?_)
 ·rw [List.length_append,htu,List.length_drop]; omega
 ·intro u hu'
  rw [List.mem_append,List.mem_append] at hu';rcases hu' with (hu' | hu') | hu'
  ·exact h.one u (List.mem_of_mem_take hu')
  ·exact h1 u hu'
  ·exact h.one u (List.mem_of_mem_drop hu')
 ·rw [hu]
  refine ⟨fun hin=>?_,fun hout=>?_⟩
  ·rw [List.getElem?_append_left (by omega),List.getElem?_append_right (by omega),ht] at hj
   exact hj
  ·by_cases hj1:j<i*k
   ·rw [List.getElem?_append_left (by omega),List.getElem?_append_left (by omega),List.getElem?_take,if_pos hj1] at hj
    exact h.holds j u hj
   ·rw [List.getElem?_append_right (by omega),htu,List.getElem?_drop,show (i+1)*k+(j - (i*k+k))=j by omega] at hj
    exact h.holds j u hj
theorem RowK.shift {k B:Nat} {w:World} {g c n:Nat} {cs:List Value} (h:RowK k B w g c n cs) (i:Nat) (hi:i≤n) (hc:n+1≤c) (us:List Value) (hu:us.length=k) (h1:∀ u∈us,u.oneCell'=true) :
 RowK k B ((w.setCells g ((i+1)*k) (cs.drop (i*k))).setCells g (i*k) us) g c (n+1) (cs.take (i*k) ++ us ++ cs.drop (i*k)):=by
 have e1:(i+1)*k=i*k+k:=Nat.succ_mul i k;have e0:(n+1)*k=n*k+k:=Nat.succ_mul n k;have e2:i*k≤n*k:=Nat.mul_le_mul_right k hi;have e3:(n+1)*k≤c*k:=Nat.mul_le_mul_right k hc;have hlen:=h.len;have ht:(cs.take (i*k)).length=i*k:=by rw [List.length_take]; omega
 have hd:(cs.drop (i*k)).length=n*k - i*k:=by rw [List.length_drop]; omega
 have htu:(cs.take (i*k) ++ us).length=i*k+k:=by rw [List.length_append,ht,hu]
 have hone:∀ (zs:List Value),(∀ u∈zs,u.oneCell'=true)→∀ u∈cs.take (i*k) ++ zs ++ cs.drop (i*k),u.oneCell'=true:=by
  intro zs hz u hu';rw [List.mem_append,List.mem_append] at hu';rcases hu' with (hu' | hu') | hu'
  ·exact h.one u (List.mem_of_mem_take hu')
  ·exact hz u hu'
  ·exact h.one u (List.mem_of_mem_drop hu')
 have h0:RowK k B (w.setCells g ((i+1)*k) (cs.drop (i*k))) g c i (cs.take (i*k)):=by
  refine h.setCells _ _ (by omega) (by omega) ht (fun u hu'=>h.one u (List.mem_of_mem_take hu')) (fun j u hj=>⟨fun hin=>?_,fun hout=>?_⟩)
  ·have:=(List.getElem?_eq_some_iff.1 hj).1
   omega
  ·have:=(List.getElem?_eq_some_iff.1 hj).1
   rw [List.getElem?_take,if_pos (by omega)] at hj
   exact h.holds j u hj
 refine h0.setCells _ _ (by omega) hc ?_ (hone us h1) (fun j u hj=>?_)
 ·rw [List.length_append,htu,hd]; omega
 ·rw [hu]
  refine ⟨fun hin=>?_,fun hout=>?_⟩
  ·rw [List.getElem?_append_left (by omega),List.getElem?_append_right (by omega),ht] at hj
   exact hj
  ·by_cases hj1:j<i*k
   ·rw [List.getElem?_append_left (by omega),List.getElem?_append_left (by omega)] at hj
    exact h0.holds j u hj
   ·have hjl:=(List.getElem?_eq_some_iff.1 hj).1
    rw [List.length_append,htu,hd] at hjl;rw [List.getElem?_append_right (by omega),htu] at hj
    have hin:=World.cell?_setCells_in g (cs.drop (i*k)) ((i+1)*k) w (fun t ht=>(h.there _ (by omega)).1) (j - (i*k+k)) (by omega)
    rw [show (i+1)*k+(j - (i*k+k))=j by omega] at hin
    rw [hin,← hj,List.getElem?_eq_getElem (by omega)]
theorem RowK.grown {k B:Nat} {w W:World} {g c n:Nat} {cs:List Value} (h:RowK k B w g c n cs) (hB:B≤W.heap.size) (i:Nat) (hi:i≤n) (us:List Value) (hu:us.length=k) (h1:∀ u∈us,u.oneCell'=true) (z:Array Value) (hz:z.size=k) (G:Nat) (t:TypeId) (hm:G≤maxLen) (hl:n+1≤G) :
 RowK k B ((((W.alloc (.cells ((cs.take (i*k)).toArray ++ Builtin.zeroCells z (n+1 - i) ++ Builtin.zeroCells z (G - (n+1))) t)).drew.setCells W.heap.size (i*k) us).drew).setCells W.heap.size ((i+1)*k) (cs.drop (i*k))) W.heap.size G (n+1) (cs.take (i*k) ++ us ++ cs.drop (i*k)):=by
 have e1:(i+1)*k=i*k+k:=Nat.succ_mul i k;have e0:(n+1)*k=n*k+k:=Nat.succ_mul n k;have e2:i*k≤n*k:=Nat.mul_le_mul_right k hi;have e3:(n+1)*k≤G*k:=Nat.mul_le_mul_right k hl;have hlen:=h.len;have ht:(cs.take (i*k)).length=i*k:=by rw [List.length_take]; omega
 have hd:(cs.drop (i*k)).length=n*k - i*k:=by rw [List.length_drop]; omega
 have htu:(cs.take (i*k) ++ us).length=i*k+k:=by rw [List.length_append,ht,hu]
 have h0:RowK k B (W.alloc (.cells ((cs.take (i*k)).toArray ++ Builtin.zeroCells z (n+1 - i) ++ Builtin.zeroCells z (G - (n+1))) t)) W.heap.size G i (cs.take (i*k)):=by
  have hs:((cs.take (i*k)).toArray ++ Builtin.zeroCells z (n+1 - i) ++ Builtin.zeroCells z (G - (n+1))).size=G*k:=by
   rw [Array.size_append,Array.size_append,size_zeroCells,size_zeroCells,hz,List.size_toArray,ht,← Nat.add_mul,← Nat.add_mul];congr 1
   omega
  refine ⟨hB,by simp,ht,by omega,hm,fun u hu'=>h.one u (List.mem_of_mem_take hu'),fun j u hj=>?_,fun j hj=>⟨?_,World.frozen?_alloc_at _ _ _ _ (by simp)⟩⟩
  ·have hl:=(List.getElem?_eq_some_iff.1 hj).1
   rw [World.cell?_alloc_at _ _ _ _ (by simp),Array.append_assoc,Array.getElem?_append_left (by simpa using hl)]
   simpa using hj
  ·rw [World.cell?_alloc_at _ _ _ _ (by simp),Array.getElem?_eq_getElem (by rw [hs]; exact hj)]
   rfl
 have h0':RowK k B (W.alloc (.cells ((cs.take (i*k)).toArray ++ Builtin.zeroCells z (n+1 - i) ++ Builtin.zeroCells z (G - (n+1))) t)).drew W.heap.size G i (cs.take (i*k)):=h0.block (Nat.le_refl _) rfl
 have h2:RowK k B ((W.alloc (.cells ((cs.take (i*k)).toArray ++ Builtin.zeroCells z (n+1 - i) ++ Builtin.zeroCells z (G - (n+1))) t)).drew.setCells W.heap.size (i*k) us) W.heap.size G (i+1) (cs.take (i*k) ++ us):=by
  refine h0'.setCells _ _ (by omega) (by omega) (by omega) (fun u hu'=>?_) (fun j u hj=>?_)
  ·rw [List.mem_append] at hu'
   rcases hu' with hu' | hu'
   ·exact h.one u (List.mem_of_mem_take hu')
   ·exact h1 u hu'
  ·rw [hu]
   refine ⟨fun hin=>?_,fun hout=>?_⟩
   ·rw [List.getElem?_append_right (by omega),ht] at hj
    exact hj
   ·have hjl:=(List.getElem?_eq_some_iff.1 hj).1
    rw [List.getElem?_append_left (by omega)] at hj
    exact h0'.holds j u hj
 have h2':=h2.block (w':=((W.alloc (.cells ((cs.take (i*k)).toArray ++ Builtin.zeroCells z (n+1 - i) ++ Builtin.zeroCells z (G - (n+1))) t)).drew.setCells W.heap.size (i*k) us).drew) (Nat.le_refl _) rfl;refine h2'.setCells _ _ (by omega) hl ?_ (fun u hu'=>?_) (fun j u hj=>?_)
 ·rw [List.length_append,htu,hd]; omega
 ·rw [List.mem_append] at hu'
  rcases hu' with hu' | hu'
  ·exact h2.one u hu'
  ·exact h.one u (List.mem_of_mem_drop hu')
 ·rw [hd]
  have hjl:=(List.getElem?_eq_some_iff.1 hj).1;rw [List.length_append,htu,hd] at hjl;refine ⟨fun hin=>?_,fun hout=>?_⟩
  ·rw [List.getElem?_append_right (by omega),htu,← e1] at hj
   exact hj
  ·rw [List.getElem?_append_left (by omega)] at hj
   exact h2'.holds j u hj
theorem RowK.cut {k B:Nat} {w:World} {g c n:Nat} {cs:List Value} (h:RowK k B w g c n cs) (i:Nat) (hi:i<n) (zs:List Value) (hz:zs.length=k) :
 RowK k B (((w.setCells g (i*k) (cs.drop ((i+1)*k)))).setCells g ((n - 1)*k) zs) g c (n - 1) (cs.take (i*k) ++ cs.drop ((i+1)*k)):=by
 obtain ⟨m,rfl⟩:∃ m,n=m+1:=⟨n - 1,by omega⟩
 rw [Nat.add_sub_cancel];have e1:(i+1)*k=i*k+k:=Nat.succ_mul i k;have e0:(m+1)*k=m*k+k:=Nat.succ_mul m k;have e2:i*k≤m*k:=Nat.mul_le_mul_right k (by omega)
 have e3:(m+1)*k≤c*k:=Nat.mul_le_mul_right k h.le;have hlen:=h.len;have hle:=h.le;have ht:(cs.take (i*k)).length=i*k:=by rw [List.length_take]; omega
 have hd:(cs.drop ((i+1)*k)).length=m*k - i*k:=by rw [List.length_drop]; omega
 have hall:(cs.take (i*k) ++ cs.drop ((i+1)*k)).length=m*k:=by rw [List.length_append,ht,hd]; omega
 have hone:∀ u∈cs.take (i*k) ++ cs.drop ((i+1)*k),u.oneCell'=true:=by
  intro u hu';rw [List.mem_append] at hu';rcases hu' with hu' | hu'
  ·exact h.one u (List.mem_of_mem_take hu')
  ·exact h.one u (List.mem_of_mem_drop hu')
 have h0:RowK k B (w.setCells g (i*k) (cs.drop ((i+1)*k))) g c m (cs.take (i*k) ++ cs.drop ((i+1)*k)):=by
  refine h.setCells _ _ (by omega) (by omega) hall hone (fun j u hj=>⟨fun hin=>?_,fun hout=>?_⟩)
  ·rw [List.getElem?_append_right (by omega),ht] at hj
   exact hj
  ·have hjl:=(List.getElem?_eq_some_iff.1 hj).1
   rw [hall] at hjl;rw [List.getElem?_append_left (by omega),List.getElem?_take,if_pos (by omega)] at hj
   exact h.holds j u hj
 refine h0.setCells _ _ (by omega) (by omega) hall hone (fun j u hj=>⟨fun hin=>?_,fun hout=>h0.holds j u hj⟩)
 have hjl:=(List.getElem?_eq_some_iff.1 hj).1;omega
end Go.Proofs.YtlailakofhenkabGreatDoor
set_option maxHeartbeats 1000000
namespace Go.Proofs.YtlailakofhenkabGreatDoor
open Go Go.RowKit Ev
def cmpI (a b:Int):Int:=if a<b then -1 else if b<a then 1 else 0
theorem isNaN_is (x:Int) (w:World):Calls Tryz.prog 272 #[.int .i64 x] w fun e w'=>e=.returned (.bool false)∧w'=w:=by
 go_enter Tryz.func272,Tryz.ntmps272
 go_wp2_with fail
 go_ret;exact ⟨by simp,rfl⟩
theorem compare_is (a b:Int) (w:World):Calls Tryz.prog 200 #[.int .i64 a,.int .i64 b] w fun e w'=>e=.returned (.int .i64 (cmpI a b))∧w'=w:=by
 by_cases h:a<b
 ·have H:Hid (cmpI a b=-1):=if_pos h
  go_enter Tryz.func200,Tryz.ntmps200
  go_wp2_with (go_at_call 272; refine (isNaN_is _ _).mono ?_; rintro e w' ⟨rfl,rfl⟩)
  go_ret;exact ⟨by rw [H.out]; rfl,rfl⟩
 ·by_cases h2:b<a
  ·have H:Hid (cmpI a b=1):=by show _=_; unfold cmpI; rw [if_neg h,if_pos h2]
   go_enter Tryz.func200,Tryz.ntmps200
   go_wp2_with (go_at_call 272; refine (isNaN_is _ _).mono ?_; rintro e w' ⟨rfl,rfl⟩)
   go_ret;exact ⟨by rw [H.out]; rfl,rfl⟩
  ·have H:Hid (cmpI a b=0):=by show _=_; unfold cmpI; rw [if_neg h,if_neg h2]
   go_enter Tryz.func200,Tryz.ntmps200
   go_wp2_with (go_at_call 272; refine (isNaN_is _ _).mono ?_; rintro e w' ⟨rfl,rfl⟩)
   go_ret;exact ⟨by rw [H.out]; rfl,rfl⟩
theorem byId_is (f:Fam) (n:Int) (w:World):Calls Tryz.prog 199 #[famV f,.int .i64 n] w fun e w'=>e=.returned (.int .i64 (cmpI f.id n))∧Below w.heap.size w w':=by
 obtain ⟨f1,f2,f3,f4,f5,f6,f7,f8,f9⟩:=f;unfold famV famCs;simp only;go_enter Tryz.func199,Tryz.ntmps199
 go_wp2_with fail
 refine (compare_is _ _ _).mono ?_;rintro e w' ⟨rfl,rfl⟩;go_wp2_with fail
 go_ret;exact ⟨rfl,(Below.refl _ _).alloc (Nat.le_refl _) _⟩
set_option maxRecDepth 100000
set_option maxHeartbeats 4000000
def thereB (l:List Fam) (n:Int):Bool:=match l[rank l n]? with
 |some f=>decide (f.id=n)
 |none=>false
theorem there_at {l:List Fam} {n:Int} (h:rank l n<l.length):thereB l n=decide (l[rank l n].id=n):=by
 unfold thereB;rw [List.getElem?_eq_getElem h]
theorem there_past {l:List Fam} {n:Int} (h:¬ rank l n<l.length):thereB l n=false:=by
 unfold thereB;rw [List.getElem?_eq_none (by omega)]
theorem there_yes {l:List Fam} {n:Int} (h:thereB l n=true):∃ hr:rank l n<l.length,l[rank l n].id=n:=by
 by_cases hr:rank l n<l.length
 ·rw [there_at hr] at h
  exact ⟨hr,of_decide_eq_true h⟩
 ·rw [there_past hr] at h; cases h
theorem there_no {l:List Fam} {n:Int} (h:thereB l n=false):∀ hr:rank l n<l.length,l[rank l n].id≠n:=by
 intro hr;rw [there_at hr] at h;exact of_decide_eq_false h
theorem bsearch_is {B:Nat} {w:World} {v:Value} {l:List Fam} (h:Fams B w v l) (hr:Rising l) (hn:l.length≤5000) (n:Int) :
 Calls Tryz.prog 198 #[v,.int .i64 n,.func (.func 199) #[] #[]] w fun e w'=>e=.returned (.tuple #[.int .i64 (rank l n:Nat),.bool (thereB l n)])∧Below w.heap.size w w':=by
 obtain ⟨base,c,rfl⟩:=h.slice;have HF:Hid (Fams B w (.slice base l.length c) l):=h;have HLT:Hid (∀ t (ht:t<l.length),t<rank l n↔l[t].id<n):=fun t ht=>rank_lt hr t ht;have hrl:=rank_le l n;have HAT:Hid (∀ h:rank l n<l.length,thereB l n=decide (l[rank l n].id=n)):=fun h=>there_at h;have HPA:Hid (¬ rank l n<l.length→thereB l n=false):=fun h=>there_past h;clear h hr;generalize thereB l n=tb at *;generalize rank l n=R at *;have eg:∀ args w,(callFunc 199 args).run Tryz.prog w=.ok (.enter 199 args) w:=enters_of Tryz.func199 (by kernel_rfl) rfl
 go_enter Tryz.func198,Tryz.ntmps198
 go_wp2_with fail
 go_loopg [9,10] l.length (fun gk s9 s10 wr=>∃ lo hi:Nat,s9=.int .i64 lo∧s10=.int .i64 hi∧lo≤R∧R≤hi∧hi≤l.length∧hi - lo≤gk∧Hid (Below w.heap.size w wr))
 case atStart=>exact ⟨0,l.length,rfl,rfl,Nat.zero_le _,hrl,Nat.le_refl _,by omega,Below.refl _ _⟩
 case round=>
  obtain ⟨lo,hi,rfl,rfl,h1,h2,h3,hg,HB⟩:=hrel;by_cases hlt:lo<hi
  ·have hltI:(lo:Int)<(hi:Int):=by omega
   obtain ⟨M,hM⟩:∃ M,M=(lo+hi) / 2:=⟨_,rfl⟩;have hMl:M<l.length:=by omega
   obtain ⟨g,rfl,hgw,hc⟩:=HF.out.fam M hMl;have hc2:=hc.on HB.out hgw;have hcm:M<R↔l[M].id<n:=HLT.out M hMl;generalize l[M]=y at *;subst hM;have HCM:Hid ((lo+hi) / 2<R↔y.id<n):=hcm;have q0:=hc2.c0; have q1:=hc2.c1; have q2:=hc2.c2; have q3:=hc2.c3; have q4:=hc2.c4; have q5:=hc2.c5; have q6:=hc2.c6; have q7:=hc2.c7; have q8:=hc2.c8;clear hc hc2 hcm;obtain ⟨f1,f2,f3,f4,f5,f6,f7,f8,f9⟩:=y;simp only at q0 q1 q2 q3 q4 q5 q6 q7 q8;have hcall:=fun (W:World)=>byId_is ⟨f1,f2,f3,f4,f5,f6,f7,f8,f9⟩ n W;unfold famV famCs at hcall;simp only at hcall;by_cases hlow:f1<n
   ·have HC:Hid (cmpI f1 n=-1):=if_pos hlow
    have HR1:Hid ((lo+hi) / 2<R):=HCM.out.2 hlow;clear hlow;go_wp2_with fail
    refine (hcall _).mono ?_;rintro e w1 ⟨rfl,hb1⟩;have HB1:Hid (Below w.heap.size w w1):=HB.out.trans (hb1.mono HB.out.size);rw [HC.out];clear hb1 q0 q1 q2 q3 q4 q5 q6 q7 q8;go_wp2_with fail
    go_roundg (hi - ((lo+hi) / 2+1))
    case measure=>omega
    case rel=>exact ⟨(lo+hi) / 2+1,hi,by rw [show ((lo:Int)+(hi:Int)) / 2+1=(((lo+hi) / 2+1:Nat):Int) by omega],rfl,HR1.out,h2,h3,by omega,HB1⟩
   ·have HC:Hid (¬ cmpI f1 n<0):=by
     show ¬ _
     unfold cmpI;rw [if_neg hlow];split <;> omega
    have hcn:=HC.out;have HR1:Hid (¬ (lo+hi) / 2<R):=fun h=>hlow (HCM.out.1 h);clear hlow;generalize cmpI f1 n=cv at *;go_wp2_with fail
    refine (hcall _).mono ?_;rintro e w1 ⟨rfl,hb1⟩;have HB1:Hid (Below w.heap.size w w1):=HB.out.trans (hb1.mono HB.out.size);clear hb1 q0 q1 q2 q3 q4 q5 q6 q7 q8;go_wp2_with fail
    go_roundg ((lo+hi) / 2 - lo)
    case measure=>omega
    case rel=>exact ⟨lo,(lo+hi) / 2,rfl,by rw [show ((lo:Int)+(hi:Int)) / 2=(((lo+hi) / 2:Nat):Int) by omega],h1,by have:=HR1.out; omega,by omega,by omega,HB1⟩
  ·obtain rfl:hi=lo:=by omega
   obtain rfl:R=hi:=by omega
   by_cases hR:R<l.length
   ·obtain ⟨g,rfl,hgw,hc⟩:=HF.out.fam R hR
    have hc2:=hc.on HB.out hgw;have htb:=HAT.out hR;have hRI:(R:Int)<(l.length:Int):=by omega
    generalize l[R]=y at *;have HTB:Hid (tb=decide (y.id=n)):=htb;have q0:=hc2.c0; have q1:=hc2.c1; have q2:=hc2.c2; have q3:=hc2.c3; have q4:=hc2.c4; have q5:=hc2.c5; have q6:=hc2.c6; have q7:=hc2.c7; have q8:=hc2.c8;clear hc hc2 htb;obtain ⟨f1,f2,f3,f4,f5,f6,f7,f8,f9⟩:=y;simp only at q0 q1 q2 q3 q4 q5 q6 q7 q8;have hcall:=fun (W:World)=>byId_is ⟨f1,f2,f3,f4,f5,f6,f7,f8,f9⟩ n W;unfold famV famCs at hcall;simp only at hcall
    have HZ:Hid (decide (f1=n)=(cmpI f1 n == 0)):=by
     show _=_
     rw [Bool.eq_iff_iff,decide_eq_true_iff,beq_iff_eq];unfold cmpI;split
     ·omega
     ·split <;> omega
    generalize cmpI f1 n=cv at *;go_wp2_with fail
    refine (hcall _).mono ?_;rintro e w1 ⟨rfl,hb1⟩;have HB1:Hid (Below w.heap.size w w1):=HB.out.trans (hb1.mono HB.out.size);clear hb1 q0 q1 q2 q3 q4 q5 q6 q7 q8;go_wp2_with fail
    go_ret2;refine ⟨?_,HB1.out⟩;rw [HTB.out];show Ending.returned (.tuple #[.int .i64 (R:Int),.bool (cv == 0)])=_
    rw [← HZ.out]
   ·have HTB:Hid (tb=false):=HPA.out hR
    have hRI:¬ (R:Int)<(l.length:Int):=by omega
    go_wp2_with fail
    go_ret2;exact ⟨by rw [HTB.out]; rfl,HB.out⟩
theorem info_famM:(Tryz.prog.info? 40).map (fun i=>(i.zero,i.size,decide (i.bytes≤1000)))=some (some (famV zeroF),9,true):=by kernel_rfl
theorem info_fam:∃ i,Tryz.prog.info? 40=some i∧i.zero=some (famV zeroF)∧i.size=9∧i.bytes≤1000:=by
 have h:=info_famM
 cases hi:Tryz.prog.info? 40 with
 |none=>rw [hi] at h; cases h
 |some i=>
  rw [hi] at h;simp only [Option.map_some,Option.some.injEq,Prod.mk.injEq,decide_eq_true_eq] at h;exact ⟨i,rfl,h.1,h.2.1,h.2.2⟩
theorem zero_cells:(famV zeroF).cells.size=9:=rfl
theorem eqNil (w:World) (a:Option Addr) (n c n' c':Nat):(binOp .eql 34 (.slice a n c) (.slice none n' c')).run Tryz.prog w=.ok (.bool a.isNone) w:=Lib.run_eql_slice_nil w _ _ a n c n' c' Tryz.underlying34
theorem rowsK_empty (w:World) (cs:Array Value) (t:TypeId) (h:cs=#[]):RowsK 9 w.heap.size (w.alloc (.cells cs t)) (.slice (some ⟨w.heap.size,0,none⟩) 0 0) 0 []:=by
 subst h;exact .inr ⟨w.heap.size,0,rfl,⟨Nat.le_refl _,by simp,rfl,Nat.le_refl _,by unfold maxLen; omega,fun _ h=>(by cases h),fun j u h=>(by cases h),fun j h=>(by omega)⟩⟩
theorem clone_fams {B:Nat} {w:World} {v:Value} {l:List Fam} (h:Fams B w v l) (hn:l.length≤5000) :
 Calls Tryz.prog 61 #[v] w fun e w'=>∃ v',e=.returned v'∧Fams w.heap.size w' v' l∧Below w.heap.size w w':=by
 obtain ⟨i0,hi,hz0,hz1,hz2⟩:=info_fam;have q:=eqNil;rcases h with ⟨rfl,h0,h1⟩ | ⟨g,c,rfl,hr⟩
 ·obtain rfl:l= []:=List.length_eq_zero_iff.1 h0
  clear hi;go_enter Tryz.func61,Tryz.ntmps61
  go_wp2_with fail
  go_ret;exact ⟨_,rfl,Fams.nil _ _,Below.refl _ _⟩
 ·have HR:Hid (RowsK 9 B w (.slice (some ⟨g,0,none⟩) l.length c) l.length (famsCs l)):=.inr ⟨g,c,rfl,hr⟩
  have hl0:=hr.lt;clear hr;generalize hlen:l.length=n at *;have HN:Hid (l.length=n):=hlen;clear hlen;have HW:Hid (RowsK 9 w.heap.size (w.alloc (.cells #[] 40)) (.slice (some ⟨w.heap.size,0,none⟩) 0 0) 0 []):=rowsK_empty w _ _ rfl;have HRW:Hid (RowsK 9 B (w.alloc (.cells #[] 40)) (.slice (some ⟨g,0,none⟩) n c) n (famsCs l)):=HR.out.below ((Below.refl _ _).alloc (Nat.le_refl _) _) (Nat.le_refl _);go_enter Tryz.func61,Tryz.ntmps61
  go_wp2_with (at_builtin; refine wpList_append_rowsK _ rfl _ _ 34 rfl 40 i0 _ 9 i0.bytes Tryz.underlying34 hi hz0 hz1 rfl zero_cells w.heap.size _ 0 [] rfl HW.out (by simp) _ n (famsCs l) rfl (HRW.out.src Tryz.underlying34) (by omega) (by omega) ?_)
  intro v' w' h1 h2 h3;rw [← HN.out] at h1;have HF:Hid (Fams w.heap.size w' v' l):=h1;have HB:Hid (Below w.heap.size w w'):=((Below.refl _ _).alloc (Nat.le_refl _) _).trans h2;clear h1 h2 h3;go_wp2_with fail
  go_ret;exact ⟨v',rfl,HF.out,HB.out⟩
theorem place_is {B:Nat} {w:World} {v:Value} {l:List Fam} (h:Fams B w v l) (hr:Rising l) (hn:l.length≤5000) (n:Int) :
 Calls Tryz.prog 125 #[v,.int .i64 n] w fun e w'=>e=.returned (.tuple #[.int .i64 (rank l n:Nat),.bool (thereB l n)])∧Below w.heap.size w w':=by
 have HB:=bsearch_is h hr hn n;clear h;go_enter Tryz.func125,Tryz.ntmps125
 go_wp2_with fail
 refine HB.mono ?_;rintro e w' ⟨rfl,hb⟩;have HB2:Hid (Below w.heap.size w w'):=hb;clear hb;go_wp2_with fail
 go_ret2;exact ⟨rfl,HB2.out⟩
theorem insert_end {B:Nat} {w:World} {v:Value} {l:List Fam} (h:Fams B w v l) (hn:l.length≤5000) (hB:B≤w.heap.size) (f:Fam) (t:TypeId) :
 Calls Tryz.prog 126 #[v,.int .i64 (l.length:Nat),.slice (some ⟨w.heap.size,0,none⟩) 1 1] (w.alloc (.cells (famCs f).toArray t)) fun e w'=>∃ v',e=.returned v'∧Fams B w' v' (l ++ [f])∧Below B w w':=by
 obtain ⟨i0,hi,hz0,hz1,hz2⟩:=info_fam;have HBW:Hid (Below B w (w.alloc (.cells (famCs f).toArray t))):=(Below.refl _ _).alloc hB _;have HW:Hid (Fams B (w.alloc (.cells (famCs f).toArray t)) v l):=h.below ((Below.refl w.heap.size w).alloc (Nat.le_refl _) _) (Nat.le_refl _);have hsz:B≤(w.alloc (.cells (famCs f).toArray t)).heap.size:=by simp; omega
 have hsrc:Src Tryz.prog 9 34 (.slice (some ⟨w.heap.size,0,none⟩) 1 1) 1 (famCs f) (w.alloc (.cells (famCs f).toArray t)):=Src.ofSlice _ Tryz.underlying34 ⟨w.heap.size,0,none⟩ 1 1 (famCs f) (by simp [famCs_len]) (fun j u hj=>by
  rw [Addr.add_lit,Nat.zero_add,World.cell?_alloc_at _ _ _ _ rfl];simpa using hj) (famCs_one f)
 obtain ⟨base,c,rfl⟩:=h.slice;clear h;generalize hWW:w.alloc (.cells (famCs f).toArray t)=W at *;have HWW:Hid (w.alloc (.cells (famCs f).toArray t)=W):=hWW;clear hWW;generalize w.heap.size=b at *;go_enter Tryz.func126,Tryz.ntmps126
 go_wp2_with (at_builtin; refine wpList_append_rowsK _ rfl _ _ 34 rfl 40 i0 _ 9 i0.bytes Tryz.underlying34 hi hz0 hz1 rfl zero_cells B _ l.length (famsCs l) rfl HW.out hsz _ 1 (famCs f) rfl hsrc (by omega) (by omega) ?_)
 all_goals (
  intro v' w' h1 h2 h3
  have HF:Hid (Fams B w' v' (l ++ [f])):=by
   show RowsK _ _ _ _ _ _
   rw [List.length_append,List.length_singleton,famsCs_app,famsCs_one1];exact h1
  have HB:Hid (Below B w w'):=HBW.out.trans h2;clear h1 h2 h3;go_wp2_with fail
  go_ret;exact ⟨v',rfl,HF.out,HB.out⟩)
set_option maxHeartbeats 8000000
theorem sizeFT (w:World):(Go.sizeOf 40).run Tryz.prog w=.ok 9 w:=by
 obtain ⟨i0,hi,_,hz1,_⟩:=info_fam;simp [sizeOf,typeInfo,hi,hz1]
theorem sizeFT2:(Tryz.prog.info? 40).map (·.size)=some 9:=by kernel_rfl
theorem mixedF:Tryz.prog.follows .mixedOrders=true:=by kernel_rfl
theorem insert_room {B:Nat} {W:World} {g c i n:Nat} {cs:List Value} (hr:RowK 9 B W g c n cs) (hn:n≤5000) (hi:i<n) (hroom:n+1≤c) (us:List Value) (hul:us.length=9) (h1u:∀ u∈us,u.oneCell'=true) (vb:Nat) (hvb:vb≠g)
 (hvs:∀ j v,us[j]?=some v→W.cell? ⟨vb,j,none⟩=some v) (tA:TypeId) (kA:Nat) (hsa:W.shape? vb=some (tA,kA)) (hfa:∀ j,W.frozen? ⟨vb,j,none⟩=false) :
 Calls Tryz.prog 126 #[.slice (some ⟨g,0,none⟩) n c,.int .i64 (i:Nat),.slice (some ⟨vb,0,none⟩) 1 1] W fun e w'=>
  e=.returned (.slice (some ⟨g,0,none⟩) (n+1) c)∧w'=(W.drew.setCells g ((i+1)*9) (cs.drop (i*9))).setCells g (i*9) us:=by
 have mixed:=mixedF;have e1:(i+1)*9=i*9+9:=Nat.succ_mul i 9;have e2:i*9≤n*9:=Nat.mul_le_mul_right 9 (Nat.le_of_lt hi);have e3:(n+1)*9≤c*9:=Nat.mul_le_mul_right 9 hroom;have hlen:=hr.len;have hc63:c≤9223372036854775807:=hr.max;obtain ⟨u0,hu0⟩:=Option.isSome_iff_exists.1 (hr.there 0 (by omega)).1
 obtain ⟨tB,kB,hsb,hkB,_⟩:=World.shape?_of_cell? hu0
 have hov:∀ lb cb,(callFunc 201 #[.slice (some ⟨vb,0,none⟩) 1 1,.slice (some ⟨g,(i+1)*9,none⟩) lb cb]).run Tryz.prog W=.ok (.value (.bool false)) W:=fun lb cb=>by
  rw [run_callFunc_extern Tryz.func201 (by kernel_rfl) (by kernel_rfl) (by kernel_rfl) (e:=Extern.SlicesOverlaps.overlaps #[34,34] #[4]) (by kernel_rfl),
   Lib.run_overlaps_apart W 34 4 40 Tryz.underlying34 9 sizeFT ⟨vb,0,none⟩ ⟨g,(i+1)*9,none⟩ 1 1 lb cb hvb tA tB kA kB hsa hsb (by simp at hkB; omega) (hfa 0) (hfa kA)]
  rfl
 have hdl:(cs.drop (i*9)).length=(n - i)*9:=by rw [List.length_drop,hlen,Nat.sub_mul]
 have hdl2:(cs.drop (i*9)).length=n*9 - i*9:=by rw [List.length_drop,hlen]
 have hcp1:∀ ty dc sc,(Builtin.copy_ #[34,34] ty #[.slice (some ⟨g,(i+1)*9,none⟩) (n - i) dc,.slice (some ⟨g,i*9,none⟩) (n+1 - i) sc]).run Tryz.prog W.drew=.ok (goInt (Nat.min (n+1 - i) (n - i))) (W.drew.setCells g ((i+1)*9) (cs.drop (i*9))):=fun ty dc sc=>
  run_copy_cellsK W.drew _ _ ty 40 9 g ((i+1)*9) (n - i) dc ⟨g,i*9,none⟩ (n+1 - i) sc (cs.drop (i*9)) Tryz.underlying34 sizeFT2 (by rw [hdl]; congr 1; simp only [Nat.min_def]; split <;> omega)
   (fun j v hj=>by rw [Addr.add_lit]; exact hr.holds _ v (by rwa [List.getElem?_drop] at hj))
   (fun j hj=>(hr.there _ (by rw [hdl2] at hj; omega)).1) (fun j hj=>(hr.there _ (by rw [hdl2] at hj; omega)).2) (fun v hv=>hr.one v (List.mem_of_mem_drop hv))
 have hthere:∀ j,j<(n+1)*9→(W.cell? ⟨g,j,none⟩).isSome=true∧W.frozen? ⟨g,j,none⟩=false:=fun j hj=>hr.there j (by omega)
 obtain ⟨W1,hW1⟩:∃ W1,W1=W.drew.setCells g ((i+1)*9) (cs.drop (i*9)):=⟨_,rfl⟩
 have hsp1:∀ k,k<(n+1)*9→(W1.cell? ⟨g,k,none⟩).isSome=true:=fun k hk=>by
  rw [hW1];exact isSome_setCells g (cs.drop (i*9)) ((i+1)*9) W.drew (fun j hj=>(hthere ((i+1)*9+j) (by rw [hdl2] at hj; omega)).1) k (hthere k hk).1
 have hcp2:∀ (V:World),(∀ x,V.cell? x=W1.cell? x)→(∀ x,V.frozen? x=W1.frozen? x)→∀ ty dc,(Builtin.copy_ #[34,34] ty #[.slice (some ⟨g,i*9,none⟩) (n+1 - i) dc,.slice (some ⟨vb,0,none⟩) 1 1]).run Tryz.prog V=.ok (goInt (Nat.min 1 (n+1 - i))) (V.setCells g (i*9) us):=fun V hVc hVf ty dc=>
  run_copy_cellsK V _ _ ty 40 9 g (i*9) (n+1 - i) dc ⟨vb,0,none⟩ 1 1 us Tryz.underlying34 sizeFT2 (by rw [hul]; simp only [Nat.min_def]; split <;> omega)
   (fun j v hj=>by
    rw [Addr.add_lit,Nat.zero_add,hVc,hW1,World.cell?_setCells_out g _ _ _ _ (fun h _=>absurd h hvb)];exact hvs j v hj)
   (fun j hj=>by rw [hVc]; exact hsp1 _ (by omega)) (fun j hj=>by rw [hVf,hW1,World.frozen?_setCells]; exact (hthere _ (by omega)).2) h1u
 rw [← hW1] at hcp1;have hz2:¬ ((i:Int)=(n:Int)):=by omega
 have hb1:(0:Int)≤(i:Int)+1:=by omega
 have hw1:IntKind.i64.wrap ((i:Int)+1)=(i:Int)+1:=by rw [IntKind.wrap_i64]; omega
 have hin:i≤n:=by omega
 have hb2:¬ (c=i+1):=by omega
 have hb3:(i:Int)≤(n:Int)+1:=by omega
 have hb4:¬ (c=i):=by omega
 have HW1:Hid (W1=W.drew.setCells g ((i+1)*9) (cs.drop (i*9))):=hW1;clear hW1 hthere hsp1 hr hvs hfa hsa hsb hu0 hlen hdl hdl2 e1 e2 e3;go_enter Tryz.func126,Tryz.ntmps126
 go_wp2_with (simp only [hov])
 go_region_law_o (refine step_copy_runI rfl _ _ 34 34 rfl _ _ (by simp [Act.eval,Act.put]) (by simp [Act.eval,Act.put]) (hcp1 _ _ _) ?_)
 go_wp2_with (at_builtin; refine wpList_copy_runI _ rfl _ _ 34 34 rfl _ _ rfl rfl (hcp2 _ (fun _=>rfl) (fun _=>rfl) _ _) ?_)
 go_ret;first | exact ⟨rfl,by rw [HW1.out]⟩ | exact ⟨rfl,by rw [← HW1.out]⟩ | (refine ⟨rfl,?_⟩; done)
theorem insert_grow {B:Nat} {W:World} {g c i n:Nat} {cs:List Value} (hr:RowK 9 B W g c n cs) (hn:n≤5000) (hi:i<n) (hroom:c<n+1) (us:List Value) (hul:us.length=9) (h1u:∀ u∈us,u.oneCell'=true) (vb:Nat) (hvw:vb<W.heap.size)
 (hvs:∀ j v,us[j]?=some v→W.cell? ⟨vb,j,none⟩=some v) :
 Calls Tryz.prog 126 #[.slice (some ⟨g,0,none⟩) n c,.int .i64 (i:Nat),.slice (some ⟨vb,0,none⟩) 1 1] W fun e w'=>
  e=.returned (.slice (some ⟨W.heap.size,0,none⟩) (n+1) (grownCap W (n+1) c 40))∧
  w'=(((W.alloc (.cells ((cs.take (i*9)).toArray ++ Builtin.zeroCells (famV zeroF).cells (n+1 - i) ++ Builtin.zeroCells (famV zeroF).cells (grownCap W (n+1) c 40 - (n+1))) 40)).drew.setCells W.heap.size (i*9) us).drew).setCells W.heap.size ((i+1)*9) (cs.drop (i*9)):=by
 have mixed:=mixedF;obtain ⟨i0,hi0,hz0,hz1,hz2⟩:=info_fam;have e1:(i+1)*9=i*9+9:=Nat.succ_mul i 9;have e2:i*9≤n*9:=Nat.mul_le_mul_right 9 (Nat.le_of_lt hi);have hlen:=hr.len;have hbw:=hr.lt;have hnc:=hr.le;have hbN:g≠W.heap.size:=by omega
 have ht:(cs.take (i*9)).length=i*9:=by rw [List.length_take]; omega
 have hdl2:(cs.drop (i*9)).length=n*9 - i*9:=by rw [List.length_drop,hlen]
 have hdl:(cs.drop (i*9)).length=(n - i)*9:=by rw [hdl2,Nat.sub_mul]
 have hik:i+(n+1 - i)=n+1:=by omega
 have hold:(Builtin.firstCells i0.size i (.slice (some ⟨g,0,none⟩) i c)).run Tryz.prog W.drew=.ok (cs.take (i*9)).toArray W.drew:=by
  rw [hz1]
  exact run_firstCells_some W.drew 9 i ⟨g,0,none⟩ i c (cs.take (i*9)) ht (fun j v hj=>by
   rw [Addr.add_lit,Nat.zero_add];rw [List.getElem?_take] at hj;split at hj
   ·exact hr.holds j v hj
   ·cases hj)
 have hkk:(n:Int)+1 - (i:Int)=((n+1 - i:Nat):Int):=by omega
 have hrz:∀ ty,(Builtin.append_ #[34,3] ty #[.slice (some ⟨g,0,none⟩) i c,.int .i64 ((n:Int)+1 - (i:Int))]).run Tryz.prog W =
  .ok (.slice (some ⟨W.heap.size,0,none⟩) (n+1) (grownCap W (n+1) c 40)) (W.drew.alloc (.cells ((cs.take (i*9)).toArray ++ Builtin.zeroCells (famV zeroF).cells (n+1 - i) ++ Builtin.zeroCells (famV zeroF).cells (grownCap W (n+1) c 40 - (n+1))) 40)):=fun ty=>by
  have h:=Lib.run_append_grow_zeros W 34 3 ty 40 i0 _ .i64 .i64 Tryz.underlying34 Tryz.underlying3 hi0 hz0 (some ⟨g,0,none⟩) i c (cs.take (i*9)) hold (n+1 - i) (by omega) (by omega) (by omega) (by omega) (by have:(n+1 - i)*i0.bytes≤5001*1000:=Nat.mul_le_mul (by omega) hz2; omega) (growslice_fits (by omega) (by have:(i+(n+1 - i))*i0.bytes≤5001*1000:=Nat.mul_le_mul (by omega) hz2; omega))
  rw [hik] at h;rw [hkk];exact h
 obtain ⟨G,hG⟩:∃ G,G=grownCap W (n+1) c 40:=⟨_,rfl⟩;obtain ⟨ROW,hROW⟩:∃ ROW:Array Value,ROW=(cs.take (i*9)).toArray ++ Builtin.zeroCells (famV zeroF).cells (n+1 - i) ++ Builtin.zeroCells (famV zeroF).cells (G - (n+1)):=⟨_,rfl⟩;rw [← hG] at hrz ⊢;rw [← hROW] at hrz ⊢;have hGn:n+1≤G:=by rw [hG]; exact grownCap_ge W _ _ _
 have hG63:G≤9223372036854775807:=by
  have:=grownCap_le_maxLen W (n+1) c 40 (by unfold maxLen; omega)
  rw [← hG] at this;unfold maxLen at this;omega
 have hRl:(n+1)*9≤ROW.size:=by
  rw [hROW,Array.size_append,Array.size_append,size_zeroCells,size_zeroCells,List.size_toArray,ht,zero_cells];omega
 obtain ⟨W1,hW1⟩:∃ W1,W1=W.drew.alloc (.cells ROW 40):=⟨_,rfl⟩;rw [← hW1] at hrz
 have hN:∀ j,j<(n+1)*9→(W1.cell? ⟨W.heap.size,j,none⟩).isSome=true:=fun j hj=>by
  rw [hW1,World.cell?_alloc_at (w:=W.drew) ROW _ W.heap.size j rfl,Array.getElem?_eq_getElem (by omega)]; rfl
 have hNf:∀ j,W1.frozen? ⟨W.heap.size,j,none⟩=false:=fun j=>by rw [hW1]; exact World.frozen?_alloc_at (w:=W.drew) ROW _ W.heap.size j rfl
 have hOb:∀ j v,W.cell? ⟨g,j,none⟩=some v→W1.cell? ⟨g,j,none⟩=some v:=fun j v h=>by rw [hW1,World.cell?_alloc_past (w:=W.drew) _ g j hbw]; exact h
 have hOv:∀ j v,W.cell? ⟨vb,j,none⟩=some v→W1.cell? ⟨vb,j,none⟩=some v:=fun j v h=>by rw [hW1,World.cell?_alloc_past (w:=W.drew) _ vb j hvw]; exact h
 have hcpA:∀ (V:World),(∀ x,V.cell? x=W1.cell? x)→(∀ x,V.frozen? x=W1.frozen? x)→∀ ty dc,(Builtin.copy_ #[34,34] ty #[.slice (some ⟨W.heap.size,i*9,none⟩) (n+1 - i) dc,.slice (some ⟨vb,0,none⟩) 1 1]).run Tryz.prog V=.ok (goInt (Nat.min 1 (n+1 - i))) (V.setCells W.heap.size (i*9) us):=fun V hVc hVf ty dc=>
  run_copy_cellsK V _ _ ty 40 9 W.heap.size (i*9) (n+1 - i) dc ⟨vb,0,none⟩ 1 1 us Tryz.underlying34 sizeFT2 (by rw [hul]; simp only [Nat.min_def]; split <;> omega)
   (fun j v hj=>by rw [Addr.add_lit,Nat.zero_add,hVc]; exact hOv _ v (hvs j v hj))
   (fun j hj=>by rw [hVc]; exact hN _ (by omega)) (fun j hj=>by rw [hVf]; exact hNf _) h1u
 have hcpB:∀ (V:World),(∀ x,V.cell? x=(W1.setCells W.heap.size (i*9) us).cell? x)→(∀ x,V.frozen? x=(W1.setCells W.heap.size (i*9) us).frozen? x)→∀ ty dc sc,(Builtin.copy_ #[34,34] ty #[.slice (some ⟨W.heap.size,(i+1)*9,none⟩) (n - i) dc,.slice (some ⟨g,i*9,none⟩) (n - i) sc]).run Tryz.prog V=.ok (goInt (Nat.min (n - i) (n - i))) (V.setCells W.heap.size ((i+1)*9) (cs.drop (i*9))):=fun V hVc hVf ty dc sc=>
  run_copy_cellsK V _ _ ty 40 9 W.heap.size ((i+1)*9) (n - i) dc ⟨g,i*9,none⟩ (n - i) sc (cs.drop (i*9)) Tryz.underlying34 sizeFT2 (by rw [hdl]; congr 1; simp only [Nat.min_def]; split <;> omega)
   (fun j v hj=>by
    rw [Addr.add_lit,hVc,World.cell?_setCells_out _ _ _ _ _ (fun h _=>absurd h hbN)];exact hOb _ v (hr.holds _ v (by rwa [List.getElem?_drop] at hj)))
   (fun j hj=>by rw [hVc]; exact isSome_setCells _ _ _ _ (fun t ht=>hN _ (by omega)) _ (hN _ (by rw [hdl2] at hj; omega)))
   (fun j hj=>by rw [hVf,World.frozen?_setCells]; exact hNf _) (fun v hv=>hr.one v (List.mem_of_mem_drop hv))
 subst hW1;have hE1:∀ x,((W.alloc (.cells ROW 40)).drew).cell? x=(W.drew.alloc (.cells ROW 40)).cell? x:=fun x=>rfl;have hE2:∀ x,((W.alloc (.cells ROW 40)).drew).frozen? x=(W.drew.alloc (.cells ROW 40)).frozen? x:=fun x=>rfl;have hF1:∀ x,(((W.alloc (.cells ROW 40)).drew.setCells W.heap.size (i*9) us).drew).cell? x=((W.drew.alloc (.cells ROW 40)).setCells W.heap.size (i*9) us).cell? x:=fun x=>rfl;have hF2:∀ x,(((W.alloc (.cells ROW 40)).drew.setCells W.heap.size (i*9) us).drew).frozen? x=((W.drew.alloc (.cells ROW 40)).setCells W.heap.size (i*9) us).frozen? x:=fun x=>rfl;have hq1:¬ ((i:Int)=(n:Int)):=by omega
 have hq2:(c:Int)<(n:Int)+1:=by omega
 have hb1:(0:Int)≤(i:Int)+1:=by omega
 have hin:i≤n:=by omega
 have hb3:(i:Int)≤(n:Int):=by omega
 have hGi:¬ (G=i):=by omega
 have hGim:¬ (G=i+1):=by omega
 have hci:¬ (c=i):=by omega
 have hw1:IntKind.i64.wrap ((i:Int)+1)=(i:Int)+1:=by rw [IntKind.wrap_i64]; omega
 clear hkk hik hold hROW hG hRl hr hvs hN hNf hOb hOv hlen ht hdl hdl2 e1 e2 hi0 hz0 hz1;go_enter Tryz.func126,Tryz.ntmps126
 go_wp2_with (first
  |(at_builtin; refine Lib.wpList_append_run _ rfl _ _ _ _ rfl _ _ rfl rfl _ _ (hrz _) ?_)
  |(at_builtin; refine wpList_copy_runI _ rfl _ _ 34 34 rfl _ _ rfl rfl (hcpA _ hE1 hE2 _ _) ?_)
  |(at_builtin; refine wpList_copy_runI _ rfl _ _ 34 34 rfl _ _ rfl rfl (hcpB _ (fun _=>rfl) (fun _=>rfl) _ _ _) ?_))
 go_region_law_o (refine step_copy_runI rfl _ _ 34 34 rfl (.slice (some ⟨W.heap.size,(i+1)*9,none⟩) (n - i) (G - (i+1))) (.slice (some ⟨g,i*9,none⟩) (n - i) (c - i)) (by simp [Act.eval,Act.put]) (by simp [Act.eval,Act.put]) (hcpB _ hF1 hF2 3 (G - (i+1)) (c - i)) ?_)
 go_wp2
 go_ret;exact ⟨rfl,rfl⟩
theorem famsCs_ins (l:List Fam) (i:Nat) (hi:i≤l.length) (f:Fam):famsCs (l.take i ++ f::l.drop i)=(famsCs l).take (i*9) ++ famCs f ++ (famsCs l).drop (i*9):=by
 rw [famsCs_app,famsCs_cons,famsCs_take l i hi,famsCs_drop l i hi,List.append_assoc]
theorem insert_is' {B:Nat} {w:World} {v:Value} {l:List Fam} (h:Fams B w v l) (hn:l.length≤5000) (hB:B≤w.heap.size) (i:Nat) (hi:i≤l.length) (f:Fam) (t:TypeId) :
 Calls Tryz.prog 126 #[v,.int .i64 (i:Nat),.slice (some ⟨w.heap.size,0,none⟩) 1 1] (w.alloc (.cells (famCs f).toArray t)) fun e w'=>∃ v',e=.returned v'∧Fams B w' v' (l.take i ++ f::l.drop i)∧Below B w w':=by
 by_cases hil:i=l.length
 ·subst hil
  rw [List.take_of_length_le (Nat.le_refl _),List.drop_of_length_le (Nat.le_refl _)];exact insert_end h hn hB f t
 ·have hlt:i<l.length:=by omega
  have hbW:Below B w (w.alloc (.cells (famCs f).toArray t)):=(Below.refl _ _).alloc hB _
  have hvs:∀ j u,(famCs f)[j]?=some u→(w.alloc (.cells (famCs f).toArray t)).cell? ⟨w.heap.size,j,none⟩=some u:=fun j u hj=>by
   rw [World.cell?_alloc_at _ _ _ _ rfl];simpa using hj
  have hlen:(l.take i ++ f::l.drop i).length=l.length+1:=ins_len l i hi f;rcases h with ⟨rfl,h0,_⟩ | ⟨g,c,rfl,hr⟩
  ·omega
  ·have hrW:RowK 9 B (w.alloc (.cells (famCs f).toArray t)) g c l.length (famsCs l):=hr.below ((Below.refl w.heap.size w).alloc (Nat.le_refl _) _) hr.lt
   by_cases hroom:l.length+1≤c
   ·refine (insert_room hrW hn hlt hroom (famCs f) rfl (famCs_one f) w.heap.size (by have:=hr.lt; omega) hvs t 9 ?_ (fun j=>World.frozen?_alloc_at _ _ _ _ rfl)).mono ?_
    ·unfold World.shape?
     rw [show (w.alloc (.cells (famCs f).toArray t)).heap[w.heap.size]?=some (.cells (famCs f).toArray t) from Array.getElem?_push_size]
     rfl
    ·rintro e w' ⟨rfl,rfl⟩
     have hrD:RowK 9 B (w.alloc (.cells (famCs f).toArray t)).drew g c l.length (famsCs l):=hrW.block (Nat.le_refl _) rfl;refine ⟨_,rfl,.inr ⟨g,c,by rw [hlen],?_⟩,(hbW.drew.trans (below_setCellsW hr.new _ _ _)).trans (below_setCellsW hr.new _ _ _)⟩
     rw [hlen,famsCs_ins l i hi f];exact hrD.shift i hi hroom (famCs f) rfl (famCs_one f)
   ·refine (insert_grow hrW hn hlt (by omega) (famCs f) rfl (famCs_one f) w.heap.size (by simp) hvs).mono ?_
    rintro e w' ⟨rfl,rfl⟩;generalize w.alloc (.cells (famCs f).toArray t)=W at *;have hBW:B≤W.heap.size:=Nat.le_trans hB hbW.size;refine ⟨_,rfl,.inr ⟨_,_,by rw [hlen],?_⟩,(((hbW.alloc hBW _).drew.trans (below_setCellsW hBW _ _ _)).drew).trans (below_setCellsW hBW _ _ _)⟩
    rw [hlen,famsCs_ins l i hi f];exact hrW.grown hBW i hi (famCs f) rfl (famCs_one f) _ zero_cells _ _ (grownCap_le_maxLen W _ _ _ (by unfold maxLen; omega)) (grownCap_ge W _ _ _)
end Go.Proofs.YtlailakofhenkabGreatDoor
