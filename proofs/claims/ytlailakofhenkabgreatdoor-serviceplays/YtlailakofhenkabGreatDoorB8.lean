import Derived.Test.YtlailakofhenkabGreatDoorB7
set_option maxRecDepth 100000
set_option maxHeartbeats 8000000
namespace Go.Proofs.YtlailakofhenkabGreatDoor
open Go Go.RowKit Sc
theorem refLeast_is (s:ByteArray) (w:World) (hs:s.size≤5000):Calls Tryz.prog 68 #[.string s] w fun e w'=>∃ l n,e=.returned (.tuple #[.string ⟨(joined l).toArray⟩,.int .i64 (n:Nat)])∧Out s.data.toList l n∧Below w.heap.size w w':=by
 go_enter Tryz.func68,Tryz.ntmps68
 go_wp2_with fail
 refine (refScope_is s _ hs).mono ?_;rintro e w1 ⟨v,xs,n,rfl,ho,hv,hb⟩;have HO:Hid (Out s.data.toList (xs.map (·.data.toList)) n):=ho;have HV:Hid (Words w.heap.size w1 v xs):=hv;have HB:Hid (Below w.heap.size w w1):=hb;have hln:=out_len ho;have hx5:xs.length≤5:=by simpa using hln.1
 have hj:(joined (xs.map (·.data.toList))).length≤5000:=by omega
 clear ho hv hb hln;go_wp2_with fail
 refine (join_is HV.out hj (by omega)).mono ?_
 rintro e w2 ⟨rfl,hb2⟩;have HB2:Hid (Below w.heap.size w w2):=HB.out.trans (hb2.mono HB.out.size);clear hb2;generalize hjj:joined (xs.map (·.data.toList))=J at *;have HJ:Hid (joined (xs.map (·.data.toList))=J):=hjj;clear hjj;go_wp2_with fail
 exact bodyPost_ret (v:=.tuple #[.string ⟨J.toArray⟩,.int .i64 (n:Nat)]) (by simp [results,Tryz.results68,go_sem]) rfl ⟨xs.map (·.data.toList),n,by rw [HJ.out],HO.out,HB2.out⟩
theorem Words.row {B:Nat} {w:World} {base:Option Addr} {c:Nat} {xs:List ByteArray} (h:Words B w (.slice base xs.length c) xs) (hp:0<xs.length):∃ g,base=some ⟨g,0,none⟩∧RowAt B w g c xs.length (xs.map Value.string):=by
 rcases h with ⟨_,rfl⟩ | ⟨g,c',e1,h2⟩
 ·simp at hp
 ·injection e1 with e1 _ e2
  subst e2;exact ⟨g,e1,h2⟩
theorem Words.cell {B:Nat} {w:World} {base:Option Addr} {c:Nat} {xs:List ByteArray} (h:Words B w (.slice base xs.length c) xs) (j:Nat) (hj:j<xs.length):∃ g,base=some ⟨g,0,none⟩∧w.cell? ⟨g,j,none⟩=some (.string xs[j]):=by
 obtain ⟨g,e,hr⟩:=h.row (by omega)
 exact ⟨g,e,hr.holds j _ (by rw [List.getElem?_map,List.getElem?_eq_getElem hj]; rfl)⟩
theorem pairs_bytes (xs ys:List ByteArray) (k:Nat) (h:k<xs.length):pairsOf ((xs.map (·.data.toList)).take (k+1)) (ys.map (·.data.toList))=pairsOf ((xs.map (·.data.toList)).take k) (ys.map (·.data.toList))+(ys.map (·.data.toList)).count xs[k].data.toList:=by
 rw [pairs_take _ _ k (by simpa using h)]
 simp
theorem count_bytes (ys:List ByteArray) (p:List UInt8) (k:Nat) (h:k<ys.length):((ys.map (·.data.toList)).take (k+1)).count p=((ys.map (·.data.toList)).take k).count p+if ys[k].data.toList=p then 1 else 0:=by
 rw [count_take _ _ k (by simpa using h)]
 simp
theorem refWithin_is (s t:ByteArray) (w:World) (hs:s.size≤5000) (ht:t.size≤5000):Calls Tryz.prog 74 #[.string s,.string t] w fun e w'=>∃ r n,e=.returned (.tuple #[.bool r,.int .i64 (n:Nat)])∧WOut s.data.toList t.data.toList r n∧Below w.heap.size w w':=by
 obtain ⟨l2,k2,HO2⟩:∃ l k,Hid (Out t.data.toList l k):=by
  obtain ⟨l,k,h⟩:=out_ex t.data.toList;exact ⟨l,k,h⟩
 go_enter Tryz.func74,Tryz.ntmps74
 go_wp2_with fail
 refine (refScope_is s _ hs).mono ?_;rintro e w1 ⟨v,xs,n,rfl,ho,hv,hb⟩;have HO:Hid (Out s.data.toList (xs.map (·.data.toList)) n):=ho;have HV:Hid (Words w.heap.size w1 v xs):=hv;have HB:Hid (Below w.heap.size w w1):=hb;have hx5:xs.length≤5:=by simpa using (out_len ho).1
 clear ho hv hb
 cases n with
 |succ n=>
  have HW:Hid (WOut s.data.toList t.data.toList false (n+1)):=⟨_,_,_,_,HO.out,HO2.out,.inl ⟨by omega,rfl,rfl⟩⟩
  have hn:¬ ((n+1:Nat):Int)=0:=by omega
  have hn2:¬ (n:Int)+1=0:=by omega
  go_wp2_with fail
  exact bodyPost_ret (v:=.tuple #[.bool false,.int .i64 ((n+1:Nat):Int)]) (by simp [results,Tryz.results74,go_sem]) rfl ⟨false,n+1,rfl,HW.out,HB.out⟩
 |zero=>
  rw [show ((0:Nat):Int)=0 from rfl]
  go_wp2_with fail
  refine (refScope_is t _ ht).mono ?_;rintro e w2 ⟨v2,ys,k,rfl,ho2,hv2,hb2⟩;have HO3:Hid (Out t.data.toList (ys.map (·.data.toList)) k):=ho2;have HV2:Hid (Words w.heap.size w2 v2 ys):=hv2.mono HB.out.size;have HB2:Hid (Below w.heap.size w w2):=HB.out.trans (hb2.mono HB.out.size);have HV1:Hid (Words w.heap.size w2 v xs):=HV.out.below hb2 (Nat.le_refl _);have hy5:ys.length≤5:=by simpa using (out_len ho2).1
  clear ho2 hv2 hb2 HO2
  cases k with
  |succ k=>
   have HW:Hid (WOut s.data.toList t.data.toList false (k+1)):=⟨_,_,_,_,HO.out,HO3.out,.inr (.inl ⟨rfl,by omega,rfl,rfl⟩)⟩
   have hn:¬ ((k+1:Nat):Int)=0:=by omega
   have hn2:¬ (k:Int)+1=0:=by omega
   go_wp2_with fail
   exact bodyPost_ret (v:=.tuple #[.bool false,.int .i64 ((k+1:Nat):Int)]) (by simp [results,Tryz.results74,go_sem]) rfl ⟨false,k+1,rfl,HW.out,HB2.out⟩
  |zero=>
   rw [show ((0:Nat):Int)=0 from rfl]
   have HWT:Hid (WOut s.data.toList t.data.toList ((pairsOf (xs.map (·.data.toList)) (ys.map (·.data.toList)):Int) == (xs.length:Int)) 0):=⟨_,_,_,_,HO.out,HO3.out,.inr (.inr ⟨rfl,rfl,rfl,by
    have:=pairs_is (l:=xs.map (·.data.toList)) (out_words HO3.out).2.2.2;rw [List.length_map] at this;exact this⟩)⟩
   clear HO HO3;obtain ⟨base,c,hvv⟩:=HV1.out.slice;subst hvv;obtain ⟨base2,c2,hvv2⟩:=HV2.out.slice;subst hvv2;have HXS:Hid (∀ j (h:j<xs.length),∃ g,base=some ⟨g,0,none⟩∧w2.cell? ⟨g,j,none⟩=some (.string xs[j])):=HV1.out.cell;have HYS:Hid (∀ j (h:j<ys.length),∃ g,base2=some ⟨g,0,none⟩∧w2.cell? ⟨g,j,none⟩=some (.string ys[j])):=HV2.out.cell;go_wp2_with fail
   go_loopg [9,32] xs.length (fun gk nv iv wr=>∃ j:Nat,j+gk=xs.length∧iv=.int .i64 j∧nv=.int .i64 (pairsOf ((xs.map (·.data.toList)).take j) (ys.map (·.data.toList)):Nat)∧Hid (pairsOf ((xs.map (·.data.toList)).take j) (ys.map (·.data.toList))≤5*j)∧wr=w2)
   case atStart=>exact ⟨0,by omega,rfl,rfl,Nat.le_refl _,rfl⟩
   case round=>
    obtain ⟨j,hj,rfl,rfl,HN,rfl⟩:=hrel;have HJ:Hid (j+gk=xs.length):=hj;have hjl:j≤xs.length:=by omega
    clear hj;by_cases hlt:j<xs.length
    ·obtain ⟨g,rfl,hcell⟩:=HXS.out j hlt
     have HP:Hid (pairsOf ((xs.map (·.data.toList)).take (j+1)) (ys.map (·.data.toList))=pairsOf ((xs.map (·.data.toList)).take j) (ys.map (·.data.toList))+(ys.map (·.data.toList)).count xs[j].data.toList):=pairs_bytes xs ys j hlt;have hN:=HN.out;clear HN;generalize pairsOf ((xs.map (·.data.toList)).take j) (ys.map (·.data.toList))=n0 at *;generalize xs[j]=p at *;have HN:Hid (n0≤5*j):=hN;clear hN;generalize gk=gm at *;go_wp2_with fail
     go_loopg [9,38] ys.length (fun hk nv iv wr2=>∃ i:Nat,i+hk=ys.length∧iv=.int .i64 i∧nv=.int .i64 ((n0+((ys.map (·.data.toList)).take i).count p.data.toList:Nat):Int)∧Hid (((ys.map (·.data.toList)).take i).count p.data.toList≤i)∧wr2=wr)
     case atStart=>exact ⟨0,by omega,rfl,rfl,Nat.le_refl _,rfl⟩
     case round=>
      obtain ⟨i,hi,rfl,rfl,HC,rfl⟩:=hrel;have HI:Hid (i+gk=ys.length):=hi;have hil:i≤ys.length:=by omega
      clear hi;by_cases hlt2:i<ys.length
      ·obtain ⟨g2,rfl,hcell2⟩:=HYS.out i hlt2
       have HQ:Hid (((ys.map (·.data.toList)).take (i+1)).count p.data.toList=((ys.map (·.data.toList)).take i).count p.data.toList+if ys[i].data.toList=p.data.toList then 1 else 0):=count_bytes ys p.data.toList i hlt2
       have hC:=HC.out;clear HC;generalize ((ys.map (·.data.toList)).take i).count p.data.toList=c0 at *;generalize ys[i]=q at *;have HC:Hid (c0≤i):=hC;have hnn:¬ 9223372036854775807<n0+c0+1:=by have:=HN.out; omega
       go_wp2_with fail
       ·rename_i hh
        have he:q.data.toList=p.data.toList:=by
         have:p.toList=q.toList:=by simpa using hh
         rw [ByteArray.toList_eq,ByteArray.toList_eq] at this;exact this.symm
        go_roundg (gk - 1)
        case measure=>have:=HI.out; omega
        case rel=>exact ⟨i+1,by have:=HI.out; omega,by go_num,by rw [HQ.out,if_pos he]; go_num,by show _≤_; rw [HQ.out,if_pos he]; have:=HC.out; omega,rfl⟩
       ·rename_i hh
        have he:¬ q.data.toList=p.data.toList:=by
         have:¬ p.toList=q.toList:=by simpa using hh
         rw [ByteArray.toList_eq,ByteArray.toList_eq] at this;exact fun e=>this e.symm
        go_roundg (gk - 1)
        case measure=>have:=HI.out; omega
        case rel=>exact ⟨i+1,by have:=HI.out; omega,by go_num,by rw [HQ.out,if_neg he]; go_num,by show _≤_; rw [HQ.out,if_neg he]; have:=HC.out; omega,rfl⟩
      ·obtain rfl:i=ys.length:=by omega
       have HTF:Hid ((ys.map (·.data.toList)).take ys.length=ys.map (·.data.toList)):=List.take_of_length_le (by simp)
       go_wp2_with fail
       go_roundg (gm - 1)
       case measure=>have:=HJ.out; omega
       case rel=>
        have h1:=HC.out;have h2:=HN.out;rw [HTF.out] at h1;exact ⟨j+1,by have:=HJ.out; omega,by go_num,by rw [HTF.out,HP.out]; go_num,by show _≤_; rw [HP.out]; omega,rfl⟩
    ·obtain rfl:j=xs.length:=by omega
     have HW:Hid (WOut s.data.toList t.data.toList ((pairsOf ((xs.map (·.data.toList)).take xs.length) (ys.map (·.data.toList)):Int) == (xs.length:Int)) 0):=by
      have:=HWT.out;rw [List.take_of_length_le (by simp)]
      exact this
     generalize pairsOf ((xs.map (·.data.toList)).take xs.length) (ys.map (·.data.toList))=n0 at *;go_wp2_with fail
     exact bodyPost_ret (v:=.tuple #[.bool ((n0:Int) == (xs.length:Int)),.int .i64 0]) (by simp [results,Tryz.results74,go_sem]) rfl (by
      have hw:=HW.out;generalize ((n0:Int) == (xs.length:Int))=r at hw ⊢
      cases r
      ·first | exact .inl ⟨0,rfl,hw,HB2.out⟩ | exact ⟨false,0,rfl,hw,HB2.out⟩
      ·first | exact .inr ⟨0,rfl,hw,HB2.out⟩ | exact ⟨true,0,rfl,hw,HB2.out⟩)
end Go.Proofs.YtlailakofhenkabGreatDoor
set_option maxHeartbeats 4000000
namespace Go.Proofs.YtlailakofhenkabGreatDoor
open Go Go.RowKit Tok Sc Ev
theorem toList_nil {x:ByteArray} (h:x.toList= []):x=⟨#[]⟩:=by
 rw [ByteArray.toList_eq] at h;exact bytes_eq h
def Small (n:Nat) (f:Fam):Prop:=f.client.size≤n∧f.subject.size≤n∧f.scope.size≤n∧f.request.size≤n
theorem bool_f {b:Bool} {p:Prop} (hb:b=true↔p) (h:¬ p):b=false:=Bool.eq_false_iff.2 (fun k=>h (hb.1 k))
theorem may_2 {f:Fam} {i t:Int}:may ⟨2,f,i,t⟩↔f=zeroF∧okN i∧t=0:=by simp [Ev.may]
theorem may_3 {f:Fam} {i t:Int}:may ⟨3,f,i,t⟩↔f=zeroF∧i=0∧okN t:=by simp [Ev.may]
theorem may_1 {f:Fam} {i t:Int}:may ⟨1,f,i,t⟩↔mayF f∧i=0∧t=0:=by simp [Ev.may]
theorem may_no {f:Fam} {k i t:Int} (h1:k≠1) (h2:k≠2) (h3:k≠3):¬ may ⟨k,f,i,t⟩:=by simp [Ev.may,h1,h2,h3]
theorem in_ok (n:Int) (w:World):Calls Tryz.prog 66 #[.int .i64 n,.int .i64 0,.int .i64 1099511627776] w fun e w'=>e=.returned (.bool (okB n))∧w'=w:=in3_is n 0 1099511627776 w
theorem refMay_2 (f:Fam) (i t:Int) (b:Bool) (hb:b=true↔may ⟨2,f,i,t⟩) (w:World):Calls Tryz.prog 140 #[evV ⟨2,f,i,t⟩] w fun e w'=>e=.returned (.bool b)∧Below w.heap.size w w':=by
 rw [may_2] at hb;by_cases hz:f=zeroF
 ·subst hz
  by_cases ht:t=0
  ·subst ht
   have HB:Hid (b=okB i):=by
    show b=okB i
    rw [Bool.eq_iff_iff,okB_iff,hb];simp
   clear hb;unfold evV evCs zeroF;simp only;go_enter Tryz.func140,Tryz.ntmps140
   go_wp2_with fail
   refine (in_ok i _).mono ?_;rintro e w' ⟨rfl,rfl⟩;go_wp2_with fail
   go_ret;refine ⟨by rw [HB.out]; rfl,?_⟩
   repeat (first | exact Below.refl _ _ | refine Below.alloc ?_ (by simp) _)
  ·have HB:Hid (b=false):=bool_f hb (fun h=>ht h.2.2)
   have ht':(t == 0)=false:=by rw [beq_eq_false_iff_ne]; exact ht
   clear hb;unfold evV evCs zeroF;simp only;go_enter Tryz.func140,Tryz.ntmps140
   go_wp2_with fail
   go_ret;refine ⟨by rw [HB.out]; rfl,?_⟩
   repeat (first | exact Below.refl _ _ | refine Below.alloc ?_ (by simp) _)
 ·have HB:Hid (b=false):=bool_f hb (fun h=>hz h.1)
  have HZ:Hid (¬ f=zeroF):=hz;clear hb hz;obtain ⟨f1,f2,f3,f4,f5,f6,f7,f8,f9⟩:=f;unfold evV evCs;simp only;go_enter Tryz.func140,Tryz.ntmps140
  go_wp2_with fail
  all_goals first
   |(exfalso; refine HZ.out ?_; unfold zeroF; simp_all [toList_nil]; done)
   |(go_ret; refine ⟨by rw [HB.out]; rfl,?_⟩; repeat (first | exact Below.refl _ _ | refine Below.alloc ?_ (by simp) _))
set_option maxHeartbeats 2000000
theorem okB_lo {n:Int} (h:n<0):okB n=false:=okB_f (fun k=>by have:=k.1; omega)
theorem okB_hi {n:Int} (h:1099511627776<n):okB n=false:=okB_f (fun k=>by have:=k.2; omega)
theorem beyond_is (n:Int) (w:World):Calls Tryz.prog 264 #[.int .i64 n] w fun e w'=>e=.returned (.bool (!okB n))∧∃ q,w'=w.drewN q:=by
 by_cases h0:n<0
 ·have HL:Hid (okB n=false):=okB_lo h0
  go_enter Tryz.func264,Tryz.ntmps264
  go_wp2_with fail
  go_ret;exact ⟨by rw [HL.out]; rfl,0,rfl⟩
 ·by_cases h1:1099511627776<n
  ·have HL:Hid (okB n=false):=okB_hi h1
   go_enter Tryz.func264,Tryz.ntmps264
   go_wp2_with fail
   go_ret;exact ⟨by rw [HL.out]; rfl,0,rfl⟩
  ·have HL:Hid (okB n=true):=okB_t ⟨by omega,by omega⟩
   go_enter Tryz.func264,Tryz.ntmps264
   go_wp2_with fail
   go_ret;exact ⟨by rw [HL.out]; rfl,0,rfl⟩
theorem all_any (ns:List Int):(!(ns.any fun n=>!okB n))=ns.all okB:=by
 induction ns with
 |nil=>rfl
 |cons a l ih=>rw [List.any_cons,List.all_cons,← ih]; cases okB a <;> simp
theorem bounds_is (ns:List Int) (g c:Nat) (w:World) (hn:ns.length≤5000) (hc:∀ j (h:j<ns.length),w.cell? ⟨g,j,none⟩=some (.int .i64 ns[j])) :
 Calls Tryz.prog 185 #[.slice (some ⟨g,0,none⟩) ns.length c] w fun e w'=>e=.returned (.bool (ns.all okB))∧∃ q,w'=w.drewN q:=by
 rw [← all_any ns];have HC:=Tryz.slices_ContainsFunc_f265 (Value.int .i64) (fun n=>!okB n) 264 #[] (enters_of Tryz.func264 (by kernel_rfl) rfl) g 0 ns.length c ns w (fun W x _=>beyond_is x W) (Nat.le_refl _) (by omega) (fun j hj=>by rw [Nat.zero_add,hc j hj,getElem!_pos ns j hj])
 rw [List.take_of_length_le (Nat.le_refl _)] at HC;clear hc;go_enter Tryz.func185,Tryz.ntmps185
 go_wp2_with fail
 refine HC.mono ?_;rintro e w' ⟨rfl,q,rfl⟩;go_wp2_with fail
 go_ret;exact ⟨rfl,q,rfl⟩
theorem isLeast_is (s:ByteArray) (b:Bool) (hb:b=true↔Lst s.data.toList) (w:World) (hs:s.size≤5000) (hL:LenOk w):Calls Tryz.prog 263 #[.string s] w fun e w'=>e=.returned (.bool b)∧Below w.heap.size w w':=by
 have HL:Hid (LenOk w):=hL;have HB:Hid (b=true↔Lst s.data.toList):=hb;clear hL hb;go_enter Tryz.func263,Tryz.ntmps263
 go_wp2_with fail
 refine (leastS_is s _ hs HL.out).mono ?_;rintro e w' ⟨l,n,rfl,ho,hbl⟩;have HO:Hid (Out s.data.toList l n):=ho;have HBL:Hid (Below w.heap.size w w'):=hbl;clear ho hbl;generalize hJJ:joined l=J;have HJJ:Hid (joined l=J):=hJJ;clear hJJ
 cases n with
 |succ n=>
  have HQ:Hid (b=false):=bool_f HB.out (lst_not HO.out);rw [errQ_succ];go_wp2_with fail
  go_ret;exact ⟨by rw [HQ.out]; rfl,HBL.out⟩
 |zero=>
  rw [show errQ 0=.nilIface from rfl]
  by_cases hJ:J=s.data.toList
  ·have HQ:Hid (b=true):=HB.out.2 ((lst_of HO.out).2 (HJJ.out.trans hJ))
   have hf4:s=⟨J.toArray⟩:=bytes_eq hJ.symm;clear HO HB;subst hf4;go_wp2_with fail
   go_ret;exact ⟨by rw [HQ.out]; rfl,HBL.out⟩
  ·have HQ:Hid (b=false):=bool_f HB.out (fun h=>hJ (HJJ.out.symm.trans ((lst_of HO.out).1 h)))
   have hne:(J == s.toList)=false:=by rw [ByteArray.toList_eq,beq_eq_false_iff_ne]; exact hJ
   clear HO HB hJ;go_wp2_with fail
   go_ret;exact ⟨by rw [HQ.out]; rfl,HBL.out⟩
theorem mayBePut_is (f:Fam) (b:Bool) (hb:b=true↔mayF f) (hs:Small 5000 f) (w:World) (hL:LenOk w):Calls Tryz.prog 184 #[famV f] w fun e w'=>e=.returned (.bool b)∧Below w.heap.size w w':=by
 obtain ⟨f1,f2,f3,f4,f5,f6,f7,f8,f9⟩:=f;unfold Small at hs;unfold mayF at hb;simp only at hs hb;obtain ⟨s2,s3,s4,s8⟩:=hs
 have HBD:Hid (Below w.heap.size w ((w.alloc (.cells #[.int .i64 f1,.string f2,.string f3,.string f4,.int .i64 f5,.int .i64 f6,.int .i64 f7,.string f8,.bool f9] 40)).alloc (.cells #[.int .i64 f1,.int .i64 f5,.int .i64 f6,.int .i64 f7] 3))):=by
  show Below _ _ _
  repeat (first | exact Below.refl _ _ | refine Below.alloc ?_ (by simp; try omega) _)
 have HB:Hid (b=true↔(okN f1∧okN f5∧okN f6∧okN f7)∧nameB f2.data.toList=true∧nameB f3.data.toList=true∧(f8.data.toList= []∨nameB f8.data.toList=true)∧Lst f4.data.toList):=hb;have HL:Hid (LenOk ((w.alloc (.cells #[.int .i64 f1,.string f2,.string f3,.string f4,.int .i64 f5,.int .i64 f6,.int .i64 f7,.string f8,.bool f9] 40)).alloc (.cells #[.int .i64 f1,.int .i64 f5,.int .i64 f6,.int .i64 f7] 3))):=hL.below HBD.out;clear hb hL
 have hbo:Calls Tryz.prog 185 #[.slice (some ⟨w.heap.size+1,0,none⟩) 4 4] ((w.alloc (.cells #[.int .i64 f1,.string f2,.string f3,.string f4,.int .i64 f5,.int .i64 f6,.int .i64 f7,.string f8,.bool f9] 40)).alloc (.cells #[.int .i64 f1,.int .i64 f5,.int .i64 f6,.int .i64 f7] 3)) fun e w'=>e=.returned (.bool ([f1,f5,f6,f7].all okB))∧∃ q,w'=((w.alloc (.cells #[.int .i64 f1,.string f2,.string f3,.string f4,.int .i64 f5,.int .i64 f6,.int .i64 f7,.string f8,.bool f9] 40)).alloc (.cells #[.int .i64 f1,.int .i64 f5,.int .i64 f6,.int .i64 f7] 3)).drewN q:=
  bounds_is [f1,f5,f6,f7] (w.heap.size+1) 4 ((w.alloc (.cells #[.int .i64 f1,.string f2,.string f3,.string f4,.int .i64 f5,.int .i64 f6,.int .i64 f7,.string f8,.bool f9] 40)).alloc (.cells #[.int .i64 f1,.int .i64 f5,.int .i64 f6,.int .i64 f7] 3)) (by simp) (fun j hj=>by
   match j,hj with
   |0,_=>exact (World.cell?_alloc_at _ _ _ _ (by simp)).trans rfl
   |1,_=>exact (World.cell?_alloc_at _ _ _ _ (by simp)).trans rfl
   |2,_=>exact (World.cell?_alloc_at _ _ _ _ (by simp)).trans rfl
   |3,_=>exact (World.cell?_alloc_at _ _ _ _ (by simp)).trans rfl)
 have m1:((w.alloc (.cells #[.int .i64 f1,.string f2,.string f3,.string f4,.int .i64 f5,.int .i64 f6,.int .i64 f7,.string f8,.bool f9] 40)).alloc (.cells #[.int .i64 f1,.int .i64 f5,.int .i64 f6,.int .i64 f7] 3)).cell? ⟨w.heap.size,1,none⟩=some (.string f2):=Lib.cell?_alloc_some _ ((World.cell?_alloc_at _ _ _ _ (by simp)).trans rfl)
 have m2:((w.alloc (.cells #[.int .i64 f1,.string f2,.string f3,.string f4,.int .i64 f5,.int .i64 f6,.int .i64 f7,.string f8,.bool f9] 40)).alloc (.cells #[.int .i64 f1,.int .i64 f5,.int .i64 f6,.int .i64 f7] 3)).cell? ⟨w.heap.size,2,none⟩=some (.string f3):=Lib.cell?_alloc_some _ ((World.cell?_alloc_at _ _ _ _ (by simp)).trans rfl)
 have m3:((w.alloc (.cells #[.int .i64 f1,.string f2,.string f3,.string f4,.int .i64 f5,.int .i64 f6,.int .i64 f7,.string f8,.bool f9] 40)).alloc (.cells #[.int .i64 f1,.int .i64 f5,.int .i64 f6,.int .i64 f7] 3)).cell? ⟨w.heap.size,3,none⟩=some (.string f4):=Lib.cell?_alloc_some _ ((World.cell?_alloc_at _ _ _ _ (by simp)).trans rfl)
 have m7:((w.alloc (.cells #[.int .i64 f1,.string f2,.string f3,.string f4,.int .i64 f5,.int .i64 f6,.int .i64 f7,.string f8,.bool f9] 40)).alloc (.cells #[.int .i64 f1,.int .i64 f5,.int .i64 f6,.int .i64 f7] 3)).cell? ⟨w.heap.size,7,none⟩=some (.string f8):=Lib.cell?_alloc_some _ ((World.cell?_alloc_at _ _ _ _ (by simp)).trans rfl)
 unfold famV famCs;simp only
 cases hbb: [f1,f5,f6,f7].all okB with
 |false=>
  have HQ:Hid (b=false):=bool_f HB.out (fun h=>by
   obtain ⟨⟨h1,h5,h6,h7⟩,_⟩:=h;simp [okB_t h1,okB_t h5,okB_t h6,okB_t h7] at hbb)
  rw [hbb] at hbo;clear hbb HB;go_enter Tryz.func184,Tryz.ntmps184
  go_wp2_with fail
  refine hbo.mono ?_;rintro e w' ⟨rfl,q,rfl⟩;have HBQ:Hid (Below w.heap.size w (((w.alloc (.cells #[.int .i64 f1,.string f2,.string f3,.string f4,.int .i64 f5,.int .i64 f6,.int .i64 f7,.string f8,.bool f9] 40)).alloc (.cells #[.int .i64 f1,.int .i64 f5,.int .i64 f6,.int .i64 f7] 3)).drewN q)):=below_drewN' HBD.out q;generalize ((w.alloc (.cells #[.int .i64 f1,.string f2,.string f3,.string f4,.int .i64 f5,.int .i64 f6,.int .i64 f7,.string f8,.bool f9] 40)).alloc (.cells #[.int .i64 f1,.int .i64 f5,.int .i64 f6,.int .i64 f7] 3))=W at *;go_wp2_with fail
  go_ret;exact ⟨by rw [HQ.out]; rfl,HBQ.out⟩
 |true=>
  have HOK:Hid (okN f1∧okN f5∧okN f6∧okN f7):=by show _∧_; simpa [okB_iff] using hbb
  rw [hbb] at hbo;clear hbb;go_enter Tryz.func184,Tryz.ntmps184
  go_wp2_with fail
  refine hbo.mono ?_;rintro e w' ⟨rfl,q,rfl⟩;have HBQ:Hid (Below w.heap.size w (((w.alloc (.cells #[.int .i64 f1,.string f2,.string f3,.string f4,.int .i64 f5,.int .i64 f6,.int .i64 f7,.string f8,.bool f9] 40)).alloc (.cells #[.int .i64 f1,.int .i64 f5,.int .i64 f6,.int .i64 f7] 3)).drewN q)):=below_drewN' HBD.out q;have HLQ:Hid (LenOk (((w.alloc (.cells #[.int .i64 f1,.string f2,.string f3,.string f4,.int .i64 f5,.int .i64 f6,.int .i64 f7,.string f8,.bool f9] 40)).alloc (.cells #[.int .i64 f1,.int .i64 f5,.int .i64 f6,.int .i64 f7] 3)).drewN q)):=HL.out.below (below_drewN' (Below.refl _ _) q);clear hbo HL;generalize ((w.alloc (.cells #[.int .i64 f1,.string f2,.string f3,.string f4,.int .i64 f5,.int .i64 f6,.int .i64 f7,.string f8,.bool f9] 40)).alloc (.cells #[.int .i64 f1,.int .i64 f5,.int .i64 f6,.int .i64 f7] 3))=W at *
  cases h2:nameB f2.data.toList with
  |false=>
   have HQ:Hid (b=false):=bool_f HB.out (fun h=>by have:=h.2.1; rw [h2] at this; cases this)
   have HC2:Hid (nameB f2.data.toList=false):=h2;clear h2 HB HOK;go_wp2_with fail
   refine (name_is f2 _ (by omega)).mono ?_
   rintro e w' ⟨rfl,rfl⟩;rw [HC2.out];go_wp2_with fail
   go_ret;exact ⟨by rw [HQ.out]; rfl,HBQ.out⟩
  |true=>
   have HC2:Hid (nameB f2.data.toList=true):=h2
   cases h3:nameB f3.data.toList with
   |false=>
    have HQ:Hid (b=false):=bool_f HB.out (fun h=>by have:=h.2.2.1; rw [h3] at this; cases this)
    have HC3:Hid (nameB f3.data.toList=false):=h3;clear h2 h3 HB HOK;go_wp2_with fail
    refine (name_is f2 _ (by omega)).mono ?_
    rintro e w' ⟨rfl,rfl⟩;rw [HC2.out];go_wp2_with fail
    refine (name_is f3 _ (by omega)).mono ?_
    rintro e w' ⟨rfl,rfl⟩;rw [HC3.out];go_wp2_with fail
    go_ret;exact ⟨by rw [HQ.out]; rfl,HBQ.out⟩
   |true=>
    have HC3:Hid (nameB f3.data.toList=true):=h3
    have HR:Hid (b=true↔(f8.data.toList= []∨nameB f8.data.toList=true)∧Lst f4.data.toList):=by
     show b=true↔_
     rw [HB.out,h2,h3]
     have:=HOK.out;simp [this]
    clear HB HOK h2 h3;by_cases h8:f8.data.toList= []
    ·have he:f8.toList.isEmpty=true:=by rw [ByteArray.toList_eq,h8]; rfl
     have HR2:Hid (b=true↔Lst f4.data.toList):=by
      show b=true↔_
      rw [HR.out];simp [h8]
     clear HR h8;go_wp2_with fail
     refine (name_is f2 _ (by omega)).mono ?_
     rintro e w' ⟨rfl,rfl⟩;rw [HC2.out];go_wp2_with fail
     refine (name_is f3 _ (by omega)).mono ?_
     rintro e w' ⟨rfl,rfl⟩;rw [HC3.out];go_wp2_with fail
     refine (isLeast_is f4 b HR2.out _ s4 HLQ.out).mono ?_;rintro e w' ⟨rfl,hbe⟩;have HBE:Hid (Below w.heap.size w w'):=HBQ.out.trans (hbe.mono HBQ.out.size);clear hbe;go_wp2_with fail
     go_ret;exact ⟨rfl,HBE.out⟩
    ·have he:f8.toList.isEmpty=false:=by rw [ByteArray.toList_eq,List.isEmpty_eq_false_iff]; exact h8
     cases hn8:nameB f8.data.toList with
     |true=>
      have HC8:Hid (nameB f8.data.toList=true):=hn8
      have HR2:Hid (b=true↔Lst f4.data.toList):=by
       show b=true↔_
       rw [HR.out];simp [hn8]
      clear HR h8 hn8;go_wp2_with fail
      refine (name_is f2 _ (by omega)).mono ?_
      rintro e w' ⟨rfl,rfl⟩;rw [HC2.out];go_wp2_with fail
      refine (name_is f3 _ (by omega)).mono ?_
      rintro e w' ⟨rfl,rfl⟩;rw [HC3.out];go_wp2_with fail
      refine (name_is f8 _ (by omega)).mono ?_
      rintro e w' ⟨rfl,rfl⟩;rw [HC8.out];go_wp2_with fail
      refine (isLeast_is f4 b HR2.out _ s4 HLQ.out).mono ?_;rintro e w' ⟨rfl,hbe⟩;have HBE:Hid (Below w.heap.size w w'):=HBQ.out.trans (hbe.mono HBQ.out.size);clear hbe;go_wp2_with fail
      go_ret;exact ⟨rfl,HBE.out⟩
     |false=>
      have HC8:Hid (nameB f8.data.toList=false):=hn8
      have HQ:Hid (b=false):=bool_f HR.out (fun h=>by
       rcases h.1 with h | h
       ·exact h8 h
       ·rw [hn8] at h; cases h)
      clear HR h8 hn8;go_wp2_with fail
      refine (name_is f2 _ (by omega)).mono ?_
      rintro e w' ⟨rfl,rfl⟩;rw [HC2.out];go_wp2_with fail
      refine (name_is f3 _ (by omega)).mono ?_
      rintro e w' ⟨rfl,rfl⟩;rw [HC3.out];go_wp2_with fail
      refine (name_is f8 _ (by omega)).mono ?_
      rintro e w' ⟨rfl,rfl⟩;rw [HC8.out];go_wp2_with fail
      go_ret;exact ⟨by rw [HQ.out]; rfl,HBQ.out⟩
theorem bounds1 (i:Int) (w:World) (n:Nat) (ho:w.heap.size=n):Calls Tryz.prog 185 #[.slice (some ⟨n,0,none⟩) 1 1] (w.alloc (.cells #[.int .i64 i] 3)) fun e w'=>e=.returned (.bool (okB i))∧∃ q,w'=(w.alloc (.cells #[.int .i64 i] 3)).drewN q:=by
 have h:=bounds_is [i] n 1 (w.alloc (.cells #[.int .i64 i] 3)) (by simp) (fun j hj=>by
  match j,hj with
  |0,_=>exact (World.cell?_alloc_at _ _ _ _ (by simp [ho])).trans rfl)
 simpa using h
theorem mayBe_1 (f:Fam) (i t:Int) (b:Bool) (hb:b=true↔Ev.may ⟨1,f,i,t⟩) (hs:Small 5000 f) (w:World) (hL:LenOk w):Calls Tryz.prog 113 #[evV ⟨1,f,i,t⟩] w fun e w'=>e=.returned (.bool b)∧Below w.heap.size w w':=by
 rw [may_1] at hb;by_cases hi:i=0
 ·by_cases ht:t=0
  ·subst hi; subst ht
   have hb2:b=true↔mayF f:=by rw [hb]; simp
   have HM:∀ W,LenOk W→Calls Tryz.prog 184 #[famV f] W fun e w'=>e=.returned (.bool b)∧Below W.heap.size W w':=fun W h=>mayBePut_is f b hb2 hs W h;obtain ⟨f1,f2,f3,f4,f5,f6,f7,f8,f9⟩:=f;unfold famV famCs at HM;simp only at HM;have HL:Hid (LenOk (w.alloc (.cells #[.int .i64 1,.int .i64 f1,.string f2,.string f3,.string f4,.int .i64 f5,.int .i64 f6,.int .i64 f7,.string f8,.bool f9,.int .i64 0,.int .i64 0] 42))):=hL.below ((Below.refl _ _).alloc (Nat.le_refl _) _);have HB0:Hid (Below w.heap.size w (w.alloc (.cells #[.int .i64 1,.int .i64 f1,.string f2,.string f3,.string f4,.int .i64 f5,.int .i64 f6,.int .i64 f7,.string f8,.bool f9,.int .i64 0,.int .i64 0] 42))):=(Below.refl _ _).alloc (Nat.le_refl _) _;clear hb hb2 hs hL;unfold evV evCs;simp only;go_enter Tryz.func113,Tryz.ntmps113
   go_wp2_with fail
   refine (HM _ HL.out).mono ?_;rintro e w' ⟨rfl,hbe⟩;have HBE:Hid (Below w.heap.size w w'):=HB0.out.trans (hbe.mono HB0.out.size);clear hbe;go_wp2_with fail
   go_ret;exact ⟨rfl,HBE.out⟩
  ·have HQ:Hid (b=false):=bool_f hb (fun h=>ht h.2.2)
   have ht':(t == 0)=false:=by rw [beq_eq_false_iff_ne]; exact ht
   subst hi;obtain ⟨f1,f2,f3,f4,f5,f6,f7,f8,f9⟩:=f;clear hb hs hL;unfold evV evCs;simp only;go_enter Tryz.func113,Tryz.ntmps113
   go_wp2_with fail
   go_ret;refine ⟨by rw [HQ.out]; rfl,?_⟩
   repeat (first | exact Below.refl _ _ | refine Below.alloc ?_ (by simp) _)
 ·have HQ:Hid (b=false):=bool_f hb (fun h=>hi h.2.1)
  have hi':(i == 0)=false:=by rw [beq_eq_false_iff_ne]; exact hi
  obtain ⟨f1,f2,f3,f4,f5,f6,f7,f8,f9⟩:=f;clear hb hs hL;unfold evV evCs;simp only;go_enter Tryz.func113,Tryz.ntmps113
  go_wp2_with fail
  go_ret;refine ⟨by rw [HQ.out]; rfl,?_⟩
  repeat (first | exact Below.refl _ _ | refine Below.alloc ?_ (by simp) _)
theorem mayBe_2 (f:Fam) (i t:Int) (b:Bool) (hb:b=true↔Ev.may ⟨2,f,i,t⟩) (w:World):Calls Tryz.prog 113 #[evV ⟨2,f,i,t⟩] w fun e w'=>e=.returned (.bool b)∧Below w.heap.size w w':=by
 rw [may_2] at hb;by_cases hz:f=zeroF∧t=0
 ·obtain ⟨rfl,rfl⟩:=hz
  have HB:Hid (b=okB i):=by
   show b=okB i
   rw [Bool.eq_iff_iff,okB_iff,hb];simp
  clear hb;have h1:=fun (W:World) n ho=>bounds1 i W n ho;unfold evV evCs zeroF;simp only;go_enter Tryz.func113,Tryz.ntmps113
  go_wp2_with fail
  refine (h1 _ _ (by simp)).mono ?_
  rintro e w' ⟨rfl,q,rfl⟩;go_wp2_with fail
  go_ret;refine ⟨by rw [HB.out]; rfl,below_drewN' ?_ q⟩
  repeat (first | exact Below.refl _ _ | refine Below.alloc ?_ (by simp) _)
 ·have HB:Hid (b=false):=bool_f hb (fun h=>hz ⟨h.1,h.2.2⟩)
  have HZ:Hid (¬ (f=zeroF∧t=0)):=hz;clear hb hz;obtain ⟨f1,f2,f3,f4,f5,f6,f7,f8,f9⟩:=f;unfold evV evCs;simp only;go_enter Tryz.func113,Tryz.ntmps113
  go_wp2_with fail
  all_goals first
   |(exfalso; refine HZ.out ?_; unfold zeroF; simp_all [toList_nil]; done)
   |(go_ret; refine ⟨by rw [HB.out]; rfl,?_⟩; repeat (first | exact Below.refl _ _ | refine Below.alloc ?_ (by simp) _))
theorem mayBe_3 (f:Fam) (i t:Int) (b:Bool) (hb:b=true↔Ev.may ⟨3,f,i,t⟩) (w:World):Calls Tryz.prog 113 #[evV ⟨3,f,i,t⟩] w fun e w'=>e=.returned (.bool b)∧Below w.heap.size w w':=by
 rw [may_3] at hb;by_cases hz:f=zeroF∧i=0
 ·obtain ⟨rfl,rfl⟩:=hz
  have HB:Hid (b=okB t):=by
   show b=okB t
   rw [Bool.eq_iff_iff,okB_iff,hb];simp
  clear hb;have h1:=fun (W:World) n ho=>bounds1 t W n ho;unfold evV evCs zeroF;simp only;go_enter Tryz.func113,Tryz.ntmps113
  go_wp2_with fail
  refine (h1 _ _ (by simp)).mono ?_
  rintro e w' ⟨rfl,q,rfl⟩;go_wp2_with fail
  go_ret;refine ⟨by rw [HB.out]; rfl,below_drewN' ?_ q⟩
  repeat (first | exact Below.refl _ _ | refine Below.alloc ?_ (by simp) _)
 ·have HB:Hid (b=false):=bool_f hb (fun h=>hz ⟨h.1,h.2.1⟩)
  have HZ:Hid (¬ (f=zeroF∧i=0)):=hz;clear hb hz;obtain ⟨f1,f2,f3,f4,f5,f6,f7,f8,f9⟩:=f;unfold evV evCs;simp only;go_enter Tryz.func113,Tryz.ntmps113
  go_wp2_with fail
  all_goals first
   |(exfalso; refine HZ.out ?_; unfold zeroF; simp_all [toList_nil]; done)
   |(go_ret; refine ⟨by rw [HB.out]; rfl,?_⟩; repeat (first | exact Below.refl _ _ | refine Below.alloc ?_ (by simp) _))
theorem mayBe_no (k:Int) (f:Fam) (i t:Int) (b:Bool) (hb:b=true↔Ev.may ⟨k,f,i,t⟩) (h1:k≠1) (h2:k≠2) (h3:k≠3) (w:World):Calls Tryz.prog 113 #[evV ⟨k,f,i,t⟩] w fun e w'=>e=.returned (.bool b)∧Below w.heap.size w w':=by
 have HB:Hid (b=false):=bool_f hb (may_no h1 h2 h3);clear hb;obtain ⟨f1,f2,f3,f4,f5,f6,f7,f8,f9⟩:=f;unfold evV evCs;simp only;go_enter Tryz.func113,Tryz.ntmps113
 go_wp2_with fail
 go_ret;refine ⟨by rw [HB.out]; rfl,?_⟩
 repeat (first | exact Below.refl _ _ | refine Below.alloc ?_ (by simp) _)
theorem mayBeE_is (e:E) (b:Bool) (hb:b=true↔Ev.may e) (hs:Small 5000 e.fam) (w:World) (hL:LenOk w):Calls Tryz.prog 113 #[evV e] w fun e w'=>e=.returned (.bool b)∧Below w.heap.size w w':=by
 obtain ⟨k,f,i,t⟩:=e;by_cases h1:k=1
 ·subst h1; exact mayBe_1 f i t b hb hs w hL
 by_cases h2:k=2
 ·subst h2; exact mayBe_2 f i t b hb w
 by_cases h3:k=3
 ·subst h3; exact mayBe_3 f i t b hb w
 exact mayBe_no k f i t b hb h1 h2 h3 w
abbrev bs8 (l:List UInt8):ByteArray:=⟨l.toArray⟩
theorem wordOf_is (s:ByteArray) (w:World):Calls Tryz.prog 187 #[.string s] w fun e w'=>e=.returned (.string (bs8 (wordL s.data.toList)))∧w'=w:=by
 by_cases h:s.data.toList= []
 ·have he:s.toList.isEmpty=true:=by rw [ByteArray.toList_eq,h]; rfl
  have HW:Hid (wordL s.data.toList= [95]):=by show _=_; rw [h]; rfl
  clear h;go_enter Tryz.func187,Tryz.ntmps187
  go_wp2_with fail
  go_ret;exact ⟨by rw [HW.out]; rfl,rfl⟩
 ·have he:s.toList.isEmpty=false:=by rw [ByteArray.toList_eq,List.isEmpty_eq_false_iff]; exact h
  have HW:Hid (wordL s.data.toList=s.data.toList):=if_neg h;clear h;go_enter Tryz.func187,Tryz.ntmps187
  go_wp2_with fail
  go_ret;exact ⟨by rw [HW.out]; rfl,rfl⟩
theorem lifeWord_is (d:Bool) (w:World):Calls Tryz.prog 188 #[.bool d] w fun e w'=>e=.returned (.string (bs8 (lifeL d)))∧w'=w:=by
 cases d
 ·go_enter Tryz.func188,Tryz.ntmps188
  go_wp2_with fail
  go_ret;exact ⟨rfl,rfl⟩
 ·go_enter Tryz.func188,Tryz.ntmps188
  go_wp2_with fail
  go_ret;exact ⟨rfl,rfl⟩
def WordsAt (w:World) (g:Nat) (xs:List ByteArray):Prop:=g<w.heap.size∧∀ (j:Nat) x,xs[j]?=some x→w.cell? ⟨g,0+j,none⟩=some (.string x)
theorem wordsAt_new (w:World) (xs:List ByteArray) (t:TypeId):WordsAt (w.alloc (.cells (xs.map Value.string).toArray t)) w.heap.size xs:=by
 refine ⟨by simp,fun j x hj=>?_⟩
 rw [World.cell?_alloc_at _ _ _ _ rfl];simp [hj]
theorem words_1 (f:Fam) (w:World) (h:mayF f) (hL:LibsE w):Calls Tryz.prog 115 #[evV ⟨1,f,0,0⟩] w fun e w'=>∃ g,e=.returned (.slice (some ⟨g,0,none⟩) 10 10)∧WordsAt w' g ((putWs f).map bs8)∧Below w.heap.size w w':=by
 obtain ⟨⟨h1,h5,h6,h7⟩,_⟩:=h;have i1:=fun (W:World) (hW:LibsE W)=>itoaE_is f.id W h1.1 (by have:=h1.2; omega) hW
 have i5:=fun (W:World) (hW:LibsE W)=>itoaE_is f.gen W h5.1 (by have:=h5.2; omega) hW
 have i6:=fun (W:World) (hW:LibsE W)=>itoaE_is f.made W h6.1 (by have:=h6.2; omega) hW
 have i7:=fun (W:World) (hW:LibsE W)=>itoaE_is f.used W h7.1 (by have:=h7.2; omega) hW
 clear h1 h5 h6 h7;obtain ⟨f1,f2,f3,f4,f5,f6,f7,f8,f9⟩:=f;simp only at i1 i5 i6 i7
 have HBD:Hid (Below w.heap.size w ((w.alloc (.cells #[.int .i64 1,.int .i64 f1,.string f2,.string f3,.string f4,.int .i64 f5,.int .i64 f6,.int .i64 f7,.string f8,.bool f9,.int .i64 0,.int .i64 0] 42)).alloc (.cells #[.int .i64 f1,.string f2,.string f3,.string f4,.int .i64 f5,.int .i64 f6,.int .i64 f7,.string f8,.bool f9] 40))):=by
  show Below _ _ _
  repeat (first | exact Below.refl _ _ | refine Below.alloc ?_ (by simp; try omega) _)
 unfold evV evCs;simp only;go_enter Tryz.func115,Tryz.ntmps115
 have hws:WS w (w.heap.size+1) ⟨f1,f2,f3,f4,f5,f6,f7,f8,f9⟩ ((w.alloc (.cells #[.int .i64 1,.int .i64 f1,.string f2,.string f3,.string f4,.int .i64 f5,.int .i64 f6,.int .i64 f7,.string f8,.bool f9,.int .i64 0,.int .i64 0] 42)).alloc (.cells #[.int .i64 f1,.string f2,.string f3,.string f4,.int .i64 f5,.int .i64 f6,.int .i64 f7,.string f8,.bool f9] 40)):=
  ⟨hL.below HBD.out,famAt_made _ ⟨f1,f2,f3,f4,f5,f6,f7,f8,f9⟩ _ _ (by simp),by simp,HBD.out⟩
 go_wp2_with fail
 generalize hg:w.heap.size+1=g at *;generalize ((w.alloc (.cells #[.int .i64 1,.int .i64 f1,.string f2,.string f3,.string f4,.int .i64 f5,.int .i64 f6,.int .i64 f7,.string f8,.bool f9,.int .i64 0,.int .i64 0] 42)).alloc (.cells #[.int .i64 f1,.string f2,.string f3,.string f4,.int .i64 f5,.int .i64 f6,.int .i64 f7,.string f8,.bool f9] 40))=W at *
 go_region_held3 (fun w'=>(w'.cell? ⟨g,0,none⟩=some (.int .i64 f1)∧w'.cell? ⟨g,1,none⟩=some (.string f2)∧w'.cell? ⟨g,2,none⟩=some (.string f3)∧w'.cell? ⟨g,3,none⟩=some (.string f4)∧w'.cell? ⟨g,4,none⟩=some (.int .i64 f5)∧w'.cell? ⟨g,5,none⟩=some (.int .i64 f6)∧w'.cell? ⟨g,6,none⟩=some (.int .i64 f7)∧w'.cell? ⟨g,7,none⟩=some (.string f8)∧w'.cell? ⟨g,8,none⟩=some (.bool f9)∧WS w g ⟨f1,f2,f3,f4,f5,f6,f7,f8,f9⟩ w')) (first | exact ws_drew hws | exact ws_keep (by assumption) (by assumption) | exact ws_keep (by assumption) ((Below.refl _ _).alloc (Nat.le_refl _) _))
  (first
   |(go_at_call_of 57 (Value.int IntKind.i64 f1); refine (i1 _ (ws_libs (by assumption))).mono ?_; rintro e w' ⟨rfl,hb⟩)
   |(go_at_call_of 57 (Value.int IntKind.i64 f5); refine (i5 _ (ws_libs (by assumption))).mono ?_; rintro e w' ⟨rfl,hb⟩)
   |(go_at_call_of 57 (Value.int IntKind.i64 f6); refine (i6 _ (ws_libs (by assumption))).mono ?_; rintro e w' ⟨rfl,hb⟩)
   |(go_at_call_of 57 (Value.int IntKind.i64 f7); refine (i7 _ (ws_libs (by assumption))).mono ?_; rintro e w' ⟨rfl,hb⟩)
   |(go_at_call_of 187 (Value.string f4); refine (wordOf_is f4 _).mono ?_; rintro e w' ⟨rfl,rfl⟩; have hb:=Below.refl w'.heap.size w')
   |(go_at_call_of 187 (Value.string f8); refine (wordOf_is f8 _).mono ?_; rintro e w' ⟨rfl,rfl⟩; have hb:=Below.refl w'.heap.size w')
   |(go_at_call_of 188 (Value.bool f9); refine (lifeWord_is f9 _).mono ?_; rintro e w' ⟨rfl,rfl⟩; have hb:=Below.refl w'.heap.size w'))
 rename_i hS
 have HF:Hid (Below w.heap.size w _):=hS.2.2.2.2.2.2.2.2.2.below;clear hS;go_wp2_with fail
 go_ret;exact ⟨_,rfl,wordsAt_new _ ((putWs ⟨f1,f2,f3,f4,f5,f6,f7,f8,f9⟩).map bs8) _,HF.out⟩
theorem words_2 (i:Int) (w:World) (h:okN i) (hL:LibsE w):Calls Tryz.prog 115 #[evV ⟨2,zeroF,i,0⟩] w fun e w'=>∃ g,e=.returned (.slice (some ⟨g,0,none⟩) 2 2)∧WordsAt w' g (([[100],Lib.itoa i]:List Word).map bs8)∧Below w.heap.size w w':=by
 have i1:=fun (W:World) (hW:LibsE W)=>itoaE_is i W h.1 (by have:=h.2; omega) hW
 have HL:Hid (LibsE w):=hL;clear hL;unfold evV evCs zeroF;simp only;go_enter Tryz.func115,Tryz.ntmps115
 go_wp2_with fail
 have hbd:Below w.heap.size w ((w.alloc (.cells #[.int .i64 2,.int .i64 0,.string ⟨#[]⟩,.string ⟨#[]⟩,.string ⟨#[]⟩,.int .i64 0,.int .i64 0,.int .i64 0,.string ⟨#[]⟩,.bool false,.int .i64 i,.int .i64 0] 42)).alloc (.cells #[.int .i64 0,.string ⟨#[]⟩,.string ⟨#[]⟩,.string ⟨#[]⟩,.int .i64 0,.int .i64 0,.int .i64 0,.string ⟨#[]⟩,.bool false] 40)):=by
  repeat (first | exact Below.refl _ _ | refine Below.alloc ?_ (by simp; try omega) _)
 refine (i1 _ (HL.out.below hbd)).mono ?_;rintro e w' ⟨rfl,hb⟩;have HF:Hid (Below w.heap.size w (w'.alloc (.cells #[.string ⟨#[100]⟩,.string ⟨(Lib.itoa i).toArray⟩] 9))):=(hbd.trans (hb.mono hbd.size)).alloc (hbd.trans (hb.mono hbd.size)).size _;clear hbd hb;go_wp2_with fail
 go_ret;exact ⟨_,rfl,wordsAt_new w' (([[100],Lib.itoa i]:List Word).map bs8) _,HF.out⟩
theorem words_3 (i:Int) (w:World) (h:okN i) (hL:LibsE w):Calls Tryz.prog 115 #[evV ⟨3,zeroF,0,i⟩] w fun e w'=>∃ g,e=.returned (.slice (some ⟨g,0,none⟩) 2 2)∧WordsAt w' g (([[99],Lib.itoa i]:List Word).map bs8)∧Below w.heap.size w w':=by
 have i1:=fun (W:World) (hW:LibsE W)=>itoaE_is i W h.1 (by have:=h.2; omega) hW
 have HL:Hid (LibsE w):=hL;clear hL;unfold evV evCs zeroF;simp only;go_enter Tryz.func115,Tryz.ntmps115
 go_wp2_with fail
 have hbd:Below w.heap.size w ((w.alloc (.cells #[.int .i64 3,.int .i64 0,.string ⟨#[]⟩,.string ⟨#[]⟩,.string ⟨#[]⟩,.int .i64 0,.int .i64 0,.int .i64 0,.string ⟨#[]⟩,.bool false,.int .i64 0,.int .i64 i] 42)).alloc (.cells #[.int .i64 0,.string ⟨#[]⟩,.string ⟨#[]⟩,.string ⟨#[]⟩,.int .i64 0,.int .i64 0,.int .i64 0,.string ⟨#[]⟩,.bool false] 40)):=by
  repeat (first | exact Below.refl _ _ | refine Below.alloc ?_ (by simp; try omega) _)
 refine (i1 _ (HL.out.below hbd)).mono ?_;rintro e w' ⟨rfl,hb⟩;have HF:Hid (Below w.heap.size w (w'.alloc (.cells #[.string ⟨#[99]⟩,.string ⟨(Lib.itoa i).toArray⟩] 9))):=(hbd.trans (hb.mono hbd.size)).alloc (hbd.trans (hb.mono hbd.size)).size _;clear hbd hb;go_wp2_with fail
 go_ret;exact ⟨_,rfl,wordsAt_new w' (([[99],Lib.itoa i]:List Word).map bs8) _,HF.out⟩
theorem wordsE_is (e:E) (w:World) (h:Ev.may e) (hL:LibsE w):Calls Tryz.prog 115 #[evV e] w fun r w'=>∃ g,r=.returned (.slice (some ⟨g,0,none⟩) (wordsOf e).length (wordsOf e).length)∧WordsAt w' g ((wordsOf e).map bs8)∧Below w.heap.size w w':=by
 obtain ⟨k,f,i,t⟩:=e;rcases h with ⟨hk,hf,hi,ht⟩ | ⟨hk,hf,hi,ht⟩ | ⟨hk,hf,hi,ht⟩ <;> simp only at hk hf hi ht <;> subst hk
 ·subst hi; subst ht
  exact words_1 f w hf hL
 ·subst hf; subst ht
  exact words_2 i w hi hL
 ·subst hf; subst hi
  exact words_3 t w ht hL
end Go.Proofs.YtlailakofhenkabGreatDoor
