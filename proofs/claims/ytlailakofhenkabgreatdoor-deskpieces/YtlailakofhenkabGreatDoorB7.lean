import Derived.Test.YtlailakofhenkabGreatDoorB6
set_option maxRecDepth 100000
set_option maxHeartbeats 4000000
namespace Go.Proofs.YtlailakofhenkabGreatDoor
open Go Go.RowKit Sc
theorem join_is {B:Nat} {w:World} {v:Value} {xs:List ByteArray} (h:Words B w v xs) (hn:(joined (xs.map (·.data.toList))).length≤5000) (hx:xs.length≤5000) :
 Calls Tryz.prog 114 #[v,.string ⟨#[43]⟩] w fun e w'=>e=.returned (.string ⟨(joined (xs.map (·.data.toList))).toArray⟩)∧Below w.heap.size w w':=by
 rcases h with ⟨rfl,rfl⟩ | ⟨g,c,rfl,hr⟩
 ·refine (Tryz.strings_Join_none none 0 ⟨#[43]⟩ w).mono ?_
  rintro e w' ⟨rfl,rfl⟩;exact ⟨rfl,Below.refl _ _⟩
 ·refine Tryz.strings_Join g 0 c xs ⟨#[43]⟩ w (fun j x hj=>?_) hr.lt (by omega) hr.le (by show (joined _).length≤_; omega)
  rw [Nat.zero_add];refine hr.holds j _ ?_;rw [List.getElem?_map,hj];rfl
theorem contains_is {B:Nat} {w:World} {v:Value} {ys:List ByteArray} (h:Words B w v ys) (hn:ys.length≤5000) (x:ByteArray) :
 Calls Tryz.prog 210 #[v,.string x] w fun e w'=>e=.returned (.bool (decide (x.data.toList∈ys.map (·.data.toList))))∧w'=w:=by
 rcases h with ⟨rfl,rfl⟩ | ⟨g,c,rfl,hr⟩
 ·refine (Tryz.slices_Contains_string_empty none 0 x w).mono ?_
  rintro e w' ⟨rfl,rfl⟩;exact ⟨rfl,rfl⟩
 ·refine (Tryz.slices_Contains_string g 0 ys.length c ys x w (Nat.le_refl _) (by omega) (fun j hj=>?_)).mono ?_
  ·rw [Nat.zero_add]
   refine hr.holds j _ ?_;rw [List.getElem?_map,List.getElem?_eq_getElem hj,List.getD_eq_getElem?_getD,List.getElem?_eq_getElem hj];rfl
  ·rintro e w' ⟨rfl,rfl⟩
   refine ⟨?_,rfl⟩;congr 2
   rw [List.take_of_length_le (Nat.le_refl _),Bool.eq_iff_iff,Lib.containsS_iff,decide_eq_true_iff,mem_bytes]
theorem errQ_succ (n:Nat):errQ (n+1)=.iface 47 (.int .i64 ((n+1:Nat):Int)):=rfl
theorem leastS_is (s:ByteArray) (w:World) (hs:s.size≤5000) (hL:LenOk w):Calls Tryz.prog 71 #[.string s] w fun e w'=>∃ l n,e=.returned (.tuple #[.string ⟨(joined l).toArray⟩,errQ n])∧Out s.data.toList l n∧Below w.heap.size w w':=by
 have HL:Hid (LenOk w):=hL;clear hL;go_enter Tryz.func71,Tryz.ntmps71
 go_wp2_with fail
 refine (readS_is s _ hs HL.out).mono ?_;rintro e w1 ⟨v,xs,n,rfl,ho,hv,hb⟩;have HO:Hid (Out s.data.toList (xs.map (·.data.toList)) n):=ho;have HV:Hid (Words w.heap.size w1 v xs):=hv;have HB:Hid (Below w.heap.size w w1):=hb;have hln:=out_len ho;have hx5:xs.length≤5:=by simpa using hln.1
 have hj:(joined (xs.map (·.data.toList))).length≤5000:=by omega
 clear ho hv hb hln
 cases n with
 |succ n=>
  have HN:Hid (Out s.data.toList [] (n+1)):=by have:=out_no HO.out; rw [← this]; exact HO.out
  rw [errQ_succ];go_wp2_with fail
  exact bodyPost_ret (v:=.tuple #[.string ⟨#[]⟩,errQ (n+1)]) (by simp [results,Tryz.results71,go_sem,errQ]) rfl ⟨[],n+1,rfl,HN.out,HB.out⟩
 |zero=>
  rw [show errQ 0=.nilIface from rfl]
  go_wp2_with fail
  refine (join_is HV.out hj (by omega)).mono ?_
  rintro e w2 ⟨rfl,hb2⟩;have HB2:Hid (Below w.heap.size w w2):=HB.out.trans (hb2.mono HB.out.size);clear hb2;generalize hjj:joined (xs.map (·.data.toList))=J at *;have HJ:Hid (joined (xs.map (·.data.toList))=J):=hjj;clear hjj;go_wp2_with fail
  exact bodyPost_ret (v:=.tuple #[.string ⟨J.toArray⟩,.nilIface]) (by simp [results,Tryz.results71,go_sem]) rfl ⟨xs.map (·.data.toList),0,by rw [HJ.out]; rfl,HO.out,HB2.out⟩
theorem inB_take (xs:List ByteArray) (m:List Word) (k:Nat) (hk:k<xs.length):inB ((xs.map (·.data.toList)).take (k+1)) m=(inB ((xs.map (·.data.toList)).take k) m && decide (xs[k].data.toList∈m)):=by
 unfold inB;rw [List.take_succ_eq_append_getElem (by simpa using hk),List.all_append]
 simp
theorem inB_bad (xs:List ByteArray) (m:List Word) (k:Nat) (hk:k<xs.length) (h:decide (xs[k].data.toList∈m)=false):inB (xs.map (·.data.toList)) m=false:=by
 cases hb:inB (xs.map (·.data.toList)) m with
 |false=>rfl
 |true=>
  have:=inB_iff.1 hb xs[k].data.toList (mem_bytes.2 (List.getElem_mem hk));rw [decide_eq_false_iff_not] at h;exact absurd this h
theorem withinS_is (s t:ByteArray) (w:World) (hs:s.size≤5000) (ht:t.size≤5000) (hL:LenOk w):Calls Tryz.prog 132 #[.string s,.string t] w fun e w'=>∃ r n,e=.returned (.tuple #[.bool r,errQ n])∧WOut s.data.toList t.data.toList r n∧Below w.heap.size w w':=by
 have HL:Hid (LenOk w):=hL;clear hL;go_enter Tryz.func132,Tryz.ntmps132
 go_wp2_with fail
 have hR2:∀ (W:World),Below w.heap.size w W→Calls Tryz.prog 129 #[.string t] W fun e w'=>∃ v xs n,e=.returned (.tuple #[v,errQ n])∧Out t.data.toList (xs.map (·.data.toList)) n∧Words w.heap.size w' v xs∧Below W.heap.size W w':=fun W hb=>(readS_is t W ht (HL.out.below hb)).mono (by
  rintro e w' ⟨v,xs,n,h1,h2,h3,h4⟩;exact ⟨v,xs,n,h1,h2,h3.mono hb.size,h4⟩)
 obtain ⟨l2,k2,HO2⟩:∃ l k,Hid (Out t.data.toList l k):=by
  obtain ⟨l,k,h⟩:=out_ex t.data.toList;exact ⟨l,k,h⟩
 refine (readS_is s _ hs HL.out).mono ?_;rintro e w1 ⟨v,xs,n,rfl,ho,hv,hb⟩;have HO:Hid (Out s.data.toList (xs.map (·.data.toList)) n):=ho;have HV:Hid (Words w.heap.size w1 v xs):=hv;have HB:Hid (Below w.heap.size w w1):=hb;have hx5:xs.length≤5:=by simpa using (out_len ho).1
 clear ho hv hb
 cases n with
 |succ n=>
  have HW:Hid (WOut s.data.toList t.data.toList false (n+1)):=⟨_,_,_,_,HO.out,HO2.out,.inl ⟨by omega,rfl,rfl⟩⟩
  rw [errQ_succ];clear hR2;go_wp2_with fail
  exact bodyPost_ret (v:=.tuple #[.bool false,errQ (n+1)]) (by simp [results,Tryz.results132,go_sem,errQ]) rfl ⟨false,n+1,rfl,HW.out,HB.out⟩
 |zero=>
  rw [show errQ 0=.nilIface from rfl]
  have hR:=hR2 w1 HB.out;clear hR2;go_wp2_with fail
  refine hR.mono ?_;rintro e w2 ⟨v2,ys,k,rfl,ho2,hv2,hb2⟩;have HO3:Hid (Out t.data.toList (ys.map (·.data.toList)) k):=ho2;have HV2:Hid (Words w.heap.size w2 v2 ys):=hv2;have HB2:Hid (Below w.heap.size w w2):=HB.out.trans (hb2.mono HB.out.size);have HV1:Hid (Words w.heap.size w2 v xs):=HV.out.below hb2 (Nat.le_refl _);have hy5:ys.length≤5:=by simpa using (out_len ho2).1
  clear ho2 hv2 hb2 hR HO2
  cases k with
  |succ k=>
   have HW:Hid (WOut s.data.toList t.data.toList false (k+1)):=⟨_,_,_,_,HO.out,HO3.out,.inr (.inl ⟨rfl,by omega,rfl,rfl⟩)⟩
   rw [errQ_succ];go_wp2_with fail
   exact bodyPost_ret (v:=.tuple #[.bool false,errQ (k+1)]) (by simp [results,Tryz.results132,go_sem,errQ]) rfl ⟨false,k+1,rfl,HW.out,HB2.out⟩
  |zero=>
   rw [show errQ 0=.nilIface from rfl]
   have HWT:Hid (∀ r,r=inB (xs.map (·.data.toList)) (ys.map (·.data.toList))→WOut s.data.toList t.data.toList r 0):=fun r hr=>⟨_,_,_,_,HO.out,HO3.out,.inr (.inr ⟨rfl,rfl,rfl,hr⟩)⟩;clear HO HO3;obtain ⟨base,c,hvv⟩:=HV1.out.slice
   have HRow:Hid (0<xs.length→∃ g,base=some ⟨g,0,none⟩∧RowAt w.heap.size w2 g c xs.length (xs.map Value.string)):=by
    intro hpos;rcases HV1.out with ⟨_,rfl⟩ | ⟨g,c',e1,h2⟩
    ·simp at hpos
    ·rw [hvv] at e1
     injection e1 with e1 _ e2;subst e2;exact ⟨g,e1,h2⟩
   subst hvv;go_wp2_with fail
   go_loopg [29] xs.length (fun gk iv wr=>∃ j:Nat,j+gk=xs.length∧iv=.int .i64 j∧Hid (inB ((xs.map (·.data.toList)).take j) (ys.map (·.data.toList))=true)∧wr=w2)
   case atStart=>exact ⟨0,by omega,rfl,rfl,rfl⟩
   case round=>
    obtain ⟨j,hj,rfl,HIN,rfl⟩:=hrel;have HJ:Hid (j+gk=xs.length):=hj;have hjl:j≤xs.length:=by omega
    clear hj;by_cases hlt:j<xs.length
    ·obtain ⟨g,rfl,hr⟩:=HRow.out (by omega)
     have hcell:wr.cell? ⟨g,j,none⟩=some (.string xs[j]):=hr.holds j _ (by rw [List.getElem?_map,List.getElem?_eq_getElem hlt]; rfl)
     clear hr;have hltI:(j:Int)<(xs.length:Int):=by omega
     have HT:Hid (inB ((xs.map (·.data.toList)).take (j+1)) (ys.map (·.data.toList))=(inB ((xs.map (·.data.toList)).take j) (ys.map (·.data.toList)) && decide (xs[j].data.toList∈ys.map (·.data.toList)))):=inB_take xs _ j hlt;have HF:Hid (decide (xs[j].data.toList∈ys.map (·.data.toList))=false→inB (xs.map (·.data.toList)) (ys.map (·.data.toList))=false):=inB_bad xs _ j hlt;generalize hx:xs[j]=x at *;clear hx;go_wp2_with fail
     refine (contains_is HV2.out (by omega) x).mono ?_
     rintro e w3 ⟨rfl,rfl⟩
     cases hd:decide (x.data.toList∈ys.map (·.data.toList)) with
     |true=>
      have HT2:Hid (inB ((xs.map (·.data.toList)).take (j+1)) (ys.map (·.data.toList))=true):=by show _=_; rw [HT.out,HIN.out,hd]; rfl
      clear hd;go_wp2_with fail
      go_roundg (gk - 1)
      case measure=>have:=HJ.out; omega
      case rel=>exact ⟨j+1,by have:=HJ.out; omega,by go_num,HT2,rfl⟩
     |false=>
      have HW:Hid (WOut s.data.toList t.data.toList false 0):=HWT.out false (HF.out hd).symm;clear hd;go_wp2_with fail
      exact bodyPost_ret (v:=.tuple #[.bool false,.nilIface]) (by simp [results,Tryz.results132,go_sem]) rfl ⟨false,0,rfl,HW.out,HB2.out⟩
    ·obtain rfl:j=xs.length:=by omega
     have HW:Hid (WOut s.data.toList t.data.toList true 0):=HWT.out true (by have:=HIN.out; rw [List.take_of_length_le (by simp)] at this; exact this.symm)
     go_wp2_with fail
     exact bodyPost_ret (v:=.tuple #[.bool true,.nilIface]) (by simp [results,Tryz.results132,go_sem]) rfl (by first | exact ⟨true,0,rfl,HW.out,HB2.out⟩ | exact .inr ⟨0,rfl,HW.out,HB2.out⟩)
end Go.Proofs.YtlailakofhenkabGreatDoor
namespace Go.Proofs.YtlailakofhenkabGreatDoor
open Go Go.RowKit Go.Maps Go.WideMaps
end Go.Proofs.YtlailakofhenkabGreatDoor
namespace Go.Proofs.YtlailakofhenkabGreatDoor
open Go Go.RowKit Go.Maps Sc
end Go.Proofs.YtlailakofhenkabGreatDoor
namespace Go.Proofs.YtlailakofhenkabGreatDoor.Sc
theorem count_one {m:List Word} (h:m.Nodup) (p:Word):m.count p=if p∈m then 1 else 0:=by
 induction m with
 |nil=>simp
 |cons a m ih=>
  rw [List.nodup_cons] at h;rw [List.count_cons,ih h.2];by_cases e:a=p
  ·subst e
   simp [h.1]
  ·have e':¬ p=a:=fun h=>e h.symm
   simp [e,e']
end Go.Proofs.YtlailakofhenkabGreatDoor.Sc
namespace Go.Proofs.YtlailakofhenkabGreatDoor
open Go Go.RowKit Sc
end Go.Proofs.YtlailakofhenkabGreatDoor
namespace Go.Proofs.YtlailakofhenkabGreatDoor
open Go Go.RowKit Tok Sc Ev
theorem toList_nil {x:ByteArray} (h:x.toList= []):x=⟨#[]⟩:=by
 rw [ByteArray.toList_eq] at h;exact bytes_eq h
def Small (n:Nat) (f:Fam):Prop:=f.client.size≤n∧f.subject.size≤n∧f.scope.size≤n∧f.request.size≤n
theorem bool_f {b:Bool} {p:Prop} (hb:b=true↔p) (h:¬ p):b=false:=Bool.eq_false_iff.2 (fun k=>h (hb.1 k))
theorem may_2 {f:Fam} {i t:Int}:may ⟨2,f,i,t⟩↔f=zeroF∧okN i∧t=0:=by simp [Ev.may]
theorem may_3 {f:Fam} {i t:Int}:may ⟨3,f,i,t⟩↔f=zeroF∧i=0∧okN t:=by simp [Ev.may]
theorem may_1 {f:Fam} {i t:Int}:may ⟨1,f,i,t⟩↔mayF f∧i=0∧t=0:=by simp [Ev.may]
theorem may_no {f:Fam} {k i t:Int} (h1:k≠1) (h2:k≠2) (h3:k≠3):¬ may ⟨k,f,i,t⟩:=by simp [Ev.may,h1,h2,h3]
set_option maxHeartbeats 2000000
theorem okB_lo {n:Int} (h:n<0):okB n=false:=okB_f (fun k=>by have:=k.1; omega)
theorem okB_hi {n:Int} (h:1099511627776<n):okB n=false:=okB_f (fun k=>by have:=k.2; omega)
theorem beyond_is (n:Int) (w:World):Calls Tryz.prog 264 #[.int .i64 n] w fun e w'=>e=.returned (.bool (!okB n))∧∃ q,w'=w.drewN q:=by
 by_cases h0:n<0
 ·have HL:Hid (okB n=false):=okB_lo h0
  go_enter Tryz.func264,Tryz.ntmps264
  go_wp2_with fail
  go_ret;exact ⟨by rw [HL.out]; rfl,0,rfl⟩
 ·by_cases h1:1099511627776<n
  ·have HL:Hid (okB n=false):=okB_hi h1
   go_enter Tryz.func264,Tryz.ntmps264
   go_wp2_with fail
   go_ret;exact ⟨by rw [HL.out]; rfl,0,rfl⟩
  ·have HL:Hid (okB n=true):=okB_t ⟨by omega,by omega⟩
   go_enter Tryz.func264,Tryz.ntmps264
   go_wp2_with fail
   go_ret;exact ⟨by rw [HL.out]; rfl,0,rfl⟩
theorem all_any (ns:List Int):(!(ns.any fun n=>!okB n))=ns.all okB:=by
 induction ns with
 |nil=>rfl
 |cons a l ih=>rw [List.any_cons,List.all_cons,← ih]; cases okB a <;> simp
theorem bounds_is (ns:List Int) (g c:Nat) (w:World) (hn:ns.length≤5000) (hc:∀ j (h:j<ns.length),w.cell? ⟨g,j,none⟩=some (.int .i64 ns[j])) :
 Calls Tryz.prog 185 #[.slice (some ⟨g,0,none⟩) ns.length c] w fun e w'=>e=.returned (.bool (ns.all okB))∧∃ q,w'=w.drewN q:=by
 rw [← all_any ns];have HC:=Tryz.slices_ContainsFunc_f265 (Value.int .i64) (fun n=>!okB n) 264 #[] (enters_of Tryz.func264 (by kernel_rfl) rfl) g 0 ns.length c ns w (fun W x _=>beyond_is x W) (Nat.le_refl _) (by omega) (fun j hj=>by rw [Nat.zero_add,hc j hj,getElem!_pos ns j hj])
 rw [List.take_of_length_le (Nat.le_refl _)] at HC;clear hc;go_enter Tryz.func185,Tryz.ntmps185
 go_wp2_with fail
 refine HC.mono ?_;rintro e w' ⟨rfl,q,rfl⟩;go_wp2_with fail
 go_ret;exact ⟨rfl,q,rfl⟩
theorem isLeast_is (s:ByteArray) (b:Bool) (hb:b=true↔Lst s.data.toList) (w:World) (hs:s.size≤5000) (hL:LenOk w):Calls Tryz.prog 263 #[.string s] w fun e w'=>e=.returned (.bool b)∧Below w.heap.size w w':=by
 have HL:Hid (LenOk w):=hL;have HB:Hid (b=true↔Lst s.data.toList):=hb;clear hL hb;go_enter Tryz.func263,Tryz.ntmps263
 go_wp2_with fail
 refine (leastS_is s _ hs HL.out).mono ?_;rintro e w' ⟨l,n,rfl,ho,hbl⟩;have HO:Hid (Out s.data.toList l n):=ho;have HBL:Hid (Below w.heap.size w w'):=hbl;clear ho hbl;generalize hJJ:joined l=J;have HJJ:Hid (joined l=J):=hJJ;clear hJJ
 cases n with
 |succ n=>
  have HQ:Hid (b=false):=bool_f HB.out (lst_not HO.out);rw [errQ_succ];go_wp2_with fail
  go_ret;exact ⟨by rw [HQ.out]; rfl,HBL.out⟩
 |zero=>
  rw [show errQ 0=.nilIface from rfl]
  by_cases hJ:J=s.data.toList
  ·have HQ:Hid (b=true):=HB.out.2 ((lst_of HO.out).2 (HJJ.out.trans hJ))
   have hf4:s=⟨J.toArray⟩:=bytes_eq hJ.symm;clear HO HB;subst hf4;go_wp2_with fail
   go_ret;exact ⟨by rw [HQ.out]; rfl,HBL.out⟩
  ·have HQ:Hid (b=false):=bool_f HB.out (fun h=>hJ (HJJ.out.symm.trans ((lst_of HO.out).1 h)))
   have hne:(J == s.toList)=false:=by rw [ByteArray.toList_eq,beq_eq_false_iff_ne]; exact hJ
   clear HO HB hJ;go_wp2_with fail
   go_ret;exact ⟨by rw [HQ.out]; rfl,HBL.out⟩
set_option maxHeartbeats 8000000
theorem mayBePut_is (f:Fam) (b:Bool) (hb:b=true↔mayF f) (hs:Small 5000 f) (w:World) (hL:LenOk w):Calls Tryz.prog 184 #[famV f] w fun e w'=>e=.returned (.bool b)∧Below w.heap.size w w':=by
 obtain ⟨f1,f2,f3,f4,f5,f6,f7,f8,f9⟩:=f;unfold Small at hs;unfold mayF at hb;simp only at hs hb;obtain ⟨s2,s3,s4,s8⟩:=hs
 have HBD:Hid (Below w.heap.size w ((w.alloc (.cells #[.int .i64 f1,.string f2,.string f3,.string f4,.int .i64 f5,.int .i64 f6,.int .i64 f7,.string f8,.bool f9] 40)).alloc (.cells #[.int .i64 f1,.int .i64 f5,.int .i64 f6,.int .i64 f7] 3))):=by
  show Below _ _ _
  repeat (first | exact Below.refl _ _ | refine Below.alloc ?_ (by simp; try omega) _)
 have HB:Hid (b=true↔(okN f1∧okN f5∧okN f6∧okN f7)∧nameB f2.data.toList=true∧nameB f3.data.toList=true∧(f8.data.toList= []∨nameB f8.data.toList=true)∧Lst f4.data.toList):=hb;have HL:Hid (LenOk ((w.alloc (.cells #[.int .i64 f1,.string f2,.string f3,.string f4,.int .i64 f5,.int .i64 f6,.int .i64 f7,.string f8,.bool f9] 40)).alloc (.cells #[.int .i64 f1,.int .i64 f5,.int .i64 f6,.int .i64 f7] 3))):=hL.below HBD.out;clear hb hL
 have hbo:Calls Tryz.prog 185 #[.slice (some ⟨w.heap.size+1,0,none⟩) 4 4] ((w.alloc (.cells #[.int .i64 f1,.string f2,.string f3,.string f4,.int .i64 f5,.int .i64 f6,.int .i64 f7,.string f8,.bool f9] 40)).alloc (.cells #[.int .i64 f1,.int .i64 f5,.int .i64 f6,.int .i64 f7] 3)) fun e w'=>e=.returned (.bool ([f1,f5,f6,f7].all okB))∧∃ q,w'=((w.alloc (.cells #[.int .i64 f1,.string f2,.string f3,.string f4,.int .i64 f5,.int .i64 f6,.int .i64 f7,.string f8,.bool f9] 40)).alloc (.cells #[.int .i64 f1,.int .i64 f5,.int .i64 f6,.int .i64 f7] 3)).drewN q:=
  bounds_is [f1,f5,f6,f7] (w.heap.size+1) 4 ((w.alloc (.cells #[.int .i64 f1,.string f2,.string f3,.string f4,.int .i64 f5,.int .i64 f6,.int .i64 f7,.string f8,.bool f9] 40)).alloc (.cells #[.int .i64 f1,.int .i64 f5,.int .i64 f6,.int .i64 f7] 3)) (by simp) (fun j hj=>by
   match j,hj with
   |0,_=>exact (World.cell?_alloc_at _ _ _ _ (by simp)).trans rfl
   |1,_=>exact (World.cell?_alloc_at _ _ _ _ (by simp)).trans rfl
   |2,_=>exact (World.cell?_alloc_at _ _ _ _ (by simp)).trans rfl
   |3,_=>exact (World.cell?_alloc_at _ _ _ _ (by simp)).trans rfl)
 have m1:((w.alloc (.cells #[.int .i64 f1,.string f2,.string f3,.string f4,.int .i64 f5,.int .i64 f6,.int .i64 f7,.string f8,.bool f9] 40)).alloc (.cells #[.int .i64 f1,.int .i64 f5,.int .i64 f6,.int .i64 f7] 3)).cell? ⟨w.heap.size,1,none⟩=some (.string f2):=Lib.cell?_alloc_some _ ((World.cell?_alloc_at _ _ _ _ (by simp)).trans rfl)
 have m2:((w.alloc (.cells #[.int .i64 f1,.string f2,.string f3,.string f4,.int .i64 f5,.int .i64 f6,.int .i64 f7,.string f8,.bool f9] 40)).alloc (.cells #[.int .i64 f1,.int .i64 f5,.int .i64 f6,.int .i64 f7] 3)).cell? ⟨w.heap.size,2,none⟩=some (.string f3):=Lib.cell?_alloc_some _ ((World.cell?_alloc_at _ _ _ _ (by simp)).trans rfl)
 have m3:((w.alloc (.cells #[.int .i64 f1,.string f2,.string f3,.string f4,.int .i64 f5,.int .i64 f6,.int .i64 f7,.string f8,.bool f9] 40)).alloc (.cells #[.int .i64 f1,.int .i64 f5,.int .i64 f6,.int .i64 f7] 3)).cell? ⟨w.heap.size,3,none⟩=some (.string f4):=Lib.cell?_alloc_some _ ((World.cell?_alloc_at _ _ _ _ (by simp)).trans rfl)
 have m7:((w.alloc (.cells #[.int .i64 f1,.string f2,.string f3,.string f4,.int .i64 f5,.int .i64 f6,.int .i64 f7,.string f8,.bool f9] 40)).alloc (.cells #[.int .i64 f1,.int .i64 f5,.int .i64 f6,.int .i64 f7] 3)).cell? ⟨w.heap.size,7,none⟩=some (.string f8):=Lib.cell?_alloc_some _ ((World.cell?_alloc_at _ _ _ _ (by simp)).trans rfl)
 unfold famV famCs;simp only
 cases hbb: [f1,f5,f6,f7].all okB with
 |false=>
  have HQ:Hid (b=false):=bool_f HB.out (fun h=>by
   obtain ⟨⟨h1,h5,h6,h7⟩,_⟩:=h;simp [okB_t h1,okB_t h5,okB_t h6,okB_t h7] at hbb)
  rw [hbb] at hbo;clear hbb HB;go_enter Tryz.func184,Tryz.ntmps184
  go_wp2_with fail
  refine hbo.mono ?_;rintro e w' ⟨rfl,q,rfl⟩;have HBQ:Hid (Below w.heap.size w (((w.alloc (.cells #[.int .i64 f1,.string f2,.string f3,.string f4,.int .i64 f5,.int .i64 f6,.int .i64 f7,.string f8,.bool f9] 40)).alloc (.cells #[.int .i64 f1,.int .i64 f5,.int .i64 f6,.int .i64 f7] 3)).drewN q)):=below_drewN' HBD.out q;generalize ((w.alloc (.cells #[.int .i64 f1,.string f2,.string f3,.string f4,.int .i64 f5,.int .i64 f6,.int .i64 f7,.string f8,.bool f9] 40)).alloc (.cells #[.int .i64 f1,.int .i64 f5,.int .i64 f6,.int .i64 f7] 3))=W at *;go_wp2_with fail
  go_ret;exact ⟨by rw [HQ.out]; rfl,HBQ.out⟩
 |true=>
  have HOK:Hid (okN f1∧okN f5∧okN f6∧okN f7):=by show _∧_; simpa [okB_iff] using hbb
  rw [hbb] at hbo;clear hbb;go_enter Tryz.func184,Tryz.ntmps184
  go_wp2_with fail
  refine hbo.mono ?_;rintro e w' ⟨rfl,q,rfl⟩;have HBQ:Hid (Below w.heap.size w (((w.alloc (.cells #[.int .i64 f1,.string f2,.string f3,.string f4,.int .i64 f5,.int .i64 f6,.int .i64 f7,.string f8,.bool f9] 40)).alloc (.cells #[.int .i64 f1,.int .i64 f5,.int .i64 f6,.int .i64 f7] 3)).drewN q)):=below_drewN' HBD.out q;have HLQ:Hid (LenOk (((w.alloc (.cells #[.int .i64 f1,.string f2,.string f3,.string f4,.int .i64 f5,.int .i64 f6,.int .i64 f7,.string f8,.bool f9] 40)).alloc (.cells #[.int .i64 f1,.int .i64 f5,.int .i64 f6,.int .i64 f7] 3)).drewN q)):=HL.out.below (below_drewN' (Below.refl _ _) q);clear hbo HL;generalize ((w.alloc (.cells #[.int .i64 f1,.string f2,.string f3,.string f4,.int .i64 f5,.int .i64 f6,.int .i64 f7,.string f8,.bool f9] 40)).alloc (.cells #[.int .i64 f1,.int .i64 f5,.int .i64 f6,.int .i64 f7] 3))=W at *
  cases h2:nameB f2.data.toList with
  |false=>
   have HQ:Hid (b=false):=bool_f HB.out (fun h=>by have:=h.2.1; rw [h2] at this; cases this)
   have HC2:Hid (nameB f2.data.toList=false):=h2;clear h2 HB HOK;go_wp2_with fail
   refine (name_is f2 _ (by omega)).mono ?_
   rintro e w' ⟨rfl,rfl⟩;rw [HC2.out];go_wp2_with fail
   go_ret;exact ⟨by rw [HQ.out]; rfl,HBQ.out⟩
  |true=>
   have HC2:Hid (nameB f2.data.toList=true):=h2
   cases h3:nameB f3.data.toList with
   |false=>
    have HQ:Hid (b=false):=bool_f HB.out (fun h=>by have:=h.2.2.1; rw [h3] at this; cases this)
    have HC3:Hid (nameB f3.data.toList=false):=h3;clear h2 h3 HB HOK;go_wp2_with fail
    refine (name_is f2 _ (by omega)).mono ?_
    rintro e w' ⟨rfl,rfl⟩;rw [HC2.out];go_wp2_with fail
    refine (name_is f3 _ (by omega)).mono ?_
    rintro e w' ⟨rfl,rfl⟩;rw [HC3.out];go_wp2_with fail
    go_ret;exact ⟨by rw [HQ.out]; rfl,HBQ.out⟩
   |true=>
    have HC3:Hid (nameB f3.data.toList=true):=h3
    have HR:Hid (b=true↔(f8.data.toList= []∨nameB f8.data.toList=true)∧Lst f4.data.toList):=by
     show b=true↔_
     rw [HB.out,h2,h3]
     have:=HOK.out;simp [this]
    clear HB HOK h2 h3;by_cases h8:f8.data.toList= []
    ·have he:f8.toList.isEmpty=true:=by rw [ByteArray.toList_eq,h8]; rfl
     have HR2:Hid (b=true↔Lst f4.data.toList):=by
      show b=true↔_
      rw [HR.out];simp [h8]
     clear HR h8;go_wp2_with fail
     refine (name_is f2 _ (by omega)).mono ?_
     rintro e w' ⟨rfl,rfl⟩;rw [HC2.out];go_wp2_with fail
     refine (name_is f3 _ (by omega)).mono ?_
     rintro e w' ⟨rfl,rfl⟩;rw [HC3.out];go_wp2_with fail
     refine (isLeast_is f4 b HR2.out _ s4 HLQ.out).mono ?_;rintro e w' ⟨rfl,hbe⟩;have HBE:Hid (Below w.heap.size w w'):=HBQ.out.trans (hbe.mono HBQ.out.size);clear hbe;go_wp2_with fail
     go_ret;exact ⟨rfl,HBE.out⟩
    ·have he:f8.toList.isEmpty=false:=by rw [ByteArray.toList_eq,List.isEmpty_eq_false_iff]; exact h8
     cases hn8:nameB f8.data.toList with
     |true=>
      have HC8:Hid (nameB f8.data.toList=true):=hn8
      have HR2:Hid (b=true↔Lst f4.data.toList):=by
       show b=true↔_
       rw [HR.out];simp [hn8]
      clear HR h8 hn8;go_wp2_with fail
      refine (name_is f2 _ (by omega)).mono ?_
      rintro e w' ⟨rfl,rfl⟩;rw [HC2.out];go_wp2_with fail
      refine (name_is f3 _ (by omega)).mono ?_
      rintro e w' ⟨rfl,rfl⟩;rw [HC3.out];go_wp2_with fail
      refine (name_is f8 _ (by omega)).mono ?_
      rintro e w' ⟨rfl,rfl⟩;rw [HC8.out];go_wp2_with fail
      refine (isLeast_is f4 b HR2.out _ s4 HLQ.out).mono ?_;rintro e w' ⟨rfl,hbe⟩;have HBE:Hid (Below w.heap.size w w'):=HBQ.out.trans (hbe.mono HBQ.out.size);clear hbe;go_wp2_with fail
      go_ret;exact ⟨rfl,HBE.out⟩
     |false=>
      have HC8:Hid (nameB f8.data.toList=false):=hn8
      have HQ:Hid (b=false):=bool_f HR.out (fun h=>by
       rcases h.1 with h | h
       ·exact h8 h
       ·rw [hn8] at h; cases h)
      clear HR h8 hn8;go_wp2_with fail
      refine (name_is f2 _ (by omega)).mono ?_
      rintro e w' ⟨rfl,rfl⟩;rw [HC2.out];go_wp2_with fail
      refine (name_is f3 _ (by omega)).mono ?_
      rintro e w' ⟨rfl,rfl⟩;rw [HC3.out];go_wp2_with fail
      refine (name_is f8 _ (by omega)).mono ?_
      rintro e w' ⟨rfl,rfl⟩;rw [HC8.out];go_wp2_with fail
      go_ret;exact ⟨by rw [HQ.out]; rfl,HBQ.out⟩
theorem bounds1 (i:Int) (w:World) (n:Nat) (ho:w.heap.size=n):Calls Tryz.prog 185 #[.slice (some ⟨n,0,none⟩) 1 1] (w.alloc (.cells #[.int .i64 i] 3)) fun e w'=>e=.returned (.bool (okB i))∧∃ q,w'=(w.alloc (.cells #[.int .i64 i] 3)).drewN q:=by
 have h:=bounds_is [i] n 1 (w.alloc (.cells #[.int .i64 i] 3)) (by simp) (fun j hj=>by
  match j,hj with
  |0,_=>exact (World.cell?_alloc_at _ _ _ _ (by simp [ho])).trans rfl)
 simpa using h
theorem mayBe_1 (f:Fam) (i t:Int) (b:Bool) (hb:b=true↔Ev.may ⟨1,f,i,t⟩) (hs:Small 5000 f) (w:World) (hL:LenOk w):Calls Tryz.prog 113 #[evV ⟨1,f,i,t⟩] w fun e w'=>e=.returned (.bool b)∧Below w.heap.size w w':=by
 rw [may_1] at hb;by_cases hi:i=0
 ·by_cases ht:t=0
  ·subst hi; subst ht
   have hb2:b=true↔mayF f:=by rw [hb]; simp
   have HM:∀ W,LenOk W→Calls Tryz.prog 184 #[famV f] W fun e w'=>e=.returned (.bool b)∧Below W.heap.size W w':=fun W h=>mayBePut_is f b hb2 hs W h;obtain ⟨f1,f2,f3,f4,f5,f6,f7,f8,f9⟩:=f;unfold famV famCs at HM;simp only at HM;have HL:Hid (LenOk (w.alloc (.cells #[.int .i64 1,.int .i64 f1,.string f2,.string f3,.string f4,.int .i64 f5,.int .i64 f6,.int .i64 f7,.string f8,.bool f9,.int .i64 0,.int .i64 0] 42))):=hL.below ((Below.refl _ _).alloc (Nat.le_refl _) _);have HB0:Hid (Below w.heap.size w (w.alloc (.cells #[.int .i64 1,.int .i64 f1,.string f2,.string f3,.string f4,.int .i64 f5,.int .i64 f6,.int .i64 f7,.string f8,.bool f9,.int .i64 0,.int .i64 0] 42))):=(Below.refl _ _).alloc (Nat.le_refl _) _;clear hb hb2 hs hL;unfold evV evCs;simp only;go_enter Tryz.func113,Tryz.ntmps113
   go_wp2_with fail
   refine (HM _ HL.out).mono ?_;rintro e w' ⟨rfl,hbe⟩;have HBE:Hid (Below w.heap.size w w'):=HB0.out.trans (hbe.mono HB0.out.size);clear hbe;go_wp2_with fail
   go_ret;exact ⟨rfl,HBE.out⟩
  ·have HQ:Hid (b=false):=bool_f hb (fun h=>ht h.2.2)
   have ht':(t == 0)=false:=by rw [beq_eq_false_iff_ne]; exact ht
   subst hi;obtain ⟨f1,f2,f3,f4,f5,f6,f7,f8,f9⟩:=f;clear hb hs hL;unfold evV evCs;simp only;go_enter Tryz.func113,Tryz.ntmps113
   go_wp2_with fail
   go_ret;refine ⟨by rw [HQ.out]; rfl,?_⟩
   repeat (first | exact Below.refl _ _ | refine Below.alloc ?_ (by simp) _)
 ·have HQ:Hid (b=false):=bool_f hb (fun h=>hi h.2.1)
  have hi':(i == 0)=false:=by rw [beq_eq_false_iff_ne]; exact hi
  obtain ⟨f1,f2,f3,f4,f5,f6,f7,f8,f9⟩:=f;clear hb hs hL;unfold evV evCs;simp only;go_enter Tryz.func113,Tryz.ntmps113
  go_wp2_with fail
  go_ret;refine ⟨by rw [HQ.out]; rfl,?_⟩
  repeat (first | exact Below.refl _ _ | refine Below.alloc ?_ (by simp) _)
theorem mayBe_2 (f:Fam) (i t:Int) (b:Bool) (hb:b=true↔Ev.may ⟨2,f,i,t⟩) (w:World):Calls Tryz.prog 113 #[evV ⟨2,f,i,t⟩] w fun e w'=>e=.returned (.bool b)∧Below w.heap.size w w':=by
 rw [may_2] at hb;by_cases hz:f=zeroF∧t=0
 ·obtain ⟨rfl,rfl⟩:=hz
  have HB:Hid (b=okB i):=by
   show b=okB i
   rw [Bool.eq_iff_iff,okB_iff,hb];simp
  clear hb;have h1:=fun (W:World) n ho=>bounds1 i W n ho;unfold evV evCs zeroF;simp only;go_enter Tryz.func113,Tryz.ntmps113
  go_wp2_with fail
  refine (h1 _ _ (by simp)).mono ?_
  rintro e w' ⟨rfl,q,rfl⟩;go_wp2_with fail
  go_ret;refine ⟨by rw [HB.out]; rfl,below_drewN' ?_ q⟩
  repeat (first | exact Below.refl _ _ | refine Below.alloc ?_ (by simp) _)
 ·have HB:Hid (b=false):=bool_f hb (fun h=>hz ⟨h.1,h.2.2⟩)
  have HZ:Hid (¬ (f=zeroF∧t=0)):=hz;clear hb hz;obtain ⟨f1,f2,f3,f4,f5,f6,f7,f8,f9⟩:=f;unfold evV evCs;simp only;go_enter Tryz.func113,Tryz.ntmps113
  go_wp2_with fail
  all_goals first
   |(exfalso; refine HZ.out ?_; unfold zeroF; simp_all [toList_nil]; done)
   |(go_ret; refine ⟨by rw [HB.out]; rfl,?_⟩; repeat (first | exact Below.refl _ _ | refine Below.alloc ?_ (by simp) _))
theorem mayBe_3 (f:Fam) (i t:Int) (b:Bool) (hb:b=true↔Ev.may ⟨3,f,i,t⟩) (w:World):Calls Tryz.prog 113 #[evV ⟨3,f,i,t⟩] w fun e w'=>e=.returned (.bool b)∧Below w.heap.size w w':=by
 rw [may_3] at hb;by_cases hz:f=zeroF∧i=0
 ·obtain ⟨rfl,rfl⟩:=hz
  have HB:Hid (b=okB t):=by
   show b=okB t
   rw [Bool.eq_iff_iff,okB_iff,hb];simp
  clear hb;have h1:=fun (W:World) n ho=>bounds1 t W n ho;unfold evV evCs zeroF;simp only;go_enter Tryz.func113,Tryz.ntmps113
  go_wp2_with fail
  refine (h1 _ _ (by simp)).mono ?_
  rintro e w' ⟨rfl,q,rfl⟩;go_wp2_with fail
  go_ret;refine ⟨by rw [HB.out]; rfl,below_drewN' ?_ q⟩
  repeat (first | exact Below.refl _ _ | refine Below.alloc ?_ (by simp) _)
 ·have HB:Hid (b=false):=bool_f hb (fun h=>hz ⟨h.1,h.2.1⟩)
  have HZ:Hid (¬ (f=zeroF∧i=0)):=hz;clear hb hz;obtain ⟨f1,f2,f3,f4,f5,f6,f7,f8,f9⟩:=f;unfold evV evCs;simp only;go_enter Tryz.func113,Tryz.ntmps113
  go_wp2_with fail
  all_goals first
   |(exfalso; refine HZ.out ?_; unfold zeroF; simp_all [toList_nil]; done)
   |(go_ret; refine ⟨by rw [HB.out]; rfl,?_⟩; repeat (first | exact Below.refl _ _ | refine Below.alloc ?_ (by simp) _))
theorem mayBe_no (k:Int) (f:Fam) (i t:Int) (b:Bool) (hb:b=true↔Ev.may ⟨k,f,i,t⟩) (h1:k≠1) (h2:k≠2) (h3:k≠3) (w:World):Calls Tryz.prog 113 #[evV ⟨k,f,i,t⟩] w fun e w'=>e=.returned (.bool b)∧Below w.heap.size w w':=by
 have HB:Hid (b=false):=bool_f hb (may_no h1 h2 h3);clear hb;obtain ⟨f1,f2,f3,f4,f5,f6,f7,f8,f9⟩:=f;unfold evV evCs;simp only;go_enter Tryz.func113,Tryz.ntmps113
 go_wp2_with fail
 go_ret;refine ⟨by rw [HB.out]; rfl,?_⟩
 repeat (first | exact Below.refl _ _ | refine Below.alloc ?_ (by simp) _)
theorem mayBeE_is (e:E) (b:Bool) (hb:b=true↔Ev.may e) (hs:Small 5000 e.fam) (w:World) (hL:LenOk w):Calls Tryz.prog 113 #[evV e] w fun e w'=>e=.returned (.bool b)∧Below w.heap.size w w':=by
 obtain ⟨k,f,i,t⟩:=e;by_cases h1:k=1
 ·subst h1; exact mayBe_1 f i t b hb hs w hL
 by_cases h2:k=2
 ·subst h2; exact mayBe_2 f i t b hb w
 by_cases h3:k=3
 ·subst h3; exact mayBe_3 f i t b hb w
 exact mayBe_no k f i t b hb h1 h2 h3 w
end Go.Proofs.YtlailakofhenkabGreatDoor
