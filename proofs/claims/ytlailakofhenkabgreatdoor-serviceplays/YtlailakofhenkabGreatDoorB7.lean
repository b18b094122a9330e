import Derived.Test.YtlailakofhenkabGreatDoorB6
set_option maxRecDepth 100000
set_option maxHeartbeats 4000000
namespace Go.Proofs.YtlailakofhenkabGreatDoor
open Go Go.RowKit Sc
theorem join_is {B:Nat} {w:World} {v:Value} {xs:List ByteArray} (h:Words B w v xs) (hn:(joined (xs.map (·.data.toList))).length≤5000) (hx:xs.length≤5000) :
 Calls Tryz.prog 114 #[v,.string ⟨#[43]⟩] w fun e w'=>e=.returned (.string ⟨(joined (xs.map (·.data.toList))).toArray⟩)∧Below w.heap.size w w':=by
 rcases h with ⟨rfl,rfl⟩ | ⟨g,c,rfl,hr⟩
 ·refine (Tryz.strings_Join_none none 0 ⟨#[43]⟩ w).mono ?_
  rintro e w' ⟨rfl,rfl⟩;exact ⟨rfl,Below.refl _ _⟩
 ·refine Tryz.strings_Join g 0 c xs ⟨#[43]⟩ w (fun j x hj=>?_) hr.lt (by omega) hr.le (by show (joined _).length≤_; omega)
  rw [Nat.zero_add];refine hr.holds j _ ?_;rw [List.getElem?_map,hj];rfl
theorem contains_is {B:Nat} {w:World} {v:Value} {ys:List ByteArray} (h:Words B w v ys) (hn:ys.length≤5000) (x:ByteArray) :
 Calls Tryz.prog 210 #[v,.string x] w fun e w'=>e=.returned (.bool (decide (x.data.toList∈ys.map (·.data.toList))))∧w'=w:=by
 rcases h with ⟨rfl,rfl⟩ | ⟨g,c,rfl,hr⟩
 ·refine (Tryz.slices_Contains_string_empty none 0 x w).mono ?_
  rintro e w' ⟨rfl,rfl⟩;exact ⟨rfl,rfl⟩
 ·refine (Tryz.slices_Contains_string g 0 ys.length c ys x w (Nat.le_refl _) (by omega) (fun j hj=>?_)).mono ?_
  ·rw [Nat.zero_add]
   refine hr.holds j _ ?_;rw [List.getElem?_map,List.getElem?_eq_getElem hj,List.getD_eq_getElem?_getD,List.getElem?_eq_getElem hj];rfl
  ·rintro e w' ⟨rfl,rfl⟩
   refine ⟨?_,rfl⟩;congr 2
   rw [List.take_of_length_le (Nat.le_refl _),Bool.eq_iff_iff,Lib.containsS_iff,decide_eq_true_iff,mem_bytes]
theorem errQ_succ (n:Nat):errQ (n+1)=.iface 47 (.int .i64 ((n+1:Nat):Int)):=rfl
theorem leastS_is (s:ByteArray) (w:World) (hs:s.size≤5000) (hL:LenOk w):Calls Tryz.prog 71 #[.string s] w fun e w'=>∃ l n,e=.returned (.tuple #[.string ⟨(joined l).toArray⟩,errQ n])∧Out s.data.toList l n∧Below w.heap.size w w':=by
 have HL:Hid (LenOk w):=hL;clear hL;go_enter Tryz.func71,Tryz.ntmps71
 go_wp2_with fail
 refine (readS_is s _ hs HL.out).mono ?_;rintro e w1 ⟨v,xs,n,rfl,ho,hv,hb⟩;have HO:Hid (Out s.data.toList (xs.map (·.data.toList)) n):=ho;have HV:Hid (Words w.heap.size w1 v xs):=hv;have HB:Hid (Below w.heap.size w w1):=hb;have hln:=out_len ho;have hx5:xs.length≤5:=by simpa using hln.1
 have hj:(joined (xs.map (·.data.toList))).length≤5000:=by omega
 clear ho hv hb hln
 cases n with
 |succ n=>
  have HN:Hid (Out s.data.toList [] (n+1)):=by have:=out_no HO.out; rw [← this]; exact HO.out
  rw [errQ_succ];go_wp2_with fail
  exact bodyPost_ret (v:=.tuple #[.string ⟨#[]⟩,errQ (n+1)]) (by simp [results,Tryz.results71,go_sem,errQ]) rfl ⟨[],n+1,rfl,HN.out,HB.out⟩
 |zero=>
  rw [show errQ 0=.nilIface from rfl]
  go_wp2_with fail
  refine (join_is HV.out hj (by omega)).mono ?_
  rintro e w2 ⟨rfl,hb2⟩;have HB2:Hid (Below w.heap.size w w2):=HB.out.trans (hb2.mono HB.out.size);clear hb2;generalize hjj:joined (xs.map (·.data.toList))=J at *;have HJ:Hid (joined (xs.map (·.data.toList))=J):=hjj;clear hjj;go_wp2_with fail
  exact bodyPost_ret (v:=.tuple #[.string ⟨J.toArray⟩,.nilIface]) (by simp [results,Tryz.results71,go_sem]) rfl ⟨xs.map (·.data.toList),0,by rw [HJ.out]; rfl,HO.out,HB2.out⟩
theorem inB_take (xs:List ByteArray) (m:List Word) (k:Nat) (hk:k<xs.length):inB ((xs.map (·.data.toList)).take (k+1)) m=(inB ((xs.map (·.data.toList)).take k) m && decide (xs[k].data.toList∈m)):=by
 unfold inB;rw [List.take_succ_eq_append_getElem (by simpa using hk),List.all_append]
 simp
theorem inB_bad (xs:List ByteArray) (m:List Word) (k:Nat) (hk:k<xs.length) (h:decide (xs[k].data.toList∈m)=false):inB (xs.map (·.data.toList)) m=false:=by
 cases hb:inB (xs.map (·.data.toList)) m with
 |false=>rfl
 |true=>
  have:=inB_iff.1 hb xs[k].data.toList (mem_bytes.2 (List.getElem_mem hk));rw [decide_eq_false_iff_not] at h;exact absurd this h
theorem withinS_is (s t:ByteArray) (w:World) (hs:s.size≤5000) (ht:t.size≤5000) (hL:LenOk w):Calls Tryz.prog 132 #[.string s,.string t] w fun e w'=>∃ r n,e=.returned (.tuple #[.bool r,errQ n])∧WOut s.data.toList t.data.toList r n∧Below w.heap.size w w':=by
 have HL:Hid (LenOk w):=hL;clear hL;go_enter Tryz.func132,Tryz.ntmps132
 go_wp2_with fail
 have hR2:∀ (W:World),Below w.heap.size w W→Calls Tryz.prog 129 #[.string t] W fun e w'=>∃ v xs n,e=.returned (.tuple #[v,errQ n])∧Out t.data.toList (xs.map (·.data.toList)) n∧Words w.heap.size w' v xs∧Below W.heap.size W w':=fun W hb=>(readS_is t W ht (HL.out.below hb)).mono (by
  rintro e w' ⟨v,xs,n,h1,h2,h3,h4⟩;exact ⟨v,xs,n,h1,h2,h3.mono hb.size,h4⟩)
 obtain ⟨l2,k2,HO2⟩:∃ l k,Hid (Out t.data.toList l k):=by
  obtain ⟨l,k,h⟩:=out_ex t.data.toList;exact ⟨l,k,h⟩
 refine (readS_is s _ hs HL.out).mono ?_;rintro e w1 ⟨v,xs,n,rfl,ho,hv,hb⟩;have HO:Hid (Out s.data.toList (xs.map (·.data.toList)) n):=ho;have HV:Hid (Words w.heap.size w1 v xs):=hv;have HB:Hid (Below w.heap.size w w1):=hb;have hx5:xs.length≤5:=by simpa using (out_len ho).1
 clear ho hv hb
 cases n with
 |succ n=>
  have HW:Hid (WOut s.data.toList t.data.toList false (n+1)):=⟨_,_,_,_,HO.out,HO2.out,.inl ⟨by omega,rfl,rfl⟩⟩
  rw [errQ_succ];clear hR2;go_wp2_with fail
  exact bodyPost_ret (v:=.tuple #[.bool false,errQ (n+1)]) (by simp [results,Tryz.results132,go_sem,errQ]) rfl ⟨false,n+1,rfl,HW.out,HB.out⟩
 |zero=>
  rw [show errQ 0=.nilIface from rfl]
  have hR:=hR2 w1 HB.out;clear hR2;go_wp2_with fail
  refine hR.mono ?_;rintro e w2 ⟨v2,ys,k,rfl,ho2,hv2,hb2⟩;have HO3:Hid (Out t.data.toList (ys.map (·.data.toList)) k):=ho2;have HV2:Hid (Words w.heap.size w2 v2 ys):=hv2;have HB2:Hid (Below w.heap.size w w2):=HB.out.trans (hb2.mono HB.out.size);have HV1:Hid (Words w.heap.size w2 v xs):=HV.out.below hb2 (Nat.le_refl _);have hy5:ys.length≤5:=by simpa using (out_len ho2).1
  clear ho2 hv2 hb2 hR HO2
  cases k with
  |succ k=>
   have HW:Hid (WOut s.data.toList t.data.toList false (k+1)):=⟨_,_,_,_,HO.out,HO3.out,.inr (.inl ⟨rfl,by omega,rfl,rfl⟩)⟩
   rw [errQ_succ];go_wp2_with fail
   exact bodyPost_ret (v:=.tuple #[.bool false,errQ (k+1)]) (by simp [results,Tryz.results132,go_sem,errQ]) rfl ⟨false,k+1,rfl,HW.out,HB2.out⟩
  |zero=>
   rw [show errQ 0=.nilIface from rfl]
   have HWT:Hid (∀ r,r=inB (xs.map (·.data.toList)) (ys.map (·.data.toList))→WOut s.data.toList t.data.toList r 0):=fun r hr=>⟨_,_,_,_,HO.out,HO3.out,.inr (.inr ⟨rfl,rfl,rfl,hr⟩)⟩;clear HO HO3;obtain ⟨base,c,hvv⟩:=HV1.out.slice
   have HRow:Hid (0<xs.length→∃ g,base=some ⟨g,0,none⟩∧RowAt w.heap.size w2 g c xs.length (xs.map Value.string)):=by
    intro hpos;rcases HV1.out with ⟨_,rfl⟩ | ⟨g,c',e1,h2⟩
    ·simp at hpos
    ·rw [hvv] at e1
     injection e1 with e1 _ e2;subst e2;exact ⟨g,e1,h2⟩
   subst hvv;go_wp2_with fail
   go_loopg [29] xs.length (fun gk iv wr=>∃ j:Nat,j+gk=xs.length∧iv=.int .i64 j∧Hid (inB ((xs.map (·.data.toList)).take j) (ys.map (·.data.toList))=true)∧wr=w2)
   case atStart=>exact ⟨0,by omega,rfl,rfl,rfl⟩
   case round=>
    obtain ⟨j,hj,rfl,HIN,rfl⟩:=hrel;have HJ:Hid (j+gk=xs.length):=hj;have hjl:j≤xs.length:=by omega
    clear hj;by_cases hlt:j<xs.length
    ·obtain ⟨g,rfl,hr⟩:=HRow.out (by omega)
     have hcell:wr.cell? ⟨g,j,none⟩=some (.string xs[j]):=hr.holds j _ (by rw [List.getElem?_map,List.getElem?_eq_getElem hlt]; rfl)
     clear hr;have hltI:(j:Int)<(xs.length:Int):=by omega
     have HT:Hid (inB ((xs.map (·.data.toList)).take (j+1)) (ys.map (·.data.toList))=(inB ((xs.map (·.data.toList)).take j) (ys.map (·.data.toList)) && decide (xs[j].data.toList∈ys.map (·.data.toList)))):=inB_take xs _ j hlt;have HF:Hid (decide (xs[j].data.toList∈ys.map (·.data.toList))=false→inB (xs.map (·.data.toList)) (ys.map (·.data.toList))=false):=inB_bad xs _ j hlt;generalize hx:xs[j]=x at *;clear hx;go_wp2_with fail
     refine (contains_is HV2.out (by omega) x).mono ?_
     rintro e w3 ⟨rfl,rfl⟩
     cases hd:decide (x.data.toList∈ys.map (·.data.toList)) with
     |true=>
      have HT2:Hid (inB ((xs.map (·.data.toList)).take (j+1)) (ys.map (·.data.toList))=true):=by show _=_; rw [HT.out,HIN.out,hd]; rfl
      clear hd;go_wp2_with fail
      go_roundg (gk - 1)
      case measure=>have:=HJ.out; omega
      case rel=>exact ⟨j+1,by have:=HJ.out; omega,by go_num,HT2,rfl⟩
     |false=>
      have HW:Hid (WOut s.data.toList t.data.toList false 0):=HWT.out false (HF.out hd).symm;clear hd;go_wp2_with fail
      exact bodyPost_ret (v:=.tuple #[.bool false,.nilIface]) (by simp [results,Tryz.results132,go_sem]) rfl ⟨false,0,rfl,HW.out,HB2.out⟩
    ·obtain rfl:j=xs.length:=by omega
     have HW:Hid (WOut s.data.toList t.data.toList true 0):=HWT.out true (by have:=HIN.out; rw [List.take_of_length_le (by simp)] at this; exact this.symm)
     go_wp2_with fail
     exact bodyPost_ret (v:=.tuple #[.bool true,.nilIface]) (by simp [results,Tryz.results132,go_sem]) rfl (by first | exact ⟨true,0,rfl,HW.out,HB2.out⟩ | exact .inr ⟨0,rfl,HW.out,HB2.out⟩)
end Go.Proofs.YtlailakofhenkabGreatDoor
namespace Go.Proofs.YtlailakofhenkabGreatDoor
open Go Go.RowKit Go.Maps Go.WideMaps
def HasSet (w:World) (b n:Nat) (S:List UInt8→Bool):Prop:=
 ∃ D:DataW Unit,w.ownsMap Tryz.prog 9 (plainElem Tryz.prog 4) b n D∧Maps.IsMap D∧∀ k:List UInt8,D.atKey (.string k) (.lit (.bool false))=.lit (.bool (S k))
theorem setLaw:Keyed Tryz.prog 9:=string_keyed Tryz.underlying9
theorem setZero (w:World):(zeroValue 4).run Tryz.prog w=.ok (.bool false) w:=by kernel_rfl
theorem HasSet.made (w:World):HasSet (w.alloc (.map #[] 0)) w.heap.size 0 (fun _=>false):=
 ⟨.map [],World.ownsMap_made _ _ _ _,Maps.isMap_empty,fun _=>rfl⟩
theorem HasSet.block {w w':World} {b n:Nat} {S:List UInt8→Bool} (h:HasSet w b n S) (hb:w'.heap[b]?=w.heap[b]?):HasSet w' b n S:=by
 obtain ⟨D,⟨es,clock,e1,F1,e2,e3⟩,h2,h3⟩:=h;exact ⟨D,⟨es,clock,hb.trans e1,F1,e2,e3⟩,h2,h3⟩
theorem HasSet.lt {w:World} {b n:Nat} {S:List UInt8→Bool} (h:HasSet w b n S):b<w.heap.size:=by
 obtain ⟨D,h1,_⟩:=h;exact h1.lt
theorem plainElem_bool_inv {H:Type} {P:Program} {e:TypeId} (he:P.underlying e=some .bool) {v:Value} {z:DataW H × List MemPlace} (h:plainElem P e v=some z):∃ x:Bool,v=.bool x∧z=(.lit (.bool x),[]):=by
 unfold plainElem at h;rw [he] at h
 cases v <;> simp at h
 exact ⟨_,rfl,h.symm⟩
theorem HasSet.look {w:World} {b n:Nat} {S:List UInt8→Bool} (h:HasSet w b n S) {s:ByteArray} (hs:s.size≤maxLen) :
 (Instr.lookup 298 (.map (some b)) (.string s) false).run Tryz.prog w=.ok (.bool (S s.data.toList)) w:=by
 obtain ⟨D,h1,h2,h3⟩:=h;obtain ⟨v,ps,hrun,hv⟩:=h1.lookup setLaw Tryz.underlying298 (setZero w) (plainElem_bool Tryz.underlying4 false) (keyOf_string_mk Tryz.underlying9 hs);obtain ⟨x,rfl,hz⟩:=plainElem_bool_inv Tryz.underlying4 hv;rw [hrun]
 have e:D.atKey (.string s.data.toList) (.lit (.bool false))=(.lit (.bool x):DataW Unit):=by
  have:=congrArg Prod.fst hz;exact this
 rw [h3] at e;simp only [DataW.lit.injEq,Lit.bool.injEq] at e;rw [e]
theorem wpList_setPut (w:World) {ops:Array Oper} {rest:List Oper} {o:Oper} {a:Act} {Q:Exit→Act→World→Prop}
 (hg:o.guard=none) (m x v:Operand) (hop:o.op=Op.mapUpdate 298 m x v) (b n:Nat) (S:List UInt8→Bool) (hm:a.eval m=.map (some b)) (h:HasSet w b n S) (hn:n<maxLen) (s:ByteArray) (hx:a.eval x=.string s) (hv:a.eval v=.bool true) (hs:s.size≤maxLen)
 (hK:∀ w',HasSet w' b (n+1) (fun j=>decide (j=s.data.toList) || S j)→w.grownBy w' (some b)→wpList Tryz.prog ops Q rest (a.put o.dst undef) w'):wpList Tryz.prog ops Q (o::rest) a w:=by
 obtain ⟨D,h1,h2,h3⟩:=h;refine wpList_mapUpdate_own w hg m x v _ hop 9 4 setLaw Tryz.underlying298 _ b n D hm h1 hn _ _ (.string s.data.toList) hx hv (keyOf_string_mk Tryz.underlying9 hs) (.lit (.bool true)) [] (plainElem_bool Tryz.underlying4 true) ?_;intro w' h4 h5;refine hK w' ⟨_,h4,h2.put _ _,fun j=>?_⟩ h5;by_cases e:j=s.data.toList
 ·subst e
  rw [Maps.atKey_put_same h2 (by exact trivial)]
  simp
 ·rw [Maps.atKey_put_other (by simpa using e)]
  rw [h3 j];simp [e]
end Go.Proofs.YtlailakofhenkabGreatDoor
set_option maxHeartbeats 8000000
namespace Go.Proofs.YtlailakofhenkabGreatDoor
open Go Go.RowKit Go.Maps Sc
theorem HasSet.below {B:Nat} {w w':World} {b n:Nat} {S:List UInt8→Bool} (h:HasSet w b n S) (hb:Below B w w') (hB:b<B):HasSet w' b n S:=h.block (hb.block b hB)
theorem HasSet.mono {w:World} {b n m:Nat} {S:List UInt8→Bool} (h:HasSet w b n S) (hm:n≤m):HasSet w b m S:=by
 obtain ⟨D,h1,h2⟩:=h;exact ⟨D,h1.mono hm,h2⟩
theorem Words.grownBy {B b:Nat} {w w':World} {v:Value} {xs:List ByteArray} (h:Words B w v xs) (hg:w.grownBy w' (some b)) (hb:b<B):Words B w' v xs:=by
 rcases h with ⟨rfl,rfl⟩ | ⟨g,c,rfl,hr⟩
 ·exact .inl ⟨rfl,rfl⟩
 ·exact .inr ⟨g,c,rfl,hr.block hg.size (hg.block g hr.lt (by intro e; injection e with e; have:=hr.new; omega))⟩
theorem info_str:(Tryz.prog.info? 9).map (fun i=>(i.zero,i.size,i.bytes))=some (some (.string ⟨#[]⟩),1,16):=by kernel_rfl
theorem info_strs:∃ i,Tryz.prog.info? 9=some i∧i.zero=some (.string ⟨#[]⟩)∧i.size=1∧i.bytes=16:=by
 have h:=info_str
 cases hi:Tryz.prog.info? 9 with
 |none=>rw [hi] at h; cases h
 |some i=>
  rw [hi] at h;simp only [Option.map_some,Option.some.injEq,Prod.mk.injEq] at h;exact ⟨i,rfl,h.1,h.2.1,h.2.2⟩
structure ScRun (w:World) (s:List UInt8) (i:Nat) (outs:List ByteArray) (pre:List Word) (cur:Word) (v:Value) (wr:World):Prop where
 scan:Scan s i pre cur
 once:Once (outs.map (·.data.toList)) pre
 row:Words (w.heap.size+1) wr v outs
 set:HasSet wr w.heap.size i (fun x=>decide (x∈pre))
 below:Below w.heap.size w wr
 len:outs.length≤i
theorem ScRun.size {w:World} {s:List UInt8} {i:Nat} {outs:List ByteArray} {pre:List Word} {cur:Word} {v:Value} {wr:World} (h:ScRun w s i outs pre cur v wr):w.heap.size+1≤wr.heap.size:=h.set.lt
theorem scRun_start (w:World) (s:List UInt8):ScRun w s 0 [] [] [] (.slice none 0 0) (w.alloc (.map #[] 0)):=
 ⟨scan_start s,⟨.nil,fun _=>Iff.rfl⟩,.inl ⟨rfl,rfl⟩,by simpa using HasSet.made w,(Below.refl _ _).alloc (Nat.le_refl _) _,Nat.le_refl _⟩
theorem str_add (cur:List UInt8) (s:ByteArray) (i:Nat) (h:i<s.size):(⟨cur.toArray⟩:ByteArray) ++ s.extract i (i+1)=⟨(cur ++ [s[i]]).toArray⟩:=by
 apply ByteArray.ext
 apply Array.toList_inj.1
 rw [ByteArray.data_append,Array.toList_append,ByteArray.data_extract,Array.toList_extract];have hh:i<s.data.toList.length:=by simpa using h
 have e:s.data.toList[i]=s[i]:=rfl;show cur ++ _=cur ++ [s[i]]
 congr 1
 rw [List.extract_eq_take_drop,show i+1 - i=1 by omega,List.drop_eq_getElem_cons hh,e]
 rfl
theorem refScope_is (s:ByteArray) (w:World) (hs:s.size≤5000):Calls Tryz.prog 128 #[.string s] w fun e w'=>∃ v xs n,e=.returned (.tuple #[v,.int .i64 (n:Nat)])∧Out s.data.toList (xs.map (·.data.toList)) n∧Words w.heap.size w' v xs∧Below w.heap.size w w':=by
 have hss:s.data.toList.length=s.size:=Array.length_toList;obtain ⟨i0,hi,hz0,hz1,hz2⟩:=info_strs;by_cases h0:s.data.toList= []
 ·have he:s.toList.isEmpty=true:=by rw [ByteArray.toList_eq,h0]; rfl
  have HO:Hid (Out s.data.toList (([]:List ByteArray).map (·.data.toList)) 0):=by rw [h0]; exact .inl ⟨rfl,rfl,setOf_nil,by simp,by simp [words_nil]⟩
  clear hi;go_enter Tryz.func128,Tryz.ntmps128
  go_wp2_with fail
  exact bodyPost_ret (v:=.tuple #[.slice none 0 0,.int .i64 0]) (by simp [results,Tryz.results128,go_sem]) rfl ⟨_,[],0,rfl,HO.out,.inl ⟨rfl,rfl⟩,Below.refl _ _⟩
 ·have H0:Hid (s.data.toList≠ []):=h0
  have he:s.toList.isEmpty=false:=by rw [ByteArray.toList_eq,List.isEmpty_eq_false_iff]; exact h0
  have HSS:Hid (s.data.toList.length=s.size):=hss;have HGET:Hid (∀ k (h:k<s.size),s.data.toList[k]'(by simpa using h)=s[k]):=fun k h=>rfl
  clear h0 hss;have hmm:=@run_makeMap Tryz.prog;have n1:¬ 9223372036854775807<s.size+1:=by omega
  go_enter Tryz.func128,Tryz.ntmps128
  go_wp2_with fail
  go_loopg [4,5,7,15] (s.size+1) (fun gk ov cv lv iv wr=>∃ (i:Nat) (outs:List ByteArray) (pre:List Word) (cur:Word),i+gk=s.size+1∧iv=.int .i64 i∧cv=.string ⟨cur.toArray⟩∧lv=.bool (longB pre)∧Hid (ScRun w s.data.toList i outs pre cur ov wr))
  case atStart=>exact ⟨0,[],[],[],by omega,rfl,rfl,rfl,scRun_start w _⟩
  case round=>
   obtain ⟨i,outs,pre,cur,hik,rfl,rfl,rfl,HR⟩:=hrel;have HK:Hid (i+gk=s.size+1):=hik;have hi1:i≤s.size+1:=by omega
   have hcl:cur.length≤i:=HR.out.scan.len;clear hik;obtain ⟨base,c,hvv⟩:=HR.out.row.slice;subst hvv;have hol:outs.length≤i:=HR.out.len;by_cases hlt:i<s.size+1
   ·by_cases hend:WEnds s.data.toList i
    ·have HE:Hid (WEnds s.data.toList i):=hend
     clear hend;by_cases hq:i=s.size
     ·have hq1:((i:Int) == (s.size:Int))=true:=by rw [hq]; exact beq_self_eq_true _
      have hq3:(i:Int)=(s.size:Int):=by omega
      clear hq;by_cases hc:cur= []
      ·have hce:List.isEmpty cur=true:=by rw [hc]; rfl
       have HO:Hid (Out s.data.toList (([]:List ByteArray).map (·.data.toList)) 3):=.inr (.inl ⟨rfl,rfl,scan_empty (by have:=HR.out.scan; rwa [hc] at this) H0.out (by have:=HSS.out; omega) HE.out⟩)
       clear hc;go_wp2_with fail
       exact bodyPost_ret (v:=.tuple #[.slice none 0 0,.int .i64 3]) (by simp [results,Tryz.results128,go_sem]) rfl ⟨_,[],3,rfl,HO.out,.inl ⟨rfl,rfl⟩,HR.out.below⟩
      ·have hce:List.isEmpty cur=false:=List.isEmpty_eq_false_iff.2 hc
       have HSC:Hid (Scan s.data.toList (i+1) (pre ++ [cur]) []):=scan_cut HR.out.scan (by have:=HSS.out; omega) HE.out hc
       have hcm:(⟨cur.toArray⟩:ByteArray).size≤maxLen:=by rw [bsize]; unfold maxLen; omega
       have HLB:Hid (longB (pre ++ [cur])=(longB pre || decide (8<cur.length))):=longB_add pre cur;clear hc;by_cases hin:cur∈pre
       ·have hlk:(Instr.lookup 298 (.map (some w.heap.size)) (.string ⟨cur.toArray⟩) false).run Tryz.prog wr=.ok (.bool true) wr:=by
         have:=HR.out.set.look hcm;rw [blist,decide_eq_true hin] at this;exact this
        have HON:Hid (Once (outs.map (·.data.toList)) (pre ++ [cur])):=once_there HR.out.once hin
        have HR2:Hid (ScRun w s.data.toList (i+1) outs (pre ++ [cur]) [] (.slice base outs.length c) wr):=by
         refine ⟨HSC.out,HON.out,HR.out.row,?_,HR.out.below,by omega⟩
         have e:(fun x=>decide (x∈pre ++ [cur]))=fun x=>decide (x∈pre):=by
          funext x
          rw [decide_eq_decide,List.mem_append,List.mem_singleton];exact ⟨fun h=>h.elim id (fun h=>h ▸ hin),.inl⟩
         rw [e];exact HR.out.set.mono (Nat.le_succ _)
        clear hin;generalize hlp:longB pre=lp at *;clear hlp
        cases lp with
        |true=>
         go_wp2_with fail
         go_roundg (gk - 1)
         case measure=>have:=HK.out; omega
         case rel=>exact ⟨i+1,outs,pre ++ [cur],[],by have:=HK.out; omega,by go_num,rfl,by rw [HLB.out]; first | rfl | (simp; try omega),HR2⟩
        |false=>
         go_wp2_with fail
         go_roundg (gk - 1)
         case measure=>have:=HK.out; omega
         case rel=>exact ⟨i+1,outs,pre ++ [cur],[],by have:=HK.out; omega,by go_num,rfl,by rw [HLB.out]; first | rfl | (simp; try omega),HR2⟩
       ·have hlk:(Instr.lookup 298 (.map (some w.heap.size)) (.string ⟨cur.toArray⟩) false).run Tryz.prog wr=.ok (.bool false) wr:=by
         have:=HR.out.set.look hcm;rw [blist,decide_eq_false hin] at this;exact this
        have HON:Hid (Once ((outs ++ [(⟨cur.toArray⟩:ByteArray)]).map (·.data.toList)) (pre ++ [cur])):=by
         have:=once_new HR.out.once hin;simpa [Hid] using this
        have HSE:Hid ((fun j=>decide (j=(⟨cur.toArray⟩:ByteArray).data.toList) || decide (j∈pre))=fun x=>decide (x∈pre ++ [cur])):=by
         funext x
         simp [Bool.or_comm]
        clear hin;generalize hlp:longB pre=lp at *;clear hlp;go_wp2_with (at_mapUpdate; refine wpList_setPut _ rfl _ _ _ rfl w.heap.size i (fun x=>decide (x∈pre)) rfl HR.out.set (by unfold maxLen; omega) ⟨cur.toArray⟩ rfl rfl hcm ?_)
        intro w1 hset hgr
        have HS1:Hid (HasSet w1 w.heap.size (i+1) (fun x=>decide (x∈pre ++ [cur]))):=by
         show HasSet _ _ _ _
         rw [← HSE.out];exact hset
        have HB1:Hid (Below w.heap.size w w1):=HR.out.below.grown hgr (by have:=HR.out.size; omega) (fun k hk=>by injection hk with hk; omega)
        have HW1:Hid (Words (w.heap.size+1) w1 (.slice base outs.length c) outs):=HR.out.row.grownBy hgr (Nat.lt_succ_self _);have hsz1:w.heap.size+1≤w1.heap.size:=Nat.le_trans HR.out.size hgr.size;clear hset hgr hlk;go_wp2_with (at_builtin; refine wpList_append_words _ rfl _ _ 66 rfl 9 i0 Tryz.underlying66 hi hz0 hz1 hz2 (w.heap.size+1) _ outs rfl (HW1.out.below ((Below.refl w1.heap.size w1).alloc (Nat.le_refl _) _) (Nat.le_refl _)) (by simp; omega) ⟨w1.heap.size,0,none⟩ 1 ⟨cur.toArray⟩ rfl (by simp) (by omega) ?_)
        intro v2 w2 hv2 hb2;have HV2:Hid (Words (w.heap.size+1) w2 v2 (outs ++ [(⟨cur.toArray⟩:ByteArray)])):=hv2
        have HR2:Hid (ScRun w s.data.toList (i+1) (outs ++ [(⟨cur.toArray⟩:ByteArray)]) (pre ++ [cur]) [] v2 w2):=by
         have hb3:Below (w.heap.size+1) w1 w2:=((Below.refl _ _).alloc hsz1 _).trans hb2;exact ⟨HSC.out,HON.out,hv2,HS1.out.below hb3 (Nat.lt_succ_self _),HB1.out.trans (hb3.mono (Nat.le_succ _)),by simp; omega⟩
        obtain ⟨base2,c2,hv22⟩:=hv2.slice;subst hv22;clear hv2 hb2
        cases lp with
        |true=>
         go_wp2_with fail
         go_roundg (gk - 1)
         case measure=>have:=HK.out; omega
         case rel=>exact ⟨i+1,_,pre ++ [cur],[],by have:=HK.out; omega,by go_num,rfl,by rw [HLB.out]; first | rfl | (simp; try omega),HR2⟩
        |false=>
         go_wp2_with fail
         go_roundg (gk - 1)
         case measure=>have:=HK.out; omega
         case rel=>exact ⟨i+1,_,pre ++ [cur],[],by have:=HK.out; omega,by go_num,rfl,by rw [HLB.out]; first | rfl | (simp; try omega),HR2⟩
     ·have hlt2:i<s.size:=by omega
      have hq1:((i:Int) == (s.size:Int))=false:=by rw [beq_eq_false_iff_ne]; omega
      have hq2:((s[i].toNat:Int) == 43)=true:=by
       rcases HE.out with h | ⟨h,h43⟩
       ·exact absurd (by have:=HSS.out; omega) hq
       ·rw [HGET.out i hlt2] at h43
        rw [h43];rfl
      clear hq;by_cases hc:cur= []
      ·have hce:List.isEmpty cur=true:=by rw [hc]; rfl
       have HO:Hid (Out s.data.toList (([]:List ByteArray).map (·.data.toList)) 3):=.inr (.inl ⟨rfl,rfl,scan_empty (by have:=HR.out.scan; rwa [hc] at this) H0.out (by have:=HSS.out; omega) HE.out⟩)
       clear hc;go_wp2_with fail
       exact bodyPost_ret (v:=.tuple #[.slice none 0 0,.int .i64 3]) (by simp [results,Tryz.results128,go_sem]) rfl ⟨_,[],3,rfl,HO.out,.inl ⟨rfl,rfl⟩,HR.out.below⟩
      ·have hce:List.isEmpty cur=false:=List.isEmpty_eq_false_iff.2 hc
       have HSC:Hid (Scan s.data.toList (i+1) (pre ++ [cur]) []):=scan_cut HR.out.scan (by have:=HSS.out; omega) HE.out hc
       have hcm:(⟨cur.toArray⟩:ByteArray).size≤maxLen:=by rw [bsize]; unfold maxLen; omega
       have HLB:Hid (longB (pre ++ [cur])=(longB pre || decide (8<cur.length))):=longB_add pre cur;clear hc;by_cases hin:cur∈pre
       ·have hlk:(Instr.lookup 298 (.map (some w.heap.size)) (.string ⟨cur.toArray⟩) false).run Tryz.prog wr=.ok (.bool true) wr:=by
         have:=HR.out.set.look hcm;rw [blist,decide_eq_true hin] at this;exact this
        have HON:Hid (Once (outs.map (·.data.toList)) (pre ++ [cur])):=once_there HR.out.once hin
        have HR2:Hid (ScRun w s.data.toList (i+1) outs (pre ++ [cur]) [] (.slice base outs.length c) wr):=by
         refine ⟨HSC.out,HON.out,HR.out.row,?_,HR.out.below,by omega⟩
         have e:(fun x=>decide (x∈pre ++ [cur]))=fun x=>decide (x∈pre):=by
          funext x
          rw [decide_eq_decide,List.mem_append,List.mem_singleton];exact ⟨fun h=>h.elim id (fun h=>h ▸ hin),.inl⟩
         rw [e];exact HR.out.set.mono (Nat.le_succ _)
        clear hin;generalize hlp:longB pre=lp at *;clear hlp
        cases lp with
        |true=>
         go_wp2_with fail
         go_roundg (gk - 1)
         case measure=>have:=HK.out; omega
         case rel=>exact ⟨i+1,outs,pre ++ [cur],[],by have:=HK.out; omega,by go_num,rfl,by rw [HLB.out]; first | rfl | (simp; try omega),HR2⟩
        |false=>
         go_wp2_with fail
         go_roundg (gk - 1)
         case measure=>have:=HK.out; omega
         case rel=>exact ⟨i+1,outs,pre ++ [cur],[],by have:=HK.out; omega,by go_num,rfl,by rw [HLB.out]; first | rfl | (simp; try omega),HR2⟩
       ·have hlk:(Instr.lookup 298 (.map (some w.heap.size)) (.string ⟨cur.toArray⟩) false).run Tryz.prog wr=.ok (.bool false) wr:=by
         have:=HR.out.set.look hcm;rw [blist,decide_eq_false hin] at this;exact this
        have HON:Hid (Once ((outs ++ [(⟨cur.toArray⟩:ByteArray)]).map (·.data.toList)) (pre ++ [cur])):=by
         have:=once_new HR.out.once hin;simpa [Hid] using this
        have HSE:Hid ((fun j=>decide (j=(⟨cur.toArray⟩:ByteArray).data.toList) || decide (j∈pre))=fun x=>decide (x∈pre ++ [cur])):=by
         funext x
         simp [Bool.or_comm]
        clear hin;generalize hlp:longB pre=lp at *;clear hlp;go_wp2_with (at_mapUpdate; refine wpList_setPut _ rfl _ _ _ rfl w.heap.size i (fun x=>decide (x∈pre)) rfl HR.out.set (by unfold maxLen; omega) ⟨cur.toArray⟩ rfl rfl hcm ?_)
        intro w1 hset hgr
        have HS1:Hid (HasSet w1 w.heap.size (i+1) (fun x=>decide (x∈pre ++ [cur]))):=by
         show HasSet _ _ _ _
         rw [← HSE.out];exact hset
        have HB1:Hid (Below w.heap.size w w1):=HR.out.below.grown hgr (by have:=HR.out.size; omega) (fun k hk=>by injection hk with hk; omega)
        have HW1:Hid (Words (w.heap.size+1) w1 (.slice base outs.length c) outs):=HR.out.row.grownBy hgr (Nat.lt_succ_self _);have hsz1:w.heap.size+1≤w1.heap.size:=Nat.le_trans HR.out.size hgr.size;clear hset hgr hlk;go_wp2_with (at_builtin; refine wpList_append_words _ rfl _ _ 66 rfl 9 i0 Tryz.underlying66 hi hz0 hz1 hz2 (w.heap.size+1) _ outs rfl (HW1.out.below ((Below.refl w1.heap.size w1).alloc (Nat.le_refl _) _) (Nat.le_refl _)) (by simp; omega) ⟨w1.heap.size,0,none⟩ 1 ⟨cur.toArray⟩ rfl (by simp) (by omega) ?_)
        intro v2 w2 hv2 hb2;have HV2:Hid (Words (w.heap.size+1) w2 v2 (outs ++ [(⟨cur.toArray⟩:ByteArray)])):=hv2
        have HR2:Hid (ScRun w s.data.toList (i+1) (outs ++ [(⟨cur.toArray⟩:ByteArray)]) (pre ++ [cur]) [] v2 w2):=by
         have hb3:Below (w.heap.size+1) w1 w2:=((Below.refl _ _).alloc hsz1 _).trans hb2;exact ⟨HSC.out,HON.out,hv2,HS1.out.below hb3 (Nat.lt_succ_self _),HB1.out.trans (hb3.mono (Nat.le_succ _)),by simp; omega⟩
        obtain ⟨base2,c2,hv22⟩:=hv2.slice;subst hv22;clear hv2 hb2
        cases lp with
        |true=>
         go_wp2_with fail
         go_roundg (gk - 1)
         case measure=>have:=HK.out; omega
         case rel=>exact ⟨i+1,_,pre ++ [cur],[],by have:=HK.out; omega,by go_num,rfl,by rw [HLB.out]; first | rfl | (simp; try omega),HR2⟩
        |false=>
         go_wp2_with fail
         go_roundg (gk - 1)
         case measure=>have:=HK.out; omega
         case rel=>exact ⟨i+1,_,pre ++ [cur],[],by have:=HK.out; omega,by go_num,rfl,by rw [HLB.out]; first | rfl | (simp; try omega),HR2⟩
    ·have hlt2:i<s.size:=by
      rcases Nat.lt_or_ge i s.size with h | h
      ·exact h
      ·exact absurd (.inl (by have:=HSS.out; omega)) hend
     have h43:s[i]≠43:=fun h=>hend (.inr ⟨by have:=HSS.out; omega,by rw [HGET.out i hlt2]; exact h⟩)
     have H43:Hid (s[i]≠43):=h43;have h43n:¬ s[i].toNat=43:=fun h=>h43 (UInt8.toNat_inj.1 h);have hq1:((i:Int) == (s.size:Int))=false:=by rw [beq_eq_false_iff_ne]; omega
     have hq2:((s[i].toNat:Int) == 43)=false:=by rw [beq_eq_false_iff_ne]; omega
     clear hend h43;by_cases h1:97≤s[i].toNat
     ·by_cases h2:s[i].toNat≤122
      ·have HL:Hid (lowB s[i]=true):=lowB_t h1 h2
       have n2:i+1≤s.size:=by omega
       have n3:¬ 9223372036854775807<cur.length+1:=by omega
       have HEX:Hid ((⟨cur.toArray⟩:ByteArray) ++ s.extract i (i+1)=⟨(cur ++ [s[i]]).toArray⟩):=str_add cur s i hlt2;go_wp2_with fail
       go_roundg (gk - 1)
       case measure=>have:=HK.out; omega
       case rel=>
        have hsc:=scan_letter HR.out.scan (by have:=HSS.out; omega) (by rw [HGET.out i hlt2]; exact HL.out)
        rw [HGET.out i hlt2] at hsc;exact ⟨i+1,outs,pre,cur ++ [s[i]],by have:=HK.out; omega,by go_num,by first | rw [HEX.out] | rfl,rfl,⟨hsc,HR.out.once,HR.out.row,HR.out.set.mono (Nat.le_succ _),HR.out.below,by omega⟩⟩
      ·have HO:Hid (Out s.data.toList (([]:List ByteArray).map (·.data.toList)) 3):=.inr (.inl ⟨rfl,rfl,scan_bad HR.out.scan (by have:=HSS.out; omega) (by rw [HGET.out i hlt2]; exact lowB_f (by omega)) (by rw [HGET.out i hlt2]; exact H43.out)⟩)
       go_wp2_with fail
       exact bodyPost_ret (v:=.tuple #[.slice none 0 0,.int .i64 3]) (by simp [results,Tryz.results128,go_sem]) rfl ⟨_,[],3,rfl,HO.out,.inl ⟨rfl,rfl⟩,HR.out.below⟩
     ·have HO:Hid (Out s.data.toList (([]:List ByteArray).map (·.data.toList)) 3):=.inr (.inl ⟨rfl,rfl,scan_bad HR.out.scan (by have:=HSS.out; omega) (by rw [HGET.out i hlt2]; exact lowB_f (by omega)) (by rw [HGET.out i hlt2]; exact H43.out)⟩)
      go_wp2_with fail
      exact bodyPost_ret (v:=.tuple #[.slice none 0 0,.int .i64 3]) (by simp [results,Tryz.results128,go_sem]) rfl ⟨_,[],3,rfl,HO.out,.inl ⟨rfl,rfl⟩,HR.out.below⟩
   ·obtain rfl:i=s.size+1:=by omega
    have HEND:Hid (formedB s.data.toList=true∧words s.data.toList=pre):=scan_end (by have:=HR.out.scan; rw [HSS.out]; exact this) H0.out
    have HOO:=once_out HEND.out.1 (by rw [HEND.out.2]; exact HR.out.once)
    rw [HEND.out.2] at HOO;have HOO:Hid _:=HOO;by_cases hl:longB pre=true
    ·have HO:Hid (Out s.data.toList (([]:List ByteArray).map (·.data.toList)) 4):=HOO.out.1 (.inl hl)
     go_wp2_with fail
     exact bodyPost_ret (v:=.tuple #[.slice none 0 0,.int .i64 4]) (by simp [results,Tryz.results128,go_sem]) rfl ⟨_,[],4,rfl,HO.out,.inl ⟨rfl,rfl⟩,HR.out.below⟩
    ·have hl:longB pre=false:=by simpa using hl
     by_cases h5:5<outs.length
     ·have HO:Hid (Out s.data.toList (([]:List ByteArray).map (·.data.toList)) 4):=HOO.out.1 (.inr (by simpa using h5))
      go_wp2_with fail
      exact bodyPost_ret (v:=.tuple #[.slice none 0 0,.int .i64 4]) (by simp [results,Tryz.results128,go_sem]) rfl ⟨_,[],4,rfl,HO.out,.inl ⟨rfl,rfl⟩,HR.out.below⟩
     ·have HO:Hid (Out s.data.toList ((bytesOf ((outs.map (·.data.toList)).mergeSort fun x y=>decide (x≤y))).map (·.data.toList)) 0):=by
       have h:=HOO.out.2 hl (by simp; omega)
       rw [← bytesOf_back ((outs.map (·.data.toList)).mergeSort fun x y=>decide (x≤y))] at h;exact h
      have h5':(outs.length:Int)≤5:=by omega
      go_wp2_with fail
      refine (sort_is HR.out.row (by omega) HR.out.size).mono ?_
      rintro e w2 ⟨rfl,hv2,hb2⟩;have HV2:Hid (Words (w.heap.size+1) w2 (.slice base outs.length c) (bytesOf ((outs.map (·.data.toList)).mergeSort fun x y=>decide (x≤y)))):=hv2;have HB2:Hid (Below w.heap.size w w2):=HR.out.below.trans (hb2.mono (Nat.le_succ _));clear hv2 hb2;go_wp2_with fail
      exact bodyPost_ret (v:=.tuple #[.slice base outs.length c,.int .i64 0]) (by simp [results,Tryz.results128,go_sem]) rfl ⟨_,_,0,rfl,HO.out,HV2.out.mono (Nat.le_succ _),HB2.out⟩
end Go.Proofs.YtlailakofhenkabGreatDoor
namespace Go.Proofs.YtlailakofhenkabGreatDoor.Sc
def pairsOf (l m:List Word):Nat:=(l.map fun p=>m.count p).sum
theorem pairs_take (l m:List Word) (k:Nat) (h:k<l.length):pairsOf (l.take (k+1)) m=pairsOf (l.take k) m+m.count l[k]:=by
 unfold pairsOf;rw [List.take_succ_eq_append_getElem h,List.map_append,List.sum_append];simp
theorem count_take (m:List Word) (p:Word) (k:Nat) (h:k<m.length):(m.take (k+1)).count p=(m.take k).count p+if m[k]=p then 1 else 0:=by
 rw [List.take_succ_eq_append_getElem h,List.count_append];congr 1
 by_cases e:m[k]=p
 ·simp [e]
 ·simp [e]
theorem count_one {m:List Word} (h:m.Nodup) (p:Word):m.count p=if p∈m then 1 else 0:=by
 induction m with
 |nil=>simp
 |cons a m ih=>
  rw [List.nodup_cons] at h;rw [List.count_cons,ih h.2];by_cases e:a=p
  ·subst e
   simp [h.1]
  ·have e':¬ p=a:=fun h=>e h.symm
   simp [e,e']
theorem rising_nodup {m:List Word} (h:m.Pairwise (·<·)):m.Nodup:=h.imp (fun {a b} hab=>(fun e=>by subst e; exact lt_irr _ hab:a≠b))
theorem pairs_le {m:List Word} (h:m.Nodup):∀ l:List Word,pairsOf l m≤l.length∧(pairsOf l m=l.length↔∀ x∈l,x∈m)
 |[]=>by simp [pairsOf]
 |a::l=>by
  obtain ⟨h1,h2⟩:=pairs_le h l
  have e:pairsOf (a::l) m=(if a∈m then 1 else 0)+pairsOf l m:=by
   show m.count a+_=_
   rw [count_one h];rfl
  by_cases ha:a∈m
  ·rw [e,if_pos ha]
   refine ⟨by simp; omega,?_⟩
   rw [List.length_cons,show (1+pairsOf l m=l.length+1↔pairsOf l m=l.length) by omega,h2]
   simp [ha]
  ·rw [e,if_neg ha]
   refine ⟨by simp; omega,?_⟩
   constructor
   ·intro hh; simp at hh; omega
   ·intro hh; exact absurd (hh a (by simp)) ha
theorem pairs_is {l m:List Word} (h:m.Pairwise (·<·)):((pairsOf l m:Int) == (l.length:Int))=inB l m:=by
 rw [Bool.eq_iff_iff,inB_iff,← (pairs_le (rising_nodup h) l).2,beq_iff_eq];omega
end Go.Proofs.YtlailakofhenkabGreatDoor.Sc
