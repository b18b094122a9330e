import Derived.Test.YtlailakofhenkabGreatDoorB6
set_option maxRecDepth 100000
set_option maxHeartbeats 8000000
namespace Go.Proofs.YtlailakofhenkabGreatDoor
open Go Go.RowKit Go.Maps Go.WideMaps Tryz
def bW(w:World)(b n:Nat)(S:List UInt8->Bool):Prop:=
 ∃D:DataW Unit,w.ownsMap prog 9 (plainElem prog 4) b n D∧Maps.IsMap D∧∀k:List UInt8,D.atKey (.string k) (.lit (.bool false))=.lit (.bool (S k))
theorem zi:Keyed prog 9:=string_keyed underlying9
theorem Bq(w:World):(zeroValue 4).run prog w=.ok (.bool false) w:=by kernel_rfl
theorem bW.made(w:World):bW (w.alloc (.map #[] 0)) w.heap.size 0 (fun _=>false):=
 ⟨.map [],World.ownsMap_made _ _ _ _,Maps.isMap_empty,fun _=>rfl⟩
variable {S:List UInt8->Bool}{b n:Nat}{w w':World}
theorem bW.block(h:bW w b n S)(hb:w'.heap[b]?=w.heap[b]?):bW w' b n S:=by
 obtain⟨D,⟨es,clock,e1,F1,e2,e3⟩,h2,h3⟩:=h;exact⟨D,⟨es,clock,hb.trans e1,F1,e2,e3⟩,h2,h3⟩
theorem bW.lt{w:World}{b n:Nat}{S:List UInt8->Bool}(h:bW w b n S):b<w.heap.size:=by
 obtain⟨D,h1,_⟩:=h;exact h1.lt
theorem jh{H:Type}{P:Program}{e:TypeId}(he:P.underlying e=some .bool){v:Value}{z:DataW H × List MemPlace}(h:plainElem P e v=some z):∃x:Bool,v=.bool x∧z=(.lit (.bool x),[]):=by
 unfold plainElem at h;rw[he] at h
 cases v <;> simp at h
 exact⟨_,rfl,h.symm⟩
theorem bW.look(h:bW w b n S){s:ByteArray}(hs:s.size<=maxLen):
 (Instr.lookup 298 (.map (some b)) (.string s) false).run prog w=.ok (.bool (S s.data.toList)) w:=by
 obtain⟨D,h1,h2,h3⟩:=h;obtain⟨v,ps,hrun,hv⟩:=h1.lookup zi underlying298 (Bq w) (plainElem_bool underlying4 false) (keyOf_string_mk underlying9 hs);obtain⟨x,rfl,hz⟩:=jh underlying4 hv;rw[hrun]
 have e:D.atKey (.string s.data.toList) (.lit (.bool false))=(.lit (.bool x):DataW Unit):=by
  have:=congrArg Prod.fst hz;exact this
 rw[h3] at e;simp only[DataW.lit.injEq,Lit.bool.injEq] at e;rw[e]
theorem iW(w:World){ops:Array Oper}{rest:List Oper}{o:Oper}{a:Act}{Q:Exit->Act->World->Prop}(hg:o.guard=none)(m x v:Operand)(hop:o.op=Op.mapUpdate 298 m x v)(b n:Nat)(S:List UInt8->Bool)(hm:a.eval m=.map (some b))(h:bW w b n S)(hn:n<maxLen)(s:ByteArray)(hx:a.eval x=.string s)(hv:a.eval v=.bool true)(hs:s.size<=maxLen)(hK:∀w',bW w' b (n+1) (fun j=>decide (j=s.data.toList) || S j)->w.grownBy w' (some b)->wpList prog ops Q rest (a.put o.dst undef) w'):wpList prog ops Q (o::rest) a w:=by
 obtain⟨D,h1,h2,h3⟩:=h;refine wpList_mapUpdate_own w hg m x v _ hop 9 4 zi underlying298 _ b n D hm h1 hn _ _ (.string s.data.toList) hx hv (keyOf_string_mk underlying9 hs) (.lit (.bool true)) [] (plainElem_bool underlying4 true) ?_;intro w' h4 h5;refine hK w' ⟨_,h4,h2.put _ _,fun j=>?_⟩ h5;by_cases e:j=s.data.toList
 ·subst e
  rw[Maps.atKey_put_same h2 (by exact trivial)]
  simp
 ·rw[Maps.atKey_put_other (by simpa using e)]
  rw[h3 j];simp[e]
open Sc
theorem bW.below{B:Nat}(h:bW w b n S)(hb:Below B w w')(hB:b<B):bW w' b n S:=h.block (hb.block b hB)
theorem bW.mono{w:World}{b n m:Nat}{S:List UInt8->Bool}(h:bW w b n S)(hm:n<=m):bW w b m S:=by
 obtain⟨D,h1,h2⟩:=h;exact⟨D,h1.mono hm,h2⟩
theorem aw.grownBy{B b:Nat}{w w':World}{v:Value}{xs:List ByteArray}(h:aw B w v xs)(hg:w.grownBy w' (some b))(hb:b<B):aw B w' v xs:=by
 rcases h with ⟨rfl,rfl⟩ | ⟨g,c,rfl,hr⟩
 ·exact .inl ⟨rfl,rfl⟩
 ·exact .inr ⟨g,c,rfl,hr.block hg.size (hg.block g hr.lt (by intro e; injection e with e; have:=hr.new; omega))⟩
theorem zj:(prog.info? 9).map (fun i=>(i.zero,i.size,i.bytes))=some (some (.string ⟨#[]⟩),1,16):=by kernel_rfl
theorem nZ:∃i,prog.info? 9=some i∧i.zero=some (.string ⟨#[]⟩)∧i.size=1∧i.bytes=16:=by
 have h:=zj
 cases hi:prog.info? 9 with
 |none=>rw[hi] at h; cases h
 |some i=>
  rw[hi] at h;simp only[Option.map_some,Option.some.injEq,Prod.mk.injEq] at h;exact⟨i,rfl,h.1,h.2.1,h.2.2⟩
structure kK (w:World) (s:List UInt8) (i:Nat) (outs:List ByteArray) (pre:List Word) (cur:Word) (v:Value) (wr:World):Prop where
 scan:j8 s i pre cur
 once:nj (outs.map (·.data.toList)) pre
 row:aw (w.heap.size+1) wr v outs
 set:bW wr w.heap.size i (fun x=>decide (x∈pre))
 below:Below w.heap.size w wr
 len:outs.length<=i
theorem kK.size{w:World}{s:List UInt8}{i:Nat}{outs:List ByteArray}{pre:List Word}{cur:Word}{v:Value}{wr:World}(h:kK w s i outs pre cur v wr):w.heap.size+1<=wr.heap.size:=h.set.lt
theorem qZ(w:World)(s:List UInt8):kK w s 0 [] [] [] (.slice none 0 0) (w.alloc (.map #[] 0)):=
 ⟨tQ s,⟨.nil,fun _=>Iff.rfl⟩,.inl ⟨rfl,rfl⟩,by simpa using bW.made w,bA _ _,Nat.le_refl _⟩
theorem Br(cur:List UInt8)(s:ByteArray)(i:Nat)(h:i<s.size):(⟨cur.toArray⟩:ByteArray) ++ s.extract i (i+1)=⟨(cur ++ [s[i]]).toArray⟩:=by
 apply ByteArray.ext
 apply Array.toList_inj.1
 rw[ByteArray.data_append,Array.toList_append,ByteArray.data_extract,Array.toList_extract];have b:i<s.data.toList.length:=by simpa using h
 have e:s.data.toList[i]=s[i]:=rfl;show cur ++ _=cur ++ [s[i]]
 congr 1
 rw[List.extract_eq_take_drop,show i+1 - i=1 by omega,List.drop_eq_getElem_cons b,e]
 rfl
theorem ik(s:ByteArray)(w:World)(hs:s.size<=5000):Calls prog 128 #[.string s] w fun e w'=>∃v xs n,e=.returned (.tuple #[v,.int .i64 (n:Nat)])∧Out s.data.toList (xs.map (·.data.toList)) n∧aw w.heap.size w' v xs∧Below w.heap.size w w':=by
 have N:s.data.toList.length=s.size:=Fg;obtain⟨i0,hi,hz0,hz1,hz2⟩:=nZ;by_cases h0:s.data.toList= []
 ·have he:s.toList.isEmpty=true:=by rw[ByteArray.toList_eq,h0]; rfl
  have q:Hid (Out s.data.toList (([]:List ByteArray).map (·.data.toList)) 0):=by rw[h0]; exact .inl ⟨rfl,rfl,j0,by simp,by simp[wo]⟩
  clear hi;go_enter func128,ntmps128
  go_wp2_with fail;exact bodyPost_ret (v:=.tuple #[.slice none 0 0,.i_ 0]) (by simp[results,results128,go_sem]) rfl ⟨_,[],0,rfl,q.o,.inl ⟨rfl,rfl⟩,Below.refl _ _⟩
 ·have W:Hid (s.data.toList≠ []):=h0
  have he:s.toList.isEmpty=false:=by rw[ByteArray.toList_eq,List.isEmpty_eq_false_iff]; exact h0
  have g:Hid (s.data.toList.length=s.size):=N;have f:Hid (∀k (h:k<s.size),s.data.toList[k]'(by simpa using h)=s[k]):=fun k h=>rfl
  clear h0 N;have hmm:=@run_makeMap prog;have n1:¬ 9223372036854775807<s.size+1:=by omega
  go_enter func128,ntmps128
  go_wp2_with fail;go_loopg [4,5,7,15] (s.size+1) (fun gk ov cv lv iv wr=>∃(i:Nat) (outs:List ByteArray) (pre:List Word) (cur:Word),i+gk=s.size+1∧iv=.i_ i∧cv=.string ⟨cur.toArray⟩∧lv=.bool (dU pre)∧Hid (kK w s.data.toList i outs pre cur ov wr))
  case atStart=>exact⟨0,[],[],[],by omega,rfl,rfl,rfl,qZ w _⟩
  case round=>
   obtain⟨i,outs,pre,cur,hik,rfl,rfl,rfl,HR⟩:=hrel;have p:Hid (i+gk=s.size+1):=hik;have hi1:i<=s.size+1:=by omega
   have hcl:cur.length<=i:=HR.out.scan.len;clear hik;obtain⟨base,c,hvv⟩:=HR.out.row.slice;subst hvv;have hol:outs.length<=i:=HR.out.len;by_cases hlt:i<s.size+1
   ·by_cases hend:qS s.data.toList i
    ·have O:Hid (qS s.data.toList i):=hend
     clear hend;by_cases hq:i=s.size
     ·have R:((i:Int) == (s.size:Int))=true:=by rw[hq]; exact beq_self_eq_true _
      have hq3:(i:Int)=(s.size:Int):=by omega
      clear hq;by_cases hc:cur= []
      ·have G:List.isEmpty cur=true:=by rw[hc]; rfl
       have q:Hid (Out s.data.toList (([]:List ByteArray).map (·.data.toList)) 3):=.inr (.inl ⟨rfl,rfl,mm (by have:=HR.out.scan; rwa [hc] at this) W.o (by have:=g.o; omega) O.o⟩)
       clear hc;go_wp2_with fail;exact bodyPost_ret (v:=.tuple #[.slice none 0 0,.i_ 3]) (by simp[results,results128,go_sem]) rfl ⟨_,[],3,rfl,q.o,.inl ⟨rfl,rfl⟩,HR.out.below⟩
      ·have G:List.isEmpty cur=false:=List.isEmpty_eq_false_iff.2 hc
       have B:Hid (j8 s.data.toList (i+1) (pre ++ [cur]) []):=qT HR.out.scan (by have:=g.o; omega) O.o hc
       have r:(⟨cur.toArray⟩:ByteArray).size<=maxLen:=by rw[dC]; unfold maxLen; omega
       have o:Hid (dU (pre ++ [cur])=(dU pre || decide (8<cur.length))):=nY pre cur;clear hc;by_cases hin:cur∈pre
       ·have C:(Instr.lookup 298 (.map (some w.heap.size)) (.string ⟨cur.toArray⟩) false).run prog wr=.ok (.bool true) wr:=by
         have:=HR.out.set.look r;rw[mg,decide_eq_true hin] at this;exact this
        have t:Hid (nj (outs.map (·.data.toList)) (pre ++ [cur])):=mn HR.out.once hin
        have m:Hid (kK w s.data.toList (i+1) outs (pre ++ [cur]) [] (.slice base outs.length c) wr):=by
         refine⟨B.o,t.o,HR.out.row,?_,HR.out.below,by omega⟩
         have e:(fun x=>decide (x∈pre ++ [cur]))=fun x=>decide (x∈pre):=by
          funext x
          rw[decide_eq_decide,List.mem_append,List.mem_singleton];exact⟨fun h=>h.elim id (fun h=>h ▸ hin),.inl⟩
         rw[e];exact HR.out.set.mono (FC _)
        clear hin;generalize hlp:dU pre=lp at *;clear hlp
        cases lp with
        |true=>
         go_wp2_with fail;go_roundg (gk - 1)
         case measure=>have:=p.o; omega
         case rel=>exact⟨i+1,outs,pre ++ [cur],[],by have:=p.o; omega,by go_num,rfl,by rw[o.o]; first | rfl | (simp; try omega),m⟩
        |false=>
         go_wp2_with fail;go_roundg (gk - 1)
         case measure=>have:=p.o; omega
         case rel=>exact⟨i+1,outs,pre ++ [cur],[],by have:=p.o; omega,by go_num,rfl,by rw[o.o]; first | rfl | (simp; try omega),m⟩
       ·have C:(Instr.lookup 298 (.map (some w.heap.size)) (.string ⟨cur.toArray⟩) false).run prog wr=.ok (.bool false) wr:=by
         have:=HR.out.set.look r;rw[mg,decide_eq_false hin] at this;exact this
        have t:Hid (nj ((outs ++ [(⟨cur.toArray⟩:ByteArray)]).map (·.data.toList)) (pre ++ [cur])):=by
         have:=qV HR.out.once hin;simpa[Hid] using this
        have H:Hid ((fun j=>decide (j=(⟨cur.toArray⟩:ByteArray).data.toList) || decide (j∈pre))=fun x=>decide (x∈pre ++ [cur])):=by
         funext x
         simp[Bool.or_comm]
        clear hin;generalize hlp:dU pre=lp at *;clear hlp;go_wp2_with (at_mapUpdate; refine iW _ rfl _ _ _ rfl w.heap.size i (fun x=>decide (x∈pre)) rfl HR.out.set (by unfold maxLen; omega) ⟨cur.toArray⟩ rfl rfl r ?_)
        intro w1 hset hgr
        have I:Hid (bW w1 w.heap.size (i+1) (fun x=>decide (x∈pre ++ [cur]))):=by
         show bW _ _ _ _
         rw[<- H.o];exact hset
        have J:Hid (Below w.heap.size w w1):=HR.out.below.grown hgr (by have:=HR.out.size; omega) (fun k hk=>by injection hk with hk; omega)
        have L:Hid (aw (w.heap.size+1) w1 (.slice base outs.length c) outs):=HR.out.row.grownBy hgr (Fj _);have D:w.heap.size+1<=w1.heap.size:=Fe HR.out.size hgr.size;clear hset hgr C;go_wp2_with (at_builtin; refine bz _ rfl _ _ 66 rfl 9 i0 underlying66 hi hz0 hz1 hz2 (w.heap.size+1) _ outs rfl (L.o.below ((Below.refl w1.heap.size w1).alloc (Nat.le_refl _) _) (Nat.le_refl _)) (by simp; omega) (a_ w1.heap.size 0) 1 ⟨cur.toArray⟩ rfl (by simp) (by omega) ?_)
        intro v2 w2 hv2 hb2;have M:Hid (aw (w.heap.size+1) w2 v2 (outs ++ [(⟨cur.toArray⟩:ByteArray)])):=hv2
        have m:Hid (kK w s.data.toList (i+1) (outs ++ [(⟨cur.toArray⟩:ByteArray)]) (pre ++ [cur]) [] v2 w2):=by
         have E:Below (w.heap.size+1) w1 w2:=((E9 _ _).alloc D _).trans hb2;exact⟨B.o,t.o,hv2,I.o.below E (Nat.lt_succ_self _),J.o.trans (E.mono (Nat.le_succ _)),by simp; omega⟩
        obtain⟨base2,c2,hv22⟩:=hv2.slice;subst hv22;clear hv2 hb2
        cases lp with
        |true=>
         go_wp2_with fail;go_roundg (gk - 1)
         case measure=>have:=p.o; omega
         case rel=>exact⟨i+1,_,pre ++ [cur],[],by have:=p.o; omega,by go_num,rfl,by rw[o.o]; first | rfl | (simp; try omega),m⟩
        |false=>
         go_wp2_with fail;go_roundg (gk - 1)
         case measure=>have:=p.o; omega
         case rel=>exact⟨i+1,_,pre ++ [cur],[],by have:=p.o; omega,by go_num,rfl,by rw[o.o]; first | rfl | (simp; try omega),m⟩
     ·have b:i<s.size:=by omega
      have R:((i:Int) == (s.size:Int))=false:=by rw[beq_eq_false_iff_ne]; omega
      have X:((s[i].toNat:Int) == 43)=true:=by
       rcases O.o with h | ⟨h,z⟩
       ·exact absurd (by have:=g.o; omega) hq
       ·rw[f.o i b] at z
        rw[z];rfl
      clear hq;by_cases hc:cur= []
      ·have G:List.isEmpty cur=true:=by rw[hc]; rfl
       have q:Hid (Out s.data.toList (([]:List ByteArray).map (·.data.toList)) 3):=.inr (.inl ⟨rfl,rfl,mm (by have:=HR.out.scan; rwa [hc] at this) W.o (by have:=g.o; omega) O.o⟩)
       clear hc;go_wp2_with fail;exact bodyPost_ret (v:=.tuple #[.slice none 0 0,.i_ 3]) (by simp[results,results128,go_sem]) rfl ⟨_,[],3,rfl,q.o,.inl ⟨rfl,rfl⟩,HR.out.below⟩
      ·have G:List.isEmpty cur=false:=List.isEmpty_eq_false_iff.2 hc
       have B:Hid (j8 s.data.toList (i+1) (pre ++ [cur]) []):=qT HR.out.scan (by have:=g.o; omega) O.o hc
       have r:(⟨cur.toArray⟩:ByteArray).size<=maxLen:=by rw[dC]; unfold maxLen; omega
       have o:Hid (dU (pre ++ [cur])=(dU pre || decide (8<cur.length))):=nY pre cur;clear hc;by_cases hin:cur∈pre
       ·have C:(Instr.lookup 298 (.map (some w.heap.size)) (.string ⟨cur.toArray⟩) false).run prog wr=.ok (.bool true) wr:=by
         have:=HR.out.set.look r;rw[mg,decide_eq_true hin] at this;exact this
        have t:Hid (nj (outs.map (·.data.toList)) (pre ++ [cur])):=mn HR.out.once hin
        have m:Hid (kK w s.data.toList (i+1) outs (pre ++ [cur]) [] (.slice base outs.length c) wr):=by
         refine⟨B.o,t.o,HR.out.row,?_,HR.out.below,by omega⟩
         have e:(fun x=>decide (x∈pre ++ [cur]))=fun x=>decide (x∈pre):=by
          funext x
          rw[decide_eq_decide,List.mem_append,List.mem_singleton];exact⟨fun h=>h.elim id (fun h=>h ▸ hin),.inl⟩
         rw[e];exact HR.out.set.mono (FC _)
        clear hin;generalize hlp:dU pre=lp at *;clear hlp
        cases lp with
        |true=>
         go_wp2_with fail;go_roundg (gk - 1)
         case measure=>have:=p.o; omega
         case rel=>exact⟨i+1,outs,pre ++ [cur],[],by have:=p.o; omega,by go_num,rfl,by rw[o.o]; first | rfl | (simp; try omega),m⟩
        |false=>
         go_wp2_with fail;go_roundg (gk - 1)
         case measure=>have:=p.o; omega
         case rel=>exact⟨i+1,outs,pre ++ [cur],[],by have:=p.o; omega,by go_num,rfl,by rw[o.o]; first | rfl | (simp; try omega),m⟩
       ·have C:(Instr.lookup 298 (.map (some w.heap.size)) (.string ⟨cur.toArray⟩) false).run prog wr=.ok (.bool false) wr:=by
         have:=HR.out.set.look r;rw[mg,decide_eq_false hin] at this;exact this
        have t:Hid (nj ((outs ++ [(⟨cur.toArray⟩:ByteArray)]).map (·.data.toList)) (pre ++ [cur])):=by
         have:=qV HR.out.once hin;simpa[Hid] using this
        have H:Hid ((fun j=>decide (j=(⟨cur.toArray⟩:ByteArray).data.toList) || decide (j∈pre))=fun x=>decide (x∈pre ++ [cur])):=by
         funext x
         simp[Bool.or_comm]
        clear hin;generalize hlp:dU pre=lp at *;clear hlp;go_wp2_with (at_mapUpdate; refine iW _ rfl _ _ _ rfl w.heap.size i (fun x=>decide (x∈pre)) rfl HR.out.set (by unfold maxLen; omega) ⟨cur.toArray⟩ rfl rfl r ?_)
        intro w1 hset hgr
        have I:Hid (bW w1 w.heap.size (i+1) (fun x=>decide (x∈pre ++ [cur]))):=by
         show bW _ _ _ _
         rw[<- H.o];exact hset
        have J:Hid (Below w.heap.size w w1):=HR.out.below.grown hgr (by have:=HR.out.size; omega) (fun k hk=>by injection hk with hk; omega)
        have L:Hid (aw (w.heap.size+1) w1 (.slice base outs.length c) outs):=HR.out.row.grownBy hgr (Fj _);have D:w.heap.size+1<=w1.heap.size:=Fe HR.out.size hgr.size;clear hset hgr C;go_wp2_with (at_builtin; refine bz _ rfl _ _ 66 rfl 9 i0 underlying66 hi hz0 hz1 hz2 (w.heap.size+1) _ outs rfl (L.o.below ((Below.refl w1.heap.size w1).alloc (Nat.le_refl _) _) (Nat.le_refl _)) (by simp; omega) (a_ w1.heap.size 0) 1 ⟨cur.toArray⟩ rfl (by simp) (by omega) ?_)
        intro v2 w2 hv2 hb2;have M:Hid (aw (w.heap.size+1) w2 v2 (outs ++ [(⟨cur.toArray⟩:ByteArray)])):=hv2
        have m:Hid (kK w s.data.toList (i+1) (outs ++ [(⟨cur.toArray⟩:ByteArray)]) (pre ++ [cur]) [] v2 w2):=by
         have E:Below (w.heap.size+1) w1 w2:=((E9 _ _).alloc D _).trans hb2;exact⟨B.o,t.o,hv2,I.o.below E (Nat.lt_succ_self _),J.o.trans (E.mono (Nat.le_succ _)),by simp; omega⟩
        obtain⟨base2,c2,hv22⟩:=hv2.slice;subst hv22;clear hv2 hb2
        cases lp with
        |true=>
         go_wp2_with fail;go_roundg (gk - 1)
         case measure=>have:=p.o; omega
         case rel=>exact⟨i+1,_,pre ++ [cur],[],by have:=p.o; omega,by go_num,rfl,by rw[o.o]; first | rfl | (simp; try omega),m⟩
        |false=>
         go_wp2_with fail;go_roundg (gk - 1)
         case measure=>have:=p.o; omega
         case rel=>exact⟨i+1,_,pre ++ [cur],[],by have:=p.o; omega,by go_num,rfl,by rw[o.o]; first | rfl | (simp; try omega),m⟩
    ·have b:i<s.size:=by
      rcases FF i s.size with h | h
      ·exact h
      ·exact absurd (.inl (by have:=g.o; omega)) hend
     have z:s[i]≠43:=fun h=>hend (.inr ⟨by have:=g.o; omega,by rw[f.o i b]; exact h⟩)
     have T:Hid (s[i]≠43):=z;have Ed:¬ s[i].toNat=43:=fun h=>z (UInt8.toNat_inj.1 h);have R:((i:Int) == (s.size:Int))=false:=by rw[beq_eq_false_iff_ne]; omega
     have X:((s[i].toNat:Int) == 43)=false:=by rw[beq_eq_false_iff_ne]; omega
     clear hend z;by_cases h1:97<=s[i].toNat
     ·by_cases h2:s[i].toNat<=122
      ·have HL:Hid (fE s[i]=true):=yy h1 h2
       have n2:i+1<=s.size:=by omega
       have n3:¬ 9223372036854775807<cur.length+1:=by omega
       have Y:Hid ((⟨cur.toArray⟩:ByteArray) ++ s.extract i (i+1)=⟨(cur ++ [s[i]]).toArray⟩):=Br cur s i b;go_wp2_with fail;go_roundg (gk - 1)
       case measure=>have:=p.o; omega
       case rel=>
        have U:=qR HR.out.scan (by have:=g.o; omega) (by rw[f.o i b]; exact HL.o)
        rw[f.o i b] at U;exact⟨i+1,outs,pre,cur ++ [s[i]],by have:=p.o; omega,by go_num,by first | rw[Y.o] | rfl,rfl,⟨U,HR.out.once,HR.out.row,HR.out.set.mono (Nat.le_succ _),HR.out.below,by omega⟩⟩
      ·have q:Hid (Out s.data.toList (([]:List ByteArray).map (·.data.toList)) 3):=.inr (.inl ⟨rfl,rfl,qU HR.out.scan (by have:=g.o; omega) (by rw[f.o i b]; exact pc (by omega)) (by rw[f.o i b]; exact T.o)⟩)
       go_wp2_with fail;exact bodyPost_ret (v:=.tuple #[.slice none 0 0,.i_ 3]) (by simp[results,results128,go_sem]) rfl ⟨_,[],3,rfl,q.o,.inl ⟨rfl,rfl⟩,HR.out.below⟩
     ·have q:Hid (Out s.data.toList (([]:List ByteArray).map (·.data.toList)) 3):=.inr (.inl ⟨rfl,rfl,qU HR.out.scan (by have:=g.o; omega) (by rw[f.o i b]; exact pc (by omega)) (by rw[f.o i b]; exact T.o)⟩)
      go_wp2_with fail;exact bodyPost_ret (v:=.tuple #[.slice none 0 0,.i_ 3]) (by simp[results,results128,go_sem]) rfl ⟨_,[],3,rfl,q.o,.inl ⟨rfl,rfl⟩,HR.out.below⟩
   ·obtain rfl:i=s.size+1:=by omega
    have F:Hid (bd s.data.toList=true∧words s.data.toList=pre):=zc (by have:=HR.out.scan; rw[g.o]; exact this) W.o
    have A:=ze F.o.1 (by rw[F.o.2]; exact HR.out.once)
    rw[F.o.2] at A;have A:Hid _:=A;by_cases V:dU pre=true
    ·have q:Hid (Out s.data.toList (([]:List ByteArray).map (·.data.toList)) 4):=A.o.1 (.inl V)
     go_wp2_with fail;exact bodyPost_ret (v:=.tuple #[.slice none 0 0,.i_ 4]) (by simp[results,results128,go_sem]) rfl ⟨_,[],4,rfl,q.o,.inl ⟨rfl,rfl⟩,HR.out.below⟩
    ·have V:dU pre=false:=by simpa using V
     by_cases h5:5<outs.length
     ·have q:Hid (Out s.data.toList (([]:List ByteArray).map (·.data.toList)) 4):=A.o.1 (.inr (by simpa using h5))
      go_wp2_with fail;exact bodyPost_ret (v:=.tuple #[.slice none 0 0,.i_ 4]) (by simp[results,results128,go_sem]) rfl ⟨_,[],4,rfl,q.o,.inl ⟨rfl,rfl⟩,HR.out.below⟩
     ·have q:Hid (Out s.data.toList ((em ((outs.map (·.data.toList)).mergeSort fun x y=>decide (x<=y))).map (·.data.toList)) 0):=by
       have h:=A.o.2 V (by simp; omega)
       rw[<- pq ((outs.map (·.data.toList)).mergeSort fun x y=>decide (x<=y))] at h;exact h
      have h5':(outs.length:Int)<=5:=by omega
      go_wp2_with fail;refine (Bo HR.out.row (by omega) HR.out.size).mono ?_;rintro e w2 ⟨rfl,hv2,hb2⟩;have M:Hid (aw (w.heap.size+1) w2 (.slice base outs.length c) (em ((outs.map (·.data.toList)).mergeSort fun x y=>decide (x<=y)))):=hv2;have Z:Hid (Below w.heap.size w w2):=HR.out.below.trans (hb2.mono (FC _));clear hv2 hb2;go_wp2_with fail;exact bodyPost_ret (v:=.tuple #[.slice base outs.length c,.i_ 0]) (by simp[results,results128,go_sem]) rfl ⟨_,_,0,rfl,q.o,M.o.mono (Nat.le_succ _),Z.o⟩
end Go.Proofs.YtlailakofhenkabGreatDoor
namespace Go.Proofs.YtlailakofhenkabGreatDoor.Sc
def pairsOf(l m:List Word):Nat:=(l.map fun p=>m.count p).sum
theorem tS(l m:List Word)(k:Nat)(h:k<l.length):pairsOf (l.take (k+1)) m=pairsOf (l.take k) m+m.count l[k]:=by
 unfold pairsOf;rw[List.take_succ_eq_append_getElem h,List.map_append,List.sum_append];simp
theorem tT(m:List Word)(p:Word)(k:Nat)(h:k<m.length):(m.take (k+1)).count p=(m.take k).count p+if m[k]=p then 1 else 0:=by
 rw[List.take_succ_eq_append_getElem h,List.count_append];congr 1
 by_cases e:m[k]=p
 ·simp[e]
 ·simp[e]
variable {m:List Word}
theorem count_one(h:m.Nodup)(p:Word):m.count p=if p∈m then 1 else 0:=by
 induction m with
 |nil=>simp
 |cons a m ih=>
  rw[List.nodup_cons] at h;rw[List.count_cons,ih h.2];by_cases e:a=p
  ·subst e
   simp[h.1]
  ·have b:¬ p=a:=fun h=>e h.symm
   simp[e,b]
theorem pr(h:m.Pairwise (·<·)):m.Nodup:=h.imp (fun {a b} hab=>(fun e=>by subst e; exact jY _ hab:a≠b))
theorem ra{m:List Word}(h:m.Nodup):∀l:List Word,pairsOf l m<=l.length∧(pairsOf l m=l.length↔∀x∈l,x∈m)
 |[]=>by simp[pairsOf]
 |a::l=>by
  obtain⟨h1,h2⟩:=ra h l
  have e:pairsOf (a::l) m=(if a∈m then 1 else 0)+pairsOf l m:=by
   show m.count a+_=_
   rw[count_one h];rfl
  by_cases ha:a∈m
  ·rw[e,if_pos ha]
   refine⟨by simp; omega,?_⟩
   rw[List.length_cons,show (1+pairsOf l m=l.length+1↔pairsOf l m=l.length) by omega,h2]
   simp[ha]
  ·rw[e,if_neg ha]
   refine⟨by simp; omega,?_⟩
   constructor
   ·intro hh; simp at hh; omega
   ·intro hh; exact absurd (hh a (by simp)) ha
theorem zk{l:List Word}(h:m.Pairwise (·<·)):((pairsOf l m:Int) == (l.length:Int))=inB l m:=by
 rw[Bool.eq_iff_iff,vo,<- (ra (pr h) l).2,beq_iff_eq];omega
end Go.Proofs.YtlailakofhenkabGreatDoor.Sc
namespace Go.Proofs.YtlailakofhenkabGreatDoor
open Go Go.RowKit Sc Tryz
theorem kL(s:ByteArray)(w:World)(hs:s.size<=5000):Calls prog 68 #[.string s] w fun e w'=>∃l n,e=.returned (.tuple #[.string ⟨(ae l).toArray⟩,.int .i64 (n:Nat)])∧Out s.data.toList l n∧Below w.heap.size w w':=by
 go_enter func68,ntmps68
 go_wp2_with fail
 refine (ik s _ hs).mono ?_;rintro e w1 ⟨v,xs,n,rfl,ho,hv,hb⟩;have g:Hid (Out s.data.toList (xs.map (·.data.toList)) n):=ho;have j:Hid (aw w.heap.size w1 v xs):=hv;have f:Hid (Below w.heap.size w w1):=hb;have b:=fu ho;have k:xs.length<=5:=by simpa using b.1
 have m:(ae (xs.map (·.data.toList))).length<=5000:=by omega
 clear ho hv hb b;go_wp2_with fail
 refine (vB j.o m (by omega)).mono ?_
 rintro e w2 ⟨rfl,hb2⟩;have c:Hid (Below w.heap.size w w2):=f.o.trans (hb2.mono f.o.size);clear hb2;generalize hjj:ae (xs.map (·.data.toList))=J at *;have o:Hid (ae (xs.map (·.data.toList))=J):=hjj;clear hjj;go_wp2_with fail
 exact bodyPost_ret (v:=.tuple #[.string ⟨J.toArray⟩,.i_ (n:Nat)]) (by simp[results,results68,go_sem]) rfl ⟨xs.map (·.data.toList),n,by rw[o.o],g.o,c.o⟩
theorem aw.row{B:Nat}{w:World}{base:Option Addr}{c:Nat}{xs:List ByteArray}(h:aw B w (.slice base xs.length c) xs)(hp:0<xs.length):∃g,base=some ⟨g,0,none⟩∧aN B w g c xs.length (xs.map Value.string):=by
 rcases h with ⟨_,rfl⟩ | ⟨g,c',e1,h2⟩
 ·simp at hp
 ·injection e1 with e1 _ e2
  subst e2;exact⟨g,e1,h2⟩
theorem aw.cell{B:Nat}{w:World}{base:Option Addr}{c:Nat}{xs:List ByteArray}(h:aw B w (.slice base xs.length c) xs)(j:Nat)(hj:j<xs.length):∃g,base=some ⟨g,0,none⟩∧w.cell? ⟨g,j,none⟩=some (.string xs[j]):=by
 obtain⟨g,e,hr⟩:=h.row (by omega)
 exact⟨g,e,hr.holds j _ (by rw[List.getElem?_map,List.getElem?_eq_getElem hj]; rfl)⟩
theorem rc(xs ys:List ByteArray)(k:Nat)(h:k<xs.length):pairsOf ((xs.map (·.data.toList)).take (k+1)) (ys.map (·.data.toList))=pairsOf ((xs.map (·.data.toList)).take k) (ys.map (·.data.toList))+(ys.map (·.data.toList)).count xs[k].data.toList:=by
 rw[tS _ _ k (by simpa using h)]
 simp
theorem rd(ys:List ByteArray)(p:List UInt8)(k:Nat)(h:k<ys.length):((ys.map (·.data.toList)).take (k+1)).count p=((ys.map (·.data.toList)).take k).count p+if ys[k].data.toList=p then 1 else 0:=by
 rw[tT _ _ k (by simpa using h)]
 simp
theorem pt(s t:ByteArray)(w:World)(hs:s.size<=5000)(ht:t.size<=5000):Calls prog 74 #[.string s,.string t] w fun e w'=>∃r n,e=.returned (.tuple #[.bool r,.int .i64 (n:Nat)])∧fp s.data.toList t.data.toList r n∧Below w.heap.size w w':=by
 obtain⟨l2,k2,HO2⟩:∃l k,Hid (Out t.data.toList l k):=by
  obtain⟨l,k,h⟩:=gY t.data.toList;exact⟨l,k,h⟩
 go_enter func74,ntmps74
 go_wp2_with fail
 refine (ik s _ hs).mono ?_;rintro e w1 ⟨v,xs,n,rfl,ho,hv,hb⟩;have F:Hid (Out s.data.toList (xs.map (·.data.toList)) n):=ho;have U:Hid (aw w.heap.size w1 v xs):=hv;have G:Hid (Below w.heap.size w w1):=hb;have V:xs.length<=5:=by simpa using (fu ho).1
 clear ho hv hb
 cases n with
 |succ n=>
  have o:Hid (fp s.data.toList t.data.toList false (n+1)):=⟨_,_,_,_,F.o,HO2.out,.inl ⟨by omega,rfl,rfl⟩⟩
  have W:¬ ((n+1:Nat):Int)=0:=by omega
  have J:¬ (n:Int)+1=0:=by omega
  go_wp2_with fail
  exact bodyPost_ret (v:=.tuple #[.bool false,.i_ ((n+1:Nat):Int)]) (by simp[results,results74,go_sem]) rfl ⟨false,n+1,rfl,o.o,G.o⟩
 |zero=>
  rw[show ((0:Nat):Int)=0 from rfl]
  go_wp2_with fail
  refine (ik t _ ht).mono ?_;rintro e w2 ⟨v2,ys,k,rfl,ho2,hv2,hb2⟩;have f:Hid (Out t.data.toList (ys.map (·.data.toList)) k):=ho2;have z:Hid (aw w.heap.size w2 v2 ys):=hv2.mono G.o.size;have b:Hid (Below w.heap.size w w2):=G.o.trans (hb2.mono G.o.size);have A:Hid (aw w.heap.size w2 v xs):=U.o.below hb2 (Fa _);have X:ys.length<=5:=by simpa using (fu ho2).1
  clear ho2 hv2 hb2 HO2
  cases k with
  |succ k=>
   have o:Hid (fp s.data.toList t.data.toList false (k+1)):=⟨_,_,_,_,F.o,f.o,.inr (.inl ⟨rfl,by omega,rfl,rfl⟩)⟩
   have W:¬ ((k+1:Nat):Int)=0:=by omega
   have J:¬ (k:Int)+1=0:=by omega
   go_wp2_with fail
   exact bodyPost_ret (v:=.tuple #[.bool false,.i_ ((k+1:Nat):Int)]) (by simp[results,results74,go_sem]) rfl ⟨false,k+1,rfl,o.o,b.o⟩
  |zero=>
   rw[show ((0:Nat):Int)=0 from rfl]
   have L:Hid (fp s.data.toList t.data.toList ((pairsOf (xs.map (·.data.toList)) (ys.map (·.data.toList)):Int) == (xs.length:Int)) 0):=⟨_,_,_,_,F.o,f.o,.inr (.inr ⟨rfl,rfl,rfl,by
    have:=zk (l:=xs.map (·.data.toList)) (fM f.o).2.2.2;rw[List.length_map] at this;exact this⟩)⟩
   clear F f;obtain⟨base,c,hvv⟩:=A.o.slice;subst hvv;obtain⟨base2,c2,hvv2⟩:=z.o.slice;subst hvv2;have M:Hid (∀j (h:j<xs.length),∃g,base=o_ g 0∧w2.cell? (a_ g j)=some (.string xs[j])):=A.o.cell;have N:Hid (∀j (h:j<ys.length),∃g,base2=o_ g 0∧w2.cell? (a_ g j)=some (.string ys[j])):=z.o.cell;go_wp2_with fail
   go_loopg [9,32] xs.length (fun gk nv iv wr=>∃j:Nat,j+gk=xs.length∧iv=.i_ j∧nv=.i_ (pairsOf ((xs.map (·.data.toList)).take j) (ys.map (·.data.toList)):Nat)∧Hid (pairsOf ((xs.map (·.data.toList)).take j) (ys.map (·.data.toList))<=5*j)∧wr=w2)
   case atStart=>exact⟨0,by omega,rfl,rfl,Fa _,rfl⟩
   case round=>
    obtain⟨j,hj,rfl,rfl,B,rfl⟩:=hrel;have O:Hid (j+gk=xs.length):=hj;have Y:j<=xs.length:=by omega
    clear hj;by_cases hlt:j<xs.length
    ·obtain⟨g,rfl,hcell⟩:=M.o j hlt
     have R:Hid (pairsOf ((xs.map (·.data.toList)).take (j+1)) (ys.map (·.data.toList))=pairsOf ((xs.map (·.data.toList)).take j) (ys.map (·.data.toList))+(ys.map (·.data.toList)).count xs[j].data.toList):=rc xs ys j hlt;have T:=B.o;clear B;generalize pairsOf ((xs.map (·.data.toList)).take j) (ys.map (·.data.toList))=n0 at *;generalize xs[j]=p at *;have B:Hid (n0<=5*j):=T;clear T;generalize gk=gm at *;go_wp2_with fail
     go_loopg [9,38] ys.length (fun hk nv iv wr2=>∃i:Nat,i+hk=ys.length∧iv=.i_ i∧nv=.i_ ((n0+((ys.map (·.data.toList)).take i).count p.data.toList:Nat):Int)∧Hid (((ys.map (·.data.toList)).take i).count p.data.toList<=i)∧wr2=wr)
     case atStart=>exact⟨0,by omega,rfl,rfl,Fa _,rfl⟩
     case round=>
      obtain⟨i,hi,rfl,rfl,m,rfl⟩:=hrel;have H:Hid (i+gk=ys.length):=hi;have Z:i<=ys.length:=by omega
      clear hi;by_cases hlt2:i<ys.length
      ·obtain⟨g2,rfl,hcell2⟩:=N.o i hlt2
       have I:Hid (((ys.map (·.data.toList)).take (i+1)).count p.data.toList=((ys.map (·.data.toList)).take i).count p.data.toList+if ys[i].data.toList=p.data.toList then 1 else 0):=rd ys p.data.toList i hlt2
       have hC:=m.o;clear m;generalize ((ys.map (·.data.toList)).take i).count p.data.toList=c0 at *;generalize ys[i]=q at *;have m:Hid (c0<=i):=hC;have hnn:¬ 9223372036854775807<n0+c0+1:=by have:=B.o; omega
       go_wp2_with fail
       ·rename_i hh
        have C:q.data.toList=p.data.toList:=by
         have:p.toList=q.toList:=by simpa using hh
         rw[ByteArray.toList_eq,ByteArray.toList_eq] at this;exact this.symm
        go_roundg (gk - 1)
        case measure=>have:=H.o; omega
        case rel=>exact⟨i+1,by have:=H.o; omega,by go_num,by rw[I.o,if_pos C]; go_num,by show _<=_; rw[I.o,if_pos C]; have:=m.o; omega,rfl⟩
       ·rename_i hh
        have C:¬ q.data.toList=p.data.toList:=by
         have:¬ p.toList=q.toList:=by simpa using hh
         rw[ByteArray.toList_eq,ByteArray.toList_eq] at this;exact fun e=>this e.symm
        go_roundg (gk - 1)
        case measure=>have:=H.o; omega
        case rel=>exact⟨i+1,by have:=H.o; omega,by go_num,by rw[I.o,if_neg C]; go_num,by show _<=_; rw[I.o,if_neg C]; have:=m.o; omega,rfl⟩
      ·obtain rfl:i=ys.length:=by omega
       have D:Hid ((ys.map (·.data.toList)).take ys.length=ys.map (·.data.toList)):=List.take_of_length_le (by simp)
       go_wp2_with fail
       go_roundg (gm - 1)
       case measure=>have:=O.o; omega
       case rel=>
        have h1:=m.o;have h2:=B.o;rw[D.o] at h1;exact⟨j+1,by have:=O.o; omega,by go_num,by rw[D.o,R.o]; go_num,by show _<=_; rw[R.o]; omega,rfl⟩
    ·obtain rfl:j=xs.length:=by omega
     have o:Hid (fp s.data.toList t.data.toList ((pairsOf ((xs.map (·.data.toList)).take xs.length) (ys.map (·.data.toList)):Int) == (xs.length:Int)) 0):=by
      have:=L.o;rw[List.take_of_length_le (by simp)]
      exact this
     generalize pairsOf ((xs.map (·.data.toList)).take xs.length) (ys.map (·.data.toList))=n0 at *;go_wp2_with fail
     exact bodyPost_ret (v:=.tuple #[.bool ((n0:Int) == (xs.length:Int)),.i_ 0]) (by simp[results,results74,go_sem]) rfl (by
      have E:=o.o;generalize ((n0:Int) == (xs.length:Int))=r at E ⊢
      cases r
      ·first | exact .inl ⟨0,rfl,E,b.o⟩ | exact⟨false,0,rfl,E,b.o⟩
      ·first | exact .inr ⟨0,rfl,E,b.o⟩ | exact⟨true,0,rfl,E,b.o⟩)
open Tok Ev
theorem gD{x:ByteArray}(h:x.toList= []):x=⟨#[]⟩:=by
 rw[ByteArray.toList_eq] at h;exact aK h
def Small(n:Nat)(f:Fam):Prop:=f.client.size<=n∧f.subject.size<=n∧f.scope.size<=n∧f.request.size<=n
theorem bG{b:Bool}{p:Prop}(hb:b=true↔p)(h:¬ p):b=false:=Bool.eq_false_iff.2 (fun k=>h (hb.1 k))
variable {f:Fam}{i n t:Int}
theorem CJ:may ⟨2,f,i,t⟩↔f=zeroF∧okN i∧t=0:=by simp[Ev.may]
theorem CK:may ⟨3,f,i,t⟩↔f=zeroF∧i=0∧okN t:=by simp[Ev.may]
theorem CL:may ⟨1,f,i,t⟩↔bP f∧i=0∧t=0:=by simp[Ev.may]
theorem zl{k:Int}(h1:k≠1)(h2:k≠2)(h3:k≠3):¬ may ⟨k,f,i,t⟩:=by simp[Ev.may,h1,h2,h3]
theorem zm(n:Int)(w:World):Calls prog 66 #[.i_ n,.i_ 0,.i_ 1099511627776] w fun e w'=>e=.returned (.bool (okB n))∧w'=w:=za n 0 1099511627776 w
theorem zn(f:Fam)(i t:Int)(b:Bool)(hb:b=true↔may ⟨2,f,i,t⟩)(w:World):Calls prog 140 #[evV ⟨2,f,i,t⟩] w fun e w'=>e=.returned (.bool b)∧Below w.heap.size w w':=by
 rw[CJ] at hb;by_cases hz:f=zeroF
 ·subst hz
  by_cases ht:t=0
  ·subst ht
   have c:J (b=okB i):=by
    show b=okB i
    rw[Bool.eq_iff_iff,cU,hb];simp
   clear hb;unfold evV aX zeroF;simp only;go_enter func140,ntmps140
   go_wp2_with fail;refine (zm i _).mono ?_;rintro e w' ⟨rfl,rfl⟩;go_wp2_with fail;go_ret;refine⟨by rw[c.o]; rfl,?_⟩
   repeat (first | exact Below.refl _ _ | refine Below.alloc ?_ (by simp) _)
  ·have c:J _:=bG hb (fun h=>ht h.2.2)
   have g:(t == 0)=false:=by rw[beq_eq_false_iff_ne]; exact ht
   clear hb;unfold evV aX zeroF;simp only;go_enter func140,ntmps140
   go_wp2_with fail;go_ret;refine⟨by rw[c.o]; rfl,?_⟩
   repeat (first | exact Below.refl _ _ | refine Below.alloc ?_ (by simp) _)
 ·have c:J _:=bG hb (fun h=>hz h.1)
  have j:J _:=hz;clear hb hz;obtain⟨f1,f2,f3,f4,f5,f6,f7,f8,f9⟩:=f;unfold evV aX;simp only;go_enter func140,ntmps140
  go_wp2_with fail
  all_goals first
   |(exfalso; refine j.o ?_; unfold zeroF; simp_all [gD]; done)
   |(go_ret; refine⟨by rw[c.o]; rfl,?_⟩; repeat (first | exact Below.refl _ _ | refine Below.alloc ?_ (by simp) _))
theorem CY(h:n<0):okB n=false:=jB (fun k=>by have:=k.1; omega)
theorem CZ(h:1099511627776<n):okB n=false:=jB (fun k=>by have:=k.2; omega)
theorem wT(n:Int)(w:World):Calls prog 264 #[.i_ n] w fun e w'=>e=.returned (.bool (!okB n))∧∃q,w'=w.drewN q:=by
 by_cases h0:n<0
 ·have b:J (okB n=false):=CY h0
  go_enter func264,ntmps264
  go_wp2_with fail
  go_ret;exact⟨by rw[b.o]; rfl,0,rfl⟩
 ·by_cases h1:1099511627776<n
  ·have b:J (okB n=false):=CZ h1
   go_enter func264,ntmps264
   go_wp2_with fail
   go_ret;exact⟨by rw[b.o]; rfl,0,rfl⟩
  ·have b:J (okB n=true):=dt ⟨by omega,by omega⟩
   go_enter func264,ntmps264
   go_wp2_with fail
   go_ret;exact⟨by rw[b.o]; rfl,0,rfl⟩
theorem Bt(ns:List Int):(!(ns.any fun n=>!okB n))=ns.all okB:=by
 induction ns with
 |nil=>rfl
 |cons a l ih=>rw[List.any_cons,List.all_cons,<- ih]; cases okB a <;> simp
theorem oa(ns:List Int)(g c:Nat)(w:World)(hn:ns.length<=5000)(hc:∀j (h:j<ns.length),w.cell? ⟨g,j,none⟩=some (.int .i64 ns[j])):
 Calls prog 185 #[.slice (o_ g 0) ns.length c] w fun e w'=>e=.returned (.bool (ns.all okB))∧∃q,w'=w.drewN q:=by
 rw[<- Bt ns];have b:=slices_ContainsFunc_f265 (Value.int .i64) (fun n=>!okB n) 264 #[] (enters_of func264 (by kernel_rfl) rfl) g 0 ns.length c ns w (fun W x _=>wT x W) (Nat.le_refl _) (by omega) (fun j hj=>by rw[Nat.zero_add,hc j hj,getElem!_pos ns j hj])
 rw[List.take_of_length_le (Nat.le_refl _)] at b;clear hc;go_enter func185,ntmps185
 go_wp2_with fail;refine b.mono ?_;rintro e w' ⟨rfl,q,rfl⟩;go_wp2_with fail;go_ret;exact⟨rfl,q,rfl⟩
theorem mq(s:ByteArray)(b:Bool)(hb:b=true↔Lst s.data.toList)(w:World)(hs:s.size<=5000)(hL:aU w):Calls prog 263 #[.string s] w fun e w'=>e=.returned (.bool b)∧Below w.heap.size w w':=by
 have o:Hid _:=hL;have f:Hid _:=hb;clear hL hb;go_enter func263,ntmps263
 go_wp2_with fail;refine (j9 s _ hs o.o).mono ?_;rintro e w' ⟨l,n,rfl,ho,hbl⟩;have g:Hid _:=ho;have c:Hid _:=hbl;clear ho hbl;generalize hJJ:ae l=J;have j:Hid _:=hJJ;clear hJJ
 cases n with
 |succ n=>
  have k:Hid _:=bG f.o (pi g.o);rw[aV];go_wp2_with fail;go_ret;exact⟨by rw[k.o]; rfl,c.o⟩
 |zero=>
  rw[show aB 0=.nilIface from rfl]
  by_cases hJ:J=s.data.toList
  ·have k:Hid _:=f.o.2 ((j2 g.o).2 (j.o.trans hJ))
   have m:s=⟨J.toArray⟩:=aK hJ.symm;clear g f;subst m;go_wp2_with fail;go_ret;exact⟨by rw[k.o]; rfl,c.o⟩
  ·have k:Hid _:=bG f.o (fun h=>hJ (j.o.symm.trans ((j2 g.o).1 h)))
   have p:(J == s.toList)=false:=by rw[ByteArray.toList_eq,beq_eq_false_iff_ne]; exact hJ
   clear g f hJ;go_wp2_with fail;go_ret;exact⟨by rw[k.o]; rfl,c.o⟩
end Go.Proofs.YtlailakofhenkabGreatDoor
