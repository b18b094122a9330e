import Derived.Test.YtlailakofhenkabGreatDoorB43
import Derived.RangeFuncNested
namespace Go.Proofs.YtlailakofhenkabGreatDoor
open Go Go.RowKit Tok Sc Ev
theorem parts_small {c:UInt8}:∀ (n:Nat) (l:List UInt8),l.length≤n→(∀ x∈parts c l,x.length≤l.length)∧(parts c l).length≤l.length+1
 |n,l,hn=>by
  by_cases hc:c∈l
  ·obtain ⟨x,y,rfl,hx⟩:=List.eq_append_cons_of_mem hc
   cases n with
   |zero=>simp at hn
   |succ n=>
    have ih:=parts_small (c:=c) n y (by simp at hn; omega)
    rw [parts_at _ hx];refine ⟨fun z hz=>?_,?_⟩
    ·rcases List.mem_cons.1 hz with rfl | hz
     ·simp
     ·have:=ih.1 z hz
      simp
      omega
    ·have:=ih.2
     simp
     omega
  ·rw [parts_no hc]
   simp
theorem words_small (l:List UInt8):(∀ x∈wordsL l,x.length≤l.length)∧(wordsL l).length≤l.length+1:=by
 have h:=parts_small (c:=32) l.length l (Nat.le_refl _);unfold wordsL;exact ⟨fun x hx=>h.1 x (List.mem_filter.1 hx).1,Nat.le_trans (List.length_filter_le _ _) h.2⟩
theorem line_nil {d:Dk} {L:List UInt8} (hw:wordsL L= []):LineR d L d [111,107]:=by
 simp [LineR,hw]
theorem line_none {d:Dk} {L:List UInt8} {c:Word} {ws:List Word} (hw:wordsL L=c::ws) (hf:formOf c=none):LineR d L d (errL 3):=by
 simp [LineR,hw,hf]
theorem answer_is {N:Nat} {w:World} {gk gm gd gs:Nat} {d:Dk} (s:ByteArray) (h:DkS N w gk gm gd gs d) (hs:s.size≤5000) (hN:N<97000) :
 Calls Tryz.prog 100 #[.pointer (some ⟨gk,0,none⟩),.string s] w fun e w'=>∃ (d':Dk) (a:List UInt8),e=.returned (.string ⟨a.toArray⟩)∧LineR d s.data.toList d' a∧DkTo N w w' gk gm gd gs d':=by
 have hsm:=words_small s.data.toList;have hl:s.data.toList.length=s.size:=Array.length_toList
 cases hw:wordsL s.data.toList with
 |nil=>
  refine (answer_nil s hs hw).mono ?_;rintro e w' ⟨rfl,hb⟩;exact ⟨d,[111,107],rfl,line_nil hw,DkTo.same h hb⟩
 |cons c ws=>
  rw [hw] at hsm;have hcl:c.length≤5000:=by have:=hsm.1 c (by simp); omega
  by_cases hc:c∈ordNames
  ·obtain ⟨⟨c',F,ks⟩,hr,rfl⟩:=row_of c hc
   exact answer_row s F ks hr h hs hw (fun x hx=>by have:=hsm.1 x (by simp [hx]); omega) (by have:=hsm.2; simp at this; omega) hN
  ·refine (answer_none s h hs hw hcl hc).mono ?_
   rintro e w' ⟨rfl,hb⟩;exact ⟨d,errL 3,rfl,line_none hw (form_none hc),DkTo.same h hb⟩
end Go.Proofs.YtlailakofhenkabGreatDoor
namespace Go.Proofs.YtlailakofhenkabGreatDoor
open Go Go.RowKit Sc
end Go.Proofs.YtlailakofhenkabGreatDoor
namespace Go.Proofs.YtlailakofhenkabGreatDoor
open Go Go.RowKit Tok Sc Ev
theorem DB.on {N:Nat} {w w':World} {gd:Nat} {p:Pub} (h:DB N w gd p) (hb:Below w.heap.size w w'):DB N w' gd p:=by
 obtain ⟨A,sv,b,es,h1,h2,F,l',d1,d2,d3⟩:=h.run;exact ⟨h.ok,⟨A,sv,b,es,h1,h2,F,l',d1.below hb h.lt,d2,d3⟩,h.libs.below hb,h.err.on hb,h.olds,h.oldE,Nat.lt_of_lt_of_le h.lt hb.size⟩
theorem giveM_size {r:Rul} {p:Pub} {f:Fam} (hf:mayF f):(giveM (txtB r) p f).2.1.size≤5000:=by
 have:=txt_len r _ (may_ref hf.1.1 hf.1.2.1);unfold giveM;split
 ·exact Nat.le_trans this (by omega)
 ·show (0:Nat)≤5000; omega
theorem grantM_size {r:Rul} {p:Pub} {cl su sc:ByteArray} {n:Nat} (h:Ev.Good p.st) (hc:nameB cl.data.toList=true) (hs:nameB su.data.toList=true) (hl:n=0→Lst sc.data.toList) (ok:Bool):(grantM (txtB r) p ok cl su sc n).2.1.size≤5000:=by
 unfold grantM;split
 ·show (0:Nat)≤5000; omega
 split
 ·show (0:Nat)≤5000; omega
 rename_i hn
 split
 ·show (0:Nat)≤5000; omega
 rename_i hx
 split
 ·show (0:Nat)≤5000; omega
 rcases may_new h hx hc hs (hl (by simpa using hn)) with ⟨-,h1,-⟩ | ⟨h1,-⟩ | ⟨h1,-⟩
 ·exact giveM_size h1
 ·cases h1
 ·cases h1
theorem rotateM_size {r:Rul} {p:Pub} {ok:Bool} {rq:ByteArray} {t:T} {n:Nat} {sc:ByteArray} {m:Nat} {b:Bool} (h:Ev.Good p.st) (hr:nameB rq.data.toList=true) (hl:m=0→Lst sc.data.toList):(rotateM (txtB r) r p ok rq t n sc m b).2.1.size≤5000:=by
 unfold rotateM;split
 ·show (0:Nat)≤5000; omega
 split
 ·show (0:Nat)≤5000; omega
 rename_i hk
 have hk:lookM r p.st 1 t n=0:=by simpa using hk
 have hf:mayF (famM p.st t):=fam_may h (look_fam (look_ok hk).1).2.2.1;split
 ·unfold turnM
  split
  ·show (0:Nat)≤5000; omega
  rename_i hm
  split
  ·show (0:Nat)≤5000; omega
  split
  ·show (0:Nat)≤5000; omega
  rename_i hg
  rcases may_next hf hg hr (hl (by simpa using hm)) h.clock with ⟨-,h1,-⟩ | ⟨h1,-⟩ | ⟨h1,-⟩
  ·exact giveM_size h1
  ·cases h1
  ·cases h1
 split
 ·exact Nat.le_trans (txt_len r _ (may_ref hf.1.1 hf.1.2.1)) (by omega)
 ·show (0:Nat)≤5000; omega
theorem mintM_size {r:Rul} {p:Pub} {t:T} {n:Nat} (h:Ev.Good p.st) (hr:RulOk r):(mintM (txtB r) r p t n).1.size≤5000:=by
 unfold mintM;split
 ·show (0:Nat)≤5000; omega
 rename_i hk
 have hk:lookM r p.st 1 t n=0:=by simpa using hk
 have hf:mayF (famM p.st t):=fam_may h (look_fam (look_ok hk).1).2.2.1;split
 ·show (0:Nat)≤5000; omega
 ·exact Nat.le_trans (txt_len r _ (may_mint hf h hr)) (by omega)
theorem lst_jn {s:List UInt8} {l:List Word} {m:Nat} (h:Sc.Out s l m) (hm:m=0):Lst (⟨(joined l).toArray⟩:ByteArray).data.toList:=by
 subst hm;exact ⟨l,by simpa using out_joined h,by simp⟩
theorem grant_len {r:Rul} {p:Pub} {x y sc:ByteArray} {n:Nat} (h:Ev.Good p.st) (hl:n=0→Lst sc.data.toList):(grantM (txtB r) p (nameB x.data.toList && nameB y.data.toList) x y sc n).2.1.size≤5000:=by
 cases hb:(nameB x.data.toList && nameB y.data.toList) with
 |true=>
  simp only [Bool.and_eq_true] at hb;exact grantM_size h hb.1 hb.2 hl true
 |false=>
  unfold grantM;rw [if_pos rfl];show noT.size≤5000
  decide
theorem rotate_len {r:Rul} {p:Pub} {rq:ByteArray} {t:T} {n:Nat} {sc:ByteArray} {m:Nat} {b:Bool} (h:Ev.Good p.st) (hl:m=0→Lst sc.data.toList):(rotateM (txtB r) r p (nameB rq.data.toList) rq t n sc m b).2.1.size≤5000:=by
 cases hb:nameB rq.data.toList with
 |true=>exact rotateM_size h hb hl
 |false=>
  unfold rotateM;rw [if_pos rfl];show noT.size≤5000
  decide
theorem tagM_len (k:Int) (l:List UInt8):(tagM k l).length=16:=by
 exact Hex.hexsN_length _ _
theorem word_len {s:List UInt8} {l:List Word} {n:Nat} (h:Sc.Out s l n):(wordL (joined l)).length≤50:=by
 unfold wordL;split
 ·simp
 ·rcases h with ⟨rfl,h1⟩ | ⟨rfl,rfl,-⟩ | ⟨rfl,rfl,-⟩
  ·have:=lst_len ⟨l,out_joined (s:=s) (.inl ⟨rfl,h1⟩),rfl⟩
   omega
  ·rename_i hq; exact absurd joined_nil hq
  ·rename_i hq; exact absurd joined_nil hq
theorem toL (a:ByteArray):a.data.toList.length=a.size:=Array.length_toList
theorem show_may {r:Rul} {p:Pub} {t:T} {n:Nat} (hg:Ev.Good p.st) (hz:(showM r p t n).2=0):mayF (showM r p t n).1:=by
 unfold showM at hz ⊢;split at hz
 ·rename_i h5; exact absurd hz h5
 ·rename_i h5
  rw [if_neg h5];split at hz
  ·cases hz
  ·rename_i h6
   rw [if_neg h6];exact fam_may hg (look_fam (look_ok (by simpa using h5)).1).2.2.1
theorem show_zero {r:Rul} {p:Pub} {t:T} {n:Nat} (hz:¬ (showM r p t n).2=0):(showM r p t n).1=zeroF:=by
 unfold showM at hz ⊢;split
 ·rfl
 ·rename_i h5
  rw [if_neg h5] at hz;split
  ·rfl
  ·rename_i h6
   rw [if_neg h6] at hz;exact absurd rfl hz
theorem doesShort {d:Dk} {x:List UInt8} {n:Nat} (h1:x.length≤100000) (h2:n≤100):((d,x,n):Dk × List UInt8 × Nat).2.1.length≤100000∧((d,x,n):Dk × List UInt8 × Nat).2.2≤100:=⟨h1,h2⟩
theorem pick_len {q:Pub × ByteArray × Nat} {r:Rul} (h:q.2.1.size≤5000):(pickT q r).2.1.length≤100000:=by
 show q.2.1.data.toList.length≤_
 rw [toL];omega
theorem does_len {d:Dk} {c:Word} {ws:List Word} {ns:List Int} {o:Dk × List UInt8 × Nat} (h:DoesR d c ws ns o) (hg:Ev.Good d.p.st) (hr:RulOk d.r) (hg2:Ev.Good o.1.p.st) (hn:d.p.n≤100000) (hlg:d.p.lg≤16):o.2.1.length≤100000∧o.2.2≤100:=by
 unfold DoesR at h;by_cases e0:c=cNew
 ·rw [if_pos e0] at h
  obtain ⟨k,i,l,a,-,rfl⟩:=h;by_cases hb:rightB ⟨k,i,l,a⟩=true
  ·rw [if_pos hb]; exact doesShort (by decide) (by decide)
  ·rw [if_neg hb]; exact doesShort (by decide) (by decide)
 rw [if_neg e0] at h;by_cases e1:c=cOpen
 ·rw [if_pos e1] at h
  subst h; exact doesShort (by decide) (by decide)
 rw [if_neg e1] at h;by_cases e2:c=cGrant
 ·rw [if_pos e2] at h
  obtain ⟨x,y,z,l,n,-,ho,rfl⟩:=h;have h1:=grant_len (r:=d.r) (x:=Ev.bs x) (y:=Ev.bs y) (n:=n) hg (fun h=>lst_jn ho h);rw [bsL,bsL,txt_eq] at h1;exact ⟨pick_len h1,grantM_err _ _ _ _ _ _ (scOut_err ho)⟩
 rw [if_neg e2] at h;by_cases e3:c=cRotate
 ·rw [if_pos e3] at h
  obtain ⟨x,y,z,t,n,l,m,b,-,-,ho,-,-,rfl⟩:=h;have h1:=rotate_len (r:=d.r) (rq:=Ev.bs (textW y)) (t:=t) (n:=n) (m:=m) (b:=b) hg (fun h=>lst_jn ho h);rw [bsL,txt_eq] at h1;exact ⟨pick_len h1,rotateM_err _ _ _ _ _ _ _ _ _ (scOut_err ho)⟩
 rw [if_neg e3] at h;by_cases e4:c=cMint
 ·rw [if_pos e4] at h
  obtain ⟨x,t,n,-,-,rfl⟩:=h;have h1:=mintM_size (t:=t) (n:=n) hg hr;rw [txt_eq] at h1;exact ⟨by show List.length _≤_; rw [toL]; omega,mintM_err _ _ _ _ _⟩
 rw [if_neg e4] at h;by_cases e5:c=cShow
 ·rw [if_pos e5] at h
  obtain ⟨x,t,n,-,-,rfl⟩:=h;refine ⟨?_,showM_err _ _ _ _⟩;show (famL (showM d.r d.p t n).1).length≤100000
  by_cases hz:(showM d.r d.p t n).2=0
  ·have:=famL_len (show_may hg hz)
   omega
  ·rw [show_zero hz]
   decide +kernel
 rw [if_neg e5] at h;by_cases e6:c=cKill
 ·rw [if_pos e6] at h
  obtain ⟨i,-,rfl⟩:=h;exact ⟨(by decide:cKill.length≤100000),killM_err _ _⟩
 rw [if_neg e6] at h;by_cases e7:c=cSave
 ·rw [if_pos e7] at h
  subst h
  have:=saveP_err d.p;exact ⟨(by decide:cSave.length≤100000),by simp only; omega⟩
 rw [if_neg e7] at h;by_cases e8:c=cCut
 ·rw [if_pos e8] at h
  obtain ⟨i,-,rfl⟩:=h;exact ⟨(by decide:cCut.length≤100000),(by decide:0≤100)⟩
 rw [if_neg e8] at h;by_cases e9:c=cTick
 ·rw [if_pos e9] at h
  obtain ⟨i,-,rfl⟩:=h
  have:=digits13 hg2.clock;exact ⟨by simp only at this ⊢; omega,tickM_err _ _⟩
 rw [if_neg e9] at h;by_cases e10:c=cSweep
 ·rw [if_pos e10] at h
  subst h;have h1:=sweepM_id (r:=d.r) hg
  have:=Lib.itoa_length_le _ h1.1 h1.2;exact ⟨by simp only; omega,sweepM_err _ _⟩
 rw [if_neg e10] at h;by_cases e11:c=cWrites
 ·rw [if_pos e11] at h
  subst h
  have:=digits13 (n:=(d.p.n:Int)) ⟨by omega,by omega⟩
  exact ⟨by simp only; omega,by simp⟩
 rw [if_neg e11] at h;by_cases e12:c=cLog
 ·rw [if_pos e12] at h
  subst h
  have:=digits13 (n:=(d.p.lg:Int)) ⟨by omega,by omega⟩
  refine ⟨?_,by simp⟩
  simp only [List.length_append,List.length_cons];have h5:(boolL d.p.dn).length≤5:=by unfold boolL; split <;> simp
  omega
 rw [if_neg e12] at h;by_cases e13:c=cFams
 ·rw [if_pos e13] at h
  subst h;exact ⟨fms_len hg,by simp⟩
 rw [if_neg e13] at h;by_cases e14:c=cLeast
 ·rw [if_pos e14] at h
  obtain ⟨x,l,n,-,ho,rfl⟩:=h;have h1:=word_len ho;have h2:=scOut_err ho;exact ⟨by simp only; omega,by simp only; omega⟩
 rw [if_neg e14] at h;by_cases e15:c=cTag
 ·rw [if_pos e15] at h
  obtain ⟨i,x,y,-,-,rfl⟩:=h;exact ⟨by simp only; rw [tagM_len]; omega,by simp⟩
 rw [if_neg e15] at h;by_cases e16:c=cToken
 ·rw [if_pos e16] at h
  obtain ⟨x,a,b,e,ys,-,-,rfl⟩:=h;split
  ·exact doesShort (by decide) (by decide)
  split
  ·rename_i hm
   have h1:=txt_len d.r _ (mayB_iff.1 hm);rw [txt_eq] at h1;exact ⟨by simp only; rw [toL]; omega,by simp⟩
  ·exact doesShort (by decide) (by decide)
 rw [if_neg e16] at h;subst h;exact doesShort (by decide) (by decide)
end Go.Proofs.YtlailakofhenkabGreatDoor
set_option maxRecDepth 100000
set_option maxHeartbeats 4000000
namespace Go.Proofs.YtlailakofhenkabGreatDoor
open Go Go.RowKit Go.Lib Tok Sc Ev
def NewFrom (k:Nat) (v v':Value):Prop:=v'.ownBlock=v.ownBlock∨∀ g,v'.ownBlock=some g→k≤g
theorem app_str {P:Program} (w:World) (base:Nat) (t u ty e:TypeId) (i:TypeInfo) (ht:P.underlying t=some (.slice e)) (hu:P.underlying u=some .string) (hi:P.info? e=some i) (hz:i.zero=some (.int .u8 0)) (hsize:i.size=1) (hby:i.bytes=1)
 (v:Value) (n:Nat) (xs:List Value) (hown:w.ownsRow base e 1 v n xs) (s:ByteArray) (h63:n+s.size≤maxLen) (hbytes:n+s.size≤140737488355328) (hbase:base≤w.heap.size) :
 ∃ v' w',(Builtin.append_ #[t,u] ty #[v,.string s]).run P w=.ok v' w'∧w'.ownsRow base e 1 v' (n+s.size) (xs ++ strCells s)∧w.grownBy w' v.ownBlock∧NewFrom w.heap.size v v':=by
 obtain ⟨v',w',hr,h2,h3,-⟩:=run_append_own_string (P:=P) w base t u ty e i ht hu hi hz hsize hby v n xs hown s h63 hbytes hbase;refine ⟨v',w',hr,h2,h3,?_⟩;rcases hown.2 with ⟨rfl,rfl⟩ | ⟨g,cap,cur,rfl,hbg,hg,hnc,hcm,hcs,htake⟩
 ·have hxl:xs= []:=List.eq_nil_of_length_eq_zero (by simpa using hown.1)
  subst hxl;obtain ⟨v2,w2,hr2,k2,-,-⟩:=run_append_own_string (P:=P) w w.heap.size t u ty e i ht hu hi hz hsize hby _ 0 [] (World.ownsRow_nil w w.heap.size e 1) s h63 hbytes (Nat.le_refl _);rw [hr] at hr2;simp only [Result.ok.injEq] at hr2;obtain ⟨rfl,rfl⟩:=hr2;exact .inr (fun g hg=>(k2.lt g hg).1)
 ·by_cases hroom:n+s.size≤cap
  ·have hcs':cur.size=cap:=by simpa using hcs
   have hr2:=run_append_room_string (P:=P) w t u ty e i ht hu hi hsize g n cap cur hg s hroom (by omega)
   rw [hr] at hr2;simp only [Result.ok.injEq] at hr2;rw [hr2.1];exact .inl rfl
  ·have hxl:xs.length=n:=by simpa using hown.1
   have holds:∀ j u,xs[j]?=some u→w.cell? ((⟨g,0,none⟩:Addr).add j)=some u:=hown.cells (g:=g) rfl;have hsmall:n+s.size≤9223372036854775807:=by simp only [maxLen] at h63; omega
   have hr2:=run_append_grow_string (P:=P) w t u ty e i (.int .u8 0) ht hu hi hz ⟨g,0,none⟩ n cap xs (by rw [hsize]; simpa using hxl) holds s (by omega) (by omega) (by rw [hby]; exact growslice_fits (by omega) (by omega))
   rw [hr] at hr2;simp only [Result.ok.injEq] at hr2;rw [hr2.1];refine .inr (fun k hk=>?_);simp only [Value.ownBlock,Option.some.injEq] at hk;omega
theorem wpList_append_bld {P:Program} (w:World) {ops:Array Oper} {rest:List Oper} {o:Oper} {a:Act} {Q:Exit→Act→World→Prop} (hgd:o.guard=none) (sl x:Operand) (t u:TypeId)
 (ho:o.op=.call { callee:=.builtin .append,args:=#[sl,x],argTypes:=#[t,u] })
 (base:Nat) (e:TypeId) (i:TypeInfo) (ht:P.underlying t=some (.slice e)) (hu:P.underlying u=some .string) (hi:P.info? e=some i) (hz:i.zero=some (.int .u8 0)) (hsize:i.size=1) (hby:i.bytes=1)
 (v:Value) (n:Nat) (xs:List Value) (hs:a.eval sl=v) (hown:w.ownsRow base e 1 v n xs) (s:ByteArray) (hx:a.eval x=.string s) (h63:n+s.size≤maxLen) (hbytes:n+s.size≤140737488355328) (hbase:base≤w.heap.size)
 (h:∀ v' w',w'.ownsRow base e 1 v' (n+s.size) (xs ++ strCells s)→w.grownBy w' v.ownBlock→NewFrom w.heap.size v v'→wpList P ops Q rest (a.put o.dst v') w'):wpList P ops Q (o::rest) a w:=by
 refine wpList_plain hgd fun K hK=>?_;obtain ⟨v',w',hr,h2,h3,h4⟩:=app_str (P:=P) w base t u o.type e i ht hu hi hz hsize hby v n xs hown s h63 hbytes hbase;unfold Oper.wp execOp;simp only [ho,resolve,invoke,builtin,Sem.run_bind,Sem.run_pure,Result.andThen_ok,List.map_toArray,List.map_cons,List.map_nil,hs,hx,hr];exact hK _ _ (h v' w' h2 h3 h4)
structure Bld (B:Nat) (w:World) (b:Nat) (v:Value) (bs:List UInt8):Prop where
 new:B≤b
 box:w.heap[b]?=some (.cells #[.pointer none,v] 166 (0,0))∨w.heap[b]?=some (.cells #[.pointer (some ⟨b,0,none⟩),v] 166 (0,0))
 own:w.ownsRow B 5 1 v bs.length (Lib.byteCells bs)
theorem Bld.is {B:Nat} {w:World} {b:Nat} {v:Value} {bs:List UInt8} (h:Bld B w b v bs):IsBuilder 166 5 B b (Lib.byteCells bs) w:=by
 rcases h.box with hb | hb
 ·exact .inl ⟨h.new,v,hb,by rw [Lib.byteCells_length]; exact h.own,ownBlock_ne h.own hb (by decide)⟩
 ·exact .inr ⟨h.new,v,hb,by rw [Lib.byteCells_length]; exact h.own,ownBlock_ne h.own hb (by decide)⟩
theorem Bld.lt {B:Nat} {w:World} {b:Nat} {v:Value} {bs:List UInt8} (h:Bld B w b v bs):b<w.heap.size:=by
 rcases h.is with h1 | h1 <;> exact h1.lt
def ownL (v:Value):List Nat:=match v.ownBlock with
 |some g=> [g]
 |none=> []
theorem mem_ownL {v:Value} {g:Nat}:g∈ownL v↔v.ownBlock=some g:=by
 unfold ownL
 cases v.ownBlock with
 |none=>simp
 |some x=>simp [eq_comm]
theorem Keep.grownO {w w':World} {v:Value} (h:w.grownBy w' v.ownBlock):Keep (ownL v) w w':=by
 obtain ⟨h1,h2,h3,h4,h5⟩:=h;exact ⟨h1,h2,h3,h4,fun i hi hn=>h5 i hi (fun e=>hn (mem_ownL.2 (Eq.symm e)))⟩
theorem Bld.keep {B:Nat} {l:List Nat} {w w':World} {b:Nat} {v:Value} {bs:List UInt8} (h:Bld B w b v bs) (hk:Keep l w w') (hb:b∉l) (hv:∀ g,v.ownBlock=some g→g∉l):Bld B w' b v bs:=by
 have hbk:=hk.block b h.lt hb;refine ⟨h.new,by rw [hbk]; exact h.box,?_⟩
 rcases h.own with ⟨h1,h2⟩
 refine ⟨h1,?_⟩;rcases h2 with h2 | ⟨g,cap,cur,q1,q2,q3,q4⟩
 ·exact .inl h2
 ·have hg:v.ownBlock=some g:=by rw [q1]; rfl
  have hlt:=(h.own.lt g hg).2;exact .inr ⟨g,cap,cur,q1,q2,(hk.block g hlt (hv g hg)).trans q3,q4⟩
theorem infoU0:(Tryz.prog.info? 5).map (fun i=>(i.zero,i.size,i.bytes))=some (some (.int .u8 0),1,1):=by kernel_rfl
theorem infoU:∃ i,Tryz.prog.info? 5=some i∧i.zero=some (.int .u8 0)∧i.size=1∧i.bytes=1:=by
 have h:=infoU0
 cases hi:Tryz.prog.info? 5 with
 |none=>rw [hi] at h; cases h
 |some i=>
  rw [hi] at h;simp only [Option.map_some,Option.some.injEq,Prod.mk.injEq] at h;exact ⟨i,rfl,h.1,h.2.1,h.2.2⟩
theorem bcheck_is {B:Nat} {w:World} {b:Nat} {v:Value} {bs:List UInt8} (h:Bld B w b v bs):Calls Tryz.prog 151 #[.pointer (some ⟨b,0,none⟩)] w fun e w'=>e=.returned (.tuple #[])∧w'.heap[b]?=some (.cells #[.pointer (some ⟨b,0,none⟩),v] 166 (0,0))∧Bld B w' b v bs∧Keep [b] w w':=by
 have hlt:=h.lt;rcases h.box with hb | hb
 ·refine (Any.Builder_copyCheck_fresh { Tryz.lays156 with } Tryz.Builder_Extra_156.toX72 b w (by rw [cell_of_heap hb]; rfl) (by simp [World.shape?,hb]; rfl) (frozen_of_heap hb 0)).mono ?_
  rintro e w' ⟨rfl,rfl⟩;have hk:Keep [b] w (w.setCell ⟨b,0,none⟩ (.pointer (some ⟨b,0,none⟩))):=(Keep.refl _ _).setCell (p:=⟨b,0,none⟩) (.inl (by simp)) _
  have hbb:(w.setCell ⟨b,0,none⟩ (.pointer (some ⟨b,0,none⟩))).heap[b]?=some (.cells #[.pointer (some ⟨b,0,none⟩),v] 166 (0,0)):=by simp [World.setCell,Array.getElem?_modify,hb]
  refine ⟨rfl,hbb,⟨h.new,.inr hbb,?_⟩,hk⟩;exact h.own.kept (row:=some b) ⟨rfl,rfl,rfl,by simp [World.setCell],fun k _ hk=>Below.heap_setCell _ _ _ _ (fun e=>hk (by simp [e]))⟩ (Or.inr (ownBlock_ne h.own hb (by decide)))
 ·refine (Any.Builder_copyCheck_used { Tryz.lays156 with } Tryz.Builder_Extra_156.toX72 b w (by rw [cell_of_heap hb]; rfl)).mono ?_
  rintro e w' ⟨rfl,rfl⟩;exact ⟨rfl,hb,h,Keep.refl _ _⟩
theorem bwrite_is {B:Nat} {w:World} {b:Nat} {v:Value} {bs:List UInt8} (s:ByteArray) (h:Bld B w b v bs) (hl:bs.length+s.size≤140737488355328) (hB:B≤w.heap.size):Calls Tryz.prog 99 #[.pointer (some ⟨b,0,none⟩),.string s] w fun e w'=>e=.returned (.tuple #[.int .i64 s.size,.nilIface])∧∃ v',Bld B w' b v' (bs ++ s.data.toList)∧Keep (b::ownL v) w w'∧NewFrom w.heap.size v v':=by
 obtain ⟨i0,hi,hz0,hz1,hz2⟩:=infoU;go_enter Tryz.func99,Tryz.ntmps99
 go_wp2_with fail
 go_at_call 151
 refine (bcheck_is h).mono ?_;rintro e1 w1 ⟨rfl,hb1,h1,hk1⟩;have c0:w1.cell? ⟨b,0,none⟩=some (.pointer (some ⟨b,0,none⟩)):=by rw [cell_of_heap hb1]; rfl
 have c1:w1.cell? ⟨b,1,none⟩=some v:=by rw [cell_of_heap hb1]; rfl
 have hB1:B≤w1.heap.size:=Nat.le_trans hB hk1.size;have hne:=ownBlock_ne h1.own hb1 (by decide:(166:Nat)≠5)
 have hml:bs.length+s.size≤maxLen:=by unfold maxLen; omega
 go_wp2_with (at_builtin; refine wpList_append_bld _ rfl _ _ 164 9 rfl B 5 i0 Tryz.underlying164 Tryz.underlying9 hi hz0 hz1 hz2 _ _ _ rfl h1.own s rfl hml hl hB1 ?_)
 intro v' w2 hown' hgrow hnew
 have hb2:w2.heap[b]?=some (.cells #[.pointer (some ⟨b,0,none⟩),v] 166 (0,0)):=by
  rw [hgrow.block b h1.lt (fun e=>hne e.symm)];exact hb1
 have d0:w2.cell? ⟨b,0,none⟩=some (.pointer (some ⟨b,0,none⟩)):=by rw [cell_of_heap hb2]; rfl
 have d1:w2.cell? ⟨b,1,none⟩=some v:=by rw [cell_of_heap hb2]; rfl
 have f1:w2.frozen? ⟨b,1,none⟩=false:=frozen_of_heap hb2 1
 obtain ⟨ao,n',cap,rfl⟩:∃ ao n' cap,v'=.slice ao n' cap:=by
  rcases hown'.2 with ⟨hv,_⟩ | ⟨g,cap,cur,hv,_⟩
  ·exact ⟨_,_,_,hv⟩
  ·exact ⟨_,_,_,hv⟩
 have hne2:=ownBlock_ne hown' hb2 (by decide:(166:Nat)≠5)
 have hk2:Keep (b::ownL v) w w2:=(hk1.mono (by simp)).trans ((Keep.grownO hgrow).mono (fun x hx=>List.mem_cons_of_mem _ hx))
 go_wp2_with fail
 go_ret2;refine ⟨rfl,.slice ao n' cap,⟨h.new,.inr ?_,?_⟩,hk2.setCell (p:=⟨b,1,none⟩) (.inl (by simp)) _,?_⟩
 ·simp [World.setCell,Array.getElem?_modify,hb2]
 ·have h5:=hown'.kept (w':=w2.setCell ⟨b,1,none⟩ (.slice ao n' cap)) (row:=some b) ⟨rfl,rfl,rfl,by simp [World.setCell],fun k _ hk=>Below.heap_setCell _ _ _ _ (fun e=>hk (by simp [e]))⟩ (Or.inr hne2)
  rw [Lib.byteCells_append,List.length_append];simpa [strCells_eq] using h5
 ·rcases hnew with h5 | h5
  ·exact .inl h5
  ·exact .inr (fun g hg=>Nat.le_trans hk1.size (h5 g hg))
end Go.Proofs.YtlailakofhenkabGreatDoor
namespace Go.Proofs.YtlailakofhenkabGreatDoor
open Go Go.RowKit Go.Shelf Tok Sc Ev
attribute [local go_sem] Oper.semAt_some
theorem lines_is (s:ByteArray) (w:World):Calls Tryz.prog 98 #[.string s] w fun e w'=>e=.returned (.func (.func 148) #[] #[.pointer (some ⟨w.heap.size,0,none⟩)])∧w'=w.alloc (.cells #[.string s] 9):=by
 have hmf:∀ (fn:Fn) (first cap:Array Value) (w:World),(Instr.makeFunc fn first cap).run Tryz.prog w=.ok (.func fn first cap) w:=fun _ _ _ _=>rfl
 go_enter Tryz.func98,Tryz.ntmps98
 go_wp2_with fail
 go_ret;exact ⟨rfl,rfl⟩
theorem trim_is (s:List UInt8):Lib.trimSuffix s [10]=trimF s:=by
 unfold Lib.trimSuffix trimF
 have h:Lib.hasSuffix s [10]=true↔s.getLast?=some 10:=by
  unfold Lib.hasSuffix;rw [List.isSuffixOf_iff_suffix];constructor
  ·rintro ⟨t,rfl⟩
   simp
  ·intro h
   obtain ⟨t,rfl⟩:=List.getLast?_eq_some_iff.1 h;exact ⟨t,rfl⟩
 by_cases hs:s.getLast?=some 10
 ·rw [if_pos (h.2 hs),if_pos hs,List.dropLast_eq_take]
  rfl
 ·rw [if_neg (fun x=>hs (h.1 x)),if_neg hs]
theorem trim_le (s:List UInt8):(trimF s).length≤s.length:=by
 unfold trimF;split
 ·simp
 ·exact Nat.le_refl _
abbrev Ln:={ x:List UInt8 // x.length≤5000 }
def lnM:Value→Value→Nat
 |.string x,.bool b=>x.size+(if b then 1 else 0)
 |_,_=>0
def KeepLen (W W':World):Prop:=LenOk W→LenOk W'
theorem lines_stops (n g:Nat) (s:List UInt8) (w:World) (hn:1≤n) (hc:w.cell? ⟨g,0,none⟩=some (.string (Ev.bs s))) (hs:s.length≤5000) (hL:LenOk w) :
 SeqStopsK Fence.wide n Tryz.prog 148 #[.pointer (some ⟨g,0,none⟩)] (fun x:Ln=>#[.string (Ev.bs x.1)]) KeepLen (fun xs=>xs.map (·.1)=linesL s) (fun _=>True) (linesL s).length w:=by
 intro l J Jx W hW hJ hJx hY h0;have hc1:W.cell? ⟨g,0,none⟩=some (.string (Ev.bs s)):=(hW.cell (p:=⟨g,0,none⟩) (World.block_lt_of_cell? _ _ hc)).trans hc;have HL:Hid (LenOk W):=hL.below hW;have HT:=Tryz.strings_TrimSuffix (Ev.bs s) ⟨#[10]⟩ W (by simp [Ev.bs,ByteArray.size]; omega)
 have hJd:∀ pre W d,J pre W→J pre (W.drewN d):=fun pre W d h=>hJ pre W _ none h ⟨rfl,rfl,rfl,Nat.le_refl _,fun _ _ _=>rfl⟩ (by simp)
 rw [show (⟨(Lib.trimSuffix (Ev.bs s).data.toList (⟨#[10]⟩:ByteArray).data.toList).toArray⟩:ByteArray)=Ev.bs (trimF s) from by rw [show (Ev.bs s).data.toList=s from by simp [Ev.bs],show (⟨#[10]⟩:ByteArray).data.toList= [10] from rfl,trim_is]; rfl] at HT
 clear hc hW hL;refine callsIn_of_wp Tryz.func148 rfl trivial ?_ rfl;simp only [Tryz.ntmps148,List.size_toArray,List.length_cons,List.length_nil,Nat.reduceAdd,Nat.reduceSub,Array.replicate_succ,Array.replicate_zero,List.push_toArray,List.append_toArray,List.nil_append,List.cons_append];gi_wp2
 refine ⟨trivial,(callsIn_wide.2 HT).mono ?_⟩;rintro e w' ⟨rfl,rfl⟩;have HS:Hid (s.length≤5000):=hs;clear HT hs;gi_wp2
 gi_loopw [3,4] (fun p q wr=>∃ (pre:List Ln) (rest:List UInt8) (b:Bool),p=.string (Ev.bs rest)∧q=.bool b∧J pre wr∧Hid (LenOk wr)∧Hid (rest.length≤5000)∧Hid (linesL s=if b=true then pre.map (·.1) ++ parts 10 rest else pre.map (·.1)))
  (fun p q wr=>lnM p q)
 case atStart=>exact ⟨[],trimF s,true,rfl,rfl,h0,HL,Nat.le_trans (trim_le s) HS.out,rfl⟩
 case round=>
  obtain ⟨pre,rest,b,rfl,rfl,hJs,HLR,HLE,HX⟩:=hrel
  cases b with
  |false=>
   have HX2:Hid (linesL s=pre.map (·.1)):=HX;clear HX;gi_wp2
   go_end0
   exact ⟨⟨_,rfl⟩,.inl ⟨pre,HX2.out.symm,hJs⟩⟩
  |true=>
   have HX2:Hid (linesL s=pre.map (·.1) ++ parts 10 rest):=HX;clear HX;by_cases hm:(10:UInt8)∈rest
   ·obtain ⟨a,b,hab,ha⟩:∃ a b,rest=a ++ 10::b∧(10:UInt8)∉a:=List.eq_append_cons_of_mem hm
    have HC:Hid (Calls Tryz.prog 150 #[.string (Ev.bs rest),.string ⟨#[10]⟩] wr fun r w'=>r=.returned (.tuple #[.string (Ev.bs a),.string (Ev.bs b),.bool true])∧∃ d,w'=wr.drewN d):=by
     obtain ⟨m,hm⟩:=HLR.out
     have:=Tryz.strings_Cut (Ev.bs rest) ⟨#[10]⟩ m wr (by have:=HLE.out; simp [Ev.bs,ByteArray.size]; omega) hm
     rw [show (Ev.bs rest).data.toList=a ++ 10::b from by simp [Ev.bs,hab],show (⟨#[10]⟩:ByteArray).data.toList= [10] from rfl,cut_at b ha] at this
     exact this
    have hal:a.length≤5000:=by have:=HLE.out; rw [hab] at this; simp at this; omega
    have HX3:Hid (linesL s=(pre ++ [(⟨a,hal⟩:Ln)]).map (·.1) ++ parts 10 b):=(show linesL s=_ by rw [HX2.out,hab,parts_at b ha]; simp)
    have HLB:Hid (b.length≤5000):=(show _≤_ by have:=HLE.out; rw [hab] at this; simp at this; omega)
    have HSZ:Hid (b.length<rest.length):=(show _<_ by rw [hab]; simp; omega)
    have hpl:pre.length<(linesL s).length:=by rw [HX3.out]; simp
    clear hab ha hm HX2 HLE;gi_wp2
    refine ⟨trivial,(callsIn_wide.2 HC.out).mono ?_⟩;rintro e w' ⟨rfl,d,rfl⟩;obtain ⟨fn,tmps,assign,body,hy,hR⟩:=hY pre ⟨a,hal⟩ (wr.drewN d) (hJd _ _ _ hJs) hpl;have HLR2:Hid (LenOk (wr.drewN d)):=HLR;clear HC hpl hJs HLR;gi_wp2
    refine hR.mono ?_;rintro e W3 (⟨rfl,hJ3,hk3⟩ | ⟨rfl,hJx3⟩)
    ·have HLR3:Hid (LenOk W3):=hk3 HLR2.out
     clear hk3 HLR2;gi_wp2
     go_roundw
     case rel=>exact ⟨pre ++ [(⟨a,hal⟩:Ln)],b,true,rfl,rfl,hJ3,HLR3,HLB,HX3⟩
     case measure=>
      have:=HSZ.out;simp [lnM,Ev.bs,ByteArray.size]
      omega
    ·gi_wp2
     refine bodyPost_ret (results_none rfl _ _ _) rfl ?_;exact ⟨⟨_,rfl⟩,.inr ⟨pre ++ [⟨a,hal⟩],trivial,hJx3⟩⟩
   ·have HC:Hid (Calls Tryz.prog 150 #[.string (Ev.bs rest),.string ⟨#[10]⟩] wr fun r w'=>r=.returned (.tuple #[.string (Ev.bs rest),.string (Ev.bs []),.bool false])∧∃ d,w'=wr.drewN d):=by
     obtain ⟨m,hm'⟩:=HLR.out
     have:=Tryz.strings_Cut (Ev.bs rest) ⟨#[10]⟩ m wr (by have:=HLE.out; simp [Ev.bs,ByteArray.size]; omega) hm'
     rw [show (Ev.bs rest).data.toList=rest from by simp [Ev.bs],show (⟨#[10]⟩:ByteArray).data.toList= [10] from rfl,cut_no hm] at this
     exact this
    have hal:rest.length≤5000:=HLE.out;have HX3:Hid (linesL s=(pre ++ [(⟨rest,hal⟩:Ln)]).map (·.1)):=(show linesL s=_ by rw [HX2.out,parts_no hm]; simp)
    have hpl:pre.length<(linesL s).length:=by rw [HX3.out]; simp
    clear hm HX2 HLE;gi_wp2
    refine ⟨trivial,(callsIn_wide.2 HC.out).mono ?_⟩;rintro e w' ⟨rfl,d,rfl⟩;obtain ⟨fn,tmps,assign,body,hy,hR⟩:=hY pre ⟨rest,hal⟩ (wr.drewN d) (hJd _ _ _ hJs) hpl;have HLR2:Hid (LenOk (wr.drewN d)):=HLR;clear HC hpl hJs HLR;gi_wp2
    refine hR.mono ?_;rintro e W3 (⟨rfl,hJ3,hk3⟩ | ⟨rfl,hJx3⟩)
    ·have HLR3:Hid (LenOk W3):=hk3 HLR2.out
     clear hk3 HLR2;gi_wp2
     go_roundw
     case rel=>exact ⟨pre ++ [(⟨rest,hal⟩:Ln)],[],false,rfl,rfl,hJ3,HLR3,Nat.zero_le _,HX3⟩
     case measure=>simp [lnM,Ev.bs,ByteArray.size]
    ·gi_wp2
     refine bodyPost_ret (results_none rfl _ _ _) rfl ?_;exact ⟨⟨_,rfl⟩,.inr ⟨pre ++ [⟨rest,hal⟩],trivial,hJx3⟩⟩
end Go.Proofs.YtlailakofhenkabGreatDoor
