import Derived.Test.YtlailakofhenkabGreatDoorB33
import Derived.RangeFuncNested
set_option maxRecDepth 100000
set_option maxHeartbeats 4000000
namespace Go.Proofs.YtlailakofhenkabGreatDoor
open Go Go.RowKit Tok Sc Ev
variable {B b n:Nat}{p:Pub}{r:Rul}{sc:ByteArray}
theorem xW{x y:ByteArray}(h:Ev.dy p.st)(hl:n=0->Lst sc.data.toList):(cX (txtB r) p (am x.data.toList && am y.data.toList) x y sc n).2.1.size<=5000:=by
 cases hb:(am x.data.toList && am y.data.toList) with
 |true=>
  simp only[Bool.and_eq_true] at hb;exact sO h hb.1 hb.2 hl true
 |false=>
  unfold cX;rw[if_pos rfl];show noT.size<=5000
  decide
variable {t:T}
theorem uJ{rq:ByteArray}{m:Nat}{b:Bool}(h:Ev.dy p.st)(hl:m=0->Lst sc.data.toList):(rotateM (txtB r) r p (am rq.data.toList) rq t n sc m b).2.1.size<=5000:=by
 cases hb:am rq.data.toList with
 |true=>exact qa h hb hl
 |false=>
  unfold rotateM;rw[if_pos rfl];show noT.size<=5000
  decide
theorem AQ(k:Int)(l:List UInt8):(mR k l).length=16:=by
 exact Hex.bR _ _
theorem AR{s:List UInt8}{l:List Word}(h:Sc.Out s l n):(wordL (ae l)).length<=50:=by
 unfold wordL;split
 ·simp
 ·rcases h with ⟨rfl,h1⟩ | ⟨rfl,rfl,-⟩ | ⟨rfl,rfl,-⟩
  ·have:=lw ⟨l,eR (s:=s) (.inl ⟨rfl,h1⟩),rfl⟩
   omega
  ·rename_i hq; exact absurd dx hq
  ·rename_i hq; exact absurd dx hq
theorem toL(a:ByteArray):a.data.toList.length=a.size:=Fg
theorem sP(hg:Ev.dy p.st)(hz:(showM r p t n).2=0):bP (showM r p t n).1:=by
 unfold showM at hz ⊢;split at hz
 ·rename_i h5; exact absurd hz h5
 ·rename_i h5
  rw[if_neg h5];split at hz
  ·cases hz
  ·rename_i h6
   rw[if_neg h6];exact dw hg (du (look_ok (by simpa using h5)).1).2.2.1
theorem oS(hz:¬ (showM r p t n).2=0):(showM r p t n).1=zeroF:=by
 unfold showM at hz ⊢;split
 ·rfl
 ·rename_i h5
  rw[if_neg h5] at hz;split
  ·rfl
  ·rename_i h6
   rw[if_neg h6] at hz;exact absurd rfl hz
variable {d:Dk}
theorem eN{x:List UInt8}(h1:x.length<=100000)(h2:n<=100):((d,x,n):Dk × List UInt8 × Nat).2.1.length<=100000∧((d,x,n):Dk × List UInt8 × Nat).2.2<=100:=⟨h1,h2⟩
theorem sQ{q:Pub × ByteArray × Nat}(h:q.2.1.size<=5000):(sj q r).2.1.length<=100000:=by
 show q.2.1.data.toList.length<=_
 rw[toL];omega
theorem sR{c:Word}{ws:List Word}{ns:List Int}{o:Dk × List UInt8 × Nat}(h:aW d c ws ns o)(hg:Ev.dy d.p.st)(hr:fA d.r)(hg2:Ev.dy o.1.p.st)(hn:d.p.n<=100000)(hlg:d.p.lg<=16):o.2.1.length<=100000∧o.2.2<=100:=by
 unfold aW at h;by_cases e0:c=dg
 ·rw[if_pos e0] at h
  obtain⟨k,i,l,a,-,rfl⟩:=h;by_cases hb:dB ⟨k,i,l,a⟩=true
  ·rw[if_pos hb]; exact eN (by decide) (by decide)
  ·rw[if_neg hb]; exact eN (by decide) (by decide)
 rw[if_neg e0] at h;by_cases e1:c=bM
 ·rw[if_pos e1] at h
  subst h; exact eN (by decide) (by decide)
 rw[if_neg e1] at h;by_cases e2:c=bj
 ·rw[if_pos e2] at h
  obtain⟨x,y,z,l,n,-,ho,rfl⟩:=h;have f:=xW (r:=d.r) (x:=Ev.bs x) (y:=Ev.bs y) (n:=n) hg (fun h=>AP ho h);rw[bsL,bsL,jt] at f;exact⟨sQ f,mU _ _ _ _ _ _ (eM ho)⟩
 rw[if_neg e2] at h;by_cases e3:c=aR
 ·rw[if_pos e3] at h
  obtain⟨x,y,z,t,n,l,m,b,-,-,ho,-,-,rfl⟩:=h;have f:=uJ (r:=d.r) (rq:=Ev.bs (aG y)) (t:=t) (n:=n) (m:=m) (b:=b) hg (fun h=>AP ho h);rw[bsL,jt] at f;exact⟨sQ f,kV _ _ _ _ _ _ _ _ _ (eM ho)⟩
 rw[if_neg e3] at h;by_cases e4:c=cA
 ·rw[if_pos e4] at h
  obtain⟨x,t,n,-,-,rfl⟩:=h;have f:=uI (t:=t) (n:=n) hg hr;rw[jt] at f;exact⟨by show List.length _<=_; rw[toL]; omega,oH _ _ _ _ _⟩
 rw[if_neg e4] at h;by_cases e5:c=cI
 ·rw[if_pos e5] at h
  obtain⟨x,t,n,-,-,rfl⟩:=h;refine⟨?_,oI _ _ _ _⟩;show (famL (showM d.r d.p t n).1).length<=100000
  by_cases hz:(showM d.r d.p t n).2=0
  ·have:=jN (sP hg hz)
   omega
  ·rw[oS hz]
   decide +kernel
 rw[if_neg e5] at h;by_cases e6:c=cu
 ·rw[if_pos e6] at h
  obtain⟨i,-,rfl⟩:=h;exact⟨(by decide:cu.length<=100000),oJ _ _⟩
 rw[if_neg e6] at h;by_cases e7:c=cC
 ·rw[if_pos e7] at h
  subst h
  have:=kq d.p;exact⟨(by decide:cC.length<=100000),by simp only; omega⟩
 rw[if_neg e7] at h;by_cases e8:c=dS
 ·rw[if_pos e8] at h
  obtain⟨i,-,rfl⟩:=h;exact⟨(by decide:dS.length<=100000),(by decide:0<=100)⟩
 rw[if_neg e8] at h;by_cases e9:c=dd
 ·rw[if_pos e9] at h
  obtain⟨i,-,rfl⟩:=h
  have:=ar hg2.clock;exact⟨by simp only at this ⊢; omega,oK _ _⟩
 rw[if_neg e9] at h;by_cases e10:c=bY
 ·rw[if_pos e10] at h
  subst h;have f:=oL (r:=d.r) hg
  have:=Lib.itoa_length_le _ f.1 f.2;exact⟨by simp only; omega,mV _ _⟩
 rw[if_neg e10] at h;by_cases e11:c=bC
 ·rw[if_pos e11] at h
  subst h
  have:=ar (n:=(d.p.n:Int)) ⟨by omega,by omega⟩
  exact⟨by simp only; omega,by simp⟩
 rw[if_neg e11] at h;by_cases e12:c=fJ
 ·rw[if_pos e12] at h
  subst h
  have:=ar (n:=(d.p.lg:Int)) ⟨by omega,by omega⟩
  refine⟨?_,by simp⟩
  simp only[List.length_append,List.length_cons];have h5:(dN d.p.dn).length<=5:=by unfold dN; split <;> simp
  omega
 rw[if_neg e12] at h;by_cases e13:c=dF
 ·rw[if_pos e13] at h
  subst h;exact⟨pZ hg,by simp⟩
 rw[if_neg e13] at h;by_cases e14:c=cY
 ·rw[if_pos e14] at h
  obtain⟨x,l,n,-,ho,rfl⟩:=h;have f:=AR ho;have h2:=eM ho;exact⟨by simp only; omega,by simp only; omega⟩
 rw[if_neg e14] at h;by_cases e15:c=gT
 ·rw[if_pos e15] at h
  obtain⟨i,x,y,-,-,rfl⟩:=h;exact⟨by simp only; rw[AQ]; omega,by simp⟩
 rw[if_neg e15] at h;by_cases e16:c=dh
 ·rw[if_pos e16] at h
  obtain⟨x,a,b,e,ys,-,-,rfl⟩:=h;split
  ·exact eN (by decide) (by decide)
  split
  ·rename_i hm
   have f:=lI d.r _ (fO.1 hm);rw[jt] at f;exact⟨by simp only; rw[toL]; omega,by simp⟩
  ·exact eN (by decide) (by decide)
 rw[if_neg e16] at h;subst h;exact eN (by decide) (by decide)
open Go.Lib Tryz
def jR(k:Nat)(v v':Value):Prop:=v'.ownBlock=v.ownBlock∨∀g,v'.ownBlock=some g->k<=g
theorem Cu{P:Program}(w:World)(base:Nat)(t u ty e:TypeId)(i:TypeInfo)(ht:P.underlying t=some (.slice e))(hu:P.underlying u=some .string)(hi:P.info? e=some i)(hz:i.zero=some (.int .u8 0))(hsize:i.size=1)(hby:i.bytes=1)(v:Value)(n:Nat)(xs:List Value)(hown:w.ownsRow base e 1 v n xs)(s:ByteArray)(h63:n+s.size<=maxLen)(hbytes:n+s.size<=140737488355328)(hbase:base<=w.heap.size):
 ∃v' w',(Builtin.append_ #[t,u] ty #[v,.string s]).run P w=.ok v' w'∧w'.ownsRow base e 1 v' (n+s.size) (xs ++ strCells s)∧w.grownBy w' v.ownBlock∧jR w.heap.size v v':=by
 obtain⟨v',w',hr,h2,h3,-⟩:=run_append_own_string (P:=P) w base t u ty e i ht hu hi hz hsize hby v n xs hown s h63 hbytes hbase;refine⟨v',w',hr,h2,h3,?_⟩;rcases hown.2 with ⟨rfl,rfl⟩ | ⟨g,cap,cur,rfl,hbg,hg,hnc,hcm,hcs,htake⟩
 ·have c:xs= []:=List.eq_nil_of_length_eq_zero (by simpa using hown.1)
  subst c;obtain⟨v2,w2,b,k2,-,-⟩:=run_append_own_string (P:=P) w w.heap.size t u ty e i ht hu hi hz hsize hby _ 0 [] (World.ownsRow_nil w w.heap.size e 1) s h63 hbytes (Fa _);rw[hr] at b;simp only[Result.ok.injEq] at b;obtain⟨rfl,rfl⟩:=b;exact .inr (fun g hg=>(k2.lt g hg).1)
 ·by_cases hroom:n+s.size<=cap
  ·have o:cur.size=cap:=by simpa using hcs
   have b:=run_append_room_string (P:=P) w t u ty e i ht hu hi hsize g n cap cur hg s hroom (by omega)
   rw[hr] at b;simp only[Result.ok.injEq] at b;rw[b.1];exact .inl rfl
  ·have c:xs.length=n:=by simpa using hown.1
   have f:∀j u,xs[j]?=some u->w.cell? (((a_ g 0):Addr).add j)=some u:=hown.cells (g:=g) rfl;have m:n+s.size<=9223372036854775807:=by simp only[maxLen] at h63; omega
   have b:=run_append_grow_string (P:=P) w t u ty e i (.int .u8 0) ht hu hi hz (a_ g 0) n cap xs (by rw[hsize]; simpa using c) f s (by omega) (by omega) (by rw[hby]; exact growslice_fits (by omega) (by omega))
   rw[hr] at b;simp only[Result.ok.injEq] at b;rw[b.1];refine .inr (fun k hk=>?_);simp only[Value.ownBlock,Option.some.injEq] at hk;omega
theorem jS{P:Program}(w:World){ops:Array Oper}{rest:List Oper}{o:Oper}{a:Act}{Q:Exit->Act->World->Prop}(hgd:o.guard=none)(sl x:Operand)(t u:TypeId)(ho:o.op=.call { callee:=.builtin .append,args:=#[sl,x],argTypes:=#[t,u] })(base:Nat)(e:TypeId)(i:TypeInfo)(ht:P.underlying t=some (.slice e))(hu:P.underlying u=some .string)(hi:P.info? e=some i)(hz:i.zero=some (.int .u8 0))(hsize:i.size=1)(hby:i.bytes=1)(v:Value)(n:Nat)(xs:List Value)(hs:a.eval sl=v)(hown:w.ownsRow base e 1 v n xs)(s:ByteArray)(hx:a.eval x=.string s)(h63:n+s.size<=maxLen)(hbytes:n+s.size<=140737488355328)(hbase:base<=w.heap.size)(h:∀v' w',w'.ownsRow base e 1 v' (n+s.size) (xs ++ strCells s)->w.grownBy w' v.ownBlock->jR w.heap.size v v'->wpList P ops Q rest (a.put o.dst v') w'):wpList P ops Q (o::rest) a w:=by
 refine wpList_plain hgd fun K hK=>?_;obtain⟨v',w',hr,h2,h3,h4⟩:=Cu (P:=P) w base t u o.type e i ht hu hi hz hsize hby v n xs hown s h63 hbytes hbase;unfold Oper.wp execOp;simp only[ho,resolve,invoke,builtin,Sem.run_bind,Sem.run_pure,Result.andThen_ok,List.map_toArray,List.map_cons,List.map_nil,hs,hx,hr];exact hK _ _ (h v' w' h2 h3 h4)
structure Bld (B:Nat) (w:World) (b:Nat) (v:Value) (bs:List UInt8):Prop where
 new:B<=b
 box:w.heap[b]?=some (.cells #[.pointer none,v] 166 (0,0))∨w.heap[b]?=some (.cells #[.pointer (some ⟨b,0,none⟩),v] 166 (0,0))
 own:w.ownsRow B 5 1 v bs.length (Lib.byteCells bs)
variable {bs:List UInt8}{v:Value}{w w':World}
theorem Bld.is(h:Bld B w b v bs):IsBuilder 166 5 B b (Lib.byteCells bs) w:=by
 rcases h.box with hb | hb
 ·exact .inl ⟨h.new,v,hb,by rw[Lib.byteCells_length]; exact h.own,ownBlock_ne h.own hb (by decide)⟩
 ·exact .inr ⟨h.new,v,hb,by rw[Lib.byteCells_length]; exact h.own,ownBlock_ne h.own hb (by decide)⟩
theorem Bld.lt{B:Nat}{w:World}{b:Nat}{v:Value}{bs:List UInt8}(h:Bld B w b v bs):b<w.heap.size:=by
 rcases h.is with h1 | h1 <;> exact h1.lt
def ju(v:Value):List Nat:=match v.ownBlock with
 |some g=> [g]
 |none=> []
theorem dP{g:Nat}:g∈ju v↔v.ownBlock=some g:=by
 unfold ju
 cases v.ownBlock with
 |none=>simp
 |some x=>simp[eq_comm]
theorem af.grownO(h:w.grownBy w' v.ownBlock):af (ju v) w w':=by
 obtain⟨h1,h2,h3,h4,h5⟩:=h;exact⟨h1,h2,h3,h4,fun i hi hn=>h5 i hi (fun e=>hn (dP.2 (Eq.symm e)))⟩
theorem Bld.keep{l:List Nat}(h:Bld B w b v bs)(hk:af l w w')(hb:b∉l)(hv:∀g,v.ownBlock=some g->g∉l):Bld B w' b v bs:=by
 have c:=hk.block b h.lt hb;refine⟨h.new,by rw[c]; exact h.box,?_⟩
 rcases h.own with ⟨h1,h2⟩
 refine⟨h1,?_⟩;rcases h2 with h2 | ⟨g,cap,cur,q1,q2,q3,q4⟩
 ·exact .inl h2
 ·have j:v.ownBlock=some g:=by rw[q1]; rfl
  have f:=(h.own.lt g j).2;exact .inr ⟨g,cap,cur,q1,q2,(hk.block g f (hv g j)).trans q3,q4⟩
theorem Dv:(prog.info? 5).map (fun i=>(i.zero,i.size,i.bytes))=some (some (.int .u8 0),1,1):=by kernel_rfl
theorem DW:∃i,prog.info? 5=some i∧i.zero=some (.int .u8 0)∧i.size=1∧i.bytes=1:=by
 have h:=Dv
 cases hi:prog.info? 5 with
 |none=>rw[hi] at h; cases h
 |some i=>
  rw[hi] at h;simp only[Option.map_some,Option.some.injEq,Prod.mk.injEq] at h;exact⟨i,rfl,h.1,h.2.1,h.2.2⟩
theorem xX(h:Bld B w b v bs):Calls prog 151 #[p_ b 0] w fun e w'=>e=.returned (.tuple #[])∧w'.heap[b]?=some (.cells #[.pointer (some ⟨b,0,none⟩),v] 166 (0,0))∧Bld B w' b v bs∧af [b] w w':=by
 have g:=h.lt;rcases h.box with hb | hb
 ·refine (Any.Builder_copyCheck_fresh { lays156 with } Builder_Extra_156.toX72 b w (by rw[cell_of_heap hb]; rfl) (by simp[World.shape?,hb]; rfl) (frozen_of_heap hb 0)).mono ?_
  rintro e w' ⟨rfl,rfl⟩;have f:af [b] w (w.setCell (a_ b 0) (p_ b 0)):=(af.refl _ _).setCell (p:=(a_ b 0)) (.inl (by simp)) _
  have c:(w.setCell (a_ b 0) (p_ b 0)).heap[b]?=some (.cells #[p_ b 0,v] 166 (0,0)):=by simp[World.setCell,Array.getElem?_modify,hb]
  refine⟨rfl,c,⟨h.new,.inr c,?_⟩,f⟩;exact h.own.kept (row:=some b) ⟨rfl,rfl,rfl,by simp[World.setCell],fun k _ f=>Below.heap_setCell _ _ _ _ (fun e=>f (by simp[e]))⟩ (Or.inr (ownBlock_ne h.own hb (by decide)))
 ·refine (Any.Builder_copyCheck_used { lays156 with } Builder_Extra_156.toX72 b w (by rw[cell_of_heap hb]; rfl)).mono ?_
  rintro e w' ⟨rfl,rfl⟩;exact⟨rfl,hb,h,af.refl _ _⟩
theorem oT(s:ByteArray)(h:Bld B w b v bs)(hl:bs.length+s.size<=140737488355328)(hB:B<=w.heap.size):Calls prog 99 #[p_ b 0,.string s] w fun e w'=>e=.returned (.tuple #[.int .i64 s.size,.nilIface])∧∃v',Bld B w' b v' (bs ++ s.data.toList)∧af (b::ju v) w w'∧jR w.heap.size v v':=by
 obtain⟨i0,hi,hz0,hz1,hz2⟩:=DW;go_enter func99,ntmps99
 go_wp2_with fail
 go_at_call 151
 refine (xX h).mono ?_;rintro e1 w1 ⟨rfl,hb1,h1,hk1⟩;have c0:w1.cell? (a_ b 0)=some (p_ b 0):=by rw[cell_of_heap hb1]; rfl
 have c1:w1.cell? (a_ b 1)=some v:=by rw[cell_of_heap hb1]; rfl
 have m:B<=w1.heap.size:=Fe hB hk1.size;have n:=ownBlock_ne h1.own hb1 (by decide:(166:Nat)≠5)
 have o:bs.length+s.size<=maxLen:=by unfold maxLen; omega
 go_wp2_with (at_builtin; refine jS _ rfl _ _ 164 9 rfl B 5 i0 underlying164 underlying9 hi hz0 hz1 hz2 _ _ _ rfl h1.own s rfl o hl m ?_)
 intro v' w2 hown' hgrow hnew
 have c:w2.heap[b]?=some (.cells #[p_ b 0,v] 166 (0,0)):=by
  rw[hgrow.block b h1.lt (fun e=>n e.symm)];exact hb1
 have d0:w2.cell? (a_ b 0)=some (p_ b 0):=by rw[cell_of_heap c]; rfl
 have d1:w2.cell? (a_ b 1)=some v:=by rw[cell_of_heap c]; rfl
 have f1:w2.frozen? (a_ b 1)=false:=frozen_of_heap c 1
 obtain⟨ao,n',cap,rfl⟩:∃ao n' cap,v'=.slice ao n' cap:=by
  rcases hown'.2 with ⟨hv,_⟩ | ⟨g,cap,cur,hv,_⟩
  ·exact⟨_,_,_,hv⟩
  ·exact⟨_,_,_,hv⟩
 have f:=ownBlock_ne hown' c (by decide:(166:Nat)≠5)
 have q:af (b::ju v) w w2:=(hk1.mono (by simp)).trans ((af.grownO hgrow).mono (fun x hx=>List.mem_cons_of_mem _ hx))
 go_wp2_with fail
 go_ret2;refine⟨rfl,.slice ao n' cap,⟨h.new,.inr ?_,?_⟩,q.setCell (p:=(a_ b 1)) (.inl (by simp)) _,?_⟩
 ·simp[World.setCell,Array.getElem?_modify,c]
 ·have j:=hown'.kept (w':=w2.setCell (a_ b 1) (.slice ao n' cap)) (row:=some b) ⟨rfl,rfl,rfl,by simp[World.setCell],fun k _ hk=>Below.heap_setCell _ _ _ _ (fun e=>hk (by simp[e]))⟩ (Or.inr f)
  rw[Lib.byteCells_append,List.length_append];simpa[strCells_eq] using j
 ·rcases hnew with j | j
  ·exact .inl j
  ·exact .inr (fun g hg=>Fe hk1.size (j g hg))
end Go.Proofs.YtlailakofhenkabGreatDoor
namespace Go.Proofs.YtlailakofhenkabGreatDoor
open Go Go.RowKit Go.Shelf Tok Sc Ev Tryz
attribute [local go_sem] Oper.semAt_some
theorem AS(s:ByteArray)(w:World):Calls prog 98 #[.string s] w fun e w'=>e=.returned (.func (.func 148) #[] #[.pointer (some ⟨w.heap.size,0,none⟩)])∧w'=w.alloc (.cells #[.string s] 9):=by
 have b:∀(fn:Fn) (first cap:Array Value) (w:World),(Instr.makeFunc fn first cap).run prog w=.ok (.func fn first cap) w:=fun _ _ _ _=>rfl
 go_enter func98,ntmps98
 go_wp2_with fail;go_ret;exact⟨rfl,rfl⟩
theorem Cv(s:List UInt8):Lib.trimSuffix s [10]=fW s:=by
 unfold Lib.trimSuffix fW
 have h:Lib.hasSuffix s [10]=true↔s.getLast?=some 10:=by
  unfold Lib.hasSuffix;rw[List.isSuffixOf_iff_suffix];constructor
  ·rintro ⟨t,rfl⟩
   simp
  ·intro h
   obtain⟨t,rfl⟩:=List.getLast?_eq_some_iff.1 h;exact⟨t,rfl⟩
 by_cases hs:s.getLast?=some 10
 ·rw[if_pos (h.2 hs),if_pos hs,List.dropLast_eq_take]
  rfl
 ·rw[if_neg (fun x=>hs (h.1 x)),if_neg hs]
theorem qe(s:List UInt8):(fW s).length<=s.length:=by
 unfold fW;split
 ·simp
 ·exact Fa _
abbrev Ln:={ x:List UInt8 // x.length<=5000 }
def lnM:Value->Value->Nat
 |.string x,.bool b=>x.size+(if b then 1 else 0)
 |_,_=>0
def wi(W W':World):Prop:=aU W->aU W'
theorem sS(n g:Nat)(s:List UInt8)(w:World)(hn:1<=n)(hc:w.cell? ⟨g,0,none⟩=some (.string (Ev.bs s)))(hs:s.length<=5000)(hL:aU w):
 SeqStopsK Fence.wide n prog 148 #[.pointer (some ⟨g,0,none⟩)] (fun x:Ln=>#[.string (Ev.bs x.1)]) wi (fun xs=>xs.map (·.1)=ax s) (fun _=>True) (ax s).length w:=by
 intro l J Jx W hW hJ hJx hY h0;have D:W.c_ g 0=some (.string (Ev.bs s)):=(hW.cell (p:=(a_ g 0)) (Fc _ _ hc)).trans hc;have E:Hid _:=hL.below hW;have A:=strings_TrimSuffix (Ev.bs s) ⟨#[10]⟩ W (by simp[Ev.bs,ByteArray.size]; omega)
 have v:∀pre W d,J pre W->J pre (W.drewN d):=fun pre W d h=>hJ pre W _ none h ⟨rfl,rfl,rfl,Nat.le_refl _,fun _ _ _=>rfl⟩ (by simp)
 rw[show (⟨(Lib.trimSuffix (Ev.bs s).data.toList (⟨#[10]⟩:ByteArray).data.toList).toArray⟩:ByteArray)=Ev.bs (fW s) from by rw[show (Ev.bs s).data.toList=s from by simp[Ev.bs],show (⟨#[10]⟩:ByteArray).data.toList= [10] from rfl,Cv]; rfl] at A
 clear hc hW hL;refine callsIn_of_wp func148 rfl trivial ?_ rfl;simp only[ntmps148,List.size_toArray,List.length_cons,List.length_nil,Nat.reduceAdd,Nat.reduceSub,Array.replicate_succ,Array.replicate_zero,List.push_toArray,List.append_toArray,List.nil_append,List.cons_append];gi_wp2
 refine⟨trivial,(callsIn_wide.2 A).mono ?_⟩;rintro e w' ⟨rfl,rfl⟩;have F:Hid _:=hs;clear A hs;gi_wp2
 gi_loopw [3,4] (fun p q wr=>∃(pre:List Ln) (rest:List UInt8) (b:Bool),p=.string (Ev.bs rest)∧q=.bool b∧J pre wr∧Hid (aU wr)∧Hid (rest.length<=5000)∧Hid (ax s=if b=true then pre.map (·.1) ++ parts 10 rest else pre.map (·.1)))
  (fun p q wr=>lnM p q)
 case atStart=>exact⟨[],fW s,true,rfl,rfl,h0,E,Fe (qe s) F.o,rfl⟩
 case round=>
  obtain⟨pre,rest,b,rfl,rfl,hJs,HLR,HLE,HX⟩:=hrel
  cases b with
  |false=>
   have j:Hid _:=HX;clear HX;gi_wp2
   go_end0
   exact⟨⟨_,rfl⟩,.inl ⟨pre,j.o.symm,hJs⟩⟩
  |true=>
   have j:Hid _:=HX;clear HX;by_cases hm:(10:UInt8)∈rest
   ·obtain⟨a,b,hab,ha⟩:∃a b,rest=a ++ 10::b∧(10:UInt8)∉a:=List.eq_append_cons_of_mem hm
    have z:Hid (Calls prog 150 #[.string (Ev.bs rest),.string ⟨#[10]⟩] wr fun r w'=>r=.returned (.tuple #[.string (Ev.bs a),.string (Ev.bs b),.bool true])∧∃d,w'=wr.drewN d):=by
     obtain⟨m,hm⟩:=HLR.out
     have:=strings_Cut (Ev.bs rest) ⟨#[10]⟩ m wr (by have:=HLE.out; simp[Ev.bs,ByteArray.size]; omega) hm
     rw[show (Ev.bs rest).data.toList=a ++ 10::b from by simp[Ev.bs,hab],show (⟨#[10]⟩:ByteArray).data.toList= [10] from rfl,gV b ha] at this
     exact this
    have c:a.length<=5000:=by have:=HLE.out; rw[hab] at this; simp at this; omega
    have k:Hid (ax s=(pre ++ [(⟨a,c⟩:Ln)]).map (·.1) ++ parts 10 b):=(show ax s=_ by rw[j.o,hab,bD b ha]; simp)
    have B:Hid (b.length<=5000):=(show _<=_ by have:=HLE.out; rw[hab] at this; simp at this; omega)
    have C:Hid (b.length<rest.length):=(show _<_ by rw[hab]; simp; omega)
    have o:pre.length<(ax s).length:=by rw[k.o]; simp
    clear hab ha hm j HLE;gi_wp2
    refine⟨trivial,(callsIn_wide.2 z.o).mono ?_⟩;rintro e w' ⟨rfl,d,rfl⟩;obtain⟨fn,tmps,assign,body,hy,hR⟩:=hY pre ⟨a,c⟩ (wr.drewN d) (v _ _ _ hJs) o;have f:Hid _:=HLR;clear z o hJs HLR;gi_wp2
    refine hR.mono ?_;rintro e W3 (⟨rfl,hJ3,hk3⟩ | ⟨rfl,hJx3⟩)
    ·have t:Hid _:=hk3 f.o
     clear hk3 f;gi_wp2
     go_roundw
     case rel=>exact⟨pre ++ [(⟨a,c⟩:Ln)],b,true,rfl,rfl,hJ3,t,B,k⟩
     case measure=>
      have:=C.o;simp[lnM,Ev.bs,ByteArray.size]
      omega
    ·gi_wp2
     refine bodyPost_ret (results_none rfl _ _ _) rfl ?_;exact⟨⟨_,rfl⟩,.inr ⟨pre ++ [⟨a,c⟩],trivial,hJx3⟩⟩
   ·have z:Hid (Calls prog 150 #[.string (Ev.bs rest),.string ⟨#[10]⟩] wr fun r w'=>r=.returned (.tuple #[.string (Ev.bs rest),.string (Ev.bs []),.bool false])∧∃d,w'=wr.drewN d):=by
     obtain⟨m,hm'⟩:=HLR.out
     have:=strings_Cut (Ev.bs rest) ⟨#[10]⟩ m wr (by have:=HLE.out; simp[Ev.bs,ByteArray.size]; omega) hm'
     rw[show (Ev.bs rest).data.toList=rest from by simp[Ev.bs],show (⟨#[10]⟩:ByteArray).data.toList= [10] from rfl,jc hm] at this
     exact this
    have c:rest.length<=5000:=HLE.out;have k:Hid (ax s=(pre ++ [(⟨rest,c⟩:Ln)]).map (·.1)):=(show ax s=_ by rw[j.o,bO hm]; simp)
    have o:pre.length<(ax s).length:=by rw[k.o]; simp
    clear hm j HLE;gi_wp2
    refine⟨trivial,(callsIn_wide.2 z.o).mono ?_⟩;rintro e w' ⟨rfl,d,rfl⟩;obtain⟨fn,tmps,assign,body,hy,hR⟩:=hY pre ⟨rest,c⟩ (wr.drewN d) (v _ _ _ hJs) o;have f:Hid _:=HLR;clear z o hJs HLR;gi_wp2
    refine hR.mono ?_;rintro e W3 (⟨rfl,hJ3,hk3⟩ | ⟨rfl,hJx3⟩)
    ·have t:Hid _:=hk3 f.o
     clear hk3 f;gi_wp2
     go_roundw
     case rel=>exact⟨pre ++ [(⟨rest,c⟩:Ln)],[],false,rfl,rfl,hJ3,t,Fo _,k⟩
     case measure=>simp[lnM,Ev.bs,ByteArray.size]
    ·gi_wp2
     refine bodyPost_ret (results_none rfl _ _ _) rfl ?_;exact⟨⟨_,rfl⟩,.inr ⟨pre ++ [⟨rest,c⟩],trivial,hJx3⟩⟩
end Go.Proofs.YtlailakofhenkabGreatDoor
namespace Go.Proofs.YtlailakofhenkabGreatDoor
open Go Go.RowKit Tok Sc Ev
variable {B N b gd gk gm gs k n:Nat}{W w w':World}{l:List Nat}{v:Value}
theorem ag.nc{cs:List Value}(h:ag k B w v n cs)(hk:af l w w')(hl:∀x∈l,∀j,w.cell? ⟨x,j,none⟩=none):ag k B w' v n cs:=by
 rcases h with h1 | ⟨g,c,h1,h2⟩
 ·exact .inl h1
 ·refine .inr ⟨g,c,h1,?_⟩
  by_cases hg:g∈l
  ·have b:=hl g hg
   have f:∀j,¬ j<c*k:=fun j hj=>by
    have:=(h2.there j hj).1;rw[b j] at this
    cases this
   refine⟨h2.new,Fd h2.lt hk.size,h2.len,h2.le,h2.max,h2.one,fun j u hj=>?_,fun j hj=>absurd hj (f j)⟩
   have:=h2.holds j u hj;rw[b j] at this
   cases this
  ·exact h2.block hk.size (hk.block g h2.lt hg)
theorem SP.elsewhereC{p:Pub}(h:SP N w gs gd p v)(hk:af l w w')(hB:B<=w.heap.size)(ho:bE B)(hl:∀x∈l,B<=x∧x≠gd∧x≠gs)(hf:ah (gs+1) w' v p.st.fams):SP N w' gs gd p v:=by
 obtain⟨A,sv,b,es,h1,h2,h3⟩:=h.run;obtain⟨F,l',d1,d2,d3⟩:=h3.disk;have k:Below B w w':=hk.below hB (fun x hx=>(hl x hx).1);have m:gs∉l:=fun hx=>(hl gs hx).2.2 rfl;have g:gd∉l:=fun hx=>(hl gd hx).2.1 rfl;have f:∀i,w'.cell? (a_ gs i)=w.c_ gs i:=fun i=>hk.cell (p:=(a_ gs i)) h3.store.lt m;have c:=h3.store;have j:aS w' gs gd p.dn sv p.lg p.st v:=⟨(f 0).trans c.p0,(f 1).trans c.p1,(f 2).trans c.p2,(f 3).trans c.p3,(f 4).trans c.p4,(f 5).trans c.p5,(f 6).trans c.p6,fun i=>(hk.frozen (p:=(a_ gs i)) c.lt m).trans (c.pf i),hf,Fd c.lt hk.size⟩;exact⟨h.ok,A,sv,b,es,h1,h2,⟨⟨F,l',d1.keep hk g h3.gdlt,d2,d3⟩,h3.libs.belowB k ho.toA,(k.cell (p:=(a_ 0 0)) ho.1.2.2).trans h3.err,j,h3.ord,h3.olds,h3.oldE,af.refl _ _,Fd c.lt hk.size⟩⟩
theorem DkS.nc{N:Nat}{w w':World}{gk gm gd gs:Nat}{d:Dk}{l:List Nat}(h:DkS N w gk gm gd gs d)(hk:af l w w')(hl:∀x∈l,gk<x∧x≠gm∧∀j,w.cell? ⟨x,j,none⟩=none):DkS N w' gk gm gd gs d∧gk∉l∧gs∉l:=by
 obtain⟨gv,v,hI⟩:=h.st;obtain⟨A,F,l',hd,-⟩:=hI.sv.sp.disk;obtain⟨sv,hs⟩:=hI.sv.sp.store;have g:gk∉l:=fun hx=>by have:=(hl gk hx).1; omega
 have m:gs∉l:=fun hx=>by have:=(hl gs hx).2.2 0; rw[hs.p0] at this; cases this
 have n:gd∉l:=fun hx=>by have:=(hl gd hx).2.2 0; rw[hd.blk 0 (by omega)] at this; cases this
 have o:gv∉l:=fun hx=>by have:=(hl gv hx).2.2 0; rw[hI.sv.box.c0] at this; cases this
 have q:gm∉l:=fun hx=>(hl gm hx).2.1 rfl;have b:=hI.box.lt;have r:ah (gs+1) w' v d.p.st.fams:=ag.nc hI.sv.sp.fam hk (fun x hx=>(hl x hx).2.2);have c:=hI.sv.sp.elsewhereC hk (B:=gk) (Fx b) h.old (fun x hx=>⟨by have:=(hl x hx).1; omega,fun e=>n (e ▸ hx),fun e=>m (e ▸ hx)⟩) r
 have f:av w':=hI.sv.libs.belowO (hk.below (B:=gk) (Fx b) (fun x hx=>by have:=(hl x hx).1; omega)) h.old
 exact⟨⟨⟨gv,v,⟨c,hI.sv.box.keep hk o,f,hI.sv.rul,hI.sv.ord,hI.sv.out,hI.sv.old⟩,hI.box.keep hk g,hI.ne,hI.out,Nat.lt_of_lt_of_le hI.ml hk.size⟩,h.ord.keep hk q (fun x hx k=>by rw[(hl x hx).2.2 0]; simp),h.old⟩,g,m⟩
variable {bs:List UInt8}
theorem Bld.cell0(h:Bld B w b v bs)(hne:bs≠ []∨v=.slice none 0 0):∀r,v.ownBlock=some r->∃x:UInt8,w.cell? ⟨r,0,none⟩=some (.int .u8 x.toNat):=by
 intro r hr;rcases hne with hne | hv
 ·cases bs with
  |nil=>exact absurd rfl hne
  |cons x xs=>
   have:=h.own.cells hr 0 (.int .u8 x.toNat) (by simp[Lib.byteCells])
   exact⟨x,by simpa[Addr.add] using this⟩
 ·rw[hv] at hr
  cases hr
theorem Bld.box0(h:Bld B w b v bs):∃p,w.cell? ⟨b,0,none⟩=some (.pointer p):=by
 rcases h.box with hb | hb
 ·exact⟨_,by rw[Lib.cell_of_heap hb]; rfl⟩
 ·exact⟨_,by rw[Lib.cell_of_heap hb]; rfl⟩
def iD:List (List UInt8)->Dk->Dk->List UInt8->Prop
 |[],d,d',o=>d'=d∧o= []
 |s::ls,d,d',o=>∃d1 a o1,cJ d s d1 a∧iD ls d1 d' o1∧o=a ++ 10::o1
theorem iD.snoc{s a:List UInt8}{d2:Dk}:∀ {ls:List (List UInt8)} {d d':Dk} {o:List UInt8},iD ls d d' o->cJ d' s d2 a->iD (ls ++ [s]) d d2 (o ++ a ++ [10])
 |[],d,d',o,h,h'=>by
  obtain⟨rfl,rfl⟩:=h;exact⟨d2,a,[],h',⟨rfl,rfl⟩,by simp⟩
 |x::ls,d,d',o,h,h'=>by
  obtain⟨d1,a1,o1,h1,h2,rfl⟩:=h;exact⟨d1,a1,_,h1,h2.snoc h',by simp⟩
theorem iD.sess:∀ {ls:List (List UInt8)} {d d':Dk} {o:List UInt8},iD ls d d' o->kS ls d o
 |[],_,_,_,h=>h.2
 |x::ls,d,d',o,h=>by
  obtain⟨d1,a1,o1,h1,h2,rfl⟩:=h;exact⟨d1,a1,o1,h1,h2.sess,rfl⟩
theorem gi(h:n<=100):(errL n).length<=100:=by
 have:=ar (n:=(n:Int)) ⟨by omega,by omega⟩
 unfold errL;simp only[List.length_append,List.length_cons,List.length_nil];omega
variable {d d':Dk}
theorem line_len{L a:List UInt8}(h:cJ d L d' a)(hg:Ev.dy d.p.st)(hr:fA d.r)(hg2:Ev.dy d'.p.st)(hn:d.p.n<=100000)(hlg:d.p.lg<=16):a.length<=100000:=by
 unfold cJ at h;split at h
 ·rw[h.2]; decide
 ·split at h
  ·rw[h.2]; have:=gi (n:=3) (by omega); omega
  ·split at h
   ·rw[h.2]; have:=gi (n:=3) (by omega); omega
   ·obtain⟨o,h1,rfl,rfl⟩:=h
    have b:=sR h1 hg hr hg2 hn hlg;unfold Ev.told;split
    ·exact b.1
    ·have:=gi b.2; omega
structure Off (W:World) (gk gm gd gs t:Nat):Prop where
 k:gk<t
 d:t≠gd
 s:t≠gs
 m:t≠gm
 far:jP W gk gs t
 lt:t<W.heap.size
theorem Off.notMem{t:Nat}(h:Off W gk gm gd gs t):t∉ [gk,gd,gs]:=by
 have h1:=h.k;have h2:=h.d;have h3:=h.s;simp
 omega
structure m5 (w0:World) (gb gp gk gm:Nat) (pre:List (List UInt8)) (W:World) (d:Dk) (gd gs:Nat) (v:Value) (out:List UInt8):Prop where
 sess:iD pre cM d out
 desk:DkS (22*pre.length) W gk gm gd gs d
 bld:Bld w0.heap.size W gb v out
 ptr:W.cell? ⟨gp,0,none⟩=some (.pointer (some ⟨gk,0,none⟩))
 offB:Off W gk gm gd gs gb
 offP:Off W gk gm gd gs gp
 offR:∀r,v.ownBlock=some r->Off W gk gm gd gs r∧r≠gp
 bp:gb≠gp
 below:Below w0.heap.size w0 W
 len:out.length<=pre.length*100001
 nil:out≠ []∨v=.slice none 0 0
 lp:w0.heap.size<=gp
 lb:w0.heap.size<=gk
 ld:w0.heap.size<=gd
 ls:w0.heap.size<=gs
theorem m5.nc{w0:World}{gb gp gk gm:Nat}{pre:List (List UInt8)}{W W':World}{d:Dk}{gd gs:Nat}{v:Value}{out:List UInt8}{l:List Nat}(h:m5 w0 gb gp gk gm pre W d gd gs v out)(hk:af l W W')(hl:∀x∈l,gk<x∧x≠gm∧∀j,W.cell? ⟨x,j,none⟩=none):m5 w0 gb gp gk gm pre W' d gd gs v out:=by
 obtain⟨q1,q2,q3⟩:=h.desk.nc hk hl;obtain⟨pb,hpb⟩:=h.bld.box0;have f:gb∉l:=fun hx=>by have:=(hl gb hx).2.2 0; rw[hpb] at this; cases this
 have g:gp∉l:=fun hx=>by have:=(hl gp hx).2.2 0; rw[h.ptr] at this; cases this
 have n:∀r,v.ownBlock=some r->r∉l:=fun r hr hx=>by
  obtain⟨x,hx2⟩:=h.bld.cell0 h.nil r hr
  have:=(hl r hx).2.2 0;rw[hx2] at this
  cases this
 have lts:=h.desk.lts;have b:∀t,Off W gk gm gd gs t->Off W' gk gm gd gs t:=fun t ho=>⟨ho.k,ho.d,ho.s,ho.m,ho.far.elsewhere hk lts.1 lts.2.2.1 q2 q3,Fd ho.lt hk.size⟩;have c:=h.below.size;exact⟨h.sess,q1,h.bld.keep hk f n,(hk.cell (p:=(a_ gp 0)) h.offP.lt g).trans h.ptr,b _ h.offB,b _ h.offP,fun r hr=>⟨b _ (h.offR r hr).1,(h.offR r hr).2⟩,h.bp,h.below.trans (hk.below c (fun x hx=>by have:=(hl x hx).1; have:=h.lb; omega)),h.len,h.nil,h.lp,h.lb,h.ld,h.ls⟩
theorem jT{o:Obj}(hk:W.heap[k]?=some o)(ho:o.isCells=false){g:Nat}{j:Nat}{u:Value}(hc:W.cell? ⟨g,j,none⟩=some u):g≠k:=by
 rintro rfl;unfold World.cell? at hc;rw[hk] at hc
 cases o <;> simp[Obj.isCells] at ho hc
theorem DkS.cells(h:DkS N w gk gm gd gs d):∀x∈ [gk,gd,gs],∃u,w.cell? ⟨x,0,none⟩=some u:=by
 obtain⟨gv,v,hI⟩:=h.st;obtain⟨A,F,l',hd,-⟩:=hI.sv.sp.disk;obtain⟨sv,hs⟩:=hI.sv.sp.store;intro x hx;simp only[List.mem_cons,List.not_mem_nil,or_false] at hx;rcases hx with rfl | rfl | rfl
 ·exact⟨_,hI.box.c0⟩
 ·exact⟨_,hd.blk 0 (by omega)⟩
 ·exact⟨_,hs.p0⟩
theorem m5.bld1{w0:World}{gb gp:Nat}{pre:List (List UInt8)}{W1:World}{out:List UInt8}(h:m5 w0 gb gp gk gm pre W d gd gs v out)(hto:cR N W W1 gk gm gd gs d'):Bld w0.heap.size W1 gb v out∧w0.heap.size<=W1.heap.size∧W1.cell? ⟨gp,0,none⟩=some (.pointer (some ⟨gk,0,none⟩)):=by
 obtain⟨gd',gs',q1,q2,-⟩:=hto;exact⟨h.bld.keep q2 h.offB.notMem (fun r hr=>(h.offR r hr).1.notMem),Fe h.below.size q2.size,(q2.cell (p:=(a_ gp 0)) h.offP.lt h.offP.notMem).trans h.ptr⟩
theorem m5.step{w0:World}{gb gp gk gm:Nat}{pre:List (List UInt8)}{W W1 W2 W3:World}{d d':Dk}{gd gs:Nat}{v v1 v2:Value}{out x a:List UInt8}(h:m5 w0 gb gp gk gm pre W d gd gs v out)(hN:22*pre.length<97000)(hline:cJ d x d' a)(hto:cR (22*pre.length) W W1 gk gm gd gs d')(hk1:af (gb::ju v) W1 W2)(hn1:jR W1.heap.size v v1)(hb2:Bld w0.heap.size W3 gb v2 (out ++ a ++ [10]))(hk2:af (gb::ju v1) W2 W3)(hn2:jR W2.heap.size v1 v2):(∃gd' gs',m5 w0 gb gp gk gm (pre ++ [x]) W3 d' gd' gs' v2 (out ++ a ++ [10]))∧KeepsOthers W W3:=by
 obtain⟨hbl1,hs1,hp1⟩:=h.bld1 hto;obtain⟨gd',gs',q1,q2,q3,q4,q5⟩:=hto;have lts:=h.desk.lts;have g:=q1.lts;have j:=q2.size
 have c:af (gb::ju v) W1 W3:=by
  refine⟨hk2.os.trans hk1.os,hk2.tape.trans hk1.tape,hk2.output.trans hk1.output,Fe hk1.size hk2.size,fun b hb hn=>(hk2.block b (Fd hb hk1.size) ?_).trans (hk1.block b hb hn)⟩;simp only[List.mem_cons,not_or] at hn ⊢;refine⟨hn.1,fun hm=>?_⟩;rw[dP] at hm;rcases hn1 with e | e
  ·exact hn.2 (dP.2 (e ▸ hm))
  ·have:=e b hm
   omega
 have n:∀t∈gb::ju v,Off W gk gm gd gs t∧t≠gp:=fun t ht=>by
  rcases List.mem_cons.1 ht with rfl | ht
  ·exact⟨h.offB,h.bp⟩
  ·exact h.offR t (dP.1 ht)
 have B:∀t,Off W gk gm gd gs t->t≠gd'∧t≠gs':=fun t f=>by
  have:=f.lt
  have:=f.d
  have:=f.s;exact⟨by omega,by omega⟩
 have z:∀t∈gb::ju v,∃u,W1.cell? (a_ t 0)=some u∧∀k:Int,u≠.i_ k:=fun t ht=>by
  rcases List.mem_cons.1 ht with rfl | ht
  ·obtain⟨p,hp⟩:=hbl1.box0
   exact⟨_,hp,fun k e=>by cases e⟩
  ·obtain⟨y,hy⟩:=hbl1.cell0 h.nil t (dP.1 ht)
   exact⟨_,hy,fun k e=>by cases e⟩
 have D:DkS (22*pre.length+22) W3 gk gm gd' gs' d':=q1.elsewhere c (fun t ht=>by
  have f:=(n t ht).1;obtain⟨u,hu,hnu⟩:=z t ht;exact⟨f.k,(B t f).1,(B t f).2,f.m,q5 t f.lt f.far,fun k e=>hnu k (by rw[hu] at e; exact Option.some.inj e)⟩)
 have G:gk∉gb::ju v:=fun hx=>by have:=(n gk hx).1.k; omega
 have H:gs'∉gb::ju v:=fun hx=>(B gs' (n gs' hx).1).2 rfl;have q:∀t,Off W gk gm gd gs t->Off W3 gk gm gd' gs' t:=fun t f=>⟨f.k,(B t f).1,(B t f).2,f.m,(q5 t f.lt f.far).elsewhere c g.1 g.2.2.1 G H,Fd f.lt (Fe j c.size)⟩;have J:gp∉gb::ju v:=fun hx=>(n gp hx).2 rfl;obtain⟨gv1,vv1,hI1⟩:=q1.st;obtain⟨gv0,vv0,hI0⟩:=h.desk.st;have E:=h.below.size;refine⟨⟨gd',gs',h.sess.snoc hline,?_,hb2,(c.cell (p:=(a_ gp 0)) (Nat.lt_of_lt_of_le h.offP.lt j) J).trans hp1,q _ h.offB,q _ h.offP,fun r hr=>?_,h.bp,?_,?_,.inl (by simp),h.lp,h.lb,?_,?_⟩,?_,?_⟩
 ·rw[List.length_append,List.length_cons,List.length_nil]
  exact D.mono (by omega)
 ·have F:v.ownBlock=some r∨W1.heap.size<=r:=by
   rcases hn2 with e | e
   ·rw[e] at hr
    rcases hn1 with e1 | e1
    ·exact .inl (e1 ▸ hr)
    ·exact .inr (e1 r hr)
   ·have:=e r hr
    have:=hk1.size;exact .inr (by omega)
  rcases F with A | A
  ·exact⟨q _ (h.offR r A).1,(h.offR r A).2⟩
  ·refine⟨⟨by omega,by omega,by omega,by omega,?_,(hb2.own.lt r hr).2⟩,by have:=h.offP.lt; omega⟩
   exact (hI1.far.2 ⟨az.past hI1.sv.sp.fam A,by have:=hI1.sv.box.lt; omega⟩:jP W1 gk gs' r).elsewhere c g.1 g.2.2.1 G H
 ·have A:Below w0.heap.size W W1:=q2.below E (fun y hy=>by
   have:=h.lb
   have:=h.ld
   have:=h.ls;simp only[List.mem_cons,List.not_mem_nil,or_false] at hy;omega)
  have L:Below w0.heap.size W1 W3:=c.below hs1 (fun y hy=>by
   rcases List.mem_cons.1 hy with rfl | hy
   ·exact hbl1.new
   ·exact (hbl1.own.lt y (dP.1 hy)).1)
  exact (h.below.trans A).trans L
 ·have I:=line_len hline hI0.sv.sp.ok.good hI0.sv.rul hI1.sv.sp.ok.good (by have:=hI0.sv.sp.ok.few; omega) hI0.sv.sp.ok.low
  have:=h.len;simp only[List.length_append,List.length_cons,List.length_nil];omega
 ·rcases q3 with rfl | e
  ·exact h.ld
  ·omega
 ·rcases q4 with rfl | e
  ·exact h.ls
  ·omega
 ·exact Fe j c.size
 ·intro k o hk f
  have C:=(Array.getElem?_eq_some_iff.1 hk).1
  have M:k∉ [gk,gd,gs]:=fun hx=>by
   obtain⟨u,hu⟩:=h.desk.cells k hx;exact jT hk f hu rfl
  have N:k∉gb::ju v:=fun hx=>by
   rcases List.mem_cons.1 hx with rfl | hx
   ·obtain⟨p,hp⟩:=h.bld.box0
    exact jT hk f hp rfl
   ·obtain⟨y,hy⟩:=h.bld.cell0 h.nil k (dP.1 hx)
    exact jT hk f hy rfl
  rw[c.block k (Nat.lt_of_lt_of_le C j) N,q2.block k C M];exact hk
end Go.Proofs.YtlailakofhenkabGreatDoor
