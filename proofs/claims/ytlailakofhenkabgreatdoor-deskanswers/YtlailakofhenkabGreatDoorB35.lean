import Derived.Test.YtlailakofhenkabGreatDoorB34
import Derived.Lib.OwnBridge
set_option maxRecDepth 100000
set_option maxHeartbeats 16000000
namespace Go.Proofs.YtlailakofhenkabGreatDoor
open Go Go.RowKit Go.Shelf Tok Sc Ev Tryz
attribute [local go_sem] Oper.semAt_some
theorem sU{w:World}(W:World)(l:Nat)(o o':Obj)(_:w.heap.size<=l)(h:W.heap[l]?=some o)(ho:o.isCells=false)(_:o.isWalk=false):wi W (W.putObj l o'):=by
 rintro ⟨m,hm⟩;exact⟨m,(World.cell?_of_block (World.putObj_heap_other (jT h ho hm))).trans hm⟩
theorem DkS.libs{N:Nat}{w:World}{gk gm gd gs:Nat}{d:Dk}(h:DkS N w gk gm gd gs d):av w:=by
 obtain⟨gv,v,hI⟩:=h.st;exact hI.sv.libs
theorem uK{w w1:World}{gm gd gs:Nat}(h:DkS 0 w1 w.heap.size gm gd gs cM)(hb:Below w.heap.size w w1)(hgd:w.heap.size<=gd)(s:ByteArray):m5 w (w1.heap.size+1) w1.heap.size w.heap.size gm [] (((w1.alloc (.cells #[.pointer (some ⟨w.heap.size,0,none⟩)] 161)).alloc (.cells #[.pointer none,.slice none 0 0] 166)).alloc (.cells #[.string s] 9)) cM gd gs (.slice none 0 0) []:=by
 have b:Below w1.heap.size w1 (((w1.alloc (.cells #[p_ w.heap.size 0] 161)).alloc (.cells #[.pointer none,.slice none 0 0] 166)).alloc (.cells #[.string s] 9)):=(((Below.refl _ w1).alloc (Nat.le_refl _) _).alloc (by simp) _).alloc (by simp; omega) _
 have lts:=h.lts;have c:((((w1.alloc (.cells #[p_ w.heap.size 0] 161)).alloc (.cells #[.pointer none,.slice none 0 0] 166)).alloc (.cells #[.string s] 9))).heap.size=w1.heap.size+3:=by simp
 obtain⟨gv,v,hI⟩:=h.st;have k:=hI.sv.sp.ord;have f:∀t,w1.heap.size<=t->t<w1.heap.size+3->Off (((w1.alloc (.cells #[p_ w.heap.size 0] 161)).alloc (.cells #[.pointer none,.slice none 0 0] 166)).alloc (.cells #[.string s] 9)) w.heap.size gm gd gs t:=fun t h1 h2=>⟨by omega,by omega,by omega,by omega,(hI.far.2 ⟨az.past hI.sv.sp.fam h1,by have:=hI.sv.box.lt; omega⟩:jP w1 w.heap.size gs t).on b lts.1 lts.2.2.1,by rw[c]; exact h2⟩
 have g:((((w1.alloc (.cells #[p_ w.heap.size 0] 161)).alloc (.cells #[.pointer none,.slice none 0 0] 166)).alloc (.cells #[.string s] 9))).heap[w1.heap.size+1]?=some (.cells #[.pointer none,.slice none 0 0] 166 (0,0)):=by
  rw[Below.heap_alloc _ _ _ (by simp)]
  have m:(w1.alloc (.cells #[p_ w.heap.size 0] 161)).heap.size=w1.heap.size+1:=by simp
  rw[<- m];exact World.alloc_heap_new _ _
 have j:((((w1.alloc (.cells #[p_ w.heap.size 0] 161)).alloc (.cells #[.pointer none,.slice none 0 0] 166)).alloc (.cells #[.string s] 9))).c_ w1.heap.size 0=some (p_ w.heap.size 0):=by
  have n:w1.heap.size<(w1.alloc (.cells #[p_ w.heap.size 0] 161)).heap.size:=by simp
  have o:w1.heap.size<((w1.alloc (.cells #[p_ w.heap.size 0] 161)).alloc (.cells #[.pointer none,.slice none 0 0] 166)).heap.size:=by simp; omega
  exact ((World.cell?_alloc_lt _ _ _ o).trans (World.cell?_alloc_lt _ _ _ n)).trans ((Fb _ _ _ _ rfl).trans rfl)
 exact⟨⟨rfl,rfl⟩,h.on b,⟨by have:=hb.size; omega,.inl g,World.ownsRow_nil _ _ _ _⟩,j,f _ (by omega) (by omega),f _ (by omega) (by omega),fun r hr=>(by cases hr),by omega,hb.tm b,by simp,.inr rfl,hb.size,Nat.le_refl _,hgd,by omega⟩
theorem qg(s:ByteArray)(w:World)(hs:20000<s.size)(hm:s.size<=1000000)(hL:av w):
 Calls prog 48 #[.string s] w fun e w'=>e=.returned (.string ⟨(errL 4 ++ [10]).toArray⟩)∧Below w.heap.size w w':=by
 have f:(20000:Int)<(s.size:Int):=by omega
 have g:J _:=sK 4 w (by omega) hL
 have c:=gi (n:=4) (by omega)
 have j:¬ (9223372036854775807<(errL 4).length+1):=by omega
 have b:J ((⟨(errL 4).toArray⟩:ByteArray) ++ (⟨#[10]⟩:ByteArray)=⟨(errL 4 ++ [10]).toArray⟩):=by
  show _=_
  exact aK (by simp)
 generalize errL 4=q at *;refine (callsIn_wide (n:=3)).1 ?_;refine callsIn_of_wp_marks func48 rfl trivial ?_ rfl;simp only[ntmps48,List.size_toArray,List.length_cons,List.length_nil,Nat.reduceAdd,Nat.reduceSub,Array.replicate_succ,Array.replicate_zero,List.push_toArray,List.append_toArray,List.nil_append,List.cons_append];gi_wp2
 refine⟨trivial,(callsIn_wide.2 g.o).mono ?_⟩;rintro e1 w1 ⟨rfl,hb1⟩;have k:J _:=hb1;gi_wp2
 refine⟨_,results_tmp rfl _ _ _,?_,k.o⟩;rw[<- b.o];rfl
theorem nG(s:ByteArray)(w:World)(hs:s.size<=4000)(hL:av w)(hO:bE w.heap.size):
 Calls prog 48 #[.string s] w fun e w'=>∃o,e=.returned (.string ⟨o.toArray⟩)∧ey s.data.toList o∧Below w.heap.size w w':=by
 have hgt:¬ (20000:Int)<(s.size:Int):=by omega
 have B:Hid _:=uA w hL hO;have C:Hid _:=hs;have E:Hid _:=hO;refine (callsIn_wide (n:=6)).1 ?_;refine callsIn_of_wp_marks func48 rfl trivial ?_ rfl;simp only[ntmps48,List.size_toArray,List.length_cons,List.length_nil,Nat.reduceAdd,Nat.reduceSub,Array.replicate_succ,Array.replicate_zero,List.push_toArray,List.append_toArray,List.nil_append,List.cons_append];gi_wp2
 refine⟨trivial,(callsIn_wide.2 B.o).mono ?_⟩;rintro e1 w1 ⟨gd,gs,gv,gm,v,rfl,hI,hO,hb1,hgd⟩;have b:Hid (DkS 0 w1 w.heap.size gm gd gs cM):=⟨⟨gv,v,hI⟩,hO,E.o⟩;have G:Hid _:=hgd;have g:Hid _:=hb1;gi_wp2
 refine⟨trivial,(callsIn_wide.2 (AS s _)).mono ?_⟩;rintro e2 w2 ⟨rfl,rfl⟩;have H:Below w1.heap.size w1 (((w1.alloc (.cells #[p_ w.heap.size 0] 161)).alloc (.cells #[.pointer none,.slice none 0 0] 166)).alloc (.cells #[.string s] 9)):=(((Below.refl _ w1).alloc (Nat.le_refl _) _).alloc (by simp) _).alloc (by simp; omega) _
 have I:Hid _:=uK b.o g.o G.o s
 have J:Hid (((((w1.alloc (.cells #[p_ w.heap.size 0] 161)).alloc (.cells #[.pointer none,.slice none 0 0] 166)).alloc (.cells #[.string s] 9))).c_ (w1.heap.size+1+1) 0=some (.string s)):=by
  have m:((w1.alloc (.cells #[p_ w.heap.size 0] 161)).alloc (.cells #[.pointer none,.slice none 0 0] 166)).heap.size=w1.heap.size+1+1:=by simp
  show World.cell? _ _=_
  rw[<- m];exact (Fb _ _ _ _ rfl).trans rfl
 have L:Hid _:=(b.o.libs.on H).len;have Ee:((((w1.alloc (.cells #[p_ w.heap.size 0] 161)).alloc (.cells #[.pointer none,.slice none 0 0] 166)).alloc (.cells #[.string s] 9))).heap.size=w1.heap.size+3:=by simp
 gi_wp2
 generalize (((w1.alloc _).alloc _).alloc _)=W0 at *;have p:=sS 5 (w1.heap.size+1+1) s.data.toList W0 (by omega) (by rw[show Ev.bs s.data.toList=s from rfl]; exact J.o) (by rw[toL]; have:=C.o; omega) L.o
 refine wpIn_rangeFunc_ownG (F:=Fence.wide) rfl (by omega) (gf:=148) (lb:=#[p_ (w1.heap.size+1+1) 0]) rfl trivial (enters_of func148 (by kernel_rfl) rfl) p (fun h k x=>k (h x)) sU (E9 _ _) (fun _=>rfl)
  (fun pre W=>∃(d:Dk) (gd gs:Nat) (v:Value) (out:List UInt8),Hid (m5 w (w1.heap.size+1) w1.heap.size w.heap.size gm (pre.map (·.1)) W d gd gs v out)) (fun _ _ _=>False) ?hI (fun _ _ _ _ _ hs _ _=>hs) ⟨_,_,_,_,_,I⟩
  (fun x=>{ tmps:=#[.string s,undef,.e_,p_ w1.heap.size 0,p_ (w1.heap.size+1) 0,.string (Ev.bs x.1),.string s,.i_ s.size,.bool false,undef,undef,p_ w.heap.size 0,.string s,.func (.func 148) #[] #[p_ (w1.heap.size+1+1) 0],.string (Ev.bs x.1),undef,undef,undef,undef,undef,undef],defers:= [] }) ?assign ?body ?done ?stop
 case hI=>
  rintro pre W W' row ⟨d,gd,gs,v,out,HSV⟩ hg hr;have hk:af row.toList W W':=⟨hg.os,hg.tape,hg.output,hg.size,fun i hi hn=>hg.block i hi (fun e=>hn (by rw[Eq.symm e]; simp))⟩
  have hlt:=b.o.lts;obtain⟨gv3,v3,hI3⟩:=b.o.st;have hml:=hI3.ml;have hbl:=hI3.box.lt
  exact⟨d,gd,gs,v,out,HSV.out.nc hk (fun x hx=>by
   obtain⟨h1,o,h2,N⟩:=hr x (by simpa using hx)
   refine⟨by omega,by omega,fun j=>?_⟩
   unfold World.cell?;rw[h2]
   cases o <;> simp[Obj.isCells] at N ⊢)⟩
 case assign=>
  intro l x W K hK;gi_wp2
  exact hK
 case body=>
  rintro l pre x W ⟨d,gd,gs,v,out,HSV⟩ hlen;have hp:=HSV.out.ptr;gi_wp2
  have M:pre.length<=4000:=by
   have h1:=(dG (c:=10) _ (fW s.data.toList) (Fa _)).2;have h2:=qe s.data.toList;have N:s.data.toList.length=s.size:=Fg;have h4:=C.o;have m:(ax s.data.toList).length=(parts 10 (fW s.data.toList)).length:=rfl;omega
  have Ef:(pre.map (·.1)).length=pre.length:=Fy _;refine⟨trivial,(CallsIn.inRound l (callsIn_wide.2 (xV (Ev.bs x.1) HSV.out.desk (by have:=x.2; simp[Ev.bs,ByteArray.size]; omega) (by omega)))).mono ?_⟩
  rintro e3 W1 ⟨d',a,rfl,hline,hto⟩;rw[show (Ev.bs x.1).data.toList=x.1 from by simp[Ev.bs]] at hline
  have O:Hid _:=hline;have R:Hid _:=hto;have f:Hid _:=HSV.out.bld1 hto;have hp1:=f.o.2.2
  have q:Hid (out.length<=4000*100001∧a.length<=100000):=(show _∧_ by
   obtain⟨gv0,vv0,hI0⟩:=HSV.out.desk.st;obtain⟨gd',gs',q1,q2,-⟩:=hto;obtain⟨gv1,vv1,hI1⟩:=q1.st;refine⟨Fe HSV.out.len (Fi _ (by omega)),line_len hline hI0.sv.sp.ok.good hI0.sv.rul hI1.sv.sp.ok.good (by have:=hI0.sv.sp.ok.few; omega) hI0.sv.sp.ok.low⟩)
  have T:Hid (22*(pre.map (·.1)).length<97000):=(show _<_ by omega)
  gi_wp2
  refine⟨trivial,(CallsIn.inRound l (callsIn_wide.2 (oT ⟨a.toArray⟩ f.o.1 (by have:=q.o; simp[ByteArray.size]; omega) f.o.2.1))).mono ?_⟩
  rintro e4 W2 ⟨rfl,v1,hbl2,hk1,hn1⟩;have r:Hid _:=hbl2;have t:Hid _:=hk1;have U:Hid _:=hn1;gi_wp2
  refine⟨trivial,(CallsIn.inRound l (callsIn_wide.2 (oT ⟨#[10]⟩ r.o (by have:=q.o; simp[ByteArray.size]; omega) (Fe f.o.2.1 t.o.size)))).mono ?_⟩
  rintro e5 W3 ⟨rfl,v2,hbl3,hk2,hn2⟩;have z:Hid _:=hbl3;have V:Hid _:=hk2;have X:Hid _:=hn2;gi_wp2
  obtain⟨⟨gd',gs',hS⟩,hKO⟩:=HSV.out.step T.o O.o R.o t.o U.o z.o V.o X.o;refine⟨hKO.from _,fun _=>hS.desk.libs.len,d',gd',gs',v2,out ++ a ++ [10],?_⟩
  show m5 _ _ _ _ _ (List.map (fun y:Ln=>y.1) (pre ++ [x])) _ _ _ _ _ _
  rw[List.map_append,List.map_cons,List.map_nil];exact hS
 case done=>
  rintro D ys W hD hys ⟨d,gd,gs,v,out,HSV⟩ hK;have Y:Hid _:=hD;have Z:Hid _:=hys;gi_wp2
  refine⟨trivial,(callsIn_wide.2 (Any.Builder_String_any_k { lays156 with } Builder_Extra_156 w.heap.size (w1.heap.size+1) out W (Lib.IsBuilderF.of HSV.out.bld.is) HSV.out.below.size)).mono ?_⟩;rintro e3 W1 ⟨rfl,-,hb,ho⟩;have Eg:=HSV.out.below.size;have hD3:=Y.o;have A:W1.heap[D]?=some (.deferred (some [])):=ho D _ hK (by intro e; simp only[Option.some.injEq] at e; omega) (fun c fz e=>by cases e)
  have Ed:Hid _:=hb;gi_wp2
  refine⟨by simp,.inl ⟨_,_,rfl,run_takeDeferred A,?_⟩⟩
  refine⟨_,results_tmp rfl _ _ _,out,rfl,?_,?_⟩
  ·have hq:¬ 20000<s.data.toList.length:=by have h4:=C.o; have N:s.data.toList.length=s.size:=Fg; omega
   unfold ey;rw[if_neg hq];have m:=HSV.out.sess.sess;rw[Z.o] at m;exact m
  ·exact (HSV.out.below.trans Ed.o).trans (belowK_b (w:=w) (Fa _) _ _ _ _ (by have:=g.o.size; omega) A rfl rfl)
 case stop=>
  rintro D c pre W _ _ h _;exact h.elim
end Go.Proofs.YtlailakofhenkabGreatDoor
namespace Go.Proofs.YtlailakofhenkabGreatDoor
open Go Go.RowKit Ev Tryz
def ltF(a b:Fam):Bool:=decide (a.id<b.id)
theorem Ea:Go.Sort.SWO ltF:=⟨fun x=>by simp[ltF],fun x y z h1 h2=>by simp[ltF] at *; omega,fun x y z h1 h2=>by simp[ltF] at *; omega⟩
theorem Dw:∃i,prog.info? 34=some i∧i.desc=.slice 40:=by
 have h:(prog.info? 34).map (·.desc)=some (.slice 40):=by kernel_rfl
 cases hi:prog.info? 34 with
 |none=>rw[hi] at h; cases h
 |some i=>
  rw[hi] at h;exact⟨i,rfl,by simpa using h⟩
theorem Cw:∃i,prog.info? 40=some i∧i.size=9∧i.hasPointers=true∧i.bytes=104:=by
 have h:(prog.info? 40).map (fun i=>(i.size,i.hasPointers,i.bytes))=some (9,true,104):=by kernel_rfl
 cases hi:prog.info? 40 with
 |none=>rw[hi] at h; cases h
 |some i=>
  rw[hi] at h;simp only[Option.map_some,Option.some.injEq,Prod.mk.injEq] at h;exact⟨i,rfl,h.1,h.2.1,h.2.2⟩
theorem DX(g c Bs size:Nat)(W:World)(G:Nat->Int)(hs:W.cell? ⟨Bs,0,none⟩=some (.slice (some ⟨g,0,none⟩) size c))(hc:∀t,t<size->W.cell? ⟨g,t*9,none⟩=some (.int .i64 (G t)))(i j:Nat)(hi:i<size)(hj:j<size):
 Calls prog 220 #[.i_ i,.i_ j,p_ Bs 0] W fun e w'=>e=.returned (.bool (decide (G i<G j)))∧∃q,w'=W.drewN q:=by
 have ci:=hc i hi;have cj:=hc j hj;have b:=pI;have f:(i:Int)<(size:Int):=by omega
 have k:(j:Int)<(size:Int):=by omega
 clear hc;go_enter func220,ntmps220
 go_wp2_with fail;go_region;go_wp2_with fail;go_ret;exact⟨rfl,1,rfl⟩
def Asc(d:List Fam):Prop:=d.Pairwise (fun a b=>¬ b.id<a.id)
theorem AT(n:Nat)(ie:TypeInfo)(h1:ie.hasPointers=true)(h2:ie.bytes=104):Lib.swapperK n ie 25=if n=0 then 1 else if n=1 then 2 else 9:=by
 unfold Lib.swapperK;rw[h1,h2];by_cases h0:n=0
 ·simp[h0]
 ·by_cases h1:n=1
  ·simp[h1]
  ·simp[h0,h1]
theorem m6(l:List Fam)(j:Nat)(hj:j<l.length*9):(aq l)[j]?=(ac (l[j / 9]'(by omega)))[j % 9]?:=by
 have:=j6 l (j / 9) (j % 9) (by omega) (Nat.mod_lt _ (by omega))
 rw[show j / 9*9+j % 9=j by omega] at this
 exact this
theorem Cx:∀args W,(callFunc 340 args).run prog W=((Extern.ReflectliteSwapper.swap false args).run prog W).andThen fun v w'=>.ok (.value v) w':=
 fun args W=>run_callFunc_extern func340 (by kernel_rfl) (by kernel_rfl) (by kernel_rfl) (e:=Extern.ReflectliteSwapper.swap false) (by kernel_rfl) args W
variable {B:Nat}{l:List Fam}{w w0:World}
theorem xY{g c Bs:Nat}(hr:cF 9 B w g c l.length (aq l))(hn:l.length<=100000)(hs:w.cell? ⟨Bs,0,none⟩=some (.slice (some ⟨g,0,none⟩) l.length c))(hg:Bs≠g):
 Calls prog 219 #[.iface 34 (.slice (o_ g 0) l.length c),.func (.func 220) #[] #[p_ Bs 0]] w fun e w'=>e=.returned (.tuple #[])∧∃d:List Fam,d.Perm l∧Asc d∧cF 9 B w' g c d.length (aq d)∧Below B w w':=by
 haveI:Inhabited Fam:=⟨zeroF⟩;obtain⟨i1,hi1,hd1⟩:=Dw;obtain⟨ie,hie,hs1,hp,hby⟩:=Cw;have A:B<=w.heap.size:=Fe hr.new (Fx hr.lt);by_cases h2:2<=l.length
 ·have I:Bs<w.heap.size:=Fc _ _ hs
  have f:l.toArray.size=l.length:=by simp
  have C:∀(m:List Fam) (t:Nat) (ht:t<m.length),m.toArray[t]! = m[t]:=fun m t ht=>by
   rw[getElem!_pos m.toArray t (by simpa using ht)]
   simp
  have J:Go.Sort.HoldsK ac 9 w g 0 l.toArray:=by
   intro j hj;rw[Go.Sort.size_flatK,f] at hj;have G:(l.length)*9<=c*9:=Fi 9 hr.le;refine⟨?_,(hr.there (0+j) (by omega)).2⟩
   rw[Nat.zero_add];refine hr.holds j _ ?_;rw[m6 l j hj];show _=some (Go.Sort.flatK ac 9 l.toArray)[j]!
   rw[Go.Sort.get_flatK ac 9 l.toArray j (by rw[f]; exact hj),C l (j / 9) (by omega)]
   rw[getElem!_pos (ac _) (j % 9) (by rw[bL]; omega),List.getElem?_eq_getElem (by rw[bL]; omega)]
  have s:LessReadsK prog 220 #[p_ Bs 0] ac 9 ltF g 0 l.toArray.size w:=by
   intro m os dk hdk i j hi hj
   have e:sortWorldK ac 9 w g 0 m dk os=Go.Sort.putRowK ac 9 (Sort.grow (Sort.ahead w m) os) g 0 dk:=by
    unfold sortWorldK;rw[Go.Sort.putRowK_grow ac 9 (Sort.ahead w m) os g 0 dk hr.lt]
   have L:Go.Sort.HoldsK ac 9 (Sort.grow (Sort.ahead w m) os) g 0 l.toArray:=Go.Sort.holdsK_grow ac 9 _ _ g 0 _ hr.lt (Go.Sort.holdsK_ahead ac 9 _ _ _ _ _ J);refine DX g c Bs l.length _ (fun t=>dk[t]!.id) ?_ (fun t ht=>?_) i j (by rw[f] at hi; exact hi) (by rw[f] at hj; exact hj)
   ·rw[e,Go.Sort.cell?_putRowK_other ac 9 _ g 0 dk _ (by exact hg),Sort.cell?_grow _ _ _ (by exact I)]
    exact hs
   ·rw[e]
    have:=((Go.Sort.holdsK_putRowK ac 9 _ g 0 _ dk L hdk).cell (i:=t) (c:=0) (by rw[hdk,f]; exact ht) (by omega)).1
    rw[show 0+t*9+0=t*9 by omega] at this
    exact this
  have p:=Any.sort_Slice_cells_sorted laysGg6 34 40 i1 ie hi1 hd1 (by kernel_rfl) hie 25 (fun _=>by kernel_rfl) ac 9 bL hs1 (fun _=>by kernel_rfl) cy ltF Ea 220 #[p_ Bs 0]
   (enters_of func220 (by kernel_rfl) rfl) g 0 c l.toArray (by rw[f]; exact h2) (by rw[f]; omega) 340 (by rw[f,AT _ ie hp hby,if_neg (by omega),if_neg (by omega)]; kernel_rfl) false Cx w s J hr.lt
  rw[f] at p;refine p.mono ?_;rintro e w' ⟨rfl,d',n,os,hperm,hsort,rfl⟩;have H:d'.size=l.length:=by rw[hperm.1,f]
  have M:Go.Sort.HoldsK ac 9 (Sort.grow (Go.Sort.putRowK ac 9 (Sort.ahead w n) g 0 d') os) g 0 d':=Go.Sort.holdsK_grow ac 9 _ _ g 0 _ (by show g<(Go.Sort.putRowK ac 9 (Sort.ahead w n) g 0 d').heap.size; unfold Go.Sort.putRowK; rw[Go.Sort.size_putRow]; exact hr.lt) (Go.Sort.holdsK_putRowK ac 9 _ g 0 _ d' (Go.Sort.holdsK_ahead ac 9 _ _ _ _ _ J) (by rw[H,f]))
  refine⟨rfl,d'.toList,?_,?_,?_,?_⟩
  ·have:=hperm.2.2
   rw[Array.extract_eq_self_of_le (by omega),Array.extract_eq_self_of_le (by rw[f]; exact Fa _)] at this
   simpa using this
  ·unfold Asc
   rw[List.pairwise_iff_getElem];intro i j hi hj hij
   have:=hsort i j (Nat.zero_le _) hij (by rw[<- H]; simpa using hj)
   rw[getElem!_pos d' i (by simpa using hi),getElem!_pos d' j (by simpa using hj)] at this
   simpa[ltF] using this
  ·have o:d'.toList.length=l.length:=by simpa using H
   rw[o];have v:g<(Go.Sort.putRowK ac 9 (Sort.ahead w n) g 0 d').heap.size:=by unfold Go.Sort.putRowK; rw[Go.Sort.size_putRow]; exact hr.lt
   have N:(Go.Sort.flatK ac 9 d').size=l.length*9:=by rw[Go.Sort.size_flatK,H]
   have z:∀j,l.length*9<=j->(Go.Sort.grow (Go.Sort.putRowK ac 9 (Sort.ahead w n) g 0 d') os).cell? (a_ g j)=w.cell? (a_ g j):=fun j hj=>by
    rw[Sort.cell?_grow _ _ _ (by exact v)]
    unfold Go.Sort.putRowK;rw[Go.Sort.cell?_putRow_other id _ g 0 _ (a_ g j) (.inr (.inr (by rw[N]; show 0+l.length*9<=j; omega)))]
    rfl
   have D:∀j,(Go.Sort.grow (Go.Sort.putRowK ac 9 (Sort.ahead w n) g 0 d') os).frozen? (a_ g j)=w.frozen? (a_ g j):=fun j=>by
    rw[Sort.frozen?_grow _ _ _ (by exact v)]
    unfold Go.Sort.putRowK;rw[Go.Sort.frozen?_putRow];rfl
   have E:∀j,j<l.length*9->(Go.Sort.grow (Go.Sort.putRowK ac 9 (Sort.ahead w n) g 0 d') os).cell? (a_ g j)=(aq d'.toList)[j]?:=fun j hj=>by
    have:=(M.cell (i:=j / 9) (c:=j % 9) (by omega) (by omega)).1
    rw[show 0+j / 9*9+j % 9=j by omega] at this
    rw[this,m6 d'.toList j (by rw[o]; exact hj)]
    have e:d'[j / 9]! = d'.toList[j / 9]'(by rw[o]; omega):=by
     rw[getElem!_pos d' (j / 9) (by omega)]
     simp
    rw[e,getElem!_pos (ac _) (j % 9) (by rw[bL]; omega),List.getElem?_eq_getElem (by rw[bL]; omega)]
   refine⟨hr.new,Nat.lt_of_lt_of_le v (by simp[Sort.grow]),by rw[dZ,o],hr.le,hr.max,tP _,fun j u hj=>?_,fun j hj=>⟨?_,?_⟩⟩
   ·have q:=(List.getElem?_eq_some_iff.1 hj).1
    rw[dZ,o] at q;rw[E j q,hj]
   ·by_cases q:j<l.length*9
    ·rw[E j q,List.getElem?_eq_getElem (by rw[dZ,o]; exact q)]
     rfl
    ·rw[z j (by omega)]
     exact (hr.there j hj).1
   ·rw[D j]
    exact (hr.there j hj).2
  ·have O:Below B w (Go.Sort.putRowK ac 9 (Sort.ahead w n) g 0 d'):=Lib.below_putRow (E9 B w) hr.new
   refine O.trans ⟨rfl,rfl,rfl,by simp[Sort.grow],fun k G=>Sort.heap_grow_old _ _ (Nat.lt_of_lt_of_le (Nat.lt_of_lt_of_le G A) O.size)⟩
 ·have p:=Any.sort_Slice_tiny laysGg6 34 40 i1 ie hi1 hd1 (by kernel_rfl) hie 25 (fun _=>by kernel_rfl) (o_ g 0) l.length c (by omega)
  have F:∀e w',(e=Ending.returned (.tuple #[])∧∃os,w'=Sort.grow w os)->e=.returned (.tuple #[])∧∃d:List Fam,d.Perm l∧Asc d∧cF 9 B w' g c d.length (aq d)∧Below B w w':=by
   rintro e w' ⟨rfl,os,rfl⟩;have R:Below w.heap.size w (Sort.grow w os):=⟨rfl,rfl,rfl,by simp[Sort.grow],fun k G=>Sort.heap_grow_old _ _ G⟩
   refine⟨rfl,l,.refl _,?_,hr.below R hr.lt,R.mono A⟩;match l,h2 with
   |[],_=>exact .nil
   |[a],_=>exact List.pairwise_singleton _ _
   |a::b::r,h2=>simp at h2
  by_cases h0:l.length=0
  ·exact (p 332 (by rw[AT _ ie hp hby,if_pos h0]; kernel_rfl) _ _ _ w).mono F
  ·exact (p 333 (by rw[AT _ ie hp hby,if_neg h0,if_pos (by omega)]; kernel_rfl) _ _ _ w).mono F
structure RA (w0:World) (c n:Int) (v:Value) (l:List Fam) (e:E) (vl:Value) (L:List Fam) (w:World):Prop where
 ab:AB (w0.heap.size+4) w0.heap.size c n v e w
 l0:w.cell? ⟨w0.heap.size+3,0,none⟩=some vl
 lf:w.frozen? ⟨w0.heap.size+3,0,none⟩=false
 fl:ah (w0.heap.size+4) w vl L
 src:ke w0.heap.size w v l
 below:Below w0.heap.size w0 w
theorem RA.on{w0:World}{c n:Int}{v:Value}{l:List Fam}{e:E}{vl:Value}{L:List Fam}{w w':World}(h:RA w0 c n v l e vl L w)(hb:Below w.heap.size w w'):RA w0 c n v l e vl L w':=by
 have f:=h.ab.size;have b:Below (w0.heap.size+4) w w':=hb.mono f;exact⟨h.ab.on b,(b.cell (p:=(a_ (w0.heap.size+3) 0)) (Fj _)).trans h.l0,(b.frozen (p:=(a_ (w0.heap.size+3) 0)) (Fj _)).trans h.lf,h.fl.below hb (Fa _),h.src.on b (by omega),h.below.trans (b.mono (by omega))⟩
structure RB (w0:World) (c n:Int) (v:Value) (l:List Fam) (e:E) (vl:Value) (w:World):Prop where
 ab:AB (w0.heap.size+4) w0.heap.size c n v e w
 l0:w.cell? ⟨w0.heap.size+3,0,none⟩=some vl
 lf:w.frozen? ⟨w0.heap.size+3,0,none⟩=false
 src:ke w0.heap.size w v l
 below:Below w0.heap.size w0 w
variable {c n:Int}{e:E}{v vl:Value}
theorem RA.rb{L:List Fam}{w':World}(h:RA w0 c n v l e vl L w)(hb4:Below (w0.heap.size+4) w w'):RB w0 c n v l e vl w':=
 ⟨h.ab.on hb4,(hb4.cell (p:=(a_ (w0.heap.size+3) 0)) (Fj _)).trans h.l0,(hb4.frozen (p:=(a_ (w0.heap.size+3) 0)) (Fj _)).trans h.lf,h.src.on hb4 (by omega),h.below.trans (hb4.mono (by omega))⟩
theorem RB.put(h:RB w0 c n v l e vl w){vl':Value}{L':List Fam}(hf:ah (w0.heap.size+4) w vl' L'):RA w0 c n v l e vl' L' (w.setCell ⟨w0.heap.size+3,0,none⟩ vl'):=by
 have b:=h.ab;have f:∀g j,g≠w0.heap.size+3->(w.setCell (a_ (w0.heap.size+3) 0) vl').c_ g j=w.c_ g j:=fun g j hg=>Fm _ _ _ _ (by intro e; injection e with e _ _; exact hg e.symm)
 refine⟨⟨b.lt,by simpa using b.size,(f _ _ (by omega)).trans b.s0,(f _ _ (by omega)).trans b.s1,(f _ _ (by omega)).trans b.s2,b.ev.other (by show w0.heap.size+3≠w0.heap.size+1; omega) _,(f _ _ (by omega)).trans b.r0,(f _ _ (by omega)).trans b.r1,(f _ _ (by omega)).trans b.r2,fun i=>by rw[World.frozen?_setCell]; exact b.fs i,fun i=>by rw[World.frozen?_setCell]; exact b.fr i⟩,
  World.cell?_setCell_same _ _ _ h.l0,by rw[World.frozen?_setCell]; exact h.lf,hf.other (by show w0.heap.size+3<w0.heap.size+4; omega) _,h.src.set (by show w0.heap.size<=w0.heap.size+3; omega) _,h.below.setCell (by show w0.heap.size<=w0.heap.size+3; omega) _⟩
theorem qh(w:World)(c n:Int)(v:Value)(l:List Fam)(e:E)(h:ah B w v l)(t1 t2 t3 t4:TypeId):RA w c n v l e (.slice none 0 0) [] ((((w.alloc (.cells #[.int .i64 c,.int .i64 n,v] t1)).alloc (.cells #[.int .i64 e.kind,.int .i64 e.fam.id,.string e.fam.client,.string e.fam.subject,.string e.fam.scope,.int .i64 e.fam.gen,.int .i64 e.fam.made,.int .i64 e.fam.used,.string e.fam.request,.bool e.fam.dead,.int .i64 e.id,.int .i64 e.time] t2)).alloc (.cells #[.int .i64 0,.int .i64 0,.slice none 0 0] t3)).alloc (.cells #[.slice none 0 0] t4)):=by
 have b:Below w.heap.size w ((((w.alloc (.cells #[.i_ c,.i_ n,v] t1)).alloc (.cells (E_ e.kind e.fam.id e.fam.client e.fam.subject e.fam.scope e.fam.gen e.fam.made e.fam.used e.fam.request e.fam.dead e.id e.time) t2)).alloc (.cells (S_ 0 0 none 0 0) t3)).alloc (.cells #[.slice none 0 0] t4)):=by
  repeat (first | exact Below.refl _ _ | refine Below.alloc ?_ (by simp; try omega) _)
 have f:∀(W:World) (o:Obj) (g i:Nat),g<W.heap.size->(W.alloc o).frozen? (a_ g i)=W.frozen? (a_ g i):=fun W o g i hg=>((E9 W.heap.size W).alloc (Fa _) o).frozen (p:=(a_ g i)) hg;refine⟨⟨by omega,by simp,?_,?_,?_,?_,?_,?_,?_,fun i=>?_,fun i=>?_⟩,(World.cell?_alloc_at _ _ _ _ (by simp)).trans rfl,World.frozen?_alloc_at _ _ _ _ (by simp),ah.nil _ _,(BM h).on b (Nat.le_refl _),b⟩
 ·exact Lib.cell?_alloc_some _ (Lib.cell?_alloc_some _ (Lib.cell?_alloc_some _ ((Fb _ _ _ _ rfl).trans rfl)))
 ·exact Lib.cell?_alloc_some _ (Lib.cell?_alloc_some _ (Lib.cell?_alloc_some _ ((Fb _ _ _ _ rfl).trans rfl)))
 ·exact Lib.cell?_alloc_some _ (Lib.cell?_alloc_some _ (Lib.cell?_alloc_some _ ((Fb _ _ _ _ rfl).trans rfl)))
 ·exact ((bU _ e t2 _ (by simp)).on (bA _ _)).on (bA _ _)
 ·exact Lib.cell?_alloc_some _ ((World.cell?_alloc_at _ _ _ _ (by simp)).trans rfl)
 ·exact Lib.cell?_alloc_some _ ((World.cell?_alloc_at _ _ _ _ (by simp)).trans rfl)
 ·exact Lib.cell?_alloc_some _ ((World.cell?_alloc_at _ _ _ _ (by simp)).trans rfl)
 ·rw[f _ _ _ _ (by simp; omega),f _ _ _ _ (by simp; omega),f _ _ _ _ (by simp)]
  exact Ff _ _ _ _ rfl
 ·rw[f _ _ _ _ (by simp)]
  exact World.frozen?_alloc_at _ _ _ _ (by simp)
theorem m8(l:List Fam)(n:Int)(j:Nat)(hj:j<l.length):dropP (l.take (j+1)) n=dropP (l.take j) n ++ (if l[j].id=n then [] else [l[j]]):=by
 unfold dropP;rw[List.take_succ_eq_append_getElem hj,List.filter_append];congr 1
 by_cases h:l[j].id=n
 ·rw[if_pos h]
  simp[h]
 ·rw[if_neg h]
  simp[h]
theorem uL(c n:Int)(f:Fam)(h:ah B w v l)(hr:aP l)(hn:l.length<=5000)(hf:0<=f.id∧f.id<=1099511627776):
 Calls prog 141 #[stV c n v,evV ⟨1,f,0,0⟩] w fun r w'=>∃v',r=.returned (stV c (if n<=f.id then f.id+1 else n) v')∧ah w.heap.size w' v' (er l f)∧Below w.heap.size w w':=by
 obtain⟨i0,hi,hz0,hz1,hz2⟩:=dL;have R:Hid _:=qh w c n v l ⟨1,f,0,0⟩ h 36 154 36 34;have Y:Hid (∀d:List Fam,d.Perm (dropP l f.id ++ [f])->Asc d->d=er l f):=fun d h1 h2=>tK hr h1 h2;obtain⟨base,cap,rfl⟩:=h.slice;clear h hr;have HFI:Hid _:=hf;have HE:Hid _:=R.o.ab.ev;obtain⟨f1,f2,f3,f4,f5,f6,f7,f8,f9⟩:=f;unfold evV aX stV;simp only at hf ⊢;obtain⟨hf0,hf1⟩:=hf;go_enter func141,ntmps141
 go_wp2_with fail
 clear HE;go_loopg [24] l.length (fun gk iv wr=>∃(j:Nat) (vl:Value),j+gk=l.length∧iv=.i_ j∧Hid (RA w c n (.slice base l.length cap) l ⟨1,⟨f1,f2,f3,f4,f5,f6,f7,f8,f9⟩,0,0⟩ vl (dropP (l.take j) f1) wr))
 case atStart=>exact⟨0,_,by omega,rfl,R.o⟩
 case round=>
  obtain⟨j,vl,hj,rfl,HR⟩:=hrel;obtain⟨bl,cl,rfl⟩:=HR.out.fl.slice
  have Em:(dropP (l.take j) f1).length<=5000:=by
   have h1:=lZ (l.take j) f1;rw[List.length_take] at h1;omega
  have Z:Hid _:=hj;have hjl:j<=l.length:=by omega
  clear hj R;by_cases hlt:j<l.length
  ·have Eo:(j:Int)<(l.length:Int):=by omega
   obtain⟨g,rfl,hc⟩:=HR.out.src.fam j hlt;have Ed:Hid _:=m8 l f1 j hlt;generalize l[j]=y at *;obtain⟨y1,y2,y3,y4,y5,y6,y7,y8,y9⟩:=y;have U:=hc.c0; have V:=hc.c1; have X:=hc.c2; have q3:=hc.c3; have q4:=hc.c4; have q5:=hc.c5; have q6:=hc.c6; have q7:=hc.c7; have q8:=hc.c8;simp only at U V X q3 q4 q5 q6 q7 q8;have z:Hid (RA w c n _ l _ _ _ (wr.alloc (.cells (F_ y1 y2 y3 y4 y5 y6 y7 y8 y9) 40))):=HR.out.on ((E9 _ _).alloc (Fa _) _);have e0:=z.o.ab.ev.fam.c0;have e1:=z.o.l0;have e2:=z.o.lf;simp only at e0;clear hc;by_cases hid:y1=f1
   ·have A:Hid (dropP (l.take (j+1)) f1=dropP (l.take j) f1):=by show _=_; rw[Ed.o,if_pos hid,List.append_nil]
    have Ee:(y1 == f1)=true:=by rw[beq_iff_eq]; exact hid
    clear hid;go_wp2_with fail
    go_roundg (gk - 1)
    case measure=>have:=Z.o; omega
    case rel=>exact⟨j+1,_,by have:=Z.o; omega,by go_num,by show RA _ _ _ _ _ _ _ _ _; rw[A.o]; exact z.o⟩
   ·have A:Hid (dropP (l.take (j+1)) f1=dropP (l.take j) f1 ++ [⟨y1,y2,y3,y4,y5,y6,y7,y8,y9⟩]):=by show _=_; rw[Ed.o,if_neg hid]
    have Ee:(y1 == f1)=false:=by rw[beq_eq_false_iff_ne]; exact hid
    clear hid;have s:Hid (RA w c n _ l _ _ _ ((wr.alloc (.cells (F_ y1 y2 y3 y4 y5 y6 y7 y8 y9) 40)).alloc (.cells (F_ y1 y2 y3 y4 y5 y6 y7 y8 y9) 40))):=z.o.on ((E9 _ _).alloc (Fa _) _)
    have p:Src prog 9 34 (.slice (o_ (wr.heap.size+1) 0) 1 1) 1 (ac ⟨y1,y2,y3,y4,y5,y6,y7,y8,y9⟩) ((wr.alloc (.cells (F_ y1 y2 y3 y4 y5 y6 y7 y8 y9) 40)).alloc (.cells (F_ y1 y2 y3 y4 y5 y6 y7 y8 y9) 40)):=Src.ofSlice _ underlying34 (a_ (wr.heap.size+1) 0) 1 1 _ (by simp[bL]) (fun k u hk=>by
     rw[Addr.add_lit,Nat.zero_add,World.cell?_alloc_at _ _ _ _ (by simp)]
     simpa[ac] using hk) (cy _)
    go_wp2_with (at_builtin; refine bw _ rfl _ _ 34 rfl 40 i0 _ 9 i0.bytes underlying34 hi hz0 hz1 rfl df (w.heap.size+4) _ _ _ rfl s.o.fl s.o.ab.size _ 1 (ac ⟨y1,y2,y3,y4,y5,y6,y7,y8,y9⟩) rfl p (by omega) (by omega) ?_)
    intro v' w3 h7 h8 h9;have t:Hid _:=s.o.rb h8
    have C:ah (w.heap.size+4) w3 v' (dropP (l.take (j+1)) f1):=by
     show ag _ _ _ _ _ _
     rw[A.o,List.length_append,List.length_singleton,cV,fx];exact h7
    obtain⟨b3,c3,rfl⟩:=C.slice;have J:Hid _:=t.o.put C;have z1:=t.o.l0;have z2:=t.o.lf;clear h7 h8 h9 C p e0 e1 e2 U V X q3 q4 q5 q6 q7 q8;go_wp2_with fail
    go_roundg (gk - 1)
    case measure=>have:=Z.o; omega
    case rel=>exact⟨j+1,_,by have:=Z.o; omega,by go_num,J.o⟩
  ·obtain rfl:j=l.length:=by omega
   have T:=HR.out;rw[List.take_of_length_le (Nat.le_refl _)] at T Em;have o:Hid _:=T;clear T HR Z hlt;have e1:=o.o.l0;have e2:=o.o.lf;have a1:=o.o.ab.ev.fam.c0;have a2:=o.o.ab.ev.fam.c1;have a3:=o.o.ab.ev.fam.c2;have a4:=o.o.ab.ev.fam.c3;have a5:=o.o.ab.ev.fam.c4;have a6:=o.o.ab.ev.fam.c5;have a7:=o.o.ab.ev.fam.c6;have a8:=o.o.ab.ev.fam.c7;have a9:=o.o.ab.ev.fam.c8;simp only at a1 a2 a3 a4 a5 a6 a7 a8 a9;have s:Hid _:=o.o.on ((E9 _ _).alloc (Fa _) (.cells (F_ f1 f2 f3 f4 f5 f6 f7 f8 f9) 40))
   have p:Src prog 9 34 (.slice (o_ wr.heap.size 0) 1 1) 1 (ac ⟨f1,f2,f3,f4,f5,f6,f7,f8,f9⟩) (wr.alloc (.cells (F_ f1 f2 f3 f4 f5 f6 f7 f8 f9) 40)):=Src.ofSlice _ underlying34 (a_ wr.heap.size 0) 1 1 _ (by simp[bL]) (fun k u hk=>by
    rw[Addr.add_lit,Nat.zero_add,World.cell?_alloc_at _ _ _ _ rfl];simpa[ac] using hk) (cy _)
   go_wp2_with (at_builtin; refine bw _ rfl _ _ 34 rfl 40 i0 _ 9 i0.bytes underlying34 hi hz0 hz1 rfl df (w.heap.size+4) _ _ _ rfl s.o.fl s.o.ab.size _ 1 (ac ⟨f1,f2,f3,f4,f5,f6,f7,f8,f9⟩) rfl p (by omega) (by omega) ?_)
   intro v' w3 h7 h8 h9;have t:Hid _:=s.o.rb h8
   have C:ah (w.heap.size+4) w3 v' (dropP l f1 ++ [⟨f1,f2,f3,f4,f5,f6,f7,f8,f9⟩]):=by
    show ag _ _ _ _ _ _
    rw[List.length_append,List.length_singleton,cV,fx];exact h7
   have N:(dropP l f1 ++ [(⟨f1,f2,f3,f4,f5,f6,f7,f8,f9⟩:Fam)]).length<=100000:=by rw[List.length_append,List.length_singleton]; omega
   have Ef:Hid _:=Y.o;have Eg:0<(dropP l f1 ++ [(⟨f1,f2,f3,f4,f5,f6,f7,f8,f9⟩:Fam)]).length:=by simp
   have Eh:(dropP l f1 ++ [(⟨f1,f2,f3,f4,f5,f6,f7,f8,f9⟩:Fam)]).length=(dropP l f1 ++ [(⟨f1,f2,f3,f4,f5,f6,f7,f8,f9⟩:Fam)]).length:=rfl;clear Y;generalize dropP l f1 ++ [(⟨f1,f2,f3,f4,f5,f6,f7,f8,f9⟩:Fam)]=L at *;rcases C with ⟨_,h0,_⟩ | ⟨gl,c3,rfl,hrow⟩
   ·omega
   have J:Hid _:=t.o.put (.inr ⟨gl,c3,rfl,hrow⟩);have z1:=t.o.l0;have z2:=t.o.lf;have z3:=J.o.l0;have En:w.heap.size+4<=gl:=hrow.new;have E:cF 9 (w.heap.size+4) (w3.setCell (a_ (w.heap.size+3) 0) (.slice (o_ gl 0) L.length c3)) gl c3 L.length (aq L):=hrow.block (by simp[World.setCell]) (Below.heap_setCell _ _ _ _ (by show gl≠w.heap.size+3; omega))
   have F:=xY E N z3 (by omega)
   clear h7 h8 h9 hrow E p e1 e2 a1 a2 a3 a4 a5 a6 a7 a8 a9 Eg Eh N;go_wp2_with fail
   refine F.mono ?_;rintro e5 w5 ⟨rfl,d,hd1,hd2,hd3,hd4⟩;obtain rfl:d=er l ⟨f1,f2,f3,f4,f5,f6,f7,f8,f9⟩:=Ef.o d hd1 hd2;have m:Hid _:=J.o.rb hd4;have Ei:=hd1.length_eq;generalize hpp:er l ⟨f1,f2,f3,f4,f5,f6,f7,f8,f9⟩=D at *;have Ej:Hid _:=hpp;have Ek:Hid (ag 9 (w.heap.size+4) w5 (.slice (o_ gl 0) L.length c3) D.length (aq D)):=.inr ⟨gl,c3,by rw[Ei],hd3⟩
   clear Ei hpp;have s0:=m.o.ab.s0;have s1:=m.o.ab.s1;have s2:=m.o.ab.s2;have k1:=m.o.ab.ev.fam.c0;have fz:=m.o.ab.fs;have fr:∀i,w5.frozen? (a_ (w.heap.size+1+1) i)=false:=m.o.ab.fr;have r0:w5.cell? (a_ (w.heap.size+1+1) 0)=_:=m.o.ab.r0;have r1:w5.cell? (a_ (w.heap.size+1+1) 1)=_:=m.o.ab.r1;have r2:w5.cell? (a_ (w.heap.size+1+1) 2)=_:=m.o.ab.r2;have l0:=m.o.l0;have El:Hid _:=m.o.below;simp only at k1;have O:Hid (∀(W:World) (g i:Nat) (u:Value),g<w.heap.size+4->ag 9 (w.heap.size+4) W (.slice (o_ gl 0) L.length c3) D.length (aq D)->ag 9 (w.heap.size+4) (W.setCell (a_ g i) u) (.slice (o_ gl 0) L.length c3) D.length (aq D)):=fun W g i u hg hw=>hw.other (a:=(a_ g i)) hg u;clear hd1 hd2 hd3 hd4 z1 z2 z3 En F m;generalize hb:w.heap.size=b at *;have M:Hid _:=hb;clear hb;by_cases hnx:n<=f1
   ·have HX:Hid ((if n<=f1 then f1+1 else n)=f1+1):=if_pos hnx
    have G:Hid (ag 9 b (((((w5.setCell (a_ b 1) (.i_ (f1+1))).setCell (a_ b 2) (.slice (o_ gl 0) L.length c3)).setCell (a_ (b+1+1) 0) (.i_ c)).setCell (a_ (b+1+1) 1) (.i_ (f1+1))).setCell (a_ (b+1+1) 2) (.slice (o_ gl 0) L.length c3)) (.slice (o_ gl 0) L.length c3) D.length (aq D)):=by
     refine ag.mono (B:=b+4) ?_ (by omega)
     repeat (first | exact Ek.o | refine O.o _ _ _ _ (by omega) ?_)
    have H:Hid (Below b w (((((w5.setCell (a_ b 1) (.i_ (f1+1))).setCell (a_ b 2) (.slice (o_ gl 0) L.length c3)).setCell (a_ (b+1+1) 0) (.i_ c)).setCell (a_ (b+1+1) 1) (.i_ (f1+1))).setCell (a_ (b+1+1) 2) (.slice (o_ gl 0) L.length c3))):=by
     show Below _ _ _
     repeat (first | exact El.o | refine Below.setCell ?_ (by simp; try omega) _)
    go_wp2_with fail
    obtain⟨U,V,X⟩:=@bB ((w5.setCell (a_ b 1) (.i_ (f1+1))).setCell (a_ b 2) (.slice (o_ gl 0) L.length c3)) (b+1+1) (.i_ c) (.i_ (f1+1)) (.slice (o_ gl 0) L.length c3) _ _ _ (aj (aj r0 (by omega)) (by omega)) (aj (aj r1 (by omega)) (by omega)) (aj (aj r2 (by omega)) (by omega))
    have q:=G.o;have I:=H.o;clear G H s0 s1 s2 fz fr r0 r1 r2 l0;generalize World.setCell _ (a_ (b+1+1) 2) _=WW at *;exact bodyPost_ret (v:=.agg (S_ c (f1+1) (o_ gl 0) L.length c3)) (by simp[results,results141,go_sem,U,V,X]) rfl ⟨_,rfl,by rw[M.o]; first | exact q | (rw[Ej.o]; exact q),by rw[M.o]; exact I⟩
   ·have HX:Hid ((if n<=f1 then f1+1 else n)=n):=if_neg hnx
    have Ep:¬ n<=f1:=hnx
    have G:Hid (ag 9 b ((((w5.setCell (a_ b 2) (.slice (o_ gl 0) L.length c3)).setCell (a_ (b+1+1) 0) (.i_ c)).setCell (a_ (b+1+1) 1) (.i_ n)).setCell (a_ (b+1+1) 2) (.slice (o_ gl 0) L.length c3)) (.slice (o_ gl 0) L.length c3) D.length (aq D)):=by
     refine ag.mono (B:=b+4) ?_ (by omega)
     repeat (first | exact Ek.o | refine O.o _ _ _ _ (by omega) ?_)
    have H:Hid (Below b w ((((w5.setCell (a_ b 2) (.slice (o_ gl 0) L.length c3)).setCell (a_ (b+1+1) 0) (.i_ c)).setCell (a_ (b+1+1) 1) (.i_ n)).setCell (a_ (b+1+1) 2) (.slice (o_ gl 0) L.length c3))):=by
     show Below _ _ _
     repeat (first | exact El.o | refine Below.setCell ?_ (by simp; try omega) _)
    go_wp2_with fail
    obtain⟨U,V,X⟩:=@bB (w5.setCell (a_ b 2) (.slice (o_ gl 0) L.length c3)) (b+1+1) (.i_ c) (.i_ n) (.slice (o_ gl 0) L.length c3) _ _ _ (aj r0 (by omega)) (aj r1 (by omega)) (aj r2 (by omega))
    have q:=G.o;have I:=H.o;clear G H s0 s1 s2 fz fr r0 r1 r2 l0;generalize World.setCell _ (a_ (b+1+1) 2) _=WW at *;exact bodyPost_ret (v:=.agg (S_ c n (o_ gl 0) L.length c3)) (by simp[results,results141,go_sem,U,V,X]) rfl ⟨_,rfl,by rw[M.o]; first | exact q | (rw[Ej.o]; exact q),by rw[M.o]; exact I⟩
theorem uM(c n d:Int)(h:ah B w v l)(hn:l.length<=5000):
 Calls prog 141 #[stV c n v,evV ⟨2,zeroF,d,0⟩] w fun r w'=>∃v',r=.returned (stV c n v')∧ah w.heap.size w' v' (dropP l d)∧Below w.heap.size w w':=by
 obtain⟨i0,hi,hz0,hz1,hz2⟩:=dL;have p:Hid _:=qh w c n v l ⟨2,zeroF,d,0⟩ h 36 154 36 34;obtain⟨base,cap,rfl⟩:=h.slice;clear h;have HE:Hid _:=p.o.ab.ev;have q:Hid _:=p.o;unfold evV aX stV;unfold zeroF at q;simp only[zeroF];simp only at q;go_enter func141,ntmps141
 go_wp2_with fail
 clear HE;go_loopg [64] l.length (fun gk iv wr=>∃(j:Nat) (vl:Value),j+gk=l.length∧iv=.i_ j∧Hid (RA w c n (.slice base l.length cap) l ⟨2,zeroF,d,0⟩ vl (dropP (l.take j) d) wr))
 case atStart=>exact⟨0,_,by omega,rfl,p.o⟩
 case round=>
  obtain⟨j,vl,hj,rfl,HR⟩:=hrel;obtain⟨bl,cl,rfl⟩:=HR.out.fl.slice
  have F:(dropP (l.take j) d).length<=5000:=by
   have h1:=lZ (l.take j) d;rw[List.length_take] at h1;omega
  have G:Hid _:=hj;have hjl:j<=l.length:=by omega
  clear hj p;by_cases hlt:j<l.length
  ·have Ed:(j:Int)<(l.length:Int):=by omega
   obtain⟨g,rfl,hc⟩:=HR.out.src.fam j hlt;have H:Hid _:=m8 l d j hlt;generalize l[j]=y at *;obtain⟨y1,y2,y3,y4,y5,y6,y7,y8,y9⟩:=y;have R:=hc.c0; have T:=hc.c1; have U:=hc.c2; have q3:=hc.c3; have q4:=hc.c4; have q5:=hc.c5; have q6:=hc.c6; have q7:=hc.c7; have q8:=hc.c8;simp only at R T U q3 q4 q5 q6 q7 q8;have m:Hid (RA w c n _ l _ _ _ (wr.alloc (.cells (F_ y1 y2 y3 y4 y5 y6 y7 y8 y9) 40))):=HR.out.on ((E9 _ _).alloc (Fa _) _);have e0:=m.o.ab.ev.c10;have e1:=m.o.l0;have e2:=m.o.lf;simp only at e0;clear hc;by_cases hid:y1=d
   ·have o:Hid (dropP (l.take (j+1)) d=dropP (l.take j) d):=by show _=_; rw[H.o,if_pos hid,List.append_nil]
    have I:(y1 == d)=true:=by rw[beq_iff_eq]; exact hid
    clear hid;go_wp2_with fail
    go_roundg (gk - 1)
    case measure=>have:=G.o; omega
    case rel=>exact⟨j+1,_,by have:=G.o; omega,by go_num,by show RA _ _ _ _ _ _ _ _ _; rw[o.o]; exact m.o⟩
   ·have o:Hid (dropP (l.take (j+1)) d=dropP (l.take j) d ++ [⟨y1,y2,y3,y4,y5,y6,y7,y8,y9⟩]):=by show _=_; rw[H.o,if_neg hid]
    have I:(y1 == d)=false:=by rw[beq_eq_false_iff_ne]; exact hid
    clear hid;have z:Hid (RA w c n _ l _ _ _ ((wr.alloc (.cells (F_ y1 y2 y3 y4 y5 y6 y7 y8 y9) 40)).alloc (.cells (F_ y1 y2 y3 y4 y5 y6 y7 y8 y9) 40))):=m.o.on ((E9 _ _).alloc (Fa _) _)
    have s:Src prog 9 34 (.slice (o_ (wr.heap.size+1) 0) 1 1) 1 (ac ⟨y1,y2,y3,y4,y5,y6,y7,y8,y9⟩) ((wr.alloc (.cells (F_ y1 y2 y3 y4 y5 y6 y7 y8 y9) 40)).alloc (.cells (F_ y1 y2 y3 y4 y5 y6 y7 y8 y9) 40)):=Src.ofSlice _ underlying34 (a_ (wr.heap.size+1) 0) 1 1 _ (by simp[bL]) (fun k u hk=>by
     rw[Addr.add_lit,Nat.zero_add,World.cell?_alloc_at _ _ _ _ (by simp)]
     simpa[ac] using hk) (cy _)
    go_wp2_with (at_builtin; refine bw _ rfl _ _ 34 rfl 40 i0 _ 9 i0.bytes underlying34 hi hz0 hz1 rfl df (w.heap.size+4) _ _ _ rfl z.o.fl z.o.ab.size _ 1 (ac ⟨y1,y2,y3,y4,y5,y6,y7,y8,y9⟩) rfl s (by omega) (by omega) ?_)
    intro v' w3 h7 h8 h9;have A:Hid _:=z.o.rb h8
    have C:ah (w.heap.size+4) w3 v' (dropP (l.take (j+1)) d):=by
     show ag _ _ _ _ _ _
     rw[o.o,List.length_append,List.length_singleton,cV,fx];exact h7
    obtain⟨b3,c3,rfl⟩:=C.slice;have V:Hid _:=A.o.put C;have z1:=A.o.l0;have z2:=A.o.lf;clear h7 h8 h9 C s e0 e1 e2 R T U q3 q4 q5 q6 q7 q8;go_wp2_with fail
    go_roundg (gk - 1)
    case measure=>have:=G.o; omega
    case rel=>exact⟨j+1,_,by have:=G.o; omega,by go_num,V.o⟩
  ·obtain rfl:j=l.length:=by omega
   have E:=HR.out;rw[List.take_of_length_le (Nat.le_refl _)] at E F;have f:Hid _:=E;clear E HR G hlt;generalize hpp:dropP l d=D at *;have X:Hid _:=hpp;have Y:Hid _:=f.o.fl;have s0:=f.o.ab.s0;have s1:=f.o.ab.s1;have s2:=f.o.ab.s2;have fz:=f.o.ab.fs;have fr:∀i,wr.frozen? (a_ (w.heap.size+1+1) i)=false:=f.o.ab.fr;have r0:wr.cell? (a_ (w.heap.size+1+1) 0)=_:=f.o.ab.r0;have r1:wr.cell? (a_ (w.heap.size+1+1) 1)=_:=f.o.ab.r1;have r2:wr.cell? (a_ (w.heap.size+1+1) 2)=_:=f.o.ab.r2;have l0:=f.o.l0;have Z:Hid _:=f.o.below;have J:Hid (∀(W:World) (g i:Nat) (u:Value),g<w.heap.size+4->ah (w.heap.size+4) W (.slice bl D.length cl) D->ah (w.heap.size+4) (W.setCell (a_ g i) u) (.slice bl D.length cl) D):=fun W g i u hg hw=>hw.other (a:=(a_ g i)) hg u;clear hpp f F;generalize hb:w.heap.size=b at *;have L:Hid _:=hb;clear hb
   have M:Hid (ah b ((((wr.setCell (a_ b 2) (.slice bl D.length cl)).setCell (a_ (b+1+1) 0) (.i_ c)).setCell (a_ (b+1+1) 1) (.i_ n)).setCell (a_ (b+1+1) 2) (.slice bl D.length cl)) (.slice bl D.length cl) D):=by
    refine ag.mono (B:=b+4) ?_ (by omega)
    repeat (first | exact Y.o | refine J.o _ _ _ _ (by omega) ?_)
   have N:Hid (Below b w ((((wr.setCell (a_ b 2) (.slice bl D.length cl)).setCell (a_ (b+1+1) 0) (.i_ c)).setCell (a_ (b+1+1) 1) (.i_ n)).setCell (a_ (b+1+1) 2) (.slice bl D.length cl))):=by
    show Below _ _ _
    repeat (first | exact Z.o | refine Below.setCell ?_ (by simp; try omega) _)
   go_wp2_with fail
   obtain⟨R,T,U⟩:=@bB (wr.setCell (a_ b 2) (.slice bl D.length cl)) (b+1+1) (.i_ c) (.i_ n) (.slice bl D.length cl) _ _ _ (aj r0 (by omega)) (aj r1 (by omega)) (aj r2 (by omega))
   have t:=M.o;have O:=N.o;clear M N s0 s1 s2 fz fr r0 r1 r2 l0;generalize World.setCell _ (a_ (b+1+1) 2) _=WW at *;exact bodyPost_ret (v:=.agg (S_ c n bl D.length cl)) (by simp[results,results141,go_sem,R,T,U]) rfl ⟨_,rfl,by rw[L.o]; first | exact t | (rw[X.o]; exact t),by rw[L.o]; exact O⟩
end Go.Proofs.YtlailakofhenkabGreatDoor
