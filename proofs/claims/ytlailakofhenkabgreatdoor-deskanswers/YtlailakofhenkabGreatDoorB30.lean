import Derived.Test.YtlailakofhenkabGreatDoorB27
import Derived.Test.YtlailakofhenkabGreatDoorB28
import Derived.Test.YtlailakofhenkabGreatDoorB29
set_option maxRecDepth 100000
set_option maxHeartbeats 8000000
namespace Go.Proofs.YtlailakofhenkabGreatDoor
open Go Go.RowKit Go.Maps Go.WideMaps Tok Sc Ev Tryz
abbrev js(W:World)(gk gm:Nat):Prop:=di W gk gm aC
theorem Do:(prog.info? 253).map (fun i=>i.zero)=some (some (.agg #[.nilFunc,.slice none 0 0])):=by kernel_rfl
theorem DV(w:World):(zeroValue 253).run prog w=.ok (.agg #[.nilFunc,.slice none 0 0]) w:=by
 have h:=Do
 cases hi:prog.info? 253 with
 |none=>rw[hi] at h; cases h
 |some i=>
  rw[hi] at h;simp only[Option.map_some,Option.some.injEq] at h;simp[zeroValue,typeInfo,hi,h]
theorem Dp:∀c∈aC,∃row∈cE,row.1=c:=by
 intro c hc;obtain⟨row,h1,h2⟩:=List.mem_map.1 hc;exact⟨row,h1,h2⟩
def eL:List Word:= [dS,dF,bj,fV,cu,cY,fJ,cA,dg,bM,aR,cC,cI,bY,gT,dd,dh,bC]
theorem Ay(f:Word->Value):strKeys (fj f (.map []) aC)=eL:=by kernel_rfl
theorem sy(f:Word->Value):Maps.size (fj f (.map []) aC)=18:=by kernel_rfl
theorem uz{ss:List Word}(h:ss.Perm eL):ss.mergeSort (fun x y=>decide (x<=y))=eL:=by
 have f:=(List.mergeSort_perm ss (fun x y=>decide (x<=y))).trans h;have g:(ss.mergeSort (fun x y=>decide (x<=y))).Pairwise (fun x y=>decide (x<=y)=true):=List.pairwise_mergeSort (fun a b c h1 h2=>by simp only[decide_eq_true_eq] at *; exact List.le_trans h1 h2) (fun a b=>by simpa using List.le_total a b) ss
 refine List.Perm.eq_of_pairwise (le:=fun x y=>decide (x<=y)=true) (fun a b _ _ h1 h2=>by simp only[decide_eq_true_eq] at *; exact List.le_antisymm h1 h2) g ?_ f
 decide
theorem Az(w:World)(gk gm gd gs gv:Nat)(r:Rul)(bt bn:Option Addr)(nt ct nn cn:Nat)(hD:DAt w gk gd gs gv gm r)(hO:js w gk gm):
 Calls prog 244 #[p_ gk 0,.agg #[.slice bt nt ct,.slice bn nn cn]] w fun e w'=>e=.returned (.string ⟨vW.toArray⟩)∧Below w.heap.size w w':=by
 have j:=bA w (.cells #[.slice bt nt ct,.slice bn nn cn] 256);have p:J _:=j;have A:=(hD.on j).c7;obtain⟨f,hown,-⟩:=(hO.on j).run;have b:=callsIn_wide.1 (slices_Sorted_keys_303_304 gm _ _ fi _ hown (by rw[sy]; unfold maxLen; omega) (by rw[sy]; omega))
 simp only[World.size_alloc,Ay] at b;have q:J _:=b;clear hD hO j hown b;go_enter func244,ntmps244
 go_wp2_with fail;go_at_call 304;refine (callsIn_wide.1 (Tryz.maps_Keys_304 _ _)).mono ?_;rintro e1 w1 ⟨rfl,rfl⟩;go_wp2_with fail;go_at_call 303;refine Calls.mono q.o ?_;rintro e2 w2 ⟨v,ss,rfl,hp,hrow,hnil,hb2⟩;have s:=uz hp;have k:ss.length=18:=hp.length_eq
 have t:aw w.heap.size w2 v (eL.map Ev.bs):=by
  rw[s,k] at hrow;rcases hrow.2 with ⟨h1,-⟩ | ⟨g,cap,cur,rfl,h2⟩
  ·have:=hnil.1 h1
   rw[this] at k
   cases k
  ·have c:=kT (n:=18) hrow
   exact .inr ⟨g,cap,rfl,⟨by have:=c.new; omega,c.lt,c.len,c.le,c.max,c.holds,c.there⟩⟩
 have B:J _:=t;have m:J _:=(p.o.alloc p.o.size _).trans (hb2.mono (by omega))
 have z:J (Lib.join ((eL.map Ev.bs).map (·.data.toList)) [32]=vW):=by show _=_; kernel_rfl
 clear s k hp hrow hnil hb2 t q A;go_wp2_with fail;go_at_call 114;refine (pY ⟨#[32]⟩ B.o (by rw[show (⟨#[32]⟩:ByteArray).data.toList= [32] from rfl,z.o]; decide) (by simp[eL])).mono ?_
 rintro e3 w3 ⟨rfl,hb3⟩;rw[show (⟨#[32]⟩:ByteArray).data.toList= [32] from rfl,z.o]
 have o:J _:=m.o.tm hb3;clear hb3;go_wp2_with fail;go_ret;exact⟨rfl,o.o⟩
variable {v:Value}{w w':World}
theorem DkI.laidM{N:Nat}{w3:World}{gk gd gs gv gm:Nat}{r:Rul}{p:Pub}{c:Nat->Value}(hsv:be N w3 gv gs gd r p v)(hb:Below w.heap.size w w3)(hk:af [gk] w3 w')(hgs:w.heap.size<=gs)(hx:Bx w' gk c)(h0:c 0=.pointer (some ⟨gd,0,none⟩))(h1:c 1=.pointer (some ⟨gs,0,none⟩))(h2:c 2=.pointer (some ⟨gv,0,none⟩))(h3:c 3=.int .i64 r.key)(h4:c 4=.int .i64 r.idle)(h5:c 5=.int .i64 r.life)(h6:c 6=.int .i64 r.access)(h7:c 7=.map (some gm))(ho:bE gk)(hkl:gk<w.heap.size)(hml:gm<w'.heap.size)(hm3:w3.heap.size<=gm)(hkd:gk≠gd):DkI N w' gk gd gs gv gm r p v:=by
 have j:=hsv.ord;have k:=hb.size;have b:=hsv.sp.fam;have m:=hsv.sp.lt;have f:=hsv.sp.ord;have g:az v gk:=az.above b (by omega)
 have n:az v gm:=az.past b hm3;refine⟨hsv.elsewhereB hk (B:=gk) (by omega) ho (fun x hx=>?_),hx.dat h0 h1 h2 h3 h4 h5 h6 h7,⟨hkd,by omega,by omega,by omega⟩,⟨g,n⟩,hml⟩
 obtain rfl:x=gk:=by simpa using hx
 exact⟨Fa _,hkd,by omega,by omega,g⟩
def deskZ:Nat->Value
 |0=>.pointer none
 |1=>.pointer none
 |2=>.pointer none
 |3=>.int .i64 0
 |4=>.int .i64 0
 |5=>.int .i64 0
 |6=>.int .i64 0
 |_=>.map none
theorem Ch(w:World)(t:TypeId):Bx (w.alloc (.cells #[.pointer none,.pointer none,.pointer none,.int .i64 0,.int .i64 0,.int .i64 0,.int .i64 0,.map none] t)) w.heap.size deskZ:=by
 refine⟨fun i hi=>?_,fun i=>World.frozen?_alloc_at _ _ _ _ rfl,by simp⟩
 rw[World.cell?_alloc_at _ _ _ _ rfl];match i,hi with
 |0,_=>rfl
 |1,_=>rfl
 |2,_=>rfl
 |3,_=>rfl
 |4,_=>rfl
 |5,_=>rfl
 |6,_=>rfl
 |7,_=>rfl
theorem uA(w:World)(hL:av w)(hO:bE w.heap.size):
 Calls prog 97 #[] w fun e w'=>∃gd gs gv gm v,e=.returned (.pointer (some ⟨w.heap.size,0,none⟩))∧DkI 0 w' w.heap.size gd gs gv gm ⟨1,20,100,5⟩ fU v∧js w' w.heap.size gm∧Below w.heap.size w w'∧w.heap.size<=gd:=by
 have f:Below w.heap.size w (w.alloc (.cells #[.pointer none,.pointer none,.pointer none,.i_ 0,.i_ 0,.i_ 0,.i_ 0,.map none] 242)):=(E9 _ _).alloc (Fa _) _;have g:(w.alloc (.cells #[.pointer none,.pointer none,.pointer none,.i_ 0,.i_ 0,.i_ 0,.i_ 0,.map none] 242)).heap.size=w.heap.size+1:=by simp
 have b:Below (w.heap.size+1) (w.alloc (.cells #[.pointer none,.pointer none,.pointer none,.i_ 0,.i_ 0,.i_ 0,.i_ 0,.map none] 242)) ((w.alloc (.cells #[.pointer none,.pointer none,.pointer none,.i_ 0,.i_ 0,.i_ 0,.i_ 0,.map none] 242)).alloc (.cells Tryz.zeroCells28 28)):=(Below.refl _ _).alloc (by simp) _
 have m:=pO (w.alloc (.cells #[.pointer none,.pointer none,.pointer none,.i_ 0,.i_ 0,.i_ 0,.i_ 0,.map none] 242)) (hL.on f).toA (hL.on f).base.err (hO.mono f.size).toA;rw[g] at m;have n:Hid _:=m;have o:Hid _:=(hL.on f).on (g ▸ b);have q:=Ch w 242;have r:Hid _:=q.on (g ▸ b);have F:Hid (Below w.heap.size w ((w.alloc (.cells #[.pointer none,.pointer none,.pointer none,.i_ 0,.i_ 0,.i_ 0,.i_ 0,.map none] 242)).alloc (.cells Tryz.zeroCells28 28))):=f.alloc (by simp) _
 have G:Hid (bE w.heap.size):=hO;have s:Hid (((w.alloc (.cells #[.pointer none,.pointer none,.pointer none,.i_ 0,.i_ 0,.i_ 0,.i_ 0,.map none] 242)).alloc (.cells Tryz.zeroCells28 28)).heap.size=w.heap.size+1+1):=by show _=_; simp
 clear f g b m q hL hO;go_enter func97,ntmps97
 go_wp2_with fail
 go_at_call 146
 refine (pW 0 _ w.heap.size (w.heap.size+1) 1 20 100 5 deskZ _ n.o (by omega) o.o (ko (by decide)) (G.o.mono (FC _)) r.o (by omega)).mono ?_
 rintro e1 w1 ⟨rfl,gs,gv,v,w3,hsv,hb3,hk3,hgs,hgv,c',hx,q0,q1,q2,q3,q4,q5,q6,q7⟩;have t:Hid _:=hx;have C:Hid _:=q0
 have I:Hid (∀(W:World) (gm:Nat) (c:Nat->Value),af [w.heap.size] w1 W->w1.heap.size<=gm->gm<W.heap.size->Bx W w.heap.size c->(∀i,i<7->c i=c' i)->c 7=.map (some gm)->DkI 0 W w.heap.size (w.heap.size+1) gs gv gm ⟨1,20,100,5⟩ fU v∧Below w.heap.size w W):=fun W gm c hkW hgm1 hgm2 hxW hc hc7=>by
  have h2:=s.o;have z:af [w.heap.size] w3 W:=hk3.trans hkW;refine⟨DkI.laidM hsv hb3 z hgs hxW ((hc 0 (by omega)).trans q0) ((hc 1 (by omega)).trans q1) ((hc 2 (by omega)).trans q2) ((hc 3 (by omega)).trans q3) ((hc 4 (by omega)).trans q4) ((hc 5 (by omega)).trans q5) ((hc 6 (by omega)).trans q6) hc7 G.o (by omega) hgm2 (by have:=hk3.size; omega) (by omega),?_⟩
  have H:Below w.heap.size w w3:=F.o.trans (hb3.mono (by omega))
  exact H.trans (z.below H.size (by simp))
 clear hsv hb3 hk3 hgs hgv hx q0 q1 q2 q3 q4 q5 q6 q7 n o r F s;go_wp2_with fail
 go_at_call 147
 refine (pX w1 w.heap.size).mono ?_;rintro e2 w2 ⟨rfl,hord,b⟩;have j:=t.o.on b;have A:Hid _:=j;have B:Hid _:=hord;have D:Hid _:=b;have r7:=j.at' 7 (by omega)
 have f7:=j.fz 7;clear hord b j;go_wp2_with fail
 have J:Hid (∃gd gs gv gm v,DkI 0 (w2.setCell (a_ w.heap.size 7) (.map (some w1.heap.size))) w.heap.size gd gs gv gm ⟨1,20,100,5⟩ fU v∧js (w2.setCell (a_ w.heap.size 7) (.map (some w1.heap.size))) w.heap.size gm∧Below w.heap.size w (w2.setCell (a_ w.heap.size 7) (.map (some w1.heap.size)))∧w.heap.size<=gd):=by
  have E:af [w.heap.size] w2 (w2.setCell (a_ w.heap.size 7) (.map (some w1.heap.size))):=(af.refl _ _).setCell (p:=(a_ w.heap.size 7)) (.inl (by simp)) _
  have L:=t.o.lt;obtain⟨z1,z2⟩:=I.o _ w1.heap.size _ ((af.of _ D.o).trans E) (Nat.le_refl _) (Nat.lt_of_lt_of_le B.o.lt E.size) (A.o.set 7 (.map (some w1.heap.size))) (fun i hi=>if_neg (by omega)) (by simp)
  refine⟨_,_,_,w1.heap.size,_,z1,B.o.keep E (by simp; omega) (fun x hx k=>?_),z2,FC _⟩
  obtain rfl:x=w.heap.size:=by simpa using hx
  rw[A.o.at' 0 (by omega),C.o]
  simp
 obtain⟨gd2,gs2,gv2,gm2,v2,z1,z2,z3,z4⟩:=J.o;exact bodyPost_ret (v:=p_ w.heap.size 0) (by simp[results,results97,go_sem]) rfl ⟨gd2,gs2,gv2,gm2,v2,rfl,z1,z2,z3,z4⟩
open RegD
attribute [local go_sem] rA oA
structure NX (w:World) (g:Nat) (s:St) (v:Value):Prop where
 c0:w.cell? ⟨g,0,none⟩=some (.int .i64 s.clock)
 c1:w.cell? ⟨g,1,none⟩=some (.int .i64 s.next)
 c2:w.cell? ⟨g,2,none⟩=some v
 fam:ah 0 w v s.fams
 lt:g<w.heap.size
variable {g:Nat}{s:St}
theorem NX.on(h:NX w g s v)(hb:Below w.heap.size w w'):NX w' g s v:=
 ⟨(hb.cell (p:=(a_ g 0)) h.lt).trans h.c0,(hb.cell (p:=(a_ g 1)) h.lt).trans h.c1,(hb.cell (p:=(a_ g 2)) h.lt).trans h.c2,ag.below h.fam hb (Fa _),Fd h.lt hb.size⟩
theorem NX.belowB{B:Nat}(h:NX w g s v)(hb:Below B w w')(hg:g<B)(hv:∀k,B<=k->az v k):NX w' g s v:=by
 refine⟨(hb.cell (p:=(a_ g 0)) hg).trans h.c0,(hb.cell (p:=(a_ g 1)) hg).trans h.c1,(hb.cell (p:=(a_ g 2)) hg).trans h.c2,?_,Fd h.lt hb.size⟩;rcases h.fam with h1 | ⟨q,c,h1,h2⟩
 ·exact .inl h1
 ·refine .inr ⟨q,c,h1,h2.block hb.size (hb.block q ?_)⟩
  rcases FF q B with hq | hq
  ·exact hq
  ·exact absurd rfl (hv q hq q 0 _ c h1)
theorem kp(sep:List UInt8)(m:Nat)(h:sep.length<=m):∀(xs:List (List UInt8)),(∀x∈xs,x.length<=m)->(Lib.join xs sep).length<=xs.length*(2*m)
 |[],_=>by simp[Lib.join]
 |[x],hx=>by
  have:=hx x (by simp)
  simp[Lib.join]
  omega
 |x::y::xs,hx=>by
  have h1:=hx x (by simp)
  have b:=kp sep m h (y::xs) (fun z hz=>hx z (by simp[hz]))
  have e:Lib.join (x::y::xs) sep=x ++ (sep ++ Lib.join (y::xs) sep):=by simp[Lib.join,List.intercalate,List.intersperse]
  rw[e,List.length_append,List.length_append];simp only[List.length_cons] at b ⊢;rw[Nat.add_mul];omega
theorem jN{f:Fam}(h:bP f):(famL f).length<=1000:=by
 have d1:=ar h.1.1;have d2:=ar h.1.2.1;have d3:=ar h.1.2.2.1;have d4:=ar h.1.2.2.2;have n1:=(cx.1 h.2.1).2.2;have n2:=(cx.1 h.2.2.1).2.2
 have n3:(wordL f.request.data.toList).length<=50:=by
  unfold wordL;rcases h.2.2.2.1 with hr | hr
  ·rw[if_pos hr]; simp
  ·have:=(cx.1 hr).2.2
   split
   ·simp
   ·omega
 have n4:(wordL f.scope.data.toList).length<=50:=by
  unfold wordL
  have:=lw h.2.2.2.2;split
  ·simp
  ·omega
 have h8:=kp [32] 50 (by simp) ([Lib.itoa f.id,f.client.data.toList,f.subject.data.toList,wordL f.scope.data.toList,Lib.itoa f.gen,Lib.itoa f.made,Lib.itoa f.used,wordL f.request.data.toList] ++ if f.dead=true then [[100,101,97,100]] else []) (by
  intro x hx;simp only[List.mem_append,List.mem_cons,List.not_mem_nil,or_false] at hx;rcases hx with (rfl | rfl | rfl | rfl | rfl | rfl | rfl | rfl) | hx
  ·omega
  ·omega
  ·omega
  ·omega
  ·omega
  ·omega
  ·omega
  ·omega
  ·split at hx
   ·simp at hx; subst hx; simp
   ·cases hx)
 have b:([Lib.itoa f.id,f.client.data.toList,f.subject.data.toList,wordL f.scope.data.toList,Lib.itoa f.gen,Lib.itoa f.made,Lib.itoa f.used,wordL f.request.data.toList] ++ if f.dead=true then [[100,101,97,100]] else []).length<=9:=by
  split <;> simp
 have c:=Fi (2*50) b;unfold famL;omega
theorem AA(h:Ev.dy s):okN s.next∨s.next=1099511627777:=by
 by_cases he:s.next=1099511627777
 ·exact .inr he
 ·refine .inl ?_
  unfold okN
  have:=h.next0
  have:=h.next1;omega
theorem AC(h:Ev.dy s):(Lib.itoa s.next).length<=13:=by
 rcases AA h with h1 | h1
 ·exact ar h1
 ·rw[h1]
  decide +kernel
def jO(s:St):List UInt8:=Lib.itoa s.clock ++ 32::Lib.itoa s.next
def dO(s:St)(k:Nat):List ByteArray:=bs8 (jO s)::(s.fams.take k).map (fun f=>bs8 (famL f))
theorem wd(s:St):Lib.join ((dO s s.fams.length).map (·.data.toList)) [44,32]=fI s:=by
 unfold dO fI jO;rw[List.take_length,List.map_cons,List.map_map];congr 2
theorem pZ(h:Ev.dy s):(fI s).length<=100000:=by
 have d1:=ar h.clock;have d2:=AC h
 have h1:=kp [44,32] 1000 (by simp) ((Lib.itoa s.clock ++ 32::Lib.itoa s.next)::s.fams.map famL) (by
  intro x hx;simp only[List.mem_cons,List.mem_map] at hx;rcases hx with rfl | ⟨f,hf,rfl⟩
  ·simp; omega
  ·exact jN (h.may f hf).1)
 have h2:=h.len;have b:((Lib.itoa s.clock ++ 32::Lib.itoa s.next)::s.fams.map famL).length<=21:=by simp; omega
 have h4:=Fi (2*1000) b;unfold fI;omega
theorem AE{k:Nat}(h:k<s.fams.length):dO s (k+1)=dO s k ++ [bs8 (famL s.fams[k])]:=by
 unfold dO;rw[List.take_add_one,List.getElem?_eq_getElem h,List.map_append];rfl
theorem p9(N:Nat)(w:World)(gk gd gs gv gm:Nat)(bt bn:Option Addr)(nt ct nn cn:Nat)(r:Rul)(p:Pub)(v:Value)(h:DkI N w gk gd gs gv gm r p v):
 Calls prog 240 #[p_ gk 0,.agg #[.slice bt nt ct,.slice bn nn cn]] w fun e w'=>e=.returned (.string ⟨(fI p.st).toArray⟩)∧Below w.heap.size w w':=by
 have J:=bA w (.cells #[.slice bt nt ct,.slice bn nn cn] 256);have HB:Hid _:=J;have L:Hid _:=h.on J;have a2:=L.o.box.c2;have j:Hid (Ev.dy p.st):=h.sv.sp.ok.good;have M:Hid (w.heap.size<=(w.alloc (.cells #[.slice bt nt ct,.slice bn nn cn] 256)).heap.size):=J.size;have O:Hid (bE w.heap.size):=h.sv.old.mono (by have:=h.sv.sp.ord; have:=h.sv.sp.lt; omega)
 go_enter func240,ntmps240
 go_wp2_with fail
 go_at_call 43
 refine (bc N _ gv gs gd r p v L.o.sv).mono ?_;rintro e1 w1 ⟨v1,rfl,hf1,hb1⟩;obtain⟨b1,c1,rfl⟩:=ag.slice hf1;have c:=bA w1 (.cells (S_ p.st.clock p.st.next b1 p.st.fams.length c1) 36);have R:Hid (NX (w1.alloc (.cells (S_ p.st.clock p.st.next b1 p.st.fams.length c1) 36)) w1.heap.size p.st (.slice b1 p.st.fams.length c1)):=⟨(World.cell?_alloc_at _ _ _ _ rfl).trans rfl,(World.cell?_alloc_at _ _ _ _ rfl).trans rfl,(World.cell?_alloc_at _ _ _ _ rfl).trans rfl,(ag.below hf1 c (Nat.le_refl _)).mono (Nat.zero_le _),by simp⟩
 have T:Hid (av (w1.alloc (.cells (S_ p.st.clock p.st.next b1 p.st.fams.length c1) 36))):=(L.o.sv.libs.on hb1).on c;have U:Hid (Below w.heap.size w (w1.alloc (.cells (S_ p.st.clock p.st.next b1 p.st.fams.length c1) 36))):=HB.o.trans ((hb1.tm c).mono M.o);have X:Hid (∀k,w1.heap.size<=k->az (.slice b1 p.st.fams.length c1) k):=fun k hk=>az.past hf1 hk;unfold stV;go_upto_region 2 with fail
 generalize (w1.alloc _)=W1 at *;generalize w1.heap.size=gq at *;have C:Hid (okN p.st.clock):=j.o.clock;have D:Hid (-9223372036854775808<=p.st.next∧p.st.next<=9223372036854775807):=by have:=j.o.next0; have:=j.o.next1; exact⟨by omega,by omega⟩
 have hl0:=ar j.o.clock;have hl1:=AC j.o;have hni:¬ (9223372036854775807<(Lib.itoa p.st.clock).length+1+(Lib.itoa p.st.next).length):=by omega
 have hnj:(Lib.itoa p.st.clock).length<=9223372036854775806:=by omega
 have Y:Hid ((⟨(Lib.itoa p.st.clock).toArray⟩:ByteArray) ++ (⟨#[32]⟩:ByteArray) ++ (⟨(Lib.itoa p.st.next).toArray⟩:ByteArray)=bs8 (jO p.st)):=by
  show _=_
  exact aK (by simp[jO])
 refine region_ (fun V=>NX V gq p.st (.slice b1 p.st.fams.length c1)∧av V∧Below w.heap.size w V) 8 ⟨R.o.on (E9 _ _).drew,T.o.on (E9 _ _).drew,U.o.drew⟩ fun hH=>?_;refine an [(0,p_ gq 0),(1,.i_ p.st.clock),(4,p_ gq 1),(5,.i_ p.st.next)] hH (fun W hW=>by have a0:=hW.1.c0; have a0:=hW.1.c1;go_simp) ?_;simp only[pA,oA,Act.put,pS1]
 refine one_ 2 ?_; intro K hK; go_simp;go_at_call 57
 refine (cQ p.st.clock _ (by have:=C.o; unfold okN at this; omega) (by have:=C.o; unfold okN at this; omega) hH.2.1).mono ?_
 rintro e2 w2 ⟨rfl,c⟩;have o:Hid _:=c;go_wp2_with fail
 refine hK.out _ _ (⟨hH.1.on o.o,hH.2.1.on o.o,hH.2.2.tm o.o⟩) ?_;intro hH;refine an [(3,.string (⟨(Lib.itoa p.st.clock).toArray⟩ ++ ⟨#[32]⟩))] hH (fun W hW=>by go_simp) ?_;simp only[pA,oA,Act.put,pS1]
 refine one_ 6 ?_; intro K hK; go_simp;go_at_call 57
 refine (cQ p.st.next _ D.o.1 D.o.2 hH.2.1).mono ?_;rintro e3 w3 ⟨rfl,hb3⟩;have q:Hid _:=hb3;go_wp2_with fail
 refine hK.out _ _ (⟨hH.1.on q.o,hH.2.1.on q.o,hH.2.2.tm q.o⟩) ?_;intro hH;refine an [(7,.string (⟨(Lib.itoa p.st.clock).toArray⟩ ++ ⟨#[32]⟩ ++ ⟨(Lib.itoa p.st.next).toArray⟩))] hH (fun W hW=>by go_simp) ?_;simp only[pA,oA,Act.put,pS1]
 refine late_ 8 ?_; intro K hK; go_simp;refine hK.out _ _ ?_;refine late_ 9 ?_; intro K hK; go_simp;refine hK.out _ _ ?_;refine done_ ?_;rw[Y.o];generalize hW4:w3.alloc _=W4;have m:Below w3.heap.size w3 W4:=hW4 ▸ bA _ _;have Z:aN w3.heap.size W4 w3.heap.size 1 1 ([bs8 (jO p.st)].map Value.string):=hW4 ▸ CP w3 [bs8 (jO p.st)] 9 (by simp)
 have Ed:aw w3.heap.size W4 (.slice (o_ w3.heap.size 0) 1 1) (dO p.st 0):=.inr ⟨w3.heap.size,1,rfl,Z⟩;have Ee:Hid (aw w3.heap.size W4 (.slice (o_ w3.heap.size 0) 1 1) (dO p.st 0)):=Ed;have n:Hid (w.heap.size<=w3.heap.size∧gq<w3.heap.size∧bE w3.heap.size∧∀k,w3.heap.size<=k->az (.slice b1 p.st.fams.length c1) k):=⟨hH.2.2.size,hH.1.lt,O.o.mono hH.2.2.size,fun k hk=>X.o k (by have:=hH.1.lt; omega)⟩
 have Ef:Hid (w3.heap.size<=W4.heap.size):=m.size;have E:Hid (NX W4 gq p.st (.slice b1 p.st.fams.length c1)):=hH.1.on m;have Eg:Hid (av W4):=hH.2.1.on m;have Eh:Hid (Below w.heap.size w W4):=hH.2.2.tm m;generalize Value.slice (o_ w3.heap.size 0) 1 1=vw at *;generalize w3.heap.size=B at *;have n2:=E.o.c2;go_wp2_with fail
 obtain⟨i0,hi,hz0,hz1,hz2⟩:=vX;go_loopg [6,26] p.st.fams.length (fun gk pv iv wr=>∃k:Nat,k+gk=p.st.fams.length∧iv=.i_ k∧Hid (aw B wr pv (dO p.st k))∧Hid (NX wr gq p.st (.slice b1 p.st.fams.length c1))∧Hid (av wr)∧Hid (Below w.heap.size w wr)∧Hid (B<=wr.heap.size))
 case atStart=>exact⟨0,by omega,rfl,Ee,E,Eg,Eh,Ef⟩
 case round=>
  obtain⟨k,hk,rfl,HWK,HNK,HLK,HBK,HSK⟩:=hrel;have HK:Hid (k+gk=p.st.fams.length):=hk;by_cases hlt:k<p.st.fams.length
  ·have Ex:(k:Int)<(p.st.fams.length:Int):=by omega
   obtain⟨gr,rfl,hgr,hfa⟩:=HNK.out.fam.fam k hlt;have s:Hid (bP p.st.fams[k]):=(j.o.may _ (Fw hlt)).1;have F:Hid (dO p.st (k+1)=dO p.st k ++ [bs8 (famL p.st.fams[k])]):=AE hlt;have t:Hid ((dO p.st k).length<=1000000):=(show _<=_ by have:=j.o.len; unfold dO; simp; omega)
   generalize p.st.fams[k]=y at hfa s F;obtain⟨y1,y2,y3,y4,y5,y6,y7,y8,y9⟩:=y;have c0:=hfa.c0; have z:=hfa.c1; have c2:=hfa.c2; have c3:=hfa.c3; have c4:=hfa.c4; have c5:=hfa.c5; have c6:=hfa.c6; have c7:=hfa.c7; have c8:=hfa.c8;simp only at c0 z c2 c3 c4 c5 c6 c7 c8;have f:=bA wr (.cells (F_ y1 y2 y3 y4 y5 y6 y7 y8 y9) 40);have b:Hid (FB (wr.alloc (.cells (F_ y1 y2 y3 y4 y5 y6 y7 y8 y9) 40)) wr.heap.size ⟨y1,y2,y3,y4,y5,y6,y7,y8,y9⟩):=FB.made wr ⟨y1,y2,y3,y4,y5,y6,y7,y8,y9⟩ _;have Ei:Hid (aw B (wr.alloc (.cells (F_ y1 y2 y3 y4 y5 y6 y7 y8 y9) 40)) u6 (dO p.st k)):=HWK.out.below f (Fa _);have Ej:Hid (NX (wr.alloc (.cells (F_ y1 y2 y3 y4 y5 y6 y7 y8 y9) 40)) gq p.st (.slice (o_ gr 0) p.st.fams.length c1)):=HNK.out.on f;have G:Hid (av (wr.alloc (.cells (F_ y1 y2 y3 y4 y5 y6 y7 y8 y9) 40))):=HLK.out.on f
   have H:Hid (Below w.heap.size w (wr.alloc (.cells (F_ y1 y2 y3 y4 y5 y6 y7 y8 y9) 40))):=HBK.out.tm f;have Ek:Hid (B<=((wr.alloc (.cells (F_ y1 y2 y3 y4 y5 y6 y7 y8 y9) 40))).heap.size):=Fe HSK.out f.size;go_upto_region 6 with fail
   generalize (wr.alloc _)=W5 at *;generalize wr.heap.size=g5 at *;have c0:=b.o.c0; have z:=b.o.c1; have c2:=b.o.c2; have c3:=b.o.c3; have c4:=b.o.c4; have c5:=b.o.c5; have c6:=b.o.c6; have c7:=b.o.c7; have c8:=b.o.c8;simp only at c0 z c2 c3 c4 c5 c6 c7 c8;go_wp2_with fail
   go_at_call 296
   refine (wb ⟨y1,y2,y3,y4,y5,y6,y7,y8,y9⟩ _ s.o (Fe (jN s.o) (by omega)) G.o).mono ?_
   rintro e6 w6 ⟨rfl,hb6⟩;have g:=bA w6 (.cells #[.string ⟨(famL ⟨y1,y2,y3,y4,y5,y6,y7,y8,y9⟩).toArray⟩] 9);have El:Hid (aw B (w6.alloc (.cells #[.string ⟨(famL ⟨y1,y2,y3,y4,y5,y6,y7,y8,y9⟩).toArray⟩] 9)) u6 (dO p.st k)):=(Ei.o.below hb6 (Fa _)).below g (Fa _);have Em:Hid (NX (w6.alloc (.cells #[.string ⟨(famL ⟨y1,y2,y3,y4,y5,y6,y7,y8,y9⟩).toArray⟩] 9)) gq p.st (.slice (o_ gr 0) p.st.fams.length c1)):=(Ej.o.on hb6).on g;have En:Hid (av (w6.alloc (.cells #[.string ⟨(famL ⟨y1,y2,y3,y4,y5,y6,y7,y8,y9⟩).toArray⟩] 9))):=(G.o.on hb6).on g;have Eo:Hid (Below w.heap.size w (w6.alloc (.cells #[.string ⟨(famL ⟨y1,y2,y3,y4,y5,y6,y7,y8,y9⟩).toArray⟩] 9))):=(H.o.tm hb6).trans (g.mono (Fe H.o.size hb6.size))
   have I:Hid (B<=(w6.alloc (.cells #[.string ⟨(famL ⟨y1,y2,y3,y4,y5,y6,y7,y8,y9⟩).toArray⟩] 9)).heap.size):=Fe Ek.o (Fe hb6.size g.size);go_wp2_with (at_builtin; refine bz _ rfl _ _ 66 rfl 9 i0 underlying66 hi hz0 hz1 hz2 B _ _ rfl El.o I.o (a_ w6.heap.size 0) 1 _ rfl ((Fb _ _ _ _ rfl).trans rfl) t.o ?_)
   intro v8 w8 hw8 hb8;have Ep:Hid (aw B w8 v8 (dO p.st (k+1))):=(show aw _ _ _ _ by rw[F.o]; exact hw8)
   have Er:Hid (NX w8 gq p.st (.slice (o_ gr 0) p.st.fams.length c1)):=Em.o.belowB hb8 n.o.2.1 n.o.2.2.2;have Es:Hid (av w8):=En.o.belowO hb8 n.o.2.2.1;have A:Hid (Below w.heap.size w w8):=Eo.o.trans (hb8.mono n.o.1);have Et:Hid (B<=w8.heap.size):=Fe I.o hb8.size;go_wp2_with fail
   go_roundg (p.st.fams.length - (k+1))
   case measure=>have:=HK.o; omega
   case rel=>
    have Ey:=j.o.len;exact⟨k+1,by have:=HK.o; omega,congrArg (Value.int .i64) (by unfold wrap64; omega),Ep,Er,Es,A,Et⟩
  ·obtain rfl:k=p.st.fams.length:=by have:=HK.o; omega
   have t:Hid ((dO p.st p.st.fams.length).length<=100000):=(show _<=_ by have:=j.o.len; unfold dO; simp; omega)
   have Eu:Hid ((Lib.join ((dO p.st p.st.fams.length).map (·.data.toList)) [44,32]).length<=1000000):=(show _<=_ by rw[wd]; have:=pZ j.o; omega)
   go_wp2_with fail
   go_at_call 114
   refine (pY ⟨#[44,32]⟩ HWK.out Eu.o t.o).mono ?_;rintro e8 w8 ⟨rfl,hb8⟩;have A:Hid (Below w.heap.size w w8):=HBK.out.tm hb8;have Ew:Hid (Lib.join ((dO p.st p.st.fams.length).map (·.data.toList)) [44,32]=fI p.st):=wd p.st;rw[show (⟨#[44,32]⟩:ByteArray).data.toList= [44,32] from rfl,Ew.o]
   go_wp2_with fail
   go_ret;exact⟨rfl,A.o⟩
theorem xL(N:Nat)(w:World)(gk gd gs gv gm gt nt ct:Nat)(bn:Option Addr)(nn cn:Nat)(r:Rul)(p q:Pub)(v:Value)(x0 x1 x2 X:ByteArray)(n:Nat)(h:DkI N w gk gd gs gv gm r p v)(h0:w.cell? ⟨gt,0,none⟩=some (.string x0))(h1:w.cell? ⟨gt,1,none⟩=some (.string x1))(h2:w.cell? ⟨gt,2,none⟩=some (.string x2))(hgt:gt≠gd∧gt≠gs)(hn:2<nt)(HC:∀W,be N W gv gs gd r p v->Calls prog 27 #[p_ gv 0,.string x0,.string x1,.string x2] W fun e w'=>e=.returned (.tuple #[.string X,aB n])∧∃v',aD N gs gd v W w' q v'):
 Calls prog 229 #[p_ gk 0,.agg #[.slice (o_ gt 0) nt ct,.slice bn nn cn]] w fun e w'=>e=fY X n∧∃v',aD N gs gd v w w' q v':=by
 have f:=bA w (.cells #[.slice (o_ gt 0) nt ct,.slice bn nn cn] 256);have C:Hid _:=f;have D:Hid _:=AgB.made w (o_ gt 0) bn nt ct nn cn 256;have B:Hid _:=h.on f;have k:Hid _:=HC;have m:Hid _:=(f.cell (p:=(a_ gt 0)) (Fc _ _ h0)).trans h0;have o:Hid _:=(f.cell (p:=(a_ gt 1)) (Fc _ _ h1)).trans h1;have s:Hid _:=(f.cell (p:=(a_ gt 2)) (Fc _ _ h2)).trans h2;have E:Hid _:=Fd (Fc _ _ h0) f.size;have F:(0:Int)<(nt:Int):=by omega
 have G:(1:Int)<(nt:Int):=by omega
 have H:(2:Int)<(nt:Int):=by omega
 have I:¬ nt=0:=by omega
 have b:Hid (w.heap.size≠gd∧w.heap.size≠gs∧gk≠gd∧gk≠gs∧gt≠gd∧gt≠gs):=by
  have h8:=h.sv.sp.ord;have h9:=h.sv.sp.lt;exact⟨by omega,by omega,h.ne.1,h.ne.2.1,hgt.1,hgt.2⟩
 go_enter func229,ntmps229
 go_upto_region 1 with fail;generalize hW:(w.alloc _)=W at *;generalize hg:w.heap.size=g at *;have J:Hid _:=hg;refine region_ (fun V=>AgB V g (o_ gt 0) bn nt ct nn cn∧DAt V gk gd gs gv gm r∧V.c_ gt 0=some (.string x0)∧V.c_ gt 1=some (.string x1)∧V.c_ gt 2=some (.string x2)) 19 ⟨D.o.on (E9 _ _).drew,B.o.box.on (E9 _ _).drew,m.o,o.o,s.o⟩ fun hH=>?_;refine an [(0,p_ gk 0),(1,p_ gk 0),(2,p_ gk 2),(3,p_ gv 0),(4,p_ g 0),(5,.slice (o_ gt 0) nt ct),(6,p_ gt 0),(7,.string x0),(8,p_ g 0),(9,.slice (o_ gt 0) nt ct),(10,p_ gt 1),(11,.string x1),(12,p_ g 0),(13,.slice (o_ gt 0) nt ct),(14,p_ gt 2),(15,.string x2)] hH (fun W hW=>by have j:=hW.2.1.c2; have j:=hW.1.c0; have j:=hW.2.2.1; have j:=hW.1.c0; have j:=hW.2.2.2.1; have j:=hW.1.c0; have j:=hW.2.2.2.2;go_simp) ?_;simp only[pA,oA,Act.put,pS1]
 refine one_ 16 ?_; intro K hK; go_simp;go_at_call 27;refine (k.o _ (B.o.sv.on (E9 _ _).drew)).mono ?_;rintro e1 w1 ⟨rfl,v1,hto⟩;have t:Hid _:=aD.pre (E9 _ _).drew hto;go_wp2_with fail;refine hK.out _ _ (⟨hH.1.keep hto.keep (by have:=b.o; simp; omega),hH.2.1.keep hto.keep (by have:=b.o; simp; omega),(hto.keep.cell (p:=(a_ gt 0)) (Fc _ _ (hH.2.2.1)) (by have:=b.o; simp; omega)).trans (hH.2.2.1),(hto.keep.cell (p:=(a_ gt 1)) (Fc _ _ (hH.2.2.2.1)) (by have:=b.o; simp; omega)).trans (hH.2.2.2.1),(hto.keep.cell (p:=(a_ gt 2)) (Fc _ _ (hH.2.2.2.2)) (by have:=b.o; simp; omega)).trans (hH.2.2.2.2)⟩) ?_
 intro hH;refine an [(17,.string X),(18,aB n)] hH (fun W hW=>by go_simp) ?_;simp only[pA,oA,Act.put,pS1]
 have c:Hid (aD N gs gd v w w1 q v1):=by
  have h1:=C.o;rw[<- J.o] at h1;exact aD.pre h1 t.o
 have z:Hid _:=c.o.prog.err
 cases n with
 |zero=>
  refine late_ 19 ?_; intro K hK; go_simp;go_at_call 295;refine (iu X _).mono ?_;rintro e2 w2 ⟨rfl,rfl⟩;go_wp2_with fail;refine hK.out _ _ ?_;refine late_ 20 ?_; intro K hK; go_simp;refine hK.out _ _ ?_;refine done_ ?_;go_wp2_with fail;go_ret;exact⟨rfl,v1,c.o⟩
 |succ n=>
  refine late_ 19 ?_; intro K hK; go_simp;go_at_call 295;refine (ix X n _ z.o).mono ?_;rintro e2 w2 ⟨rfl,hb2⟩;have A:Hid _:=c.o.post hb2;unfold aM;go_wp2_with fail;exact⟨rfl,rfl,v1,A.o⟩
theorem uB(N:Nat)(w:World)(gk gd gs gv gm gt nt ct:Nat)(bn:Option Addr)(nn cn:Nat)(r:Rul)(p q:Pub)(v:Value)(x0 x1 x2 X:ByteArray)(n:Nat)(h:DkI N w gk gd gs gv gm r p v)(h0:w.cell? ⟨gt,0,none⟩=some (.string x0))(h1:w.cell? ⟨gt,1,none⟩=some (.string x1))(h2:w.cell? ⟨gt,2,none⟩=some (.string x2))(hgt:gt≠gd∧gt≠gs)(hn:2<nt)(HC:∀W,be N W gv gs gd r p v->Calls prog 29 #[p_ gv 0,.string x0,.string x1,.string x2] W fun e w'=>e=.returned (.tuple #[.string X,aB n])∧∃v',aD N gs gd v W w' q v'):
 Calls prog 230 #[p_ gk 0,.agg #[.slice (o_ gt 0) nt ct,.slice bn nn cn]] w fun e w'=>e=fY X n∧∃v',aD N gs gd v w w' q v':=by
 have f:=bA w (.cells #[.slice (o_ gt 0) nt ct,.slice bn nn cn] 256);have C:Hid _:=f;have D:Hid _:=AgB.made w (o_ gt 0) bn nt ct nn cn 256;have B:Hid _:=h.on f;have k:Hid _:=HC;have m:Hid _:=(f.cell (p:=(a_ gt 0)) (Fc _ _ h0)).trans h0;have o:Hid _:=(f.cell (p:=(a_ gt 1)) (Fc _ _ h1)).trans h1;have s:Hid _:=(f.cell (p:=(a_ gt 2)) (Fc _ _ h2)).trans h2;have E:Hid _:=Fd (Fc _ _ h0) f.size;have F:(0:Int)<(nt:Int):=by omega
 have G:(1:Int)<(nt:Int):=by omega
 have H:(2:Int)<(nt:Int):=by omega
 have I:¬ nt=0:=by omega
 have b:Hid (w.heap.size≠gd∧w.heap.size≠gs∧gk≠gd∧gk≠gs∧gt≠gd∧gt≠gs):=by
  have h8:=h.sv.sp.ord;have h9:=h.sv.sp.lt;exact⟨by omega,by omega,h.ne.1,h.ne.2.1,hgt.1,hgt.2⟩
 go_enter func230,ntmps230
 go_upto_region 1 with fail;generalize hW:(w.alloc _)=W at *;generalize hg:w.heap.size=g at *;have J:Hid _:=hg;refine region_ (fun V=>AgB V g (o_ gt 0) bn nt ct nn cn∧DAt V gk gd gs gv gm r∧V.c_ gt 0=some (.string x0)∧V.c_ gt 1=some (.string x1)∧V.c_ gt 2=some (.string x2)) 19 ⟨D.o.on (E9 _ _).drew,B.o.box.on (E9 _ _).drew,m.o,o.o,s.o⟩ fun hH=>?_;refine an [(0,p_ gk 0),(1,p_ gk 0),(2,p_ gk 2),(3,p_ gv 0),(4,p_ g 0),(5,.slice (o_ gt 0) nt ct),(6,p_ gt 0),(7,.string x0),(8,p_ g 0),(9,.slice (o_ gt 0) nt ct),(10,p_ gt 1),(11,.string x1),(12,p_ g 0),(13,.slice (o_ gt 0) nt ct),(14,p_ gt 2),(15,.string x2)] hH (fun W hW=>by have j:=hW.2.1.c2; have j:=hW.1.c0; have j:=hW.2.2.1; have j:=hW.1.c0; have j:=hW.2.2.2.1; have j:=hW.1.c0; have j:=hW.2.2.2.2;go_simp) ?_;simp only[pA,oA,Act.put,pS1]
 refine one_ 16 ?_; intro K hK; go_simp;go_at_call 29;refine (k.o _ (B.o.sv.on (E9 _ _).drew)).mono ?_;rintro e1 w1 ⟨rfl,v1,hto⟩;have t:Hid _:=aD.pre (E9 _ _).drew hto;go_wp2_with fail;refine hK.out _ _ (⟨hH.1.keep hto.keep (by have:=b.o; simp; omega),hH.2.1.keep hto.keep (by have:=b.o; simp; omega),(hto.keep.cell (p:=(a_ gt 0)) (Fc _ _ (hH.2.2.1)) (by have:=b.o; simp; omega)).trans (hH.2.2.1),(hto.keep.cell (p:=(a_ gt 1)) (Fc _ _ (hH.2.2.2.1)) (by have:=b.o; simp; omega)).trans (hH.2.2.2.1),(hto.keep.cell (p:=(a_ gt 2)) (Fc _ _ (hH.2.2.2.2)) (by have:=b.o; simp; omega)).trans (hH.2.2.2.2)⟩) ?_
 intro hH;refine an [(17,.string X),(18,aB n)] hH (fun W hW=>by go_simp) ?_;simp only[pA,oA,Act.put,pS1]
 have c:Hid (aD N gs gd v w w1 q v1):=by
  have h1:=C.o;rw[<- J.o] at h1;exact aD.pre h1 t.o
 have z:Hid _:=c.o.prog.err
 cases n with
 |zero=>
  refine late_ 19 ?_; intro K hK; go_simp;go_at_call 295;refine (iu X _).mono ?_;rintro e2 w2 ⟨rfl,rfl⟩;go_wp2_with fail;refine hK.out _ _ ?_;refine late_ 20 ?_; intro K hK; go_simp;refine hK.out _ _ ?_;refine done_ ?_;go_wp2_with fail;go_ret;exact⟨rfl,v1,c.o⟩
 |succ n=>
  refine late_ 19 ?_; intro K hK; go_simp;go_at_call 295;refine (ix X n _ z.o).mono ?_;rintro e2 w2 ⟨rfl,hb2⟩;have A:Hid _:=c.o.post hb2;unfold aM;go_wp2_with fail;exact⟨rfl,rfl,v1,A.o⟩
theorem AF(N:Nat)(w:World)(gk gd gs gv gm gt nt ct:Nat)(bn:Option Addr)(nn cn:Nat)(r:Rul)(p q:Pub)(v:Value)(x0 X:ByteArray)(n:Nat)(h:DkI N w gk gd gs gv gm r p v)(h0:w.cell? ⟨gt,0,none⟩=some (.string x0))(hgt:gt≠gd∧gt≠gs)(hn:0<nt)(HC:∀W,be N W gv gs gd r p v->Calls prog 31 #[p_ gv 0,.string x0] W fun e w'=>e=.returned (.tuple #[.string X,aB n])∧∃v',aD N gs gd v W w' q v'):
 Calls prog 231 #[p_ gk 0,.agg #[.slice (o_ gt 0) nt ct,.slice bn nn cn]] w fun e w'=>e=fY X n∧∃v',aD N gs gd v w w' q v':=by
 have f:=bA w (.cells #[.slice (o_ gt 0) nt ct,.slice bn nn cn] 256);have B:J _:=f;have C:J _:=AgB.made w (o_ gt 0) bn nt ct nn cn 256;have t:J _:=h.on f;have j:J _:=HC;have k:J _:=(f.cell (p:=(a_ gt 0)) (Fc _ _ h0)).trans h0;have D:J _:=Fd (Fc _ _ h0) f.size;have E:(0:Int)<(nt:Int):=by omega
 have F:¬ nt=0:=by omega
 have b:J (w.heap.size≠gd∧w.heap.size≠gs∧gk≠gd∧gk≠gs∧gt≠gd∧gt≠gs):=by
  have h8:=h.sv.sp.ord;have h9:=h.sv.sp.lt;exact⟨by omega,by omega,h.ne.1,h.ne.2.1,hgt.1,hgt.2⟩
 go_enter func231,ntmps231
 go_upto_region 1 with fail;generalize hW:(w.alloc _)=W at *;generalize hg:w.heap.size=g at *;have G:J _:=hg;refine region_ (fun V=>AgB V g (o_ gt 0) bn nt ct nn cn∧DAt V gk gd gs gv gm r∧V.c_ gt 0=some (.string x0)) 11 ⟨C.o.on (E9 _ _).drew,t.o.box.on (E9 _ _).drew,k.o⟩ fun hH=>?_;refine an [(0,p_ gk 0),(1,p_ gk 0),(2,p_ gk 2),(3,p_ gv 0),(4,p_ g 0),(5,.slice (o_ gt 0) nt ct),(6,p_ gt 0),(7,.string x0)] hH (fun W hW=>by have z:=hW.2.1.c2; have z:=hW.1.c0; have z:=hW.2.2;go_simp) ?_;simp only[pA,oA,Act.put,pS1]
 refine one_ 8 ?_; intro K hK; go_simp;go_at_call 31;refine (j.o _ (t.o.sv.on (E9 _ _).drew)).mono ?_;rintro e1 w1 ⟨rfl,v1,hto⟩;have m:J _:=aD.pre (E9 _ _).drew hto;go_wp2_with fail;refine hK.out _ _ (⟨hH.1.keep hto.keep (by have:=b.o; simp; omega),hH.2.1.keep hto.keep (by have:=b.o; simp; omega),(hto.keep.cell (p:=(a_ gt 0)) (Fc _ _ (hH.2.2)) (by have:=b.o; simp; omega)).trans (hH.2.2)⟩) ?_
 intro hH;refine an [(9,.string X),(10,aB n)] hH (fun W hW=>by go_simp) ?_;simp only[pA,oA,Act.put,pS1]
 have c:J (aD N gs gd v w w1 q v1):=by
  have A:=B.o;rw[<- G.o] at A;exact aD.pre A m.o
 have o:J _:=c.o.prog.err
 cases n with
 |zero=>
  refine late_ 11 ?_; intro K hK; go_simp;go_at_call 295;refine (iu X _).mono ?_;rintro e2 w2 ⟨rfl,rfl⟩;go_wp2_with fail;refine hK.out _ _ ?_;refine late_ 12 ?_; intro K hK; go_simp;refine hK.out _ _ ?_;refine done_ ?_;go_wp2_with fail;go_ret;exact⟨rfl,v1,c.o⟩
 |succ n=>
  refine late_ 11 ?_; intro K hK; go_simp;go_at_call 295;refine (ix X n _ o.o).mono ?_;rintro e2 w2 ⟨rfl,hb2⟩;have s:J _:=c.o.post hb2;unfold aM;go_wp2_with fail;exact⟨rfl,rfl,v1,s.o⟩
theorem xM(N:Nat)(w:World)(gk gd gs gv gm:Nat)(bt bn:Option Addr)(nt ct nn cn:Nat)(r:Rul)(p q:Pub)(v:Value)(k:Int)(n:Nat)(h:DkI N w gk gd gs gv gm r p v)(hk:-9223372036854775808<=k∧k<=9223372036854775807)(HC:∀W,be N W gv gs gd r p v->Calls prog 39 #[p_ gv 0] W fun e w'=>e=.returned (.tuple #[.int .i64 k,aB n])∧∃v',aD N gs gd v W w' q v'):
 Calls prog 237 #[p_ gk 0,.agg #[.slice bt nt ct,.slice bn nn cn]] w fun e w'=>e=fY ⟨(Lib.itoa k).toArray⟩ n∧∃v',aD N gs gd v w w' q v':=by
 have t:J _:=bA w (.cells #[.slice bt nt ct,.slice bn nn cn] 256);have f:J _:=h.on t.o;have g:J _:=HC;have a2:=f.o.box.c2;have c:J _:=hk;go_enter func237,ntmps237
 go_wp2_with fail;go_at_call 39;refine (g.o _ f.o.sv).mono ?_;rintro e1 w1 ⟨rfl,v1,hto⟩;have b:J _:=aD.pre t.o hto;have j:J _:=b.o.prog.err;have m:J _:=(f.o.sv.to hto).libs
 cases n with
 |zero=>
  rw[show aB 0=.nilIface from rfl]
  go_wp2_with fail;go_at_call 298;refine (Al k _).mono ?_;rintro e2 w2 ⟨rfl,rfl⟩;go_wp2_with fail;go_at_call 57;refine (cQ k _ c.o.1 c.o.2 m.o).mono ?_;rintro e4 w4 ⟨rfl,hb4⟩;have o:J _:=hb4;go_wp2_with fail;go_ret;exact⟨rfl,v1,b.o.post o.o⟩
 |succ n=>
  go_wp2_with fail;go_at_call 298;refine (Am k n _ j.o).mono ?_;rintro e2 w2 ⟨rfl,hb2⟩;have s:J _:=b.o.post hb2;unfold aM;go_wp2_with fail;exact⟨rfl,rfl,v1,s.o⟩
theorem AG(N:Nat)(w:World)(gk gd gs gv gm:Nat)(bt bn:Option Addr)(nt ct nn cn:Nat)(r:Rul)(p q:Pub)(v:Value)(n:Nat)(h:DkI N w gk gd gs gv gm r p v)(HC:∀W,be N W gv gs gd r p v->Calls prog 16 #[p_ gs 0] W fun e w'=>e=.returned (aB n)∧∃v',aD N gs gd v W w' q v'):
 Calls prog 234 #[p_ gk 0,.agg #[.slice bt nt ct,.slice bn nn cn]] w fun e w'=>e=fY ⟨#[115,97,118,101]⟩ n∧∃v',aD N gs gd v w w' q v':=by
 have j:J _:=bA w (.cells #[.slice bt nt ct,.slice bn nn cn] 256);have k:J _:=h.on j.o;have c:J _:=HC;have a2:=k.o.box.c1;go_enter func234,ntmps234
 go_wp2_with fail;go_at_call 16;refine (c.o _ k.o.sv).mono ?_;rintro e1 w1 ⟨rfl,v1,hto⟩;have b:J _:=aD.pre j.o hto;have f:J _:=b.o.prog.err
 cases n with
 |zero=>
  rw[show aB 0=.nilIface from rfl]
  go_wp2_with fail;go_at_call 294;refine (ex _).mono ?_;rintro e2 w2 ⟨rfl,rfl⟩;go_wp2_with fail;go_ret;exact⟨rfl,v1,b.o⟩
 |succ n=>
  go_wp2_with fail;go_at_call 294;refine (fh n _ f.o).mono ?_;rintro e2 w2 ⟨rfl,hb2⟩;have g:J _:=b.o.post hb2;unfold aM;go_wp2_with fail;exact⟨rfl,rfl,v1,g.o⟩
theorem uC(N:Nat)(w:World)(gk gd gs gv gm:Nat)(bt bn:Option Addr)(nt ct nn cn:Nat)(r:Rul)(p:Pub)(v:Value)(h:DkI N w gk gd gs gv gm r p v)(hk:(p.n:Int)<=9223372036854775807):
 Calls prog 238 #[p_ gk 0,.agg #[.slice bt nt ct,.slice bn nn cn]] w fun e w'=>e=.returned (.string ⟨(Lib.itoa p.n).toArray⟩)∧Below w.heap.size w w':=by
 have j:J _:=bA w (.cells #[.slice bt nt ct,.slice bn nn cn] 256);have b:J _:=h.on j.o;have a2:=b.o.box.c0;have f:J _:=hk;go_enter func238,ntmps238
 go_wp2_with fail;go_at_call 299;obtain⟨A,F,l,hF,_⟩:=b.o.sv.sp.disk;refine (ue gd F p.n p.c l _ hF).mono ?_;rintro e1 w1 ⟨rfl,rfl⟩;go_wp2_with fail;go_at_call 57;refine (cQ (p.n:Int) _ (by omega) f.o b.o.sv.libs).mono ?_;rintro e4 w4 ⟨rfl,hb4⟩;have g:J _:=j.o.tm hb4;go_wp2_with fail;go_ret;exact⟨rfl,g.o⟩
theorem sz(b:Bool)(w:World):Calls prog 255 #[.bool b] w fun e w'=>e=.returned (.string ⟨(dN b).toArray⟩)∧w'=w:=by
 cases b with
 |false=>
  go_enter func255,ntmps255
  go_wp2_with fail;go_ret;exact⟨rfl,rfl⟩
 |true=>
  go_enter func255,ntmps255
  go_wp2_with fail;go_ret;exact⟨rfl,rfl⟩
theorem mT(b:Bool)(w:World):Calls prog 161 #[.bool b] w fun e w'=>e=.returned (.string ⟨(dN b).toArray⟩)∧w'=w:=by
 go_enter func161,ntmps161
 go_wp2_with fail;go_at_call 255;refine (sz b _).mono ?_;rintro e1 w1 ⟨rfl,rfl⟩;go_wp2_with fail;go_ret;exact⟨rfl,rfl⟩
theorem AH(N:Nat)(w:World)(gv gs gd:Nat)(r:Rul)(p:Pub)(v:Value)(h:be N w gv gs gd r p v):Calls prog 51 #[p_ gs 0] w fun e w'=>e=.returned (.int .i64 p.lg)∧w'=w:=by
 obtain⟨sv,hst⟩:=h.sp.store;exact Dh w gs gd p.dn sv p.lg p.st v hst
theorem xN(N:Nat)(w:World)(gv gs gd:Nat)(r:Rul)(p:Pub)(v:Value)(h:be N w gv gs gd r p v):Calls prog 300 #[p_ gs 0] w fun e w'=>e=.returned (.bool p.dn)∧w'=w:=by
 obtain⟨sv,hst⟩:=h.sp.store;exact BU w gs gd p.dn sv p.lg p.st v hst
theorem Ci(N:Nat)(w:World)(gk gd gs gv gm:Nat)(bt bn:Option Addr)(nt ct nn cn:Nat)(r:Rul)(p:Pub)(v:Value)(h:DkI N w gk gd gs gv gm r p v)(hk:okN (p.lg:Int)):
 Calls prog 239 #[p_ gk 0,.agg #[.slice bt nt ct,.slice bn nn cn]] w fun e w'=>e=.returned (.string ⟨(Lib.itoa p.lg ++ 32::dN p.dn).toArray⟩)∧Below w.heap.size w w':=by
 have c:=bA w (.cells #[.slice bt nt ct,.slice bn nn cn] 256);have q:J _:=c;have s:J _:=h.on c;have f:J ((p.lg:Int)<=9223372036854775807):=(show (p.lg:Int)<=9223372036854775807 by have:=hk.2; omega)
 have j:J (-9223372036854775808<=(p.lg:Int)):=(show -9223372036854775808<=(p.lg:Int) by have:=hk.1; omega)
 have n:=ar hk;have t:(dN p.dn).length<=5:=by unfold dN; split <;> simp
 have z:¬ (9223372036854775807<(Lib.itoa ↑p.lg).length+1+(dN p.dn).length):=by omega
 have A:(Lib.itoa ↑p.lg).length<=9223372036854775806:=by omega
 have k:J _:=c.size;go_enter func239,ntmps239
 go_upto_region 1 with fail;generalize hW:(w.alloc _)=W at *;generalize hg:w.heap.size=g at *;have B:J _:=hg
 have m:J ((⟨(Lib.itoa p.lg).toArray⟩:ByteArray) ++ (⟨#[32]⟩:ByteArray) ++ (⟨(dN p.dn).toArray⟩:ByteArray)=⟨(Lib.itoa p.lg ++ 32::dN p.dn).toArray⟩):=by
  show _=_
  exact aK (by simp)
 refine region_ (fun V=>DkI N V gk gd gs gv gm r p v∧Below g W V) 13 ⟨s.o.on (E9 _ _).drew,(E9 _ _).drew⟩ fun hH=>?_;refine an [(0,p_ gk 0),(1,p_ gk 0),(2,p_ gk 1),(3,p_ gs 0),(7,p_ gk 0),(8,p_ gk 0),(9,p_ gk 1),(10,p_ gs 0)] hH (fun W hW=>by have C:=hW.1.box.c1; have C:=hW.1.box.c1;go_simp) ?_;simp only[pA,oA,Act.put,pS1]
 refine one_ 4 ?_; intro K hK; go_simp;go_at_call 51;refine (AH N _ gv gs gd r p v hH.1.sv).mono ?_;rintro e1 w1 ⟨rfl,rfl⟩;go_wp2_with fail;refine hK.out _ _ (hH) ?_;intro hH;refine one_ 5 ?_; intro K hK; go_simp;go_at_call 57;refine (cQ (p.lg:Int) _ j.o f.o hH.1.sv.libs).mono ?_;rintro e2 w2 ⟨rfl,hb2⟩;have b:J _:=hb2;go_wp2_with fail;refine hK.out _ _ (⟨hH.1.on b.o,hH.2.trans (b.o.mono (by have:=k.o; have:=hH.2.size; omega))⟩) ?_
 intro hH;refine an [(6,.string (⟨(Lib.itoa p.lg).toArray⟩ ++ ⟨#[32]⟩))] hH (fun W hW=>by go_simp) ?_;simp only[pA,oA,Act.put,pS1]
 refine one_ 11 ?_; intro K hK; go_simp;go_at_call 300;refine (xN N _ gv gs gd r p v hH.1.sv).mono ?_;rintro e3 w3 ⟨rfl,rfl⟩;go_wp2_with fail;refine hK.out _ _ (hH) ?_;intro hH;refine one_ 12 ?_; intro K hK; go_simp;go_at_call 161;refine (mT p.dn _).mono ?_;rintro e4 w4 ⟨rfl,rfl⟩;go_wp2_with fail;refine hK.out _ _ (hH) ?_;intro hH;refine late_ 13 ?_; intro K hK; go_simp;refine hK.out _ _ ?_;refine late_ 14 ?_; intro K hK; go_simp;refine hK.out _ _ ?_;refine done_ ?_;go_wp2_with fail;go_ret;have o:=q.o.trans (hH.2);rw[<- B.o] at o;exact⟨congrArg (fun x=>Ending.returned (.string x)) m.o,o⟩
end Go.Proofs.YtlailakofhenkabGreatDoor
