import Derived.Test.YtlailakofhenkabGreatDoorB12
set_option maxRecDepth 100000
set_option maxHeartbeats 8000000
namespace Go.Proofs.YtlailakofhenkabGreatDoor
open Go Go.RowKit Ev Tryz
theorem Dc(w:World):(Go.sizeOf 40).run prog w=.ok 9 w:=by
 obtain⟨i0,hi,_,hz1,_⟩:=dL;simp[sizeOf,typeInfo,hi,hz1]
theorem lC:(prog.info? 40).map (·.size)=some 9:=by kernel_rfl
theorem pI:prog.follows .mixedOrders=true:=by kernel_rfl
variable {B c g i n:Nat}{W w:World}{cs:List Value}
theorem rx(hr:cF 9 B W g c n cs)(hn:n<=5000)(hi:i<n)(hroom:n+1<=c)(us:List Value)(hul:us.length=9)(h1u:∀u∈us,u.oneCell'=true)(vb:Nat)(hvb:vb≠g)(hvs:∀j v,us[j]?=some v->W.cell? ⟨vb,j,none⟩=some v)(tA:TypeId)(kA:Nat)(hsa:W.shape? vb=some (tA,kA))(hfa:∀j,W.frozen? ⟨vb,j,none⟩=false):
 Calls prog 126 #[.slice (o_ g 0) n c,.i_ (i:Nat),.slice (o_ vb 0) 1 1] W fun e w'=>
  e=.returned (.slice (some ⟨g,0,none⟩) (n+1) c)∧w'=(W.drew.setCells g ((i+1)*9) (cs.drop (i*9))).setCells g (i*9) us:=by
 have t:=pI;have C:(i+1)*9=i*9+9:=Nat.succ_mul i 9;have D:i*9<=n*9:=Fi 9 (Fx hi);have E:(n+1)*9<=c*9:=Fi 9 hroom;have m:=hr.len;have A:c<=9223372036854775807:=hr.max;obtain⟨u0,hu0⟩:=Option.isSome_iff_exists.1 (hr.there 0 (by omega)).1
 obtain⟨tB,kB,hsb,hkB,_⟩:=World.shape?_of_cell? hu0
 have z:∀lb cb,(callFunc 201 #[.slice (o_ vb 0) 1 1,.slice (some ⟨g,(i+1)*9,none⟩) lb cb]).run prog W=.ok (.value (.bool false)) W:=fun lb cb=>by
  rw[run_callFunc_extern func201 (by kernel_rfl) (by kernel_rfl) (by kernel_rfl) (e:=Extern.SlicesOverlaps.overlaps #[34,34] #[4]) (by kernel_rfl),
   Lib.run_overlaps_apart W 34 4 40 underlying34 9 Dc (a_ vb 0) ⟨g,(i+1)*9,none⟩ 1 1 lb cb hvb tA tB kA kB hsa hsb (by simp at hkB; omega) (hfa 0) (hfa kA)]
  rfl
 have q:(cs.drop (i*9)).length=(n - i)*9:=by rw[List.length_drop,m,Nat.sub_mul]
 have f:(cs.drop (i*9)).length=n*9 - i*9:=by rw[List.length_drop,m]
 have o:∀ty dc sc,(Builtin.copy_ #[34,34] ty #[.slice (some ⟨g,(i+1)*9,none⟩) (n - i) dc,.slice (some ⟨g,i*9,none⟩) (n+1 - i) sc]).run prog W.drew=.ok (goInt (Nat.min (n+1 - i) (n - i))) (W.drew.setCells g ((i+1)*9) (cs.drop (i*9))):=fun ty dc sc=>
  dv W.drew _ _ ty 40 9 g ((i+1)*9) (n - i) dc ⟨g,i*9,none⟩ (n+1 - i) sc (cs.drop (i*9)) underlying34 lC (by rw[q]; congr 1; simp only[Nat.min_def]; split <;> omega)
   (fun j v hj=>by rw[Addr.add_lit]; exact hr.holds _ v (by rwa [List.getElem?_drop] at hj))
   (fun j hj=>(hr.there _ (by rw[f] at hj; omega)).1) (fun j hj=>(hr.there _ (by rw[f] at hj; omega)).2) (fun v hv=>hr.one v (FD hv))
 have b:∀j,j<(n+1)*9->(W.c_ g j).isSome=true∧W.frozen? (a_ g j)=false:=fun j hj=>hr.there j (by omega)
 obtain⟨W1,hW1⟩:∃W1,W1=W.drew.setCells g ((i+1)*9) (cs.drop (i*9)):=⟨_,rfl⟩
 have p:∀k,k<(n+1)*9->(W1.c_ g k).isSome=true:=fun k hk=>by
  rw[hW1];exact isSome_setCells g (cs.drop (i*9)) ((i+1)*9) W.drew (fun j hj=>(b ((i+1)*9+j) (by rw[f] at hj; omega)).1) k (b k hk).1
 have r:∀(V:World),(∀x,V.cell? x=W1.cell? x)->(∀x,V.frozen? x=W1.frozen? x)->∀ty dc,(Builtin.copy_ #[34,34] ty #[.slice (some ⟨g,i*9,none⟩) (n+1 - i) dc,.slice (o_ vb 0) 1 1]).run prog V=.ok (goInt (Nat.min 1 (n+1 - i))) (V.setCells g (i*9) us):=fun V hVc hVf ty dc=>
  dv V _ _ ty 40 9 g (i*9) (n+1 - i) dc (a_ vb 0) 1 1 us underlying34 lC (by rw[hul]; simp only[Nat.min_def]; split <;> omega)
   (fun j v hj=>by
    rw[Addr.add_lit,Nat.zero_add,hVc,hW1,World.cell?_setCells_out g _ _ _ _ (fun h _=>absurd h hvb)];exact hvs j v hj)
   (fun j hj=>by rw[hVc]; exact p _ (by omega)) (fun j hj=>by rw[hVf,hW1,World.frozen?_setCells]; exact (b _ (by omega)).2) h1u
 rw[<- hW1] at o;have F:¬ ((i:Int)=(n:Int)):=by omega
 have G:(0:Int)<=(i:Int)+1:=by omega
 have H:IntKind.i64.wrap ((i:Int)+1)=(i:Int)+1:=by rw[IntKind.wrap_i64]; omega
 have I:i<=n:=by omega
 have J:¬ (c=i+1):=by omega
 have L:(i:Int)<=(n:Int)+1:=by omega
 have M:¬ (c=i):=by omega
 have s:Hid _:=hW1;clear hW1 b p hr hvs hfa hsa hsb hu0 m q f C D E;go_enter func126,ntmps126
 go_wp2_with (simp only[z])
 go_region_law_o (refine step_copy_runI rfl _ _ 34 34 rfl _ _ (by simp[Act.eval,Act.put]) (by simp[Act.eval,Act.put]) (o _ _ _) ?_)
 go_wp2_with (at_builtin; refine wpList_copy_runI _ rfl _ _ 34 34 rfl _ _ rfl rfl (r _ (fun _=>rfl) (fun _=>rfl) _ _) ?_)
 go_ret;first | exact⟨rfl,by rw[s.o]⟩ | exact⟨rfl,by rw[<- s.o]⟩ | (refine⟨rfl,?_⟩; done)
theorem ry(hr:cF 9 B W g c n cs)(hn:n<=5000)(hi:i<n)(hroom:c<n+1)(us:List Value)(hul:us.length=9)(h1u:∀u∈us,u.oneCell'=true)(vb:Nat)(hvw:vb<W.heap.size)(hvs:∀j v,us[j]?=some v->W.cell? ⟨vb,j,none⟩=some v):
 Calls prog 126 #[.slice (o_ g 0) n c,.i_ (i:Nat),.slice (o_ vb 0) 1 1] W fun e w'=>
  e=.returned (.slice (some ⟨W.heap.size,0,none⟩) (n+1) (grownCap W (n+1) c 40))∧
  w'=(((W.alloc (.cells ((cs.take (i*9)).toArray ++ Builtin.zeroCells (ap zeroF).cells (n+1 - i) ++ Builtin.zeroCells (ap zeroF).cells (grownCap W (n+1) c 40 - (n+1))) 40)).drew.setCells W.heap.size (i*9) us).drew).setCells W.heap.size ((i+1)*9) (cs.drop (i*9)):=by
 have F:=pI;obtain⟨i0,hi0,hz0,hz1,hz2⟩:=dL;have U:(i+1)*9=i*9+9:=Nat.succ_mul i 9;have X:i*9<=n*9:=Fi 9 (Fx hi);have k:=hr.len;have H:=hr.lt;have Y:=hr.le;have I:g≠W.heap.size:=by omega
 have D:(cs.take (i*9)).length=i*9:=by rw[List.length_take]; omega
 have b:(cs.drop (i*9)).length=n*9 - i*9:=by rw[List.length_drop,k]
 have q:(cs.drop (i*9)).length=(n - i)*9:=by rw[b,Nat.sub_mul]
 have r:i+(n+1 - i)=n+1:=by omega
 have m:(Builtin.firstCells i0.size i (.slice (o_ g 0) i c)).run prog W.drew=.ok (cs.take (i*9)).toArray W.drew:=by
  rw[hz1]
  exact run_firstCells_some W.drew 9 i (a_ g 0) i c (cs.take (i*9)) D (fun j v hj=>by
   rw[Addr.add_lit,Nat.zero_add];rw[List.getElem?_take] at hj;split at hj
   ·exact hr.holds j v hj
   ·cases hj)
 have s:(n:Int)+1 - (i:Int)=((n+1 - i:Nat):Int):=by omega
 have f:∀ty,(Builtin.append_ #[34,3] ty #[.slice (o_ g 0) i c,.i_ ((n:Int)+1 - (i:Int))]).run prog W =
  .ok (.slice (o_ W.heap.size 0) (n+1) (grownCap W (n+1) c 40)) (W.drew.alloc (.cells ((cs.take (i*9)).toArray ++ Builtin.zeroCells (ap zeroF).cells (n+1 - i) ++ Builtin.zeroCells (ap zeroF).cells (grownCap W (n+1) c 40 - (n+1))) 40)):=fun ty=>by
  have h:=Lib.run_append_grow_zeros W 34 3 ty 40 i0 _ .i64 .i64 underlying34 underlying3 hi0 hz0 (o_ g 0) i c (cs.take (i*9)) m (n+1 - i) (by omega) (by omega) (by omega) (by omega) (by have:(n+1 - i)*i0.bytes<=5001*1000:=Nat.mul_le_mul (by omega) hz2; omega) (growslice_fits (by omega) (by have:(i+(n+1 - i))*i0.bytes<=5001*1000:=Nat.mul_le_mul (by omega) hz2; omega))
  rw[r] at h;rw[s];exact h
 obtain⟨G,hG⟩:∃G,G=grownCap W (n+1) c 40:=⟨_,rfl⟩;obtain⟨ROW,hROW⟩:∃ROW:Array Value,ROW=(cs.take (i*9)).toArray ++ Builtin.zeroCells (ap zeroF).cells (n+1 - i) ++ Builtin.zeroCells (ap zeroF).cells (G - (n+1)):=⟨_,rfl⟩;rw[<- hG] at f ⊢;rw[<- hROW] at f ⊢;have Z:n+1<=G:=by rw[hG]; exact grownCap_ge W _ _ _
 have R:G<=9223372036854775807:=by
  have:=grownCap_le_maxLen W (n+1) c 40 (by unfold maxLen; omega)
  rw[<- hG] at this;unfold maxLen at this;omega
 have J:(n+1)*9<=ROW.size:=by
  rw[hROW,Array.size_append,Array.size_append,size_zeroCells,size_zeroCells,List.size_toArray,D,df];omega
 obtain⟨W1,hW1⟩:∃W1,W1=W.drew.alloc (.cells ROW 40):=⟨_,rfl⟩;rw[<- hW1] at f
 have E:∀j,j<(n+1)*9->(W1.cell? (a_ W.heap.size j)).isSome=true:=fun j hj=>by
  rw[hW1,World.cell?_alloc_at (w:=W.drew) ROW _ W.heap.size j rfl,Array.getElem?_eq_getElem (by omega)]; rfl
 have p:∀j,W1.frozen? (a_ W.heap.size j)=false:=fun j=>by rw[hW1]; exact Ff (w:=W.drew) ROW _ W.heap.size j rfl
 have z:∀j v,W.cell? (a_ g j)=some v->W1.cell? (a_ g j)=some v:=fun j v h=>by rw[hW1,World.cell?_alloc_past (w:=W.drew) _ g j H]; exact h
 have A:∀j v,W.cell? (a_ vb j)=some v->W1.cell? (a_ vb j)=some v:=fun j v h=>by rw[hW1,World.cell?_alloc_past (w:=W.drew) _ vb j hvw]; exact h
 have C:∀(V:World),(∀x,V.cell? x=W1.cell? x)->(∀x,V.frozen? x=W1.frozen? x)->∀ty dc,(Builtin.copy_ #[34,34] ty #[.slice (some ⟨W.heap.size,i*9,none⟩) (n+1 - i) dc,.slice (o_ vb 0) 1 1]).run prog V=.ok (goInt (Nat.min 1 (n+1 - i))) (V.setCells W.heap.size (i*9) us):=fun V hVc hVf ty dc=>
  dv V _ _ ty 40 9 W.heap.size (i*9) (n+1 - i) dc (a_ vb 0) 1 1 us underlying34 lC (by rw[hul]; simp only[Nat.min_def]; split <;> omega)
   (fun j v hj=>by rw[Addr.add_lit,Nat.zero_add,hVc]; exact A _ v (hvs j v hj))
   (fun j hj=>by rw[hVc]; exact E _ (by omega)) (fun j hj=>by rw[hVf]; exact p _) h1u
 have o:∀(V:World),(∀x,V.cell? x=(W1.setCells W.heap.size (i*9) us).cell? x)->(∀x,V.frozen? x=(W1.setCells W.heap.size (i*9) us).frozen? x)->∀ty dc sc,(Builtin.copy_ #[34,34] ty #[.slice (some ⟨W.heap.size,(i+1)*9,none⟩) (n - i) dc,.slice (some ⟨g,i*9,none⟩) (n - i) sc]).run prog V=.ok (goInt (Nat.min (n - i) (n - i))) (V.setCells W.heap.size ((i+1)*9) (cs.drop (i*9))):=fun V hVc hVf ty dc sc=>
  dv V _ _ ty 40 9 W.heap.size ((i+1)*9) (n - i) dc ⟨g,i*9,none⟩ (n - i) sc (cs.drop (i*9)) underlying34 lC (by rw[q]; congr 1; simp only[Nat.min_def]; split <;> omega)
   (fun j v hj=>by
    rw[Addr.add_lit,hVc,World.cell?_setCells_out _ _ _ _ _ (fun h _=>absurd h I)];exact z _ v (hr.holds _ v (by rwa [List.getElem?_drop] at hj)))
   (fun j hj=>by rw[hVc]; exact isSome_setCells _ _ _ _ (fun t D=>E _ (by omega)) _ (E _ (by rw[b] at hj; omega)))
   (fun j hj=>by rw[hVf,World.frozen?_setCells]; exact p _) (fun v hv=>hr.one v (FD hv))
 subst hW1;have L:∀x,((W.alloc (.cells ROW 40)).drew).cell? x=(W.drew.alloc (.cells ROW 40)).cell? x:=fun x=>rfl;have M:∀x,((W.alloc (.cells ROW 40)).drew).frozen? x=(W.drew.alloc (.cells ROW 40)).frozen? x:=fun x=>rfl;have N:∀x,(((W.alloc (.cells ROW 40)).drew.setCells W.heap.size (i*9) us).drew).cell? x=((W.drew.alloc (.cells ROW 40)).setCells W.heap.size (i*9) us).cell? x:=fun x=>rfl;have O:∀x,(((W.alloc (.cells ROW 40)).drew.setCells W.heap.size (i*9) us).drew).frozen? x=((W.drew.alloc (.cells ROW 40)).setCells W.heap.size (i*9) us).frozen? x:=fun x=>rfl;have hq1:¬ ((i:Int)=(n:Int)):=by omega
 have hq2:(c:Int)<(n:Int)+1:=by omega
 have hb1:(0:Int)<=(i:Int)+1:=by omega
 have hin:i<=n:=by omega
 have hb3:(i:Int)<=(n:Int):=by omega
 have hGi:¬ (G=i):=by omega
 have T:¬ (G=i+1):=by omega
 have hci:¬ (c=i):=by omega
 have hw1:IntKind.i64.wrap ((i:Int)+1)=(i:Int)+1:=by rw[IntKind.wrap_i64]; omega
 clear s r m hROW hG J hr hvs E p z A k D q b U X hi0 hz0 hz1;go_enter func126,ntmps126
 go_wp2_with (first
  |(at_builtin; refine Lib.wpList_append_run _ rfl _ _ _ _ rfl _ _ rfl rfl _ _ (f _) ?_)
  |(at_builtin; refine wpList_copy_runI _ rfl _ _ 34 34 rfl _ _ rfl rfl (C _ L M _ _) ?_)
  |(at_builtin; refine wpList_copy_runI _ rfl _ _ 34 34 rfl _ _ rfl rfl (o _ (fun _=>rfl) (fun _=>rfl) _ _ _) ?_))
 go_region_law_o (refine step_copy_runI rfl _ _ 34 34 rfl (.slice (some ⟨W.heap.size,(i+1)*9,none⟩) (n - i) (G - (i+1))) (.slice (some ⟨g,i*9,none⟩) (n - i) (c - i)) (by simp[Act.eval,Act.put]) (by simp[Act.eval,Act.put]) (o _ N O 3 (G - (i+1)) (c - i)) ?_)
 go_wp2
 go_ret;exact⟨rfl,rfl⟩
theorem mB(l:List Fam)(i:Nat)(hi:i<=l.length)(f:Fam):aq (l.take i ++ f::l.drop i)=(aq l).take (i*9) ++ ac f ++ (aq l).drop (i*9):=by
 rw[cV,eu,ig l i hi,ii l i hi,List.append_assoc]
variable {l:List Fam}{v:Value}
theorem ui(h:ah B w v l)(hn:l.length<=5000)(hB:B<=w.heap.size)(i:Nat)(hi:i<=l.length)(f:Fam)(t:TypeId):
 Calls prog 126 #[v,.i_ (i:Nat),.slice (o_ w.heap.size 0) 1 1] (w.alloc (.cells (ac f).toArray t)) fun e w'=>∃v',e=.returned v'∧ah B w' v' (l.take i ++ f::l.drop i)∧Below B w w':=by
 by_cases hil:i=l.length
 ·subst hil
  rw[List.take_of_length_le (Nat.le_refl _),List.drop_of_length_le (Nat.le_refl _)];exact uh h hn hB f t
 ·have o:i<l.length:=by omega
  have n:Below B w (w.alloc (.cells (ac f).toArray t)):=(E9 _ _).alloc hB _
  have p:∀j u,(ac f)[j]?=some u->(w.alloc (.cells (ac f).toArray t)).cell? (a_ w.heap.size j)=some u:=fun j u hj=>by
   rw[World.cell?_alloc_at _ _ _ _ rfl];simpa using hj
  have b:(l.take i ++ f::l.drop i).length=l.length+1:=pp l i hi f;rcases h with ⟨rfl,h0,_⟩ | ⟨g,c,rfl,hr⟩
  ·omega
  ·have k:cF 9 B (w.alloc (.cells (ac f).toArray t)) g c l.length (aq l):=hr.below ((E9 w.heap.size w).alloc (Fa _) _) hr.lt
   by_cases hroom:l.length+1<=c
   ·refine (rx k hn o hroom (ac f) rfl (cy f) w.heap.size (by have:=hr.lt; omega) p t 9 ?_ (fun j=>Ff _ _ _ _ rfl)).mono ?_
    ·unfold World.shape?
     rw[show (w.alloc (.cells (ac f).toArray t)).heap[w.heap.size]?=some (.cells (ac f).toArray t) from Array.getElem?_push_size]
     rfl
    ·rintro e w' ⟨rfl,rfl⟩
     have q:cF 9 B (w.alloc (.cells (ac f).toArray t)).drew g c l.length (aq l):=k.block (Fa _) rfl;refine⟨_,rfl,.inr ⟨g,c,by rw[b],?_⟩,(n.drew.trans (aa hr.new _ _ _)).trans (aa hr.new _ _ _)⟩
     rw[b,mB l i hi f];exact q.shift i hi hroom (ac f) rfl (cy f)
   ·refine (ry k hn o (by omega) (ac f) rfl (cy f) w.heap.size (by simp) p).mono ?_
    rintro e w' ⟨rfl,rfl⟩;generalize w.alloc (.cells (ac f).toArray t)=W at *;have m:B<=W.heap.size:=Fe hB n.size;refine⟨_,rfl,.inr ⟨_,_,by rw[b],?_⟩,(((n.alloc m _).drew.trans (aa m _ _ _)).drew).trans (aa m _ _ _)⟩
    rw[b,mB l i hi f];exact k.grown m i hi (ac f) rfl (cy f) _ df _ _ (grownCap_le_maxLen W _ _ _ (by unfold maxLen; omega)) (grownCap_ge W _ _ _)
theorem Dd(w:World):(zeroValue 40).run prog w=.ok (ap zeroF) w:=by
 obtain⟨i0,hi,hz0,_⟩:=dL;simp[zeroValue,typeInfo,hi,hz0]
theorem rB(w:World)(ty:TypeId)(z:Value)(us:List Value)(hz:∀w,(zeroValue 40).run prog w=.ok z w)(hu:(Builtin.zeroCells z.cells 1).toList=us)(hul:us.length=9)(h1:∀u∈us,u.oneCell'=true)(b o c:Nat)(hc:∀j,j<9->(w.cell? ⟨b,o+j,none⟩).isSome=true)(hf:∀j,j<9->w.frozen? ⟨b,o+j,none⟩=false):
 (Builtin.clear_ #[34] ty #[.slice (some ⟨b,o,none⟩) 1 c]).run prog w=.ok (.tuple #[]) (w.setCells b o us):=by
 have f:=run_storeCells_cells (P:=prog) b o us 0 w (by simpa[hul] using hc) (by simpa[hul] using hf) h1
 simp only[Nat.add_zero] at f;simp[Builtin.clear_,run_underlying underlying34,hz,hu,f]
theorem De:(Builtin.zeroCells (ap zeroF).cells 1).toList=ac zeroF:=by
 unfold Builtin.zeroCells ap ac;simp[Value.cells]
 rfl
theorem nA(w:World)(ty:TypeId)(b o c:Nat)(hc:∀j,j<9->(w.cell? ⟨b,o+j,none⟩).isSome=true)(hf:∀j,j<9->w.frozen? ⟨b,o+j,none⟩=false):
 (Builtin.clear_ #[34] ty #[.slice (some ⟨b,o,none⟩) 1 c]).run prog w=.ok (.tuple #[]) (w.setCells b o (ac zeroF)):=
 rB w ty (ap zeroF) (ac zeroF) Dd De rfl (cy zeroF) b o c hc hf
theorem uj{r:Nat}(hr:cF 9 B w g c (i+1+r) cs)(hn:i+1+r<=5000):
 Calls prog 127 #[.slice (o_ g 0) (i+1+r) c,.i_ (i:Nat),.i_ ((i:Int)+1)] w fun e w'=>
  e=.returned (.slice (some ⟨g,0,none⟩) (i+r) c)∧w'=(w.drew.setCells g (i*9) (cs.drop ((i+1)*9))).setCells g ((i+r)*9) (ac zeroF):=by
 have k:=pI;obtain⟨i0,hi0,hz0,hz1,hz2⟩:=dL;have f:=hr.len;have m:=hr.le;have o:c<=9223372036854775807:=hr.max;have hk:(i+1+r)*9<=c*9:=Fi 9 m;have b:(cs.drop ((i+1)*9)).length=r*9:=by rw[List.length_drop,f]; omega
 obtain⟨A,hA,hsrc⟩:∃A:Addr,(if c=i+1 then (o_ g 0:Option Addr) else some ⟨g,(i+1)*9,none⟩)=some A∧Hid (∀t u,(cs.drop ((i+1)*9))[t]?=some u->w.drew.cell? (A.add t)=some u):=by
  by_cases h:c=i+1
  ·refine⟨(a_ g 0),by simp[h],fun t u hu=>?_⟩
   have n:r=0:=by omega
   have s:(cs.drop ((i+1)*9)).length=0:=by rw[b,n]
   rw[List.length_eq_zero_iff.1 s] at hu;simp at hu
  ·refine⟨⟨g,(i+1)*9,none⟩,by simp[h],fun t u hu=>?_⟩
   rw[Addr.add_lit];exact hr.holds _ u (by rwa [List.getElem?_drop] at hu)
 have v:Hid ((cs.drop ((i+1)*9)).length=r*9):=b;have z:Hid (∀u∈cs.drop ((i+1)*9),u.oneCell'=true):=fun u hu=>hr.one u (FD hu)
 have C:Hid (∀t,t<(cs.drop ((i+1)*9)).length->(w.drew.cell? ⟨g,0+i*9+t,none⟩).isSome=true∧w.drew.frozen? ⟨g,0+i*9+t,none⟩=false):=by
  intro t ht;rw[b] at ht;rw[Nat.zero_add];exact hr.there _ (by omega)
 obtain⟨W1,hW1⟩:∃W1,W1=w.drew.setCells g (0+i*9) (cs.drop ((i+1)*9)):=⟨_,rfl⟩
 have D:∀ty cc,(Builtin.clear_ #[34] ty #[.slice (some ⟨g,(i+r)*9,none⟩) 1 cc]).run prog W1=.ok (.tuple #[]) (W1.setCells g ((i+r)*9) (ac zeroF)):=fun ty cc=>
  nA W1 ty g ((i+r)*9) cc (fun t ht=>by
   rw[hW1];exact isSome_setCells g (cs.drop ((i+1)*9)) (0+i*9) w.drew (fun j hj=>by rw[Nat.zero_add]; exact (hr.there _ (by rw[b] at hj; omega)).1) _ (hr.there _ (by omega)).1)
   (fun t ht=>by rw[hW1,World.frozen?_setCells]; exact (hr.there _ (by omega)).2)
 have p:Hid (W1=w.drew.setCells g (0+i*9) (cs.drop ((i+1)*9))):=hW1;have E:i<=c:=by omega
 have F:i+1<=c:=by omega
 have hx:i+1+r - (i+r)=1:=by omega
 have G:i+1+r - (i+1)=r:=by omega
 have H:¬ c=i+r:=by omega
 have q:¬ c=i:=by omega
 have I:(i:Int)+1<=(i:Int)+1+(r:Int):=by omega
 have J:(0:Int)<=(i:Int)+1:=by omega
 have L:IntKind.i64.wrap ((i:Int)+1)=(i:Int)+1:=by rw[IntKind.wrap_i64]; omega
 clear hW1 hr f b;go_enter func127,ntmps127
 go_wp2_with fail;go_region_law_o (refine step_append_room rfl (.tmp 22) (.tmp 25) 34 rfl 40 i0 9 underlying34 hi0 hz1 g 0 i c (by simp[Act.eval,Act.put]) A r (c - (i+1)) (cs.drop ((i+1)*9)) (by simp[Act.eval,Act.put]) v.o hsrc.out z.o (by omega) C.o ?_; rw[<- p.o])
 go_wp2_with fail;go_ret;exact⟨rfl,by rw[p.o,Nat.zero_add]⟩
theorem xl(h:ah B w v l)(hn:l.length<=5000)(i:Nat)(hi:i<l.length):
 Calls prog 127 #[v,.i_ (i:Nat),.i_ ((i:Int)+1)] w fun e w'=>∃v',e=.returned v'∧ah B w' v' (l.take i ++ l.drop (i+1))∧Below B w w':=by
 obtain⟨r,hr'⟩:∃r,l.length=i+1+r:=⟨l.length - (i+1),by omega⟩
 have b:(l.take i ++ l.drop (i+1)).length=i+r:=by rw[List.length_append,List.length_take,List.length_drop]; omega
 have j:aq (l.take i ++ l.drop (i+1))=(aq l).take (i*9) ++ (aq l).drop ((i+1)*9):=by
  rw[cV,ig l i (by omega),ii l (i+1) (by omega)]
 rcases h with ⟨rfl,h0,_⟩ | ⟨g,c,rfl,hr⟩
 ·omega
 ·rw[hr'] at hr ⊢
  refine (uj hr (by omega)).mono ?_;rintro e w' ⟨rfl,rfl⟩;have k:cF 9 B w.drew g c (i+1+r) (aq l):=hr.block (Fa _) rfl;have f:=k.cut i (by omega) (ac zeroF) rfl
  rw[show i+1+r - 1=i+r by omega] at f
  refine⟨_,rfl,.inr ⟨g,c,by rw[b],?_⟩,(((Below.refl B w).drew).trans (aa hr.new _ _ _)).trans (aa hr.new _ _ _)⟩
  rw[b,j];exact f
theorem uk(l:List Fam)(i:Nat)(hi:i<l.length)(f:Fam):aq (l.set i f)=(aq l).take (i*9) ++ ac f ++ (aq l).drop ((i+1)*9):=by
 rw[List.set_eq_take_append_cons_drop,if_pos hi,cV,eu,ig l i (by omega),ii l (i+1) (by omega),List.append_assoc]
theorem Df(h:ah B w v l)(hr:aP l)(hn:l.length<=5000)(hB:B<=w.heap.size)(f:Fam):
 Calls prog 62 #[v,ap f] w fun e w'=>∃v',e=.returned v'∧ah B w' v' (er l f)∧Below B w w':=by
 have z:Below w.heap.size w (w.alloc (.cells (F_ f.id f.client f.subject f.scope f.gen f.made f.used f.request f.dead) 40)):=(E9 _ _).alloc (Fa _) _;have r:=eU w f 40 w.heap.size rfl;have n:=ru (h.below z (Fa _)) hr hn f.id;have HF:Hid (ah B w v l):=h;have s:Hid _:=z;have t:w.heap.size<(w.alloc (.cells (F_ f.id f.client f.subject f.scope f.gen f.made f.used f.request f.dead) 40)).heap.size:=by simp
 obtain⟨base,c,rfl⟩:=h.slice;clear h z;have p:=uk l (rank l f.id);have X:=vr l f.id;have A:=@wC l f hr;have C:=fun (hx:∀x∈l,x.id≠f.id)=>@Bj l f hr hx;have m:thereB l f.id=false->∀x∈l,x.id≠f.id:=fun hx=>nV hr (rr hx);have HP:Hid (er l f=er l f):=rfl;generalize hR:rank l f.id=R at *
 cases htb:thereB l f.id with
 |true=>
  obtain⟨hq,hid⟩:=om htb;rw[htb] at n
  have Y:Hid (l.set R f=er l f):=by
   subst hR;exact A hq hid
  have E:R<l.length:=by rw[<- hR]; exact hq
  have F:Hid (aq (l.set R f)=(aq l).take (R*9) ++ ac f ++ (aq l).drop ((R+1)*9)):=p E f;clear htb A C m p hid hq;obtain⟨f1,f2,f3,f4,f5,f6,f7,f8,f9⟩:=f;unfold ap ac at *;simp only at *;go_enter func62,ntmps62
  go_wp2_with fail
  refine n.mono ?_;rintro e w1 ⟨rfl,hb1⟩;have b:=r.on hb1 t;have o:Hid (Below w.heap.size w w1):=s.o.trans (hb1.mono s.o.size);have D:Hid (ah B w1 (.slice base l.length c) l):=HF.o.below o.o (Fa _);have hqI:(R:Int)<(l.length:Int):=by omega
  rcases D.o with ⟨_,h0,_⟩ | ⟨g,c',he,hrow⟩
  ·omega
  ·injection he with he _ hcc
   subst he; subst hcc;have hle:(R+1)*9<=c*9:=Fi 9 (by have:=hrow.le; omega)
   have q:∀k,k<9->∃u,w1.cell? ⟨g,R*9+k,none⟩=some u:=fun k hk=>Option.isSome_iff_exists.1 (hrow.there (R*9+k) (by omega)).1
   have j:∀k,k<9->w1.frozen? ⟨g,R*9+k,none⟩=false:=fun k hk=>(hrow.there (R*9+k) (by omega)).2
   obtain⟨u0,z0⟩:=q 0 (by omega)
   obtain⟨u1,z1⟩:=q 1 (by omega)
   obtain⟨u2,z2⟩:=q 2 (by omega)
   obtain⟨u3,z3⟩:=q 3 (by omega)
   obtain⟨u4,z4⟩:=q 4 (by omega)
   obtain⟨u5,z5⟩:=q 5 (by omega)
   obtain⟨u6,z6⟩:=q 6 (by omega)
   obtain⟨u7,z7⟩:=q 7 (by omega)
   obtain⟨u8,z8⟩:=q 8 (by omega)
   have y0:=j 0 (by omega)
   have y1:=j 1 (by omega)
   have y2:=j 2 (by omega)
   have y3:=j 3 (by omega)
   have y4:=j 4 (by omega)
   have y5:=j 5 (by omega)
   have y6:=j 6 (by omega)
   have y7:=j 7 (by omega)
   have y8:=j 8 (by omega)
   rw[Nat.add_zero] at z0 y0;have I:=b.c0; have J:=b.c1; have L:=b.c2; have M:=b.c3; have N:=b.c4; have O:=b.c5; have T:=b.c6; have U:=b.c7; have V:=b.c8;simp only[Nat.zero_add] at I J L M N O T U V;have G:Hid (cF 9 B (w1.setCells g (R*9) (G_ f1 f2 f3 f4 f5 f6 f7 f8 f9)) g c l.length ((aq l).take (R*9) ++ (G_ f1 f2 f3 f4 f5 f6 f7 f8 f9) ++ (aq l).drop ((R+1)*9))):=hrow.set R E _ rfl (cy ⟨f1,f2,f3,f4,f5,f6,f7,f8,f9⟩);have Z:Hid (Below B w (w1.setCells g (R*9) (G_ f1 f2 f3 f4 f5 f6 f7 f8 f9))):=(o.o.mono hB).trans (aa hrow.new _ _ _);clear q j hrow hb1 r b n;go_wp2_with fail
   go_ret;refine⟨_,rfl,?_,Z.o⟩;rw[<- Y.o];refine .inr ⟨g,c,by rw[List.length_set]; rfl,?_⟩
   rw[List.length_set,F.o];exact G.o
 |false=>
  have H:=m htb;rw[htb] at n;have Ed:Hid (l.take R ++ f::l.drop R=er l f):=C H;clear htb A C m p H hr;have Ee:=fun (W:World) (hf:ah B W (.slice base l.length c) l) (hBW:B<=W.heap.size)=>ui hf hn hBW R X f 40;obtain⟨f1,f2,f3,f4,f5,f6,f7,f8,f9⟩:=f;unfold ap ac at *;simp only at *;go_enter func62,ntmps62
  go_wp2_with fail
  refine n.mono ?_;rintro e w1 ⟨rfl,hb1⟩;have b:=r.on hb1 t;have o:Hid (Below w.heap.size w w1):=s.o.trans (hb1.mono s.o.size);have D:Hid (ah B w1 (.slice base l.length c) l):=HF.o.below o.o (Fa _);have I:=b.c0; have J:=b.c1; have L:=b.c2; have M:=b.c3; have N:=b.c4; have O:=b.c5; have T:=b.c6; have U:=b.c7; have V:=b.c8;simp only[Nat.zero_add] at I J L M N O T U V;clear hb1 r b n;go_wp2_with fail
  refine (Ee _ D.o (Fe hB o.o.size)).mono ?_;rintro e w2 ⟨v',rfl,hf2,hb2⟩;have Ef:Hid (ah B w2 v' (er l ⟨f1,f2,f3,f4,f5,f6,f7,f8,f9⟩)):=by rw[<- Ed.o]; exact hf2
  have Eg:Hid (Below B w w2):=(o.o.mono hB).trans hb2;clear hf2 hb2 I J L M N O T U V;go_wp2_with fail
  go_ret;exact⟨v',rfl,Ef.o,Eg.o⟩
theorem BI(h:ah B w v l)(hr:aP l)(hn:l.length<=5000)(hB:B<=w.heap.size)(n:Int):
 Calls prog 63 #[v,.i_ n] w fun e w'=>∃v',e=.returned v'∧ah B w' v' (dropP l n)∧Below B w w':=by
 have b:=ru h hr hn n;have p:J (ah B w v l):=h;obtain⟨base,c,rfl⟩:=h.slice;clear h
 cases htb:thereB l n with
 |true=>
  obtain⟨hq,hid⟩:=om htb;have j:J (l.take (rank l n) ++ l.drop (rank l n+1)=dropP l n):=tJ hr hq hid;rw[htb] at b;have k:=fun (W:World) (hf:ah B W (.slice base l.length c) l)=>xl hf hn (rank l n) hq;clear htb hid;generalize rank l n=R at *;go_enter func63,ntmps63
  go_wp2_with fail
  refine b.mono ?_;rintro e w1 ⟨rfl,hb1⟩;have f:J (Below w.heap.size w w1):=hb1;have g:J (ah B w1 (.slice base l.length c) l):=p.o.below f.o (Fa _);clear hb1 b;go_wp2_with fail
  refine (k _ g.o).mono ?_;rintro e w2 ⟨v',rfl,hf2,hb2⟩;have m:J (ah B w2 v' (dropP l n)):=by rw[<- j.o]; exact hf2
  have o:J _:=(f.o.mono hB).trans hb2;clear hf2 hb2;go_wp2_with fail
  go_ret;exact⟨v',rfl,m.o,o.o⟩
 |false=>
  have j:J _:=wD (nV hr (rr htb));rw[htb] at b;clear htb;generalize rank l n=R at *;go_enter func63,ntmps63
  go_wp2_with fail
  refine b.mono ?_;rintro e w1 ⟨rfl,hb1⟩;have f:J _:=hb1;have g:J _:=p.o.below f.o (Fa _);clear hb1 b;go_wp2_with fail
  go_ret;refine⟨_,rfl,?_,f.o.mono hB⟩;rw[<- j.o];exact g.o
end Go.Proofs.YtlailakofhenkabGreatDoor
