import Derived.Test.YtlailakofhenkabGreatDoorB21
set_option maxRecDepth 100000
set_option maxHeartbeats 8000000
namespace Go.Proofs.YtlailakofhenkabGreatDoor
open Go Go.RowKit Tok Sc Ev
theorem DS.turned {w0:World} {gs gd:Nat} {A:AD} {n:Nat} {c c':Bool} {l l1:Int} {dn:Bool} {sv lg:Nat} {st:St} {v:Value} {w w':World} (h:DS w0 gs gd A n c l dn sv lg st v w) (hg:w.grownBy w' (some gd)) (hd:∃ F l',IsDisk w' gd F (n:Int) c' l'∧(c'=true→l'=l1)∧EncF tag0 F A):DS w0 gs gd A n c' l1 dn sv lg st v w':=by
 have hk:=Keep.grown hg;have hb:Below gd w w':=hk.below (Nat.le_of_lt h.gdlt) (fun x hx=>by simp at hx; omega)
 exact ⟨hd,h.libs.belowB hb h.olds,(hb.cell (p:=⟨0,0,none⟩) h.oldE).trans h.err,h.store.keep hk h.ord,h.ord,h.olds,h.oldE,h.keep.trans (hk.mono (fun x hx=>by simp at hx; simp [hx])),h.was⟩
theorem cutD_is (w0:World) (gs gd:Nat) (A:AD) (n:Nat) (c:Bool) (l:Int) (dn:Bool) (sv lg:Nat) (st:St) (v:Value) (k:Int) (w:World) (h:DS w0 gs gd A n c l dn sv lg st v w) :
 Calls Tryz.prog 15 #[.pointer (some ⟨gd,0,none⟩),.int .i64 k] w fun r w'=>r=.returned (.tuple #[])∧DS w0 gs gd A n (decide (0≤k)) k dn sv lg st v w'∧Keep [gd] w w':=by
 obtain ⟨F,l',h1,h2,h3⟩:=h.disk;by_cases hk:0≤k
 ·refine (cut_on gd F n c l' k hk w h1).mono ?_
  rintro r w' ⟨rfl,q1,q2⟩;rw [decide_eq_true hk];exact ⟨rfl,h.turned q2 ⟨F,k,q1,fun _=>rfl,h3⟩,Keep.grown q2⟩
 ·refine (cut_off gd F n c l' k (by omega) w h1).mono ?_
  rintro r w' ⟨rfl,q1,q2⟩;rw [decide_eq_false hk];exact ⟨rfl,h.turned q2 ⟨F,0,q1,fun hc=>(by cases hc),h3⟩,Keep.grown q2⟩
theorem log_is (w:World) (gs gd:Nat) (dn:Bool) (sv lg:Nat) (st:St) (v:Value) (h:StoreAt w gs gd dn sv lg st v):Calls Tryz.prog 51 #[.pointer (some ⟨gs,0,none⟩)] w fun r w'=>r=.returned (.int .i64 lg)∧w'=w:=by
 have p3:=h.p3;clear h;go_enter Tryz.func51,Tryz.ntmps51
 go_wp2_with fail
 go_ret;exact ⟨rfl,rfl⟩
theorem down_is (w:World) (gs gd:Nat) (dn:Bool) (sv lg:Nat) (st:St) (v:Value) (h:StoreAt w gs gd dn sv lg st v):Calls Tryz.prog 300 #[.pointer (some ⟨gs,0,none⟩)] w fun r w'=>r=.returned (.bool dn)∧w'=w:=by
 have p1:=h.p1;clear h;go_enter Tryz.func300,Tryz.ntmps300
 go_wp2_with fail
 go_ret;exact ⟨rfl,rfl⟩
theorem state_is (w:World) (gs gd:Nat) (dn:Bool) (sv lg:Nat) (st:St) (v:Value) (h:StoreAt w gs gd dn sv lg st v) (hn:st.fams.length≤5000):Calls Tryz.prog 20 #[.pointer (some ⟨gs,0,none⟩)] w fun r w'=>∃ v',r=.returned (stV st.clock st.next v')∧Fams w.heap.size w' v' st.fams∧Below w.heap.size w w':=by
 obtain ⟨ba,ca,rfl⟩:=RowsK.slice h.fam;have hcl:=fun (W:World) (hf:Fams (gs+1) W (.slice ba st.fams.length ca) st.fams)=>clone_fams hf hn;have HB0:Hid (Below w.heap.size w (w.alloc (.cells #[.int .i64 0,.int .i64 0,.slice none 0 0] 36))):=(Below.refl _ _).alloc (Nat.le_refl _) _;have H1:Hid _:=h.on HB0.out;have HB2:Hid (Below w.heap.size w ((w.alloc (.cells #[.int .i64 0,.int .i64 0,.slice none 0 0] 36)).alloc (.cells #[.int .i64 st.clock,.int .i64 st.next,.slice ba st.fams.length ca] 36))):=HB0.out.alloc (by simp) _
 have HF2:Hid (Fams (gs+1) ((w.alloc (.cells #[.int .i64 0,.int .i64 0,.slice none 0 0] 36)).alloc (.cells #[.int .i64 st.clock,.int .i64 st.next,.slice ba st.fams.length ca] 36)) (.slice ba st.fams.length ca) st.fams):=(h.on HB2.out).fam;have p4:=H1.out.p4;have p5:=H1.out.p5;have p6:=H1.out.p6;have hs2:((w.alloc (.cells #[.int .i64 0,.int .i64 0,.slice none 0 0] 36)).alloc (.cells #[.int .i64 st.clock,.int .i64 st.next,.slice ba st.fams.length ca] 36)).heap.size=w.heap.size+2:=by simp
 have hA:∀ i,((w.alloc (.cells #[.int .i64 0,.int .i64 0,.slice none 0 0] 36)).alloc (.cells #[.int .i64 st.clock,.int .i64 st.next,.slice ba st.fams.length ca] 36)).cell? ⟨w.heap.size,i,none⟩=(w.alloc (.cells #[.int .i64 0,.int .i64 0,.slice none 0 0] 36)).cell? ⟨w.heap.size,i,none⟩:=fun i=>World.cell?_alloc_lt _ _ _ (by simp)
 have hFa:∀ i,((w.alloc (.cells #[.int .i64 0,.int .i64 0,.slice none 0 0] 36)).alloc (.cells #[.int .i64 st.clock,.int .i64 st.next,.slice ba st.fams.length ca] 36)).frozen? ⟨w.heap.size,i,none⟩=false:=fun i=>by rw [World.frozen?_alloc_past _ _ _ (by simp)]; exact World.frozen?_alloc_at _ _ _ _ rfl
 have HA:Hid (∀ i,_):=hA;have HFA:Hid (∀ i,_):=hFa;have HS2:Hid _:=hs2;clear h hA hFa hs2;unfold stV;go_enter Tryz.func20,Tryz.ntmps20
 go_wp2_with fail
 refine (hcl _ HF2.out).mono ?_;rintro e1 w1 ⟨v1,rfl,hf1,hb1⟩;obtain ⟨b1,c1,rfl⟩:=RowsK.slice hf1;have HB3:Hid (Below w.heap.size w w1):=HB2.out.trans (hb1.mono HB2.out.size);have z0:=(hb1.cell (p:=⟨w.heap.size,0,none⟩) (by rw [HS2.out]; show w.heap.size<_; omega)).trans ((HA.out 0).trans ((World.cell?_alloc_at _ _ _ _ rfl).trans rfl))
 have z1:=(hb1.cell (p:=⟨w.heap.size,1,none⟩) (by rw [HS2.out]; show w.heap.size<_; omega)).trans ((HA.out 1).trans ((World.cell?_alloc_at _ _ _ _ rfl).trans rfl))
 have z2:=(hb1.cell (p:=⟨w.heap.size,2,none⟩) (by rw [HS2.out]; show w.heap.size<_; omega)).trans ((HA.out 2).trans ((World.cell?_alloc_at _ _ _ _ rfl).trans rfl))
 have zf:∀ i,w1.frozen? ⟨w.heap.size,i,none⟩=false:=fun i=>(hb1.frozen (p:=⟨w.heap.size,i,none⟩) (by rw [HS2.out]; show w.heap.size<_; omega)).trans (HFA.out i)
 have y0:w1.cell? ⟨w.heap.size+1,0,none⟩=some (.int .i64 st.clock):=(hb1.cell (p:=⟨w.heap.size+1,0,none⟩) (by rw [HS2.out]; show w.heap.size+1<_; omega)).trans ((World.cell?_alloc_at _ _ _ _ (by simp)).trans rfl)
 have y1:w1.cell? ⟨w.heap.size+1,1,none⟩=some (.int .i64 st.next):=(hb1.cell (p:=⟨w.heap.size+1,1,none⟩) (by rw [HS2.out]; show w.heap.size+1<_; omega)).trans ((World.cell?_alloc_at _ _ _ _ (by simp)).trans rfl)
 have y2:w1.cell? ⟨w.heap.size+1,2,none⟩=some (.slice ba st.fams.length ca):=(hb1.cell (p:=⟨w.heap.size+1,2,none⟩) (by rw [HS2.out]; show w.heap.size+1<_; omega)).trans ((World.cell?_alloc_at _ _ _ _ (by simp)).trans rfl)
 have yf:∀ i,w1.frozen? ⟨w.heap.size+1,i,none⟩=false:=fun i=>(hb1.frozen (p:=⟨w.heap.size+1,i,none⟩) (by rw [HS2.out]; show w.heap.size+1<_; omega)).trans (World.frozen?_alloc_at _ _ _ _ (by simp))
 have HF1:Hid (Fams (w.heap.size+2) w1 (.slice b1 st.fams.length c1) st.fams):=by rw [← HS2.out]; exact hf1
 clear hf1 hb1 hcl p4 p5 p6;have HBF:Hid (Below w.heap.size w ((((w1.setCell ⟨w.heap.size+1,2,none⟩ (.slice b1 st.fams.length c1)).setCell ⟨w.heap.size,0,none⟩ (.int .i64 st.clock)).setCell ⟨w.heap.size,1,none⟩ (.int .i64 st.next)).setCell ⟨w.heap.size,2,none⟩ (.slice b1 st.fams.length c1))):=(HB3.out.setCell (p:=⟨w.heap.size+1,2,none⟩) (Nat.le_succ _) _).trans (below3 _ 0 1 2 _ _ _ _)
 have HFF:Hid (Fams w.heap.size ((((w1.setCell ⟨w.heap.size+1,2,none⟩ (.slice b1 st.fams.length c1)).setCell ⟨w.heap.size,0,none⟩ (.int .i64 st.clock)).setCell ⟨w.heap.size,1,none⟩ (.int .i64 st.next)).setCell ⟨w.heap.size,2,none⟩ (.slice b1 st.fams.length c1)) (.slice b1 st.fams.length c1) st.fams):=
  RowsK.mono ((((HF1.out.other (a:=⟨w.heap.size+1,2,none⟩) (by show w.heap.size+1<_; omega) _).other (a:=⟨w.heap.size,0,none⟩) (by show w.heap.size<_; omega) _).other (a:=⟨w.heap.size,1,none⟩) (by show w.heap.size<_; omega) _).other (a:=⟨w.heap.size,2,none⟩) (by show w.heap.size<_; omega) _) (by omega)
 obtain ⟨q0,q1,q2⟩:=@three_set (w1.setCell ⟨w.heap.size+1,2,none⟩ (.slice b1 st.fams.length c1)) w.heap.size (.int .i64 st.clock) (.int .i64 st.next) (.slice b1 st.fams.length c1) _ _ _ (set_other z0 (by omega)) (set_other z1 (by omega)) (set_other z2 (by omega))
 go_wp2_with fail
 have HBF2:=HBF.out;have HFF2:=HFF.out;clear HBF HFF z0 z1 z2 zf y0 y1 y2 yf;generalize World.setCell _ ⟨w.heap.size,2,none⟩ _=WW at *;exact bodyPost_ret (v:=.agg #[.int .i64 st.clock,.int .i64 st.next,.slice b1 st.fams.length c1]) (by simp [results,Tryz.results20,go_sem,q0,q1,q2]) rfl ⟨_,rfl,HFF2,HBF2⟩
structure SP (N:Nat) (w:World) (gs gd:Nat) (p:Pub) (v:Value):Prop where
 ok:PubOk N p
 run:∃ A sv b es,Inv A p.st sv p.lg b es∧sv≤N∧DS w gs gd A p.n p.c p.l p.dn sv p.lg p.st v w
theorem SP.mono {N M:Nat} {w:World} {gs gd:Nat} {p:Pub} {v:Value} (h:SP N w gs gd p v) (hm:N≤M):SP M w gs gd p v:=by
 obtain ⟨A,sv,b,es,h1,h2,h3⟩:=h.run;exact ⟨ok_mono h.ok hm,A,sv,b,es,h1,Nat.le_trans h2 hm,h3⟩
theorem SP.on {N:Nat} {w w':World} {gs gd:Nat} {p:Pub} {v:Value} (h:SP N w gs gd p v) (hb:Below w.heap.size w w'):SP N w' gs gd p v:=by
 obtain ⟨A,sv,b,es,h1,h2,h3⟩:=h.run;exact ⟨h.ok,A,sv,b,es,h1,h2,(h3.on hb).rebase⟩
theorem SP.store {N:Nat} {w:World} {gs gd:Nat} {p:Pub} {v:Value} (h:SP N w gs gd p v):∃ sv,StoreAt w gs gd p.dn sv p.lg p.st v:=by
 obtain ⟨A,sv,b,es,h1,h2,h3⟩:=h.run;exact ⟨sv,h3.store⟩
theorem SP.fam {N:Nat} {w:World} {gs gd:Nat} {p:Pub} {v:Value} (h:SP N w gs gd p v):Fams (gs+1) w v p.st.fams:=by
 obtain ⟨sv,h1⟩:=h.store;exact h1.fam
theorem SP.lt {N:Nat} {w:World} {gs gd:Nat} {p:Pub} {v:Value} (h:SP N w gs gd p v):gs<w.heap.size:=by
 obtain ⟨sv,h1⟩:=h.store;exact h1.lt
theorem SP.ord {N:Nat} {w:World} {gs gd:Nat} {p:Pub} {v:Value} (h:SP N w gs gd p v):gd<gs:=by
 obtain ⟨A,sv,b,es,h1,h2,h3⟩:=h.run;exact h3.ord
theorem SP.disk {N:Nat} {w:World} {gs gd:Nat} {p:Pub} {v:Value} (h:SP N w gs gd p v):∃ A,∃ F l',IsDisk w gd F (p.n:Int) p.c l'∧EncF tag0 F A:=by
 obtain ⟨A,sv,b,es,h1,h2,h3⟩:=h.run;obtain ⟨F,l',d1,d2,d3⟩:=h3.disk;exact ⟨A,F,l',d1,d3⟩
theorem SP.err {N:Nat} {w:World} {gs gd:Nat} {p:Pub} {v:Value} (h:SP N w gs gd p v):ErrVar w:=by
 obtain ⟨A,sv,b,es,h1,h2,h3⟩:=h.run;exact h3.err
theorem SP.libs {N:Nat} {w:World} {gs gd:Nat} {p:Pub} {v:Value} (h:SP N w gs gd p v):LibsA w:=by
 obtain ⟨A,sv,b,es,h1,h2,h3⟩:=h.run;exact h3.libs
theorem SP.left {N:Nat} {w:World} {gs gd:Nat} {p:Pub} {v:Value} (h:SP N w gs gd p v) (hc:p.c=false) (l2:Int):SP N w gs gd ⟨p.st,p.lg,p.n,p.c,l2,p.dn⟩ v:=by
 obtain ⟨A,sv,b,es,h1,h2,h3⟩:=h.run;obtain ⟨F,l',d1,d2,d3⟩:=h3.disk;have hn:∀ x:Prop,p.c=true→x:=fun x ht=>by rw [hc] at ht; cases ht
 exact ⟨⟨h.ok.good,h.ok.low,h.ok.few,hn _⟩,A,sv,b,es,h1,h2,⟨⟨F,l',d1,hn _,d3⟩,h3.libs,h3.err,h3.store,h3.ord,h3.olds,h3.oldE,h3.keep,h3.was⟩⟩
def NotIn (v:Value) (b:Nat):Prop:=∀ g o n c,v=.slice (some ⟨g,o,none⟩) n c→g≠b
theorem NotIn.nil (b:Nat) (n c:Nat):NotIn (.slice none n c) b:=fun g o n c h=>by cases h
theorem NotIn.above {k B:Nat} {w:World} {v:Value} {n:Nat} {cs:List Value} (h:RowsK k B w v n cs) {b:Nat} (hb:b<B):NotIn v b:=by
 rcases h with ⟨h1,-⟩ | ⟨g,c,h1,h2⟩
 ·subst h1; exact NotIn.nil _ _ _
 ·intro g' o n' c' he
  have:=h2.new;rw [h1] at he;simp only [Value.slice.injEq,Option.some.injEq,Addr.mk.injEq] at he;omega
theorem NotIn.past {k B:Nat} {w:World} {v:Value} {n:Nat} {cs:List Value} (h:RowsK k B w v n cs) {b:Nat} (hb:w.heap.size≤b):NotIn v b:=by
 rcases h with ⟨h1,-⟩ | ⟨g,c,h1,h2⟩
 ·subst h1; exact NotIn.nil _ _ _
 ·intro g' o n' c' he
  have:=h2.lt;rw [h1] at he;simp only [Value.slice.injEq,Option.some.injEq,Addr.mk.injEq] at he;omega
theorem Keep.rowsOut {l:List Nat} {k B:Nat} {w w':World} {v:Value} {n:Nat} {cs:List Value} (h:Keep l w w') (hr:RowsK k B w v n cs) (hl:∀ x∈l,NotIn v x):RowsK k B w' v n cs:=by
 rcases hr with h1 | ⟨g,c,h1,h2⟩
 ·exact .inl h1
 ·exact .inr ⟨g,c,h1,h2.block h.size (h.block g h2.lt (fun hx=>hl g hx g 0 n c h1 rfl))⟩
theorem DS.elsewhere {l:List Nat} {w0:World} {gs gd:Nat} {A:AD} {n:Nat} {c:Bool} {le:Int} {dn:Bool} {sv lg:Nat} {st:St} {v:Value} {w w':World} (h:DS w0 gs gd A n c le dn sv lg st v w) (hk:Keep l w w') (hl:∀ x∈l,gd<x∧x≠gs∧NotIn v x):DS w' gs gd A n c le dn sv lg st v w':=by
 obtain ⟨F,l',h1,h2,h3⟩:=h.disk;have hb:Below (gd+1) w w':=hk.below h.gdlt (fun x hx=>(hl x hx).1);have hb2:Below gd w w':=hb.mono (Nat.le_succ _);have hn:gs∉l:=fun hx=>(hl gs hx).2.1 rfl;have hc:∀ i,w'.cell? ⟨gs,i,none⟩=w.cell? ⟨gs,i,none⟩:=fun i=>hk.cell (p:=⟨gs,i,none⟩) h.store.lt hn;have hs:=h.store;have hst:StoreAt w' gs gd dn sv lg st v:=⟨(hc 0).trans hs.p0,(hc 1).trans hs.p1,(hc 2).trans hs.p2,(hc 3).trans hs.p3,(hc 4).trans hs.p4,(hc 5).trans hs.p5,(hc 6).trans hs.p6,fun i=>(hk.frozen (p:=⟨gs,i,none⟩) hs.lt hn).trans (hs.pf i),hk.rowsOut hs.fam (fun x hx=>(hl x hx).2.2),Nat.lt_of_lt_of_le hs.lt hk.size⟩;exact ⟨⟨F,l',h1.below hb (Nat.lt_succ_self _),h2,h3⟩,h.libs.belowB hb2 h.olds,(hb2.cell (p:=⟨0,0,none⟩) h.oldE).trans h.err,hst,h.ord,h.olds,h.oldE,Keep.refl _ _,Nat.lt_of_lt_of_le hs.lt hk.size⟩
theorem SP.elsewhere {l:List Nat} {N:Nat} {w w':World} {gs gd:Nat} {p:Pub} {v:Value} (h:SP N w gs gd p v) (hk:Keep l w w') (hl:∀ x∈l,gd<x∧x≠gs∧NotIn v x):SP N w' gs gd p v:=by
 obtain ⟨A,sv,b,es,h1,h2,h3⟩:=h.run;exact ⟨h.ok,A,sv,b,es,h1,h2,h3.elsewhere hk hl⟩
theorem save_c (p:Pub):(saveP p).1.c=p.c:=by
 have h:=writesP_st (p.st.fams.length+1) p;unfold saveP;split
 ·rfl
 ·split
  ·exact h.2.2.2.1
  ·exact h.2.2.2.1
theorem put1_c (p:Pub) (e:E):(putP1 p e).1.c=p.c:=by
 unfold putP1;split <;> rfl
theorem add_c (p:Pub) (e:E) (m:Bool):(addP p e m).1.c=p.c:=by
 unfold addP;split
 ·rfl
 split
 ·rfl
 split
 ·rfl
 split
 ·split
  ·rw [put1_c,save_c]
  ·exact save_c p
 ·exact put1_c p e
theorem okN_of {n:Nat} (h:n<100000):okN ((n:Int)+1):=(show 0≤(n:Int)+1∧(n:Int)+1≤1099511627776 from ⟨by omega,by omega⟩)
theorem addS_is (N:Nat) (w:World) (gs gd:Nat) (p:Pub) (v:Value) (e:E) (m:Bool) (hm:m=true↔Ev.may e) (hs:Small 5000 e.fam) (h:SP N w gs gd p v) (hN:N<99000) :
 Calls Tryz.prog 17 #[.pointer (some ⟨gs,0,none⟩),evV e] w fun r w'=>r=.returned (errQ (addP p e m).2)∧∃ v',SP (N+22) w' gs gd (addP p e m).1 v'∧Keep [gd,gs] w w'∧(v'=v∨Fams w.heap.size w' v' (addP p e m).1.st.fams):=by
 obtain ⟨A,sv,b,es,h1,h2,h3⟩:=h.run;have hok:=ok_add hm h.ok;have hfew:=h.ok.few;have hleft:=h.ok.left;have hok0:=h.ok;clear h;obtain ⟨st,lg,n,c,l,dn⟩:=p;simp only at h1 h2 h3 hfew hleft
 cases dn with
 |true=>
  have he:addP ⟨st,lg,n,c,l,true⟩ e m=(⟨st,lg,n,c,l,true⟩,6):=by unfold addP; rw [if_pos rfl]
  rw [he] at hok ⊢;refine (add_down w gs gd A n c l sv lg st v e w h3).mono ?_;rintro r w' ⟨rfl,q1⟩;exact ⟨rfl,v,⟨hok,A,sv,b,es,h1,by omega,q1.rebase⟩,q1.keep,.inl rfl⟩
 |false=>
  cases m with
  |false=>
   have hn:¬ Ev.may e:=fun hx=>by cases hm.2 hx
   have he:addP ⟨st,lg,n,c,l,false⟩ e false=(⟨st,lg,n,c,l,false⟩,1):=by unfold addP; rw [if_neg (by simp),if_pos rfl]
   rw [he] at hok ⊢;refine (add_no w gs gd A n c l sv lg st v e w h3 hn hs).mono ?_;rintro r w' ⟨rfl,q1⟩;exact ⟨rfl,v,⟨hok,A,sv,b,es,h1,by omega,q1.rebase⟩,q1.keep,.inl rfl⟩
  |true=>
   refine (add_yes w gs gd A n c l sv lg st b es v e w h3 h1 (okN_of (by omega)) hleft (by omega) (hm.1 rfl) hs).mono ?_
   rintro r w' ⟨rfl,A',sv',b',es',v',q1,q2,q3,q4⟩;have hc:(addP ⟨st,lg,n,c,l,false⟩ e true).1.c=c:=add_c _ _ _;refine ⟨rfl,v',⟨hok,A',sv',b',es',q1,by omega,?_⟩,q3.keep,q4⟩
   rw [hc];exact q3.rebase
theorem saveS_is (N:Nat) (w:World) (gs gd:Nat) (p:Pub) (v:Value) (h:SP N w gs gd p v) (hN:N<99000) :
 Calls Tryz.prog 16 #[.pointer (some ⟨gs,0,none⟩)] w fun r w'=>r=.returned (errQ (saveP p).2)∧SP (N+22) w' gs gd (saveP p).1 v∧Keep [gd,gs] w w':=by
 obtain ⟨A,sv,b,es,h1,h2,h3⟩:=h.run;have hok:=ok_mono (ok_save h.ok) (show N+21≤N+22 by omega)
 have hfew:=h.ok.few;have hleft:=h.ok.left;clear h;obtain ⟨st,lg,n,c,l,dn⟩:=p;simp only at h1 h2 h3 hfew hleft
 cases dn with
 |true=>
  have he:saveP ⟨st,lg,n,c,l,true⟩=(⟨st,lg,n,c,l,true⟩,6):=by unfold saveP; rw [if_pos rfl]
  rw [he] at hok ⊢;refine (save_down w gs gd A n c l sv lg st v w h3).mono ?_;rintro r w' ⟨rfl,rfl⟩;exact ⟨rfl,⟨hok,A,sv,b,es,h1,by omega,h3⟩,Keep.refl _ _⟩
 |false=>
  refine (save_up w gs gd A n c l sv lg st b es v w h3 h1 (okN_of (by omega)) hleft (by omega)).mono ?_
  rintro r w' ⟨p,rfl,rfl,A',sv',b',es',q1,q2,q3⟩;have hc:(saveP ⟨st,lg,n,c,l,false⟩).1.c=c:=save_c _;have hs:(saveP ⟨st,lg,n,c,l,false⟩).1.st=st:=save_st _;refine ⟨rfl,⟨hok,A',sv',b',es',by rw [hs]; exact q1,by omega,?_⟩,q3.keep⟩
  rw [hc,hs];exact q3.rebase
theorem cutS_is (N:Nat) (w:World) (gs gd:Nat) (p:Pub) (v:Value) (k:Int) (hk:k≤9223372036854775807) (h:SP N w gs gd p v) :
 Calls Tryz.prog 15 #[.pointer (some ⟨gd,0,none⟩),.int .i64 k] w fun r w'=>r=.returned (.tuple #[])∧SP N w' gs gd (cutP p k) v∧Keep [gd] w w':=by
 obtain ⟨A,sv,b,es,h1,h2,h3⟩:=h.run;refine (cutD_is w gs gd A p.n p.c p.l p.dn sv p.lg p.st v k w h3).mono ?_;rintro r w' ⟨rfl,q1,q2⟩;exact ⟨rfl,⟨ok_cut h.ok k hk,A,sv,b,es,h1,h2,q1.rebase⟩,q2⟩
structure DB (N:Nat) (w:World) (gd:Nat) (p:Pub):Prop where
 ok:PubOk N p
 run:∃ A sv b es,Inv A p.st sv p.lg b es∧sv≤N∧∃ F l',IsDisk w gd F (p.n:Int) p.c l'∧(p.c=true→l'=p.l)∧EncF tag0 F A
 libs:LibsA w
 err:ErrVar w
 olds:Olds gd
 oldE:0<gd
 lt:gd<w.heap.size
theorem SP.db {N:Nat} {w:World} {gs gd:Nat} {p:Pub} {v:Value} (h:SP N w gs gd p v):DB N w gd p:=by
 obtain ⟨A,sv,b,es,h1,h2,h3⟩:=h.run;exact ⟨h.ok,⟨A,sv,b,es,h1,h2,h3.disk⟩,h3.libs,h3.err,h3.olds,h3.oldE,h3.gdlt⟩
theorem openS_is (N:Nat) (w:World) (gd:Nat) (p:Pub) (h:DB N w gd p) (hN:N<99000) :
 Calls Tryz.prog 12 #[.pointer (some ⟨gd,0,none⟩)] w fun r w'=>∃ gs v,r=.returned (.tuple #[.pointer (some ⟨gs,0,none⟩),.nilIface])∧w.heap.size≤gs∧SP N w' gs gd ⟨p.st,p.lg,p.n,p.c,p.l,false⟩ v∧Below w.heap.size w w':=by
 obtain ⟨A,sv,b,es,h1,h2,F,l',d1,d2,d3⟩:=h.run;have hdi:=h1.diskIs (okN_of (by omega))
 refine (open_is gd A w ⟨⟨F,_,_,_,d1,d3⟩,h.lt,hdi.1,hdi.2⟩ h.libs).mono ?_;rintro r w' ⟨gs,v,rfl,hle,hlw⟩;rw [inv_open h1] at hlw;have hb:Below w.heap.size w w':=hlw.below.mono hle;refine ⟨gs,v,rfl,hle,⟨⟨h.ok.good,h.ok.low,h.ok.few,h.ok.left⟩,A,sv,b,es,h1,h2,?_⟩,hb⟩;exact ⟨⟨F,l',d1.below hb h.lt,d2,d3⟩,hlw.libs,(hb.cell (p:=⟨0,0,none⟩) (Nat.lt_trans h.oldE h.lt)).trans h.err,hlw.store,hlw.ord,h.olds,h.oldE,Keep.refl _ _,hlw.store.lt⟩
def diskZ:List Value:=List.replicate 90 (Value.string ByteArray.empty) ++ [Value.int .i64 0,Value.bool false,Value.int .i64 0]
theorem diskZ_is:Tryz.zeroCells28=diskZ.toArray:=by kernel_rfl
theorem isDisk_zero (w:World):IsDisk (w.alloc (.cells Tryz.zeroCells28 28)) w.heap.size (fun _=>⟨#[]⟩) ((0:Nat):Int) false 0:=by
 have hc:∀ j:Nat,(w.alloc (.cells Tryz.zeroCells28 28)).cell? ⟨w.heap.size,j,none⟩=diskZ[j]?:=by
  intro j;rw [World.cell?_alloc_new,diskZ_is,List.getElem?_toArray]
 refine ⟨fun j hj=>?_,?_,?_,?_,fun j hj=>?_⟩
 ·rw [hc,diskZ,List.getElem?_append_left (by rw [List.length_replicate]; exact hj),List.getElem?_replicate,if_pos hj]; rfl
 ·rw [hc]; rfl
 ·rw [hc]; rfl
 ·rw [hc]; rfl
 ·exact World.frozen?_alloc_at _ _ _ _ rfl
theorem db_zero (w:World) (hl:LibsA w) (he:ErrVar w) (ho:Olds w.heap.size):DB 0 (w.alloc (.cells Tryz.zeroCells28 28)) w.heap.size ⟨⟨0,1,[]⟩,0,0,false,0,false⟩:=by
 have hb:Below w.heap.size w (w.alloc (.cells Tryz.zeroCells28 28)):=(Below.refl _ _).alloc (Nat.le_refl _) _;exact ⟨ok_zero,⟨emptyD,0,⟨0,1,[]⟩,[],inv_empty,Nat.le_refl _,_,0,isDisk_zero w,fun _=>rfl,enc_empty _⟩,hl.below hb,he.on hb,ho,World.block_lt_of_cell? _ _ he,by simp⟩
end Go.Proofs.YtlailakofhenkabGreatDoor
namespace Go.Proofs.YtlailakofhenkabGreatDoor.Ev
open Go.Lib Tok Sc
structure Rul where
 key:Int
 idle:Int
 life:Int
 access:Int
structure RulOk (r:Rul):Prop where
 key:okN r.key
 idle:okN r.idle
 life:okN r.life
 access:okN r.access
def laterI (a b:Int):Int:=if 1099511627776<a+b then 1099511627776 else a+b
theorem later_ok {a b:Int} (ha:okN a) (hb:okN b):okN (laterI a b):=by
 obtain ⟨a1,a2⟩:=ha;obtain ⟨b1,b2⟩:=hb;unfold laterI;show 0≤_∧_≤_
 split <;> omega
def oldF (r:Rul) (now:Int) (f:Fam):Bool:=decide (laterI f.used r.idle<now) || decide (laterI f.made r.life<now)
def isF (i:Int) (f:Fam):Bool:=decide (f.id=i)
def overB (r:Rul) (now:Int) (f:Fam):Bool:=f.dead || oldF r now f
def findF (l:List Fam) (i:Int):Option Fam:=l.find? (isF i)
def errT:Nat→Nat
 |0=>0
 |1=>3
 |_+2=>5
def look0 (r:Rul) (s:St) (kind:Int) (t:T) (n:Nat):Nat:=
 if n≠0 then errT n else if t.k≠kind then 1 else match findF s.fams t.f with
  |none=>7
  |some f=>if f.dead=true then 6 else if oldF r s.clock f=true then 10 else 0
def famM (s:St) (t:T):Fam:=(findF s.fams t.f).getD zeroF
def lookM (r:Rul) (s:St) (kind:Int) (t:T) (n:Nat):Nat:=if look0 r s kind t n≠0 then look0 r s kind t n else if (famM s t).gen<t.g then 2 else 0
def noT:ByteArray:=⟨#[]⟩
def deadF (f:Fam):Fam:={ f with dead:=true }
def giveM (tx:T→ByteArray) (p:Pub) (f:Fam):Pub × ByteArray × Nat:=
 if (addP p (putE f) true).2=0 then ((addP p (putE f) true).1,tx ⟨1,f.id,f.gen,0⟩,0) else ((addP p (putE f) true).1,noT,(addP p (putE f) true).2)
def spoilM (p:Pub) (f:Fam):Pub × ByteArray × Nat:=
 ((addP p (putE (deadF f)) true).1,noT,if (addP p (putE (deadF f)) true).2=0 then 15 else (addP p (putE (deadF f)) true).2)
def nextF (f:Fam) (request sc:ByteArray) (now:Int):Fam:=⟨f.id,f.client,f.subject,sc,f.gen+1,f.made,now,request,f.dead⟩
def turnM (tx:T→ByteArray) (p:Pub) (f:Fam) (request sc:ByteArray) (n:Nat) (b:Bool):Pub × ByteArray × Nat:=
 if n≠0 then (p,noT,n) else if b=false then (p,noT,13) else if 1099511627776≤f.gen then (p,noT,4) else giveM tx p (nextF f request sc p.st.clock)
def rotateM (tx:T→ByteArray) (r:Rul) (p:Pub) (ok:Bool) (request:ByteArray) (t:T) (n:Nat) (sc:ByteArray) (m:Nat) (b:Bool):Pub × ByteArray × Nat:=
 if ok=false then (p,noT,1) else if lookM r p.st 1 t n≠0 then (p,noT,lookM r p.st 1 t n)
 else if t.g=(famM p.st t).gen then turnM tx p (famM p.st t) request sc m b
 else if t.g=(famM p.st t).gen - 1∧request=(famM p.st t).request then (p,tx ⟨1,(famM p.st t).id,(famM p.st t).gen,0⟩,0)
 else spoilM p (famM p.st t)
def mintM (tx:T→ByteArray) (r:Rul) (p:Pub) (t:T) (n:Nat):ByteArray × Nat:=
 if lookM r p.st 1 t n≠0 then (noT,lookM r p.st 1 t n) else if t.g<(famM p.st t).gen then (noT,8)
 else (tx ⟨2,(famM p.st t).id,(famM p.st t).gen,laterI p.st.clock r.access⟩,0)
def showM (r:Rul) (p:Pub) (t:T) (n:Nat):Fam × Nat:=
 if lookM r p.st 2 t n≠0 then (zeroF,lookM r p.st 2 t n) else if t.e<p.st.clock then (zeroF,10) else (famM p.st t,0)
def killM (p:Pub) (i:Int):Pub × Nat:=match findF p.st.fams i with
 |none=>(p,7)
 |some f=>if f.dead=true then (p,6) else addP p (putE (deadF f)) true
def clockE (t:Int):E:=⟨3,zeroF,0,t⟩
def dropE (i:Int):E:=⟨2,zeroF,i,0⟩
def tickM (p:Pub) (n:Int):Pub × Nat:=if okB n=false then (p,2) else addP p (clockE (laterI p.st.clock n)) true
def sweepM (r:Rul) (p:Pub):Pub × Int × Nat:=match p.st.fams.find? (overB r p.st.clock) with
 |none=>(p,0,8)
 |some f=>((addP p (dropE f.id) true).1,if (addP p (dropE f.id) true).2=0 then f.id else 0,(addP p (dropE f.id) true).2)
def newF (s:St) (client subject sc:ByteArray):Fam:=⟨s.next,client,subject,sc,0,s.clock,s.clock,noT,false⟩
def grantM (tx:T→ByteArray) (p:Pub) (ok:Bool) (client subject sc:ByteArray) (n:Nat):Pub × ByteArray × Nat:=
 if ok=false then (p,noT,1) else if n≠0 then (p,noT,n) else if 1099511627776<p.st.next then (p,noT,4) else if 20≤p.st.fams.length then (p,noT,12)
 else giveM tx p (newF p.st client subject sc)
theorem find_mem {l:List Fam} {i:Int} {f:Fam} (h:findF l i=some f):f∈l∧f.id=i:=by
 have h1:=List.mem_of_find?_eq_some h;have h2:=List.find?_some h;exact ⟨h1,by simpa [isF] using h2⟩
theorem may_dead {f:Fam} (h:mayF f):Ev.may (putE (deadF f)):=may_put h
theorem may_next {f:Fam} {request sc:ByteArray} {now:Int} (h:mayF f) (hg:¬ 1099511627776≤f.gen) (hr:nameB request.data.toList=true) (hs:Lst sc.data.toList) (hn:okN now):Ev.may (putE (nextF f request sc now)):=by
 obtain ⟨⟨h1,h2,h3,h4⟩,h5,h6,h7,h8⟩:=h;have h9:0≤f.gen∧f.gen≤1099511627776:=h2;exact may_put ⟨⟨h1,(show 0≤f.gen+1∧f.gen+1≤1099511627776 from ⟨by omega,by omega⟩),h3,hn⟩,h5,h6,.inr hr,hs⟩
theorem may_new {s:St} {client subject sc:ByteArray} (h:Good s) (hx:¬ 1099511627776<s.next) (hc:nameB client.data.toList=true) (hb:nameB subject.data.toList=true) (hs:Lst sc.data.toList):Ev.may (putE (newF s client subject sc)):=by
 have h1:=h.next0;exact may_put ⟨⟨(show 0≤s.next∧s.next≤1099511627776 from ⟨by omega,by omega⟩),(show (0:Int)≤0∧(0:Int)≤1099511627776 from ⟨by decide,by decide⟩),h.clock,h.clock⟩,hc,hb,.inl rfl,hs⟩
theorem may_clock {t:Int} (h:okN t):Ev.may (clockE t):=.inr (.inr ⟨rfl,rfl,rfl,h⟩)
theorem may_drop {i:Int} (h:okN i):Ev.may (dropE i):=.inr (.inl ⟨rfl,rfl,h,rfl⟩)
theorem look_fam {r:Rul} {s:St} {kind:Int} {t:T} {n:Nat} (h:look0 r s kind t n=0):n=0∧t.k=kind∧findF s.fams t.f=some (famM s t)∧(famM s t).dead=false∧oldF r s.clock (famM s t)=false:=by
 unfold look0 at h;split at h
 ·match n,h with
  |0,_=>rename_i h0; exact absurd rfl h0
  |1,h=>cases h
  |n+2,h=>cases h
 rename_i h0
 split at h
 ·cases h
 rename_i h1
 cases hf:findF s.fams t.f with
 |none=>rw [hf] at h; cases h
 |some f=>
  rw [hf] at h;simp only at h;split at h
  ·cases h
  rename_i h2
  split at h
  ·cases h
  rename_i h3
  have he:famM s t=f:=by unfold famM; rw [hf]; rfl
  rw [he];exact ⟨by simpa using h0,by simpa using h1,rfl,by simpa using h2,by simpa using h3⟩
theorem look_ok {r:Rul} {s:St} {kind:Int} {t:T} {n:Nat} (h:lookM r s kind t n=0):look0 r s kind t n=0∧¬ (famM s t).gen<t.g:=by
 unfold lookM at h;split at h
 ·rename_i h0; exact absurd h h0
 rename_i h0
 split at h
 ·cases h
 rename_i h1
 exact ⟨by simpa using h0,h1⟩
theorem look_bad (r:Rul) (s:St) (kind:Int) (t:T) {n:Nat} (hn:n≠0):lookM r s kind t n=errT n∧errT n≠0:=by
 have h0:errT n≠0:=by
  match n,hn with
  |1,_=>decide
  |n+2,_=>exact fun h=>by cases h
 have h1:look0 r s kind t n=errT n:=by unfold look0; rw [if_pos hn]
 unfold lookM;rw [h1,if_pos h0];exact ⟨rfl,h0⟩
theorem look_kind (r:Rul) (s:St) (kind:Int) (t:T) (hk:t.k≠kind):lookM r s kind t 0=1:=by
 have h1:look0 r s kind t 0=1:=by unfold look0; rw [if_neg (by simp),if_pos hk]
 unfold lookM;rw [h1,if_pos (by decide)]
theorem look_none (r:Rul) (s:St) (kind:Int) (t:T) (hk:t.k=kind) (hf:findF s.fams t.f=none):lookM r s kind t 0=7:=by
 have h1:look0 r s kind t 0=7:=by unfold look0; rw [if_neg (by simp),if_neg (by simp [hk]),hf]
 unfold lookM;rw [h1,if_pos (by decide)]
theorem look_some (r:Rul) (s:St) (kind:Int) (t:T) (hk:t.k=kind) {f:Fam} (hf:findF s.fams t.f=some f) :
 lookM r s kind t 0=if f.dead=true then 6 else if oldF r s.clock f=true then 10 else if f.gen<t.g then 2 else 0:=by
 have h1:look0 r s kind t 0=if f.dead=true then 6 else if oldF r s.clock f=true then 10 else 0:=by unfold look0; rw [if_neg (by simp),if_neg (by simp [hk]),hf]
 have he:famM s t=f:=by unfold famM; rw [hf]; rfl
 unfold lookM;rw [h1,he];by_cases hd:f.dead=true
 ·simp [hd]
 ·by_cases ho:oldF r s.clock f=true
  ·simp [hd,ho]
  ·simp [hd,ho]
theorem fam_may {s:St} (h:Good s) {i:Int} {f:Fam} (hf:findF s.fams i=some f):mayF f:=(h.may f (find_mem hf).1).1
end Go.Proofs.YtlailakofhenkabGreatDoor.Ev
namespace Go.Proofs.YtlailakofhenkabGreatDoor
open Go Go.RowKit Tok Sc Ev
structure SPto (N:Nat) (gs gd:Nat) (v:Value) (w w':World) (q:Pub) (v':Value):Prop where
 prog:SP (N+22) w' gs gd q v'
 keep:Keep [gd,gs] w w'
 new:v'=v∨Fams w.heap.size w' v' q.st.fams
theorem SPto.same {N:Nat} {gs gd:Nat} {p:Pub} {v:Value} {w w':World} (h:SP N w gs gd p v) (hb:Below w.heap.size w w'):SPto N gs gd v w w' p v:=
 ⟨(h.on hb).mono (by omega),Keep.of _ hb,.inl rfl⟩
theorem SPto.pre {N:Nat} {gs gd:Nat} {v v':Value} {q:Pub} {w w1 w':World} (hb:Below w.heap.size w w1) (h:SPto N gs gd v w1 w' q v'):SPto N gs gd v w w' q v':=
 ⟨h.prog,(Keep.of _ hb).trans h.keep,h.new.imp id (fun k=>k.mono hb.size)⟩
theorem SPto.post {N:Nat} {gs gd:Nat} {v v':Value} {q:Pub} {w w1 w':World} (h:SPto N gs gd v w w1 q v') (hb:Below w1.heap.size w1 w'):SPto N gs gd v w w' q v':=by
 refine ⟨h.prog.on hb,h.keep.then hb,?_⟩;rcases h.new with h1 | h1
 ·exact .inl h1
 ·exact .inr (h1.below hb (Nat.le_refl _))
theorem SPto.notIn {N:Nat} {gs gd b:Nat} {v v':Value} {q:Pub} {w w':World} (h:SPto N gs gd v w w' q v') (hv:NotIn v b) (hb:b<w.heap.size):NotIn v' b:=by
 rcases h.new with h1 | h1
 ·rw [h1]; exact hv
 ·exact NotIn.above h1 hb
theorem addT_is (N:Nat) (w:World) (gs gd:Nat) (p:Pub) (v:Value) (e:E) (m:Bool) (hm:m=true↔Ev.may e) (hs:Small 5000 e.fam) (h:SP N w gs gd p v) (hN:N<99000) :
 Calls Tryz.prog 17 #[.pointer (some ⟨gs,0,none⟩),evV e] w fun r w'=>r=.returned (errQ (addP p e m).2)∧∃ v',SPto N gs gd v w w' (addP p e m).1 v':=by
 refine (addS_is N w gs gd p v e m hm hs h hN).mono ?_;rintro r w' ⟨rfl,v',q1,q2,q3⟩;exact ⟨rfl,v',q1,q2,q3⟩
theorem addM_is (N:Nat) (w:World) (gs gd:Nat) (p:Pub) (v:Value) (e:E) (hm:Ev.may e) (h:SP N w gs gd p v) (hN:N<99000) :
 Calls Tryz.prog 17 #[.pointer (some ⟨gs,0,none⟩),evV e] w fun r w'=>r=.returned (errQ (addP p e true).2)∧∃ v',SPto N gs gd v w w' (addP p e true).1 v':=by
 refine addT_is N w gs gd p v e true ⟨fun _=>hm,fun _=>rfl⟩ ?_ h hN;rcases hm with ⟨-,h1,-⟩ | ⟨-,h1,-⟩ | ⟨-,h1,-⟩
 ·exact small_may h1
 ·rw [h1]; unfold Small zeroF; decide
 ·rw [h1]; unfold Small zeroF; decide
theorem stateS_is (N:Nat) (w:World) (gs gd:Nat) (p:Pub) (v:Value) (h:SP N w gs gd p v):Calls Tryz.prog 20 #[.pointer (some ⟨gs,0,none⟩)] w fun r w'=>∃ v',r=.returned (stV p.st.clock p.st.next v')∧Fams w.heap.size w' v' p.st.fams∧Below w.heap.size w w':=by
 obtain ⟨sv,hst⟩:=h.store;exact state_is w gs gd p.dn sv p.lg p.st v hst (by have:=h.ok.good.len; omega)
set_option maxHeartbeats 4000000
theorem later_min (a b:Int):laterI a b=min (a+b) 1099511627776:=by
 unfold laterI;split <;> omega
theorem later_is (a b:Int) (ha:okN a) (hb:okN b) (w:World):Calls Tryz.prog 82 #[.int .i64 a,.int .i64 b] w fun e w'=>e=.returned (.int .i64 (laterI a b))∧w'=w:=by
 obtain ⟨a1,a2⟩:=ha;obtain ⟨b1,b2⟩:=hb;rw [later_min];go_enter Tryz.func82,Tryz.ntmps82
 go_wp2_with fail
 go_ret;exact ⟨rfl,rfl⟩
theorem inB_is (n:Int) (w:World):Calls Tryz.prog 64 #[.int .i64 n] w fun e w'=>e=.returned (.bool (okB n))∧w'=w:=by
 by_cases h0:0≤n
 ·by_cases h1:n≤1099511627776
  ·have hb:okB n=true:=okB_t ⟨h0,h1⟩
   rw [hb];clear hb;go_enter Tryz.func64,Tryz.ntmps64
   go_wp2_with fail
   go_ret;exact ⟨rfl,rfl⟩
  ·have hb:okB n=false:=okB_f (fun k=>h1 k.2)
   rw [hb];clear hb;go_enter Tryz.func64,Tryz.ntmps64
   go_wp2_with fail
   go_ret;exact ⟨rfl,rfl⟩
 ·have hb:okB n=false:=okB_f (fun k=>h0 k.1)
  rw [hb];clear hb;go_enter Tryz.func64,Tryz.ntmps64
  go_wp2_with fail
  go_ret;exact ⟨rfl,rfl⟩
def PredF (g:Nat) (lb:Array Value) (p:Fam→Bool) (w:World):Prop:=
 ∀ (W:World) (f:Fam),mayF f→Below w.heap.size w W→Calls Tryz.prog g (#[famV f] ++ lb) W fun e w'=>e=.returned (.bool (p f))∧Below W.heap.size W w'
theorem find_none_of {l:List Fam} {p:Fam→Bool} (h:∀ j (hj:j<l.length),p l[j]=false):l.find? p=none:=by
 rw [List.find?_eq_none];intro x hx;obtain ⟨j,hj,rfl⟩:=List.mem_iff_getElem.1 hx;simp [h j hj]
theorem find_some_of {l:List Fam} {p:Fam→Bool} {k:Nat} (hk:k<l.length) (hp:p l[k]=true) (h:∀ j (hj:j<l.length),j<k→p l[j]=false):l.find? p=some l[k]:=by
 induction l generalizing k with
 |nil=>simp at hk
 |cons x l ih=>
  cases k with
  |zero=>simp at hp ⊢; simp [hp]
  |succ k=>
   have h0:=h 0 (by simp) (by omega)
   simp at h0
   rw [List.find?_cons_of_neg (by simp [h0])]
   simp at hp ⊢
   exact ih (by simpa using hk) hp (fun j hj hjk=>by have:=h (j+1) (by simpa using hj) (by omega); simpa using this)
theorem indexF_is {B:Nat} (l:List Fam) (v:Value) (g:Nat) (lb:Array Value) (p:Fam→Bool) (w:World) (hf:Fams B w v l) (hm:∀ f∈l,mayF f) (hl:l.length≤5000) (hp:PredF g lb p w) (eg:∀ args w,(callFunc g args).run Tryz.prog w=.ok (.enter g args) w) :
 Calls Tryz.prog 138 #[v,.func (.func g) #[] lb] w fun e w'=>(∃ k:Int,e=.returned (.int .i64 k)∧((k=-1∧l.find? p=none)∨∃ j:Nat,k=j∧∃ h:j<l.length,l.find? p=some l[j]))∧Below w.heap.size w w':=by
 obtain ⟨ba,ca,rfl⟩:=RowsK.slice hf;have HF:Hid (Fams B w (.slice ba l.length ca) l):=hf;have HP:Hid (PredF g lb p w):=hp;have HM:Hid (∀ f∈l,mayF f):=hm;clear hf hp hm;go_enter Tryz.func138,Tryz.ntmps138
 go_wp2_with fail
 go_loopg [5,8] l.length (fun gk _ iv wr=>∃ k:Nat,k+gk=l.length∧iv=.int .i64 k∧Hid (Below w.heap.size w wr)∧Hid (∀ j (hj:j<l.length),j<k→p l[j]=false))
 case atStart=>exact ⟨0,by omega,rfl,Below.refl _ _,fun j _ h=>absurd h (Nat.not_lt_zero _)⟩
 case round=>
  obtain ⟨k,hk,rfl,HB,HA⟩:=hrel;have HK:Hid (k+gk=l.length):=hk;clear hk;by_cases hlt:k<l.length
  ·have hltI:(k:Int)<(l.length:Int):=by omega
   have hfw:Fams B wr (.slice ba l.length ca) l:=RowsK.below HF.out HB.out (Nat.le_refl _);obtain ⟨gr,rfl,hgr,hfa⟩:=hfw.fam k hlt;clear hfw;have hcall:=HP.out wr l[k] (HM.out _ (List.getElem_mem hlt)) HB.out
   have HE:Hid (∀ b:Bool,p l[k]=b→(b=true→l.find? p=some l[k])∧(b=false→∀ j (hj:j<l.length),j<k+1→p l[j]=false)):=fun b hb=>by
    refine ⟨fun h=>find_some_of hlt (hb.trans h) HA.out,fun h j hj hjk=>?_⟩;by_cases e:j=k
    ·subst e; exact hb.trans h
    ·exact HA.out j hj (by omega)
   have HX:Hid (∃ h:k<l.length,l[k]=l[k]):=⟨hlt,rfl⟩;generalize hy:l[k]=y at hcall hfa HE;have HY:Hid (l[k]=y):=hy;clear hy;obtain ⟨y1,y2,y3,y4,y5,y6,y7,y8,y9⟩:=y;have c0:=hfa.c0; have c1:=hfa.c1; have c2:=hfa.c2; have c3:=hfa.c3; have c4:=hfa.c4; have c5:=hfa.c5; have c6:=hfa.c6; have c7:=hfa.c7; have c8:=hfa.c8;simp only at c0 c1 c2 c3 c4 c5 c6 c7 c8;clear hfa;have HE2:=HE.out _ rfl;have HE3:Hid _:=HE2;clear HE2 HE
   cases hq:p ⟨y1,y2,y3,y4,y5,y6,y7,y8,y9⟩ with
   |true=>
    rw [hq] at hcall HE3;unfold famV famCs at hcall;simp only at hcall;clear hq;go_wp2_with (go_at_fn g; refine hcall.mono ?_; rintro e w' ⟨rfl,hb'⟩)
    go_ret;exact ⟨⟨k,rfl,.inr ⟨k,rfl,hlt,by rw [HY.out]; exact HE3.out.1 (by trivial)⟩⟩,HB.out.trans (hb'.mono HB.out.size)⟩
   |false=>
    rw [hq] at hcall HE3;unfold famV famCs at hcall;simp only at hcall;clear hq;go_wp2_with (go_at_fn g; refine hcall.mono ?_; rintro e w' ⟨rfl,hb'⟩)
    have HB2:Hid (Below w.heap.size w w'):=HB.out.trans (hb'.mono HB.out.size);clear hcall c0 c1 c2 c3 c4 c5 c6 c7 c8 hb';go_wp2_with fail
    go_roundg (gk - 1)
    case measure=>have:=HK.out; omega
    case rel=>exact ⟨k+1,by have:=HK.out; omega,by go_num,HB2,HE3.out.2 (by trivial)⟩
  ·obtain rfl:k=l.length:=by have:=HK.out; omega
   go_wp2_with fail
   go_ret;exact ⟨⟨-1,rfl,.inl ⟨rfl,find_none_of (fun j hj=>HA.out j hj hj)⟩⟩,HB.out⟩
theorem famAt_cells {w:World} {g:Nat} {f:Fam} (h:FamAt w g 0 f):w.cell? ⟨g,0,none⟩=some (.int .i64 f.id)∧w.cell? ⟨g,1,none⟩=some (.string f.client)∧w.cell? ⟨g,2,none⟩=some (.string f.subject)∧w.cell? ⟨g,3,none⟩=some (.string f.scope)∧w.cell? ⟨g,4,none⟩=some (.int .i64 f.gen)∧w.cell? ⟨g,5,none⟩=some (.int .i64 f.made)∧w.cell? ⟨g,6,none⟩=some (.int .i64 f.used)∧w.cell? ⟨g,7,none⟩=some (.string f.request)∧w.cell? ⟨g,8,none⟩=some (.bool f.dead):=by
 have h0:=h.c0; have h1:=h.c1; have h2:=h.c2; have h3:=h.c3; have h4:=h.c4; have h5:=h.c5; have h6:=h.c6; have h7:=h.c7; have h8:=h.c8;simp only [Nat.zero_add] at h0 h1 h2 h3 h4 h5 h6 h7 h8;exact ⟨h0,h1,h2,h3,h4,h5,h6,h7,h8⟩
end Go.Proofs.YtlailakofhenkabGreatDoor
