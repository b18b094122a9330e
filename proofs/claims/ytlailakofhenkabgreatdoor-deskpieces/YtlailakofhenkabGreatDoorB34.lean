import Derived.Test.YtlailakofhenkabGreatDoorB33
namespace Go.Proofs.YtlailakofhenkabGreatDoor
open Go Go.RowKit Tok Sc Ev
structure DAt (w:World) (gk gd gs gv gm:Nat) (r:Rul):Prop where
 c0:w.cell? ⟨gk,0,none⟩=some (.pointer (some ⟨gd,0,none⟩))
 c1:w.cell? ⟨gk,1,none⟩=some (.pointer (some ⟨gs,0,none⟩))
 c2:w.cell? ⟨gk,2,none⟩=some (.pointer (some ⟨gv,0,none⟩))
 c3:w.cell? ⟨gk,3,none⟩=some (.int .i64 r.key)
 c4:w.cell? ⟨gk,4,none⟩=some (.int .i64 r.idle)
 c5:w.cell? ⟨gk,5,none⟩=some (.int .i64 r.life)
 c6:w.cell? ⟨gk,6,none⟩=some (.int .i64 r.access)
 c7:w.cell? ⟨gk,7,none⟩=some (.map (some gm))
 fz:∀ i,w.frozen? ⟨gk,i,none⟩=false
 lt:gk<w.heap.size
theorem DAt.keep {l:List Nat} {w w':World} {gk gd gs gv gm:Nat} {r:Rul} (h:DAt w gk gd gs gv gm r) (hk:Keep l w w') (hn:gk∉l):DAt w' gk gd gs gv gm r:=by
 have hc:∀ i,w'.cell? ⟨gk,i,none⟩=w.cell? ⟨gk,i,none⟩:=fun i=>hk.cell (p:=⟨gk,i,none⟩) h.lt hn;exact ⟨(hc 0).trans h.c0,(hc 1).trans h.c1,(hc 2).trans h.c2,(hc 3).trans h.c3,(hc 4).trans h.c4,(hc 5).trans h.c5,(hc 6).trans h.c6,(hc 7).trans h.c7,fun i=>(hk.frozen (p:=⟨gk,i,none⟩) h.lt hn).trans (h.fz i),Nat.lt_of_lt_of_le h.lt hk.size⟩
theorem DAt.on {w w':World} {gk gd gs gv gm:Nat} {r:Rul} (h:DAt w gk gd gs gv gm r) (hb:Below w.heap.size w w'):DAt w' gk gd gs gv gm r:=h.keep (Keep.of [] hb) (by simp)
structure DkI (N:Nat) (w:World) (gk gd gs gv gm:Nat) (r:Rul) (p:Pub) (v:Value):Prop where
 sv:SvIs N w gv gs gd r p v
 box:DAt w gk gd gs gv gm r
 ne:gk≠gd∧gk≠gs∧gm≠gd∧gm≠gs
 out:NotIn v gk∧NotIn v gm
 ml:gm<w.heap.size
theorem DkI.on {N:Nat} {w w':World} {gk gd gs gv gm:Nat} {r:Rul} {p:Pub} {v:Value} (h:DkI N w gk gd gs gv gm r p v) (hb:Below w.heap.size w w'):DkI N w' gk gd gs gv gm r p v:=
 ⟨h.sv.on hb,h.box.on hb,h.ne,h.out,Nat.lt_of_lt_of_le h.ml hb.size⟩
theorem DkI.to {N:Nat} {w w':World} {gk gd gs gv gm:Nat} {r:Rul} {p q:Pub} {v v':Value} (h:DkI N w gk gd gs gv gm r p v) (ht:SPto N gs gd v w w' q v'):DkI (N+22) w' gk gd gs gv gm r q v':=
 ⟨h.sv.to ht,h.box.keep ht.keep (by have:=h.ne; simp; omega),h.ne,⟨ht.notIn h.out.1 h.box.lt,ht.notIn h.out.2 h.ml⟩,Nat.lt_of_lt_of_le h.ml ht.keep.size⟩
theorem DkI.mono {N M:Nat} {w:World} {gk gd gs gv gm:Nat} {r:Rul} {p:Pub} {v:Value} (h:DkI N w gk gd gs gv gm r p v) (hm:N≤M):DkI M w gk gd gs gv gm r p v:=
 ⟨h.sv.mono hm,h.box,h.ne,h.out,h.ml⟩
def tellE (x:ByteArray) (n:Nat):Ending:=if n=0 then .returned (.string x) else thrownE (n:Nat)
theorem tellE_ok (x:ByteArray):tellE x 0=.returned (.string x):=rfl
theorem tellE_no (x:ByteArray) (n:Nat):tellE x (n+1)=.panicked [{ v:=.iface 47 (.int .i64 ((n+1:Nat):Int)),recovered:=false }]:=rfl
set_option maxRecDepth 100000
set_option maxHeartbeats 4000000
theorem new_no (w:World) (gs:Nat) (k i l a:Int) (hr:rightB ⟨k,i,l,a⟩=false) :
 Calls Tryz.prog 22 #[.pointer (some ⟨gs,0,none⟩),.agg #[.int .i64 k,.int .i64 i,.int .i64 l,.int .i64 a]] w fun e w'=>e=.returned (.tuple #[.pointer none,errQ 2])∧Below w.heap.size w w':=by
 have HB:Hid (Below w.heap.size w (w.alloc (.cells #[.int .i64 k,.int .i64 i,.int .i64 l,.int .i64 a] 54))):=(Below.refl _ _).alloc (Nat.le_refl _) _;have i1:=fun (W:World)=>inB_is k W;have i2:=fun (W:World)=>inB_is i W;have i3:=fun (W:World)=>inB_is l W;have i4:=fun (W:World)=>inB_is a W;unfold rightB at hr;simp only at hr
 cases h1:okB k with
 |false=>
  rw [h1] at i1;clear hr h1;go_enter Tryz.func22,Tryz.ntmps22
  go_wp2_with fail
  refine (i1 _).mono ?_;rintro e1 w1 ⟨rfl,rfl⟩;go_wp2_with fail
  go_ret2;exact ⟨rfl,HB.out⟩
 |true=>
  rw [h1] at i1 hr
  cases h2:okB i with
  |false=>
   rw [h2] at i2;clear hr h1 h2;go_enter Tryz.func22,Tryz.ntmps22
   go_wp2_with fail
   refine (i1 _).mono ?_;rintro e1 w1 ⟨rfl,rfl⟩;go_wp2_with fail
   refine (i2 _).mono ?_;rintro e1 w1 ⟨rfl,rfl⟩;go_wp2_with fail
   go_ret2;exact ⟨rfl,HB.out⟩
  |true=>
   rw [h2] at i2 hr
   cases h3:okB l with
   |false=>
    rw [h3] at i3;clear hr h1 h2 h3;go_enter Tryz.func22,Tryz.ntmps22
    go_wp2_with fail
    refine (i1 _).mono ?_;rintro e1 w1 ⟨rfl,rfl⟩;go_wp2_with fail
    refine (i2 _).mono ?_;rintro e1 w1 ⟨rfl,rfl⟩;go_wp2_with fail
    refine (i3 _).mono ?_;rintro e1 w1 ⟨rfl,rfl⟩;go_wp2_with fail
    go_ret2;exact ⟨rfl,HB.out⟩
   |true=>
    rw [h3] at i3 hr;have h4:okB a=false:=by simpa using hr
    rw [h4] at i4;clear hr h1 h2 h3 h4;go_enter Tryz.func22,Tryz.ntmps22
    go_wp2_with fail
    refine (i1 _).mono ?_;rintro e1 w1 ⟨rfl,rfl⟩;go_wp2_with fail
    refine (i2 _).mono ?_;rintro e1 w1 ⟨rfl,rfl⟩;go_wp2_with fail
    refine (i3 _).mono ?_;rintro e1 w1 ⟨rfl,rfl⟩;go_wp2_with fail
    refine (i4 _).mono ?_;rintro e1 w1 ⟨rfl,rfl⟩;go_wp2_with fail
    go_ret2;exact ⟨rfl,HB.out⟩
set_option maxHeartbeats 8000000
structure Bx (w:World) (g:Nat) (c:Nat→Value):Prop where
 at':∀ i,i<8→w.cell? ⟨g,i,none⟩=some (c i)
 fz:∀ i,w.frozen? ⟨g,i,none⟩=false
 lt:g<w.heap.size
theorem Bx.set {w:World} {g:Nat} {c:Nat→Value} (h:Bx w g c) (j:Nat) (v:Value):Bx (w.setCell ⟨g,j,none⟩ v) g (fun i=>if i=j then v else c i):=by
 refine ⟨fun i hi=>?_,fun i=>by rw [World.frozen?_setCell]; exact h.fz i,by simpa using h.lt⟩
 by_cases e:i=j
 ·subst e
  rw [if_pos rfl];exact World.cell?_setCell_same _ _ _ (h.at' i hi)
 ·rw [if_neg e,World.cell?_setCell_other _ _ _ _ (by intro q; injection q with _ q2; exact e q2.symm)]
  exact h.at' i hi
theorem Bx.keep {l:List Nat} {w w':World} {g:Nat} {c:Nat→Value} (h:Bx w g c) (hk:Keep l w w') (hn:g∉l):Bx w' g c:=
 ⟨fun i hi=>(hk.cell (p:=⟨g,i,none⟩) h.lt hn).trans (h.at' i hi),fun i=>(hk.frozen (p:=⟨g,i,none⟩) h.lt hn).trans (h.fz i),Nat.lt_of_lt_of_le h.lt hk.size⟩
theorem Bx.on {w w':World} {g:Nat} {c:Nat→Value} (h:Bx w g c) (hb:Below w.heap.size w w'):Bx w' g c:=h.keep (Keep.of [] hb) (by simp)
theorem Bx.dat {w:World} {gk gd gs gv gm:Nat} {r:Rul} {c:Nat→Value} (h:Bx w gk c) (h0:c 0=.pointer (some ⟨gd,0,none⟩)) (h1:c 1=.pointer (some ⟨gs,0,none⟩)) (h2:c 2=.pointer (some ⟨gv,0,none⟩)) (h3:c 3=.int .i64 r.key) (h4:c 4=.int .i64 r.idle) (h5:c 5=.int .i64 r.life) (h6:c 6=.int .i64 r.access) (h7:c 7=.map (some gm)):DAt w gk gd gs gv gm r:=
 ⟨(h.at' 0 (by omega)).trans (congrArg some h0),(h.at' 1 (by omega)).trans (congrArg some h1),(h.at' 2 (by omega)).trans (congrArg some h2),(h.at' 3 (by omega)).trans (congrArg some h3),(h.at' 4 (by omega)).trans (congrArg some h4),(h.at' 5 (by omega)).trans (congrArg some h5),(h.at' 6 (by omega)).trans (congrArg some h6),(h.at' 7 (by omega)).trans (congrArg some h7),h.fz,h.lt⟩
structure RuB (w:World) (g:Nat) (r:Rul):Prop where
 c0:w.cell? ⟨g,0,none⟩=some (.int .i64 r.key)
 c1:w.cell? ⟨g,1,none⟩=some (.int .i64 r.idle)
 c2:w.cell? ⟨g,2,none⟩=some (.int .i64 r.life)
 c3:w.cell? ⟨g,3,none⟩=some (.int .i64 r.access)
 lt:g<w.heap.size
theorem RuB.keep {l:List Nat} {w w':World} {g:Nat} {r:Rul} (h:RuB w g r) (hk:Keep l w w') (hn:g∉l):RuB w' g r:=by
 have hc:∀ i,w'.cell? ⟨g,i,none⟩=w.cell? ⟨g,i,none⟩:=fun i=>hk.cell (p:=⟨g,i,none⟩) h.lt hn;exact ⟨(hc 0).trans h.c0,(hc 1).trans h.c1,(hc 2).trans h.c2,(hc 3).trans h.c3,Nat.lt_of_lt_of_le h.lt hk.size⟩
theorem RuB.on {w w':World} {g:Nat} {r:Rul} (h:RuB w g r) (hb:Below w.heap.size w w'):RuB w' g r:=h.keep (Keep.of [] hb) (by simp)
theorem RuB.other {w:World} {g gk:Nat} {r:Rul} (h:RuB w g r) (hn:gk≠g) (j:Nat) (v:Value):RuB (w.setCell ⟨gk,j,none⟩ v) g r:=by
 have hc:∀ i,(w.setCell ⟨gk,j,none⟩ v).cell? ⟨g,i,none⟩=w.cell? ⟨g,i,none⟩:=fun i=>World.cell?_setCell_other _ _ _ _ (by intro q; injection q with q1; exact hn q1)
 exact ⟨(hc 0).trans h.c0,(hc 1).trans h.c1,(hc 2).trans h.c2,(hc 3).trans h.c3,by simpa using h.lt⟩
theorem RuB.made (w:World) (k i l a:Int) (t:TypeId):RuB (w.alloc (.cells #[.int .i64 k,.int .i64 i,.int .i64 l,.int .i64 a] t)) w.heap.size ⟨k,i,l,a⟩:=by
 refine ⟨?_,?_,?_,?_,by simp⟩ <;> exact (World.cell?_alloc_at _ _ _ _ rfl).trans rfl
theorem DB.onL {N:Nat} {w w':World} {gd:Nat} {p:Pub} (h:DB N w gd p) (hb:Below w.heap.size w w'):DB N w' gd p:=by
 obtain ⟨A,sv,b,es,h1,h2,F,l',d1,d2,d3⟩:=h.run;exact ⟨h.ok,⟨A,sv,b,es,h1,h2,F,l',d1.below hb h.lt,d2,d3⟩,h.libs.below hb,h.err.on hb,h.olds,h.oldE,Nat.lt_of_lt_of_le h.lt hb.size⟩
theorem lay_yes (N:Nat) (w:World) (gk gd:Nat) (k i l a:Int) (c:Nat→Value) (p:Pub) (h:DB N w gd p) (hN:N<99000) (hL:LibsR w) (hr:RulOk ⟨k,i,l,a⟩) (ho:OldsR gd) (hx:Bx w gk c) (hk:gk≠gd) :
 Calls Tryz.prog 146 #[.pointer (some ⟨gk,0,none⟩),.pointer (some ⟨gd,0,none⟩),.agg #[.int .i64 k,.int .i64 i,.int .i64 l,.int .i64 a]] w fun e w'=>e=.returned (.tuple #[])∧∃ gs gv v w3,SvIs N w3 gv gs gd ⟨k,i,l,a⟩ ⟨p.st,p.lg,p.n,p.c,p.l,false⟩ v∧Below w.heap.size w w3∧Keep [gk] w3 w'∧w.heap.size≤gs∧w.heap.size≤gv∧∃ c',Bx w' gk c'∧c' 0=.pointer (some ⟨gd,0,none⟩)∧c' 1=.pointer (some ⟨gs,0,none⟩)∧c' 2=.pointer (some ⟨gv,0,none⟩)∧c' 3=.int .i64 k∧c' 4=.int .i64 i∧c' 5=.int .i64 l∧c' 6=.int .i64 a∧c' 7=c 7:=by
 have hb:Below w.heap.size w (w.alloc (.cells #[.int .i64 k,.int .i64 i,.int .i64 l,.int .i64 a] 54)):=(Below.refl _ _).alloc (Nat.le_refl _) _;have HB:Hid _:=hb;have HDB:Hid (DB N (w.alloc (.cells #[.int .i64 k,.int .i64 i,.int .i64 l,.int .i64 a] 54)) gd p):=h.onL hb;have HLB:Hid (LibsR (w.alloc (.cells #[.int .i64 k,.int .i64 i,.int .i64 l,.int .i64 a] 54))):=hL.on hb;have HRB:Hid _:=RuB.made w k i l a 54;have HBX:Hid _:=hx.on hb;have HR:Hid (RulOk ⟨k,i,l,a⟩):=hr;have HO:Hid (OldsR gd):=ho;have HKN:Hid (gk≠gd):=hk;have HNN:Hid (N<99000):=(show _<_ by omega)
 have HXL:Hid (gk<w.heap.size):=hx.lt;have HSZ:Hid (w.heap.size≤(w.alloc (.cells #[.int .i64 k,.int .i64 i,.int .i64 l,.int .i64 a] 54)).heap.size):=hb.size;clear h hL hr ho hx hk hb hN;go_enter Tryz.func146,Tryz.ntmps146
 go_wp2_with fail
 go_at_call 12
 refine (openS_is N _ gd p HDB.out HNN.out).mono ?_;rintro e1 w1 ⟨gs,v,rfl,hle,hsp,hb1⟩;have HSP:Hid (SP N w1 gs gd ⟨p.st,p.lg,p.n,p.c,p.l,false⟩ v):=hsp;have HLE:Hid _:=hle;have HB1:Hid _:=hb1;have HLB1:Hid (LibsR w1):=HLB.out.on hb1;clear hle hsp hb1;go_wp2_with fail
 go_at_call 225
 refine (mustT_ok _ _).mono ?_;rintro e2 w2 ⟨rfl,rfl⟩;have HRB1:Hid (RuB w2 w.heap.size ⟨k,i,l,a⟩):=HRB.out.on HB1.out;have a0:=HRB1.out.c0;have a1:=HRB1.out.c1;have a2:=HRB1.out.c2;have a3:=HRB1.out.c3;go_wp2_with fail
 go_at_call 22
 refine (new_is N _ gs gd k i l a _ v HSP.out HLB1.out HR.out HO.out).mono ?_;rintro e3 w3 ⟨gv,rfl,hle3,hsv,hb3⟩;have HSV:Hid (SvIs N w3 gv gs gd ⟨k,i,l,a⟩ ⟨p.st,p.lg,p.n,p.c,p.l,false⟩ v):=hsv;have HLE3:Hid (w2.heap.size≤gv):=hle3;have HB3:Hid (Below w2.heap.size w2 w3):=hb3;have HRB3:Hid (RuB w3 w.heap.size ⟨k,i,l,a⟩):=HRB1.out.on hb3;have HBX3:Hid (Bx w3 gk c):=(HBX.out.on HB1.out).on hb3;clear hle3 hsv hb3 a0 a1 a2 a3;go_wp2_with fail
 go_at_call 226
 refine (mustV_ok _ _).mono ?_;rintro e4 w4 ⟨rfl,rfl⟩;have HX0:Hid (Bx w4.drew gk c):=HBX3.out.on (Below.refl _ _).drew;have HNG:Hid (gk≠w.heap.size):=(show gk≠w.heap.size by have:=HXL.out; omega)
 go_upto_region 3 with fail
 generalize hg:w.heap.size=g at *;have HG:Hid (w.heap.size=g):=hg;clear hg;refine RegD.R_ (fun V=>RuB V g ⟨k,i,l,a⟩∧∃ c,Bx V gk c) 17 (by kernel_rfl) (⟨HRB3.out.on (Below.refl _ _).drew,c,HX0.out⟩) (fun hH=>?_)
 refine RegD.T_ 0 (v:=.pointer (some ⟨gk,0,none⟩)) rfl (by kernel_rfl) (fun _ _ _ h=>h) (.inl ⟨by rfl,fun W hW=>by go_simp⟩) hH ?_
 simp only [Act.put,pS1,pS2,pS3];refine RegD.T_ 1 (v:=.pointer (some ⟨gk,0,none⟩)) rfl (by kernel_rfl) (fun _ _ _ h=>h) (.inl ⟨by rfl,fun W hW=>by go_simp⟩) hH ?_
 simp only [Act.put,pS1,pS2,pS3];refine RegD.T_ 2 (v:=.pointer (some ⟨gk,0,none⟩)) rfl (by kernel_rfl) (fun _ _ _ h=>h) (.inl ⟨by rfl,fun W hW=>by go_simp⟩) hH ?_
 simp only [Act.put,pS1,pS2,pS3];refine RegD.T_ 3 (v:=.pointer (some ⟨gk,0,none⟩)) rfl (by kernel_rfl) (fun _ _ _ h=>h) (.inl ⟨by rfl,fun W hW=>by go_simp⟩) hH ?_
 simp only [Act.put,pS1,pS2,pS3];refine RegD.T_ 4 (v:=.pointer (some ⟨gd,0,none⟩)) rfl (by kernel_rfl) (fun _ _ _ h=>h) (.inl ⟨by rfl,fun W hW=>by go_simp⟩) hH ?_
 simp only [Act.put,pS1,pS2,pS3];refine RegD.T_ 5 (v:=.pointer (some ⟨gs,0,none⟩)) rfl (by kernel_rfl) (fun _ _ _ h=>h) (.inl ⟨by rfl,fun W hW=>by go_simp⟩) hH ?_
 simp only [Act.put,pS1,pS2,pS3];refine RegD.T_ 6 (v:=.pointer (some ⟨gv,0,none⟩)) rfl (by kernel_rfl) (fun _ _ _ h=>h) (.inl ⟨by rfl,fun W hW=>by go_simp⟩) hH ?_
 simp only [Act.put,pS1,pS2,pS3];refine RegD.T_ 7 (v:=.agg #[.int .i64 k,.int .i64 i,.int .i64 l,.int .i64 a]) rfl (by kernel_rfl) (fun _ _ _ h=>h) (.inl ⟨by rfl,fun W hW=>by have a0:=hW.1.c0; have a1:=hW.1.c1; have a2:=hW.1.c2; have a3:=hW.1.c3; go_simp⟩) hH ?_
 simp only [Act.put,pS1,pS2,pS3];refine RegD.T_ 8 (v:=.pointer (some ⟨gk,0,none⟩)) rfl (by kernel_rfl) (fun _ _ _ h=>h) (.inl ⟨by rfl,fun W hW=>by go_simp⟩) hH ?_
 simp only [Act.put,pS1,pS2,pS3];refine RegD.T_ 9 (v:=.pointer (some ⟨gk,0,none⟩)) rfl (by kernel_rfl) (fun _ _ _ h=>h) (.inl ⟨by rfl,fun W hW=>by go_simp⟩) hH ?_
 simp only [Act.put,pS1,pS2,pS3];refine RegD.O_ 10 rfl (by kernel_rfl) ?_; intro K hK; go_simp
 have s0:=HX0.out.at' 0 (by omega)
 have f0:=HBX3.out.fz 0;have r0:=HBX3.out.at' 0 (by omega)
 go_wp2_with fail
 ·exact absurd (‹w4.frozen? ⟨gk,0,none⟩=true›) (by rw [f0]; decide)
 have HX1:Hid _:=HX0.out.set 0 (.pointer (some ⟨gd,0,none⟩));refine hK.out _ _ (⟨hH.1.other HNG.out 0 _,_,HX1.out⟩) ?_;clear hK hH;intro hH;clear K;clear s0 f0 r0;refine RegD.T_ 11 (v:=.pointer (some ⟨gk,0,none⟩)) rfl (by kernel_rfl) (fun _ _ _ h=>h) (.inl ⟨by rfl,fun W hW=>by go_simp⟩) hH ?_
 simp only [Act.put,pS1,pS2,pS3];refine RegD.T_ 12 (v:=.pointer (some ⟨gk,1,none⟩)) rfl (by kernel_rfl) (fun _ _ _ h=>h) (.inl ⟨by rfl,fun W hW=>by go_simp⟩) hH ?_
 simp only [Act.put,pS1,pS2,pS3];refine RegD.O_ 13 rfl (by kernel_rfl) ?_; intro K hK; go_simp
 have s1:=HX1.out.at' 1 (by omega)
 have f1:=HBX3.out.fz 1;have r1:=HBX3.out.at' 1 (by omega)
 go_wp2_with fail
 ·exact absurd (‹w4.frozen? ⟨gk,1,none⟩=true›) (by rw [f1]; decide)
 have HX2:Hid _:=HX1.out.set 1 (.pointer (some ⟨gs,0,none⟩));refine hK.out _ _ (⟨hH.1.other HNG.out 1 _,_,HX2.out⟩) ?_;clear hK hH;intro hH;clear K;clear s1 f1 r1;refine RegD.T_ 14 (v:=.pointer (some ⟨gk,0,none⟩)) rfl (by kernel_rfl) (fun _ _ _ h=>h) (.inl ⟨by rfl,fun W hW=>by go_simp⟩) hH ?_
 simp only [Act.put,pS1,pS2,pS3];refine RegD.T_ 15 (v:=.pointer (some ⟨gk,2,none⟩)) rfl (by kernel_rfl) (fun _ _ _ h=>h) (.inl ⟨by rfl,fun W hW=>by go_simp⟩) hH ?_
 simp only [Act.put,pS1,pS2,pS3];refine RegD.O_ 16 rfl (by kernel_rfl) ?_; intro K hK; go_simp
 have s2:=HX2.out.at' 2 (by omega)
 have f2:=HBX3.out.fz 2;have r2:=HBX3.out.at' 2 (by omega)
 go_wp2_with fail
 ·exact absurd (‹w4.frozen? ⟨gk,2,none⟩=true›) (by rw [f2]; decide)
 have HX3:Hid _:=HX2.out.set 2 (.pointer (some ⟨gv,0,none⟩));refine hK.out _ _ (⟨hH.1.other HNG.out 2 _,_,HX3.out⟩) ?_;clear hK hH;intro hH;clear K;clear s2 f2 r2;have f3:=HBX3.out.fz 3;have f4:=HBX3.out.fz 4;have f5:=HBX3.out.fz 5;have f6:=HBX3.out.fz 6;have fz:=HBX3.out.fz;have r3:=HBX3.out.at' 3 (by omega)
 have r4:=HBX3.out.at' 4 (by omega)
 have r5:=HBX3.out.at' 5 (by omega)
 have r6:=HBX3.out.at' 6 (by omega)
 refine RegD.L_ 17 rfl (by kernel_rfl) (by kernel_rfl) ?_; intro K hK; go_simp
 refine hK.out _ _ ?_;clear hK K;refine RegD.L_ 18 rfl (by kernel_rfl) (by kernel_rfl) ?_; intro K hK; go_simp
 refine hK.out _ _ ?_;clear hK K;refine RegD.L_ 19 rfl (by kernel_rfl) (by kernel_rfl) ?_; intro K hK; go_simp
 clear hH;go_wp2_with fail
 refine hK.out _ _ ?_;clear hK K;refine RegD.D_ (by kernel_rfl) ?_ _
 go_wp2_with fail
 have HX7:Hid _:=(((HX3.out.set 3 (.int .i64 k)).set 4 (.int .i64 i)).set 5 (.int .i64 l)).set 6 (.int .i64 a);have HKE:Hid (Keep [gk] w4 _):=((((((((Keep.refl [gk] w4).drew.setCell (p:=⟨gk,0,none⟩) (.inl (by simp)) (.pointer (some ⟨gd,0,none⟩))).setCell (p:=⟨gk,1,none⟩) (.inl (by simp)) (.pointer (some ⟨gs,0,none⟩))).setCell (p:=⟨gk,2,none⟩) (.inl (by simp)) (.pointer (some ⟨gv,0,none⟩))).setCell (p:=⟨gk,3,none⟩) (.inl (by simp)) (.int .i64 k)).setCell (p:=⟨gk,4,none⟩) (.inl (by simp)) (.int .i64 i)).setCell (p:=⟨gk,5,none⟩) (.inl (by simp)) (.int .i64 l)).setCell (p:=⟨gk,6,none⟩) (.inl (by simp)) (.int .i64 a))
 have HBF:Hid (Below w.heap.size w w4):=by
  have h1:=(HB.out.trans (HB1.out.mono HSZ.out)).trans (HB3.out.mono (Nat.le_trans HSZ.out HB1.out.size));rw [← HG.out] at h1;exact h1
 have HL1:Hid (w.heap.size≤gs):=(show w.heap.size≤gs by rw [HG.out]; exact Nat.le_trans HSZ.out HLE.out)
 have HL2:Hid (w.heap.size≤gv):=(show w.heap.size≤gv by rw [HG.out]; exact Nat.le_trans (Nat.le_trans HSZ.out HB1.out.size) HLE3.out)
 go_end0
 have q7:=HX7.out;have qk:=HKE.out;simp only [World.setCell_drew] at q7 qk;exact ⟨rfl,gs,gv,v,w4,HSV.out,HBF.out,qk,HL1.out,HL2.out,_,q7,rfl,rfl,rfl,rfl,rfl,rfl,rfl,rfl⟩
theorem lay_no (N:Nat) (w:World) (gk gd:Nat) (k i l a:Int) (p:Pub) (h:DB N w gd p) (hN:N<99000) (hr:rightB ⟨k,i,l,a⟩=false) :
 Calls Tryz.prog 146 #[.pointer (some ⟨gk,0,none⟩),.pointer (some ⟨gd,0,none⟩),.agg #[.int .i64 k,.int .i64 i,.int .i64 l,.int .i64 a]] w fun e w'=>e=thrownE (2:Nat)∧Below w.heap.size w w':=by
 have hb:Below w.heap.size w (w.alloc (.cells #[.int .i64 k,.int .i64 i,.int .i64 l,.int .i64 a] 54)):=(Below.refl _ _).alloc (Nat.le_refl _) _;have HB:Hid _:=hb;have HDB:Hid (DB N (w.alloc (.cells #[.int .i64 k,.int .i64 i,.int .i64 l,.int .i64 a] 54)) gd p):=h.onL hb;have HRB:Hid _:=RuB.made w k i l a 54;have HR:Hid (rightB ⟨k,i,l,a⟩=false):=hr;have HNN:Hid (N<99000):=(show _<_ by omega)
 have HE:Hid (ErrVar (w.alloc (.cells #[.int .i64 k,.int .i64 i,.int .i64 l,.int .i64 a] 54))):=h.err.on hb;have HSZ:Hid (w.heap.size≤(w.alloc (.cells #[.int .i64 k,.int .i64 i,.int .i64 l,.int .i64 a] 54)).heap.size):=hb.size;clear h hr hb hN;go_enter Tryz.func146,Tryz.ntmps146
 go_wp2_with fail
 go_at_call 12
 refine (openS_is N _ gd p HDB.out HNN.out).mono ?_;rintro e1 w1 ⟨gs,v,rfl,hle,hsp,hb1⟩;have HB1:Hid _:=hb1;have HE1:Hid (ErrVar w1):=HE.out.on hb1;clear hle hsp hb1;go_wp2_with fail
 go_at_call 225
 refine (mustT_ok _ _).mono ?_;rintro e2 w2 ⟨rfl,rfl⟩;have HRB1:Hid (RuB w2 w.heap.size ⟨k,i,l,a⟩):=HRB.out.on HB1.out;have a0:=HRB1.out.c0;have a1:=HRB1.out.c1;have a2:=HRB1.out.c2;have a3:=HRB1.out.c3;go_wp2_with fail
 go_at_call 22
 refine (new_no _ gs k i l a HR.out).mono ?_;rintro e3 w3 ⟨rfl,hb3⟩;have HB3:Hid (Below w2.heap.size w2 w3):=hb3;have HE3:Hid (ErrVar w3):=HE1.out.on hb3;clear hb3 a0 a1 a2 a3;go_wp2_with fail
 go_at_call 226
 refine (mustV_no none 1 _ HE3.out).mono ?_;rintro e4 w4 ⟨rfl,hb4⟩;have HBF:Hid (Below w.heap.size w w4):=((HB.out.trans (HB1.out.mono HSZ.out)).trans (HB3.out.mono (Nat.le_trans HSZ.out HB1.out.size))).trans (hb4.mono (Nat.le_trans (Nat.le_trans HSZ.out HB1.out.size) HB3.out.size));clear hb4;unfold thrownE;go_wp2_with fail
 exact ⟨rfl,rfl,HBF.out⟩
theorem dKill_is (N:Nat) (w:World) (gk gd gs gv gm gn nt ct:Nat) (bt:Option Addr) (nn cn:Nat) (r:Rul) (p q:Pub) (v:Value) (k:Int) (n:Nat) (h:DkI N w gk gd gs gv gm r p v) (h0:w.cell? ⟨gn,0,none⟩=some (.int .i64 k)) (hgt:gn≠gd∧gn≠gs) (hn:0<nn) (HC:∀ W,SvIs N W gv gs gd r p v→Calls Tryz.prog 35 #[.pointer (some ⟨gv,0,none⟩),.int .i64 k] W fun e w'=>e=.returned (errQ n)∧∃ v',SPto N gs gd v W w' q v') :
 Calls Tryz.prog 233 #[.pointer (some ⟨gk,0,none⟩),.agg #[.slice bt nt ct,.slice (some ⟨gn,0,none⟩) nn cn]] w fun e w'=>e=tellE ⟨#[107,105,108,108]⟩ n∧∃ v',SPto N gs gd v w w' q v':=by
 have hb:Below w.heap.size w (w.alloc (.cells #[.slice bt nt ct,.slice (some ⟨gn,0,none⟩) nn cn] 256)):=(Below.refl _ _).alloc (Nat.le_refl _) _;have HB:Hid _:=hb;have HA:Hid _:=AgB.made w bt (some ⟨gn,0,none⟩) nt ct nn cn 256;have HD:Hid _:=h.on hb;have HCC:Hid _:=HC;have HSO:Hid (SvIs N w gv gs gd r p v):=h.sv;have HT0:Hid _:=(hb.cell (p:=⟨gn,0,none⟩) (World.block_lt_of_cell? _ _ h0)).trans h0;have hi0:(0:Int)<(nn:Int):=by omega
 have hnz:¬ nn=0:=by omega
 have HNE:Hid (w.heap.size≠gd∧w.heap.size≠gs∧gk≠gd∧gk≠gs∧gn≠gd∧gn≠gs):=by
  have h8:=h.sv.sp.ord;have h9:=h.sv.sp.lt;exact ⟨by omega,by omega,h.ne.1,h.ne.2.1,hgt.1,hgt.2⟩
 clear h0 hb hn h HC hgt;go_enter Tryz.func233,Tryz.ntmps233
 go_upto_region 1 with fail
 generalize hW:(w.alloc (.cells #[.slice bt nt ct,.slice (some ⟨gn,0,none⟩) nn cn] 256))=W at *;clear hW;generalize hg:w.heap.size=g at *;have HG:Hid (w.heap.size=g):=hg;clear hg;refine RegD.R_ (fun V=>AgB V g bt (some ⟨gn,0,none⟩) nt ct nn cn∧DAt V gk gd gs gv gm r∧V.cell? ⟨gn,0,none⟩=some (.int .i64 k)) 9 (by kernel_rfl) (⟨HA.out.on (Below.refl _ _).drew,HD.out.box.on (Below.refl _ _).drew,HT0.out⟩) (fun hH=>?_)
 refine RegD.T_ 0 (v:=.pointer (some ⟨gk,0,none⟩)) rfl (by kernel_rfl) (fun _ _ _ h=>h) (.inl ⟨by rfl,fun W hW=>by go_simp⟩) hH ?_
 simp only [Act.put,pS1,pS2,pS3];refine RegD.T_ 1 (v:=.pointer (some ⟨gk,0,none⟩)) rfl (by kernel_rfl) (fun _ _ _ h=>h) (.inl ⟨by rfl,fun W hW=>by go_simp⟩) hH ?_
 simp only [Act.put,pS1,pS2,pS3];refine RegD.T_ 2 (v:=.pointer (some ⟨gk,2,none⟩)) rfl (by kernel_rfl) (fun _ _ _ h=>h) (.inl ⟨by rfl,fun W hW=>by go_simp⟩) hH ?_
 simp only [Act.put,pS1,pS2,pS3];refine RegD.T_ 3 (v:=.pointer (some ⟨gv,0,none⟩)) rfl (by kernel_rfl) (fun _ _ _ h=>h) (.inl ⟨by rfl,fun W hW=>by have a0:=hW.2.1.c2; go_simp⟩) hH ?_
 simp only [Act.put,pS1,pS2,pS3];refine RegD.T_ 4 (v:=.pointer (some ⟨g,1,none⟩)) rfl (by kernel_rfl) (fun _ _ _ h=>h) (.inl ⟨by rfl,fun W hW=>by go_simp⟩) hH ?_
 simp only [Act.put,pS1,pS2,pS3];refine RegD.T_ 5 (v:=.slice (some ⟨gn,0,none⟩) nn cn) rfl (by kernel_rfl) (fun _ _ _ h=>h) (.inl ⟨by rfl,fun W hW=>by have a0:=hW.1.c1; go_simp⟩) hH ?_
 simp only [Act.put,pS1,pS2,pS3];refine RegD.T_ 6 (v:=.pointer (some ⟨gn,0,none⟩)) rfl (by kernel_rfl) (fun _ _ _ h=>h) (.inl ⟨by rfl,fun W hW=>by go_simp⟩) hH ?_
 simp only [Act.put,pS1,pS2,pS3];refine RegD.T_ 7 (v:=.int .i64 k) rfl (by kernel_rfl) (fun _ _ _ h=>h) (.inl ⟨by rfl,fun W hW=>by have a0:=hW.2.2; go_simp⟩) hH ?_
 simp only [Act.put,pS1,pS2,pS3];refine RegD.O_ 8 rfl (by kernel_rfl) ?_; intro K hK; go_simp
 go_at_call 35
 refine (HCC.out _ (HD.out.sv.on (Below.refl _ _).drew)).mono ?_;rintro e1 w1 ⟨rfl,v1,hto⟩;have HTO:Hid _:=SPto.pre (Below.refl _ _).drew hto;go_wp2_with fail
 refine hK.out _ _ (⟨hH.1.keep hto.keep (by have:=HNE.out; simp; omega),hH.2.1.keep hto.keep (by have:=HNE.out; simp; omega),(hto.keep.cell (p:=⟨gn,0,none⟩) (World.block_lt_of_cell? _ _ hH.2.2) (by have:=HNE.out; simp; omega)).trans hH.2.2⟩) ?_
 clear hK hH;intro hH;clear K;clear hto
 have HTB:Hid (SPto N gs gd v w w1 q v1):=by
  have h1:=HB.out;rw [← HG.out] at h1;exact SPto.pre h1 HTO.out
 have HER:Hid (ErrVar w1):=HTB.out.prog.err;clear HTO HA HD HCC HB HT0 hH
 cases n with
 |zero=>
  refine RegD.L_ 9 rfl (by kernel_rfl) (by kernel_rfl) ?_; intro K hK; go_simp
  go_at_call 294
  refine (check_ok _).mono ?_;rintro e2 w2 ⟨rfl,rfl⟩;go_wp2_with fail
  refine hK.out _ _ ?_;clear hK K;refine RegD.D_ (by kernel_rfl) ?_ _
  go_wp2_with fail
  go_ret;exact ⟨rfl,v1,HTB.out⟩
 |succ n=>
  refine RegD.L_ 9 rfl (by kernel_rfl) (by kernel_rfl) ?_; intro K hK; go_simp
  go_at_call 294
  refine (check_no n _ HER.out).mono ?_;rintro e2 w2 ⟨rfl,hb2⟩;have HTE:Hid _:=HTB.out.post hb2;clear hb2;unfold thrownE;go_wp2_with fail
  exact ⟨rfl,rfl,v1,HTE.out⟩
theorem dTick_is (N:Nat) (w:World) (gk gd gs gv gm gn nt ct:Nat) (bt:Option Addr) (nn cn:Nat) (r:Rul) (p q:Pub) (v:Value) (k:Int) (n:Nat) (h:DkI N w gk gd gs gv gm r p v) (h0:w.cell? ⟨gn,0,none⟩=some (.int .i64 k)) (hgt:gn≠gd∧gn≠gs) (hn:0<nn) (HC:∀ W,SvIs N W gv gs gd r p v→Calls Tryz.prog 37 #[.pointer (some ⟨gv,0,none⟩),.int .i64 k] W fun e w'=>e=.returned (errQ n)∧∃ v',SPto N gs gd v W w' q v') :
 Calls Tryz.prog 236 #[.pointer (some ⟨gk,0,none⟩),.agg #[.slice bt nt ct,.slice (some ⟨gn,0,none⟩) nn cn]] w fun e w'=>e=tellE ⟨(Lib.itoa q.st.clock).toArray⟩ n∧∃ v',SPto N gs gd v w w' q v':=by
 have hb:Below w.heap.size w (w.alloc (.cells #[.slice bt nt ct,.slice (some ⟨gn,0,none⟩) nn cn] 256)):=(Below.refl _ _).alloc (Nat.le_refl _) _;have HB:Hid _:=hb;have HA:Hid _:=AgB.made w bt (some ⟨gn,0,none⟩) nt ct nn cn 256;have HD:Hid _:=h.on hb;have HCC:Hid _:=HC;have HSO:Hid (SvIs N w gv gs gd r p v):=h.sv;have HT0:Hid _:=(hb.cell (p:=⟨gn,0,none⟩) (World.block_lt_of_cell? _ _ h0)).trans h0;have hi0:(0:Int)<(nn:Int):=by omega
 have hnz:¬ nn=0:=by omega
 have HNE:Hid (w.heap.size≠gd∧w.heap.size≠gs∧gk≠gd∧gk≠gs∧gn≠gd∧gn≠gs):=by
  have h8:=h.sv.sp.ord;have h9:=h.sv.sp.lt;exact ⟨by omega,by omega,h.ne.1,h.ne.2.1,hgt.1,hgt.2⟩
 clear h0 hb hn h HC hgt;go_enter Tryz.func236,Tryz.ntmps236
 go_upto_region 1 with fail
 generalize hW:(w.alloc (.cells #[.slice bt nt ct,.slice (some ⟨gn,0,none⟩) nn cn] 256))=W at *;clear hW;generalize hg:w.heap.size=g at *;have HG:Hid (w.heap.size=g):=hg;clear hg;refine RegD.R_ (fun V=>AgB V g bt (some ⟨gn,0,none⟩) nt ct nn cn∧DAt V gk gd gs gv gm r∧V.cell? ⟨gn,0,none⟩=some (.int .i64 k)) 9 (by kernel_rfl) (⟨HA.out.on (Below.refl _ _).drew,HD.out.box.on (Below.refl _ _).drew,HT0.out⟩) (fun hH=>?_)
 refine RegD.T_ 0 (v:=.pointer (some ⟨gk,0,none⟩)) rfl (by kernel_rfl) (fun _ _ _ h=>h) (.inl ⟨by rfl,fun W hW=>by go_simp⟩) hH ?_
 simp only [Act.put,pS1,pS2,pS3];refine RegD.T_ 1 (v:=.pointer (some ⟨gk,0,none⟩)) rfl (by kernel_rfl) (fun _ _ _ h=>h) (.inl ⟨by rfl,fun W hW=>by go_simp⟩) hH ?_
 simp only [Act.put,pS1,pS2,pS3];refine RegD.T_ 2 (v:=.pointer (some ⟨gk,2,none⟩)) rfl (by kernel_rfl) (fun _ _ _ h=>h) (.inl ⟨by rfl,fun W hW=>by go_simp⟩) hH ?_
 simp only [Act.put,pS1,pS2,pS3];refine RegD.T_ 3 (v:=.pointer (some ⟨gv,0,none⟩)) rfl (by kernel_rfl) (fun _ _ _ h=>h) (.inl ⟨by rfl,fun W hW=>by have a0:=hW.2.1.c2; go_simp⟩) hH ?_
 simp only [Act.put,pS1,pS2,pS3];refine RegD.T_ 4 (v:=.pointer (some ⟨g,1,none⟩)) rfl (by kernel_rfl) (fun _ _ _ h=>h) (.inl ⟨by rfl,fun W hW=>by go_simp⟩) hH ?_
 simp only [Act.put,pS1,pS2,pS3];refine RegD.T_ 5 (v:=.slice (some ⟨gn,0,none⟩) nn cn) rfl (by kernel_rfl) (fun _ _ _ h=>h) (.inl ⟨by rfl,fun W hW=>by have a0:=hW.1.c1; go_simp⟩) hH ?_
 simp only [Act.put,pS1,pS2,pS3];refine RegD.T_ 6 (v:=.pointer (some ⟨gn,0,none⟩)) rfl (by kernel_rfl) (fun _ _ _ h=>h) (.inl ⟨by rfl,fun W hW=>by go_simp⟩) hH ?_
 simp only [Act.put,pS1,pS2,pS3];refine RegD.T_ 7 (v:=.int .i64 k) rfl (by kernel_rfl) (fun _ _ _ h=>h) (.inl ⟨by rfl,fun W hW=>by have a0:=hW.2.2; go_simp⟩) hH ?_
 simp only [Act.put,pS1,pS2,pS3];refine RegD.O_ 8 rfl (by kernel_rfl) ?_; intro K hK; go_simp
 go_at_call 37
 refine (HCC.out _ (HD.out.sv.on (Below.refl _ _).drew)).mono ?_;rintro e1 w1 ⟨rfl,v1,hto⟩;have HTO:Hid _:=SPto.pre (Below.refl _ _).drew hto;go_wp2_with fail
 refine hK.out _ _ (⟨hH.1.keep hto.keep (by have:=HNE.out; simp; omega),hH.2.1.keep hto.keep (by have:=HNE.out; simp; omega),(hto.keep.cell (p:=⟨gn,0,none⟩) (World.block_lt_of_cell? _ _ hH.2.2) (by have:=HNE.out; simp; omega)).trans hH.2.2⟩) ?_
 clear hK hH;intro hH;clear K;clear hto
 have HTB:Hid (SPto N gs gd v w w1 q v1):=by
  have h1:=HB.out;rw [← HG.out] at h1;exact SPto.pre h1 HTO.out
 have HER:Hid (ErrVar w1):=HTB.out.prog.err;have HSV:Hid (SvIs (N+22) w1 gv gs gd r q v1):=HSO.out.to HTB.out;have a9:=hH.2.1.c2;clear HTO HA HD HCC HB HT0 hH
 cases n with
 |zero=>
  refine RegD.L_ 9 rfl (by kernel_rfl) (by kernel_rfl) ?_; intro K hK; go_simp
  go_at_call 294
  refine (check_ok _).mono ?_;rintro e2 w2 ⟨rfl,rfl⟩;go_wp2_with fail
  refine hK.out _ _ ?_;clear hK K;refine RegD.D_ (by kernel_rfl) ?_ _
  go_wp2_with fail
  go_at_call 43
  refine (svState_is (N+22) _ gv gs gd r q v1 HSV.out).mono ?_;rintro e3 w3 ⟨v3,rfl,hf3,hb3⟩;have HB3:Hid _:=hb3;obtain ⟨b3,c3,rfl⟩:=RowsK.slice hf3;clear hf3;have hfd:∀ W:World,(Instr.field 36 (.agg #[.int .i64 q.st.clock,.int .i64 q.st.next,.slice b3 q.st.fams.length c3]) 0).run Tryz.prog W=.ok (.int .i64 q.st.clock) W:=fun _=>by kernel_rfl
  have HL3:Hid _:=HSV.out.libs.on HB3.out;have HCK:Hid (okN q.st.clock):=HSV.out.sp.ok.good.clock;clear hb3;unfold stV;go_wp2_with fail
  go_at_call 57
  refine (itoaR_is q.st.clock _ (by have:=HCK.out; unfold okN at this; omega) (by have:=HCK.out; unfold okN at this; omega) HL3.out).mono ?_
  rintro e4 w4 ⟨rfl,hb4⟩;have HB4:Hid _:=hb4;clear hb4;go_wp2_with fail
  go_ret;exact ⟨rfl,v1,(HTB.out.post HB3.out).post HB4.out⟩
 |succ n=>
  refine RegD.L_ 9 rfl (by kernel_rfl) (by kernel_rfl) ?_; intro K hK; go_simp
  go_at_call 294
  refine (check_no n _ HER.out).mono ?_;rintro e2 w2 ⟨rfl,hb2⟩;have HTE:Hid _:=HTB.out.post hb2;clear hb2;unfold thrownE;go_wp2_with fail
  exact ⟨rfl,rfl,v1,HTE.out⟩
theorem dCut_is (N:Nat) (w:World) (gk gd gs gv gm gn nt ct:Nat) (bt:Option Addr) (nn cn:Nat) (r:Rul) (p q:Pub) (v:Value) (k:Int) (h:DkI N w gk gd gs gv gm r p v) (h0:w.cell? ⟨gn,0,none⟩=some (.int .i64 k)) (hn:0<nn) (HC:∀ W,SvIs N W gv gs gd r p v→Calls Tryz.prog 15 #[.pointer (some ⟨gd,0,none⟩),.int .i64 k] W fun e w'=>e=.returned (.tuple #[])∧∃ v',SPto N gs gd v W w' q v') :
 Calls Tryz.prog 235 #[.pointer (some ⟨gk,0,none⟩),.agg #[.slice bt nt ct,.slice (some ⟨gn,0,none⟩) nn cn]] w fun e w'=>e=.returned (.string ⟨#[99,117,116]⟩)∧∃ v',SPto N gs gd v w w' q v':=by
 have hb:Below w.heap.size w (w.alloc (.cells #[.slice bt nt ct,.slice (some ⟨gn,0,none⟩) nn cn] 256)):=(Below.refl _ _).alloc (Nat.le_refl _) _;have HB:Hid _:=hb;have HA:Hid _:=AgB.made w bt (some ⟨gn,0,none⟩) nt ct nn cn 256;have HD:Hid _:=h.on hb;have HCC:Hid _:=HC;have HT0:Hid _:=(hb.cell (p:=⟨gn,0,none⟩) (World.block_lt_of_cell? _ _ h0)).trans h0;have hi0:(0:Int)<(nn:Int):=by omega
 have hnz:¬ nn=0:=by omega
 clear h0 hb hn h HC;go_enter Tryz.func235,Tryz.ntmps235
 go_upto_region 1 with fail
 generalize hW:(w.alloc (.cells #[.slice bt nt ct,.slice (some ⟨gn,0,none⟩) nn cn] 256))=W at *;clear hW;generalize hg:w.heap.size=g at *;have HG:Hid (w.heap.size=g):=hg;clear hg;refine RegD.R_ (fun V=>AgB V g bt (some ⟨gn,0,none⟩) nt ct nn cn∧DAt V gk gd gs gv gm r∧V.cell? ⟨gn,0,none⟩=some (.int .i64 k)) 8 (by kernel_rfl) (⟨HA.out.on (Below.refl _ _).drew,HD.out.box.on (Below.refl _ _).drew,HT0.out⟩) (fun hH=>?_)
 refine RegD.T_ 0 (v:=.pointer (some ⟨gk,0,none⟩)) rfl (by kernel_rfl) (fun _ _ _ h=>h) (.inl ⟨by rfl,fun W hW=>by go_simp⟩) hH ?_
 simp only [Act.put,pS1,pS2,pS3];refine RegD.T_ 1 (v:=.pointer (some ⟨gk,0,none⟩)) rfl (by kernel_rfl) (fun _ _ _ h=>h) (.inl ⟨by rfl,fun W hW=>by go_simp⟩) hH ?_
 simp only [Act.put,pS1,pS2,pS3];refine RegD.T_ 2 (v:=.pointer (some ⟨gk,0,none⟩)) rfl (by kernel_rfl) (fun _ _ _ h=>h) (.inl ⟨by rfl,fun W hW=>by go_simp⟩) hH ?_
 simp only [Act.put,pS1,pS2,pS3];refine RegD.T_ 3 (v:=.pointer (some ⟨gd,0,none⟩)) rfl (by kernel_rfl) (fun _ _ _ h=>h) (.inl ⟨by rfl,fun W hW=>by have a0:=hW.2.1.c0; go_simp⟩) hH ?_
 simp only [Act.put,pS1,pS2,pS3];refine RegD.T_ 4 (v:=.pointer (some ⟨g,1,none⟩)) rfl (by kernel_rfl) (fun _ _ _ h=>h) (.inl ⟨by rfl,fun W hW=>by go_simp⟩) hH ?_
 simp only [Act.put,pS1,pS2,pS3];refine RegD.T_ 5 (v:=.slice (some ⟨gn,0,none⟩) nn cn) rfl (by kernel_rfl) (fun _ _ _ h=>h) (.inl ⟨by rfl,fun W hW=>by have a0:=hW.1.c1; go_simp⟩) hH ?_
 simp only [Act.put,pS1,pS2,pS3];refine RegD.T_ 6 (v:=.pointer (some ⟨gn,0,none⟩)) rfl (by kernel_rfl) (fun _ _ _ h=>h) (.inl ⟨by rfl,fun W hW=>by go_simp⟩) hH ?_
 simp only [Act.put,pS1,pS2,pS3];refine RegD.T_ 7 (v:=.int .i64 k) rfl (by kernel_rfl) (fun _ _ _ h=>h) (.inl ⟨by rfl,fun W hW=>by have a0:=hW.2.2; go_simp⟩) hH ?_
 simp only [Act.put,pS1,pS2,pS3];refine RegD.L_ 8 rfl (by kernel_rfl) (by kernel_rfl) ?_; intro K hK; go_simp
 go_at_call 15
 refine (HCC.out _ (HD.out.sv.on (Below.refl _ _).drew)).mono ?_;rintro e1 w1 ⟨rfl,v1,hto⟩;have HTO:Hid _:=SPto.pre (Below.refl _ _).drew hto;clear hto hH;go_wp2_with fail
 refine hK.out _ _ ?_;clear hK K;refine RegD.D_ (by kernel_rfl) ?_ _
 go_wp2_with fail
 go_ret;have h1:=HB.out;rw [← HG.out] at h1;exact ⟨rfl,v1,SPto.pre h1 HTO.out⟩
end Go.Proofs.YtlailakofhenkabGreatDoor
