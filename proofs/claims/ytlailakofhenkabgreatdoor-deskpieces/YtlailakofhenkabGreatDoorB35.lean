import Derived.Test.YtlailakofhenkabGreatDoorB34
set_option maxRecDepth 100000
set_option maxHeartbeats 8000000
namespace Go.Proofs.YtlailakofhenkabGreatDoor
open Go Go.RowKit Tok Sc Ev
theorem IsDisk.keep {l:List Nat} {w w':World} {g:Nat} {F:Int→ByteArray} {n:Int} {c:Bool} {le:Int} (h:IsDisk w g F n c le) (hk:Keep l w w') (hn:g∉l) (hlt:g<w.heap.size):IsDisk w' g F n c le:=
 ⟨fun j hj=>(hk.cell (p:=⟨g,j,none⟩) hlt hn).trans (h.blk j hj),(hk.cell (p:=⟨g,90,none⟩) hlt hn).trans h.wr,(hk.cell (p:=⟨g,91,none⟩) hlt hn).trans h.ct,(hk.cell (p:=⟨g,92,none⟩) hlt hn).trans h.lf,fun j hj=>(hk.frozen (p:=⟨g,j,none⟩) hlt hn).trans (h.fz j hj)⟩
theorem SP.elsewhereB {l:List Nat} {N B:Nat} {w w':World} {gs gd:Nat} {p:Pub} {v:Value} (h:SP N w gs gd p v) (hk:Keep l w w') (hB:B≤w.heap.size) (ho:OldsR B) (hl:∀ x∈l,B≤x∧x≠gd∧x≠gs∧NotIn v x):SP N w' gs gd p v:=by
 obtain ⟨A,sv,b,es,h1,h2,h3⟩:=h.run;obtain ⟨F,l',d1,d2,d3⟩:=h3.disk;have hb:Below B w w':=hk.below hB (fun x hx=>(hl x hx).1);have hn:gs∉l:=fun hx=>(hl gs hx).2.2.1 rfl;have hnd:gd∉l:=fun hx=>(hl gd hx).2.1 rfl;have hc:∀ i,w'.cell? ⟨gs,i,none⟩=w.cell? ⟨gs,i,none⟩:=fun i=>hk.cell (p:=⟨gs,i,none⟩) h3.store.lt hn;have hs:=h3.store;have hst:StoreAt w' gs gd p.dn sv p.lg p.st v:=⟨(hc 0).trans hs.p0,(hc 1).trans hs.p1,(hc 2).trans hs.p2,(hc 3).trans hs.p3,(hc 4).trans hs.p4,(hc 5).trans hs.p5,(hc 6).trans hs.p6,fun i=>(hk.frozen (p:=⟨gs,i,none⟩) hs.lt hn).trans (hs.pf i),hk.rowsOut hs.fam (fun x hx=>(hl x hx).2.2.2),Nat.lt_of_lt_of_le hs.lt hk.size⟩
 exact ⟨h.ok,A,sv,b,es,h1,h2,⟨⟨F,l',d1.keep hk hnd h3.gdlt,d2,d3⟩,h3.libs.belowB hb ho.toA,(hb.cell (p:=⟨0,0,none⟩) ho.1.2.2).trans h3.err,hst,h3.ord,h3.olds,h3.oldE,Keep.refl _ _,Nat.lt_of_lt_of_le hs.lt hk.size⟩⟩
theorem SvIs.elsewhereB {l:List Nat} {N B:Nat} {w w':World} {gv gs gd:Nat} {r:Rul} {p:Pub} {v:Value} (h:SvIs N w gv gs gd r p v) (hk:Keep l w w') (hB:B≤w.heap.size) (ho:OldsR B) (hl:∀ x∈l,B≤x∧x≠gd∧x≠gs∧x≠gv∧NotIn v x):SvIs N w' gv gs gd r p v:=
 ⟨h.sp.elsewhereB hk hB ho (fun x hx=>⟨(hl x hx).1,(hl x hx).2.1,(hl x hx).2.2.1,(hl x hx).2.2.2.2⟩),h.box.keep hk (fun hx=>(hl gv hx).2.2.2.1 rfl),h.libs.belowO (hk.below hB (fun x hx=>(hl x hx).1)) ho,h.rul,h.ord,h.out,h.old⟩
theorem DkI.laid {N:Nat} {w w3 w':World} {gk gd gs gv gm:Nat} {r:Rul} {p:Pub} {v:Value} {c:Nat→Value} (hsv:SvIs N w3 gv gs gd r p v) (hb:Below w.heap.size w w3) (hk:Keep [gk] w3 w') (hgs:w.heap.size≤gs) (hx:Bx w' gk c) (h0:c 0=.pointer (some ⟨gd,0,none⟩)) (h1:c 1=.pointer (some ⟨gs,0,none⟩)) (h2:c 2=.pointer (some ⟨gv,0,none⟩)) (h3:c 3=.int .i64 r.key) (h4:c 4=.int .i64 r.idle) (h5:c 5=.int .i64 r.life) (h6:c 6=.int .i64 r.access) (h7:c 7=.map (some gm)) (ho:OldsR gk) (hkl:gk<w.heap.size) (hml:gm<w.heap.size) (hkd:gk≠gd) (hmd:gm≠gd):DkI N w' gk gd gs gv gm r p v:=by
 have hgv:=hsv.ord;have hs3:=hb.size;have hfam:=hsv.sp.fam;have n1:NotIn v gk:=NotIn.above hfam (by omega)
 have n2:NotIn v gm:=NotIn.above hfam (by omega)
 refine ⟨hsv.elsewhereB hk (B:=gk) (by omega) ho (fun x hx=>?_),hx.dat h0 h1 h2 h3 h4 h5 h6 h7,⟨hkd,by omega,hmd,by omega⟩,⟨n1,n2⟩,?_⟩
 ·obtain rfl:x=gk:=by simpa using hx
  exact ⟨Nat.le_refl _,hkd,by omega,by omega,n1⟩
 ·have:=hk.size
  omega
def dkC (gd gs gv gm:Nat) (r:Rul):Nat→Value
 |0=>.pointer (some ⟨gd,0,none⟩)
 |1=>.pointer (some ⟨gs,0,none⟩)
 |2=>.pointer (some ⟨gv,0,none⟩)
 |3=>.int .i64 r.key
 |4=>.int .i64 r.idle
 |5=>.int .i64 r.life
 |6=>.int .i64 r.access
 |_=>.map (some gm)
theorem DAt.bx {w:World} {gk gd gs gv gm:Nat} {r:Rul} (h:DAt w gk gd gs gv gm r):Bx w gk (dkC gd gs gv gm r):=by
 refine ⟨fun i hi=>?_,h.fz,h.lt⟩;match i,hi with
 |0,_=>exact h.c0
 |1,_=>exact h.c1
 |2,_=>exact h.c2
 |3,_=>exact h.c3
 |4,_=>exact h.c4
 |5,_=>exact h.c5
 |6,_=>exact h.c6
 |7,_=>exact h.c7
theorem okB_inv {n:Int} (h:okB n=true):okN n:=by
 have hh:=h;unfold okB at hh;unfold okN;simp only [Bool.and_eq_true,decide_eq_true_eq] at hh;omega
theorem rul_right {k i l a:Int} (h:rightB ⟨k,i,l,a⟩=true):RulOk ⟨k,i,l,a⟩:=by
 unfold rightB at h;simp only [Bool.and_eq_true] at h;exact ⟨okB_inv h.1,okB_inv h.2.1,okB_inv h.2.2.1,okB_inv h.2.2.2⟩
structure N4 (w:World) (g:Nat) (k i l a:Int):Prop where
 c0:w.cell? ⟨g,0,none⟩=some (.int .i64 k)
 c1:w.cell? ⟨g,1,none⟩=some (.int .i64 i)
 c2:w.cell? ⟨g,2,none⟩=some (.int .i64 l)
 c3:w.cell? ⟨g,3,none⟩=some (.int .i64 a)
theorem N4.on {w w':World} {g:Nat} {k i l a:Int} (h:N4 w g k i l a) (hb:Below w.heap.size w w'):N4 w' g k i l a:=by
 have hlt:=World.block_lt_of_cell? _ _ h.c0;exact ⟨(hb.cell (p:=⟨g,0,none⟩) hlt).trans h.c0,(hb.cell (p:=⟨g,1,none⟩) hlt).trans h.c1,(hb.cell (p:=⟨g,2,none⟩) hlt).trans h.c2,(hb.cell (p:=⟨g,3,none⟩) hlt).trans h.c3⟩
theorem begin_yes (N:Nat) (w:World) (gk gd gs gv gm gn nt ct:Nat) (bt:Option Addr) (nn cn:Nat) (r:Rul) (p:Pub) (v:Value) (k i l a:Int) (h:DkI N w gk gd gs gv gm r p v) (ho:OldsR gk) (h0:N4 w gn k i l a) (hn:3<nn) (hr:rightB ⟨k,i,l,a⟩=true) :
 Calls Tryz.prog 227 #[.pointer (some ⟨gk,0,none⟩),.agg #[.slice bt nt ct,.slice (some ⟨gn,0,none⟩) nn cn]] w fun e w'=>e=.returned (.string ⟨#[110,101,119]⟩)∧∃ gd' gs' gv' v',DkI 0 w' gk gd' gs' gv' gm ⟨k,i,l,a⟩ zeroP v'∧Keep [gk] w w'∧w.heap.size≤gd'∧w.heap.size≤gs':=by
 have hb:Below w.heap.size w (w.alloc (.cells #[.slice bt nt ct,.slice (some ⟨gn,0,none⟩) nn cn] 256)):=(Below.refl _ _).alloc (Nat.le_refl _) _;have HB:Hid _:=hb;have hA:=AgB.made w bt (some ⟨gn,0,none⟩) nt ct nn cn 256;have HD:Hid _:=h.on hb;have HR:Hid (RulOk ⟨k,i,l,a⟩):=rul_right hr;have HN:Hid _:=h0.on hb;have HO:Hid (OldsR gk):=ho;have HKL:Hid (gk<w.heap.size):=h.box.lt;have HML:Hid (gm<w.heap.size):=h.ml;have a1:=hA.c1;have i0:(0:Int)<(nn:Int):=by omega
 have i1:(1:Int)<(nn:Int):=by omega
 have i2:(2:Int)<(nn:Int):=by omega
 have i3:(3:Int)<(nn:Int):=by omega
 have hnz:¬ nn=0:=by omega
 clear h0 hb hn h ho hr hA;go_enter Tryz.func227,Tryz.ntmps227
 go_upto_region 2 with fail
 generalize hW:(w.alloc (.cells #[.slice bt nt ct,.slice (some ⟨gn,0,none⟩) nn cn] 256))=W at *;clear hW a1;have HOW:Hid (OldsR W.heap.size):=HO.out.mono (Nat.le_of_lt HD.out.box.lt);have HB2:Hid (Below W.heap.size W (W.alloc (.cells Tryz.zeroCells28 28)).drew):=((Below.refl _ _).alloc (Nat.le_refl _) _).drew;have HDB:Hid (DB 0 (W.alloc (.cells Tryz.zeroCells28 28)).drew W.heap.size zeroP):=(db_zero W HD.out.sv.libs.toA HD.out.sv.libs.base.err HOW.out.toA).onL (Below.refl _ _).drew;have HLB:Hid (LibsR (W.alloc (.cells Tryz.zeroCells28 28)).drew):=HD.out.sv.libs.on HB2.out;have HBX:Hid (Bx (W.alloc (.cells Tryz.zeroCells28 28)).drew gk (dkC gd gs gv gm r)):=HD.out.box.bx.on HB2.out;have HKW:Hid (gk<W.heap.size∧gm<W.heap.size):=⟨HD.out.box.lt,HD.out.ml⟩;clear HD HKL HML
 refine RegD.R_ (fun V=>N4 V gn k i l a) 16 (by kernel_rfl) (HN.out.on (Below.refl _ _).drew) (fun hH=>?_)
 refine RegD.T_ 0 (v:=.pointer (some ⟨gk,0,none⟩)) rfl (by kernel_rfl) (fun _ _ _ h=>h) (.inl ⟨by rfl,fun W hW=>by go_simp⟩) hH ?_
 simp only [Act.put,pS1,pS2,pS3];refine RegD.T_ 1 (v:=.agg Tryz.zeroCells28) rfl (by kernel_rfl) (fun _ _ _ h=>h) (.inl ⟨by rfl,fun W hW=>by go_simp⟩) hH ?_
 simp only [Act.put,pS1,pS2,pS3];refine RegD.T_ 3 (v:=.slice (some ⟨gn,0,none⟩) nn cn) rfl (by kernel_rfl) (fun _ _ _ h=>h) (.inl ⟨by rfl,fun W hW=>by go_simp⟩) hH ?_
 simp only [Act.put,pS1,pS2,pS3];refine RegD.T_ 4 (v:=.pointer (some ⟨gn,0,none⟩)) rfl (by kernel_rfl) (fun _ _ _ h=>h) (.inl ⟨by rfl,fun W hW=>by go_simp⟩) hH ?_
 simp only [Act.put,pS1,pS2,pS3];refine RegD.T_ 5 (v:=.int .i64 k) rfl (by kernel_rfl) (fun _ _ _ h=>h) (.inl ⟨by rfl,fun W hW=>by have a0:=hW.c0; go_simp⟩) hH ?_
 simp only [Act.put,pS1,pS2,pS3];refine RegD.T_ 6 (v:=.slice (some ⟨gn,0,none⟩) nn cn) rfl (by kernel_rfl) (fun _ _ _ h=>h) (.inl ⟨by rfl,fun W hW=>by go_simp⟩) hH ?_
 simp only [Act.put,pS1,pS2,pS3];refine RegD.T_ 7 (v:=.pointer (some ⟨gn,1,none⟩)) rfl (by kernel_rfl) (fun _ _ _ h=>h) (.inl ⟨by rfl,fun W hW=>by go_simp⟩) hH ?_
 simp only [Act.put,pS1,pS2,pS3];refine RegD.T_ 8 (v:=.int .i64 i) rfl (by kernel_rfl) (fun _ _ _ h=>h) (.inl ⟨by rfl,fun W hW=>by have a0:=hW.c1; go_simp⟩) hH ?_
 simp only [Act.put,pS1,pS2,pS3];refine RegD.T_ 9 (v:=.slice (some ⟨gn,0,none⟩) nn cn) rfl (by kernel_rfl) (fun _ _ _ h=>h) (.inl ⟨by rfl,fun W hW=>by go_simp⟩) hH ?_
 simp only [Act.put,pS1,pS2,pS3];refine RegD.T_ 10 (v:=.pointer (some ⟨gn,2,none⟩)) rfl (by kernel_rfl) (fun _ _ _ h=>h) (.inl ⟨by rfl,fun W hW=>by go_simp⟩) hH ?_
 simp only [Act.put,pS1,pS2,pS3];refine RegD.T_ 11 (v:=.int .i64 l) rfl (by kernel_rfl) (fun _ _ _ h=>h) (.inl ⟨by rfl,fun W hW=>by have a0:=hW.c2; go_simp⟩) hH ?_
 simp only [Act.put,pS1,pS2,pS3];refine RegD.T_ 12 (v:=.slice (some ⟨gn,0,none⟩) nn cn) rfl (by kernel_rfl) (fun _ _ _ h=>h) (.inl ⟨by rfl,fun W hW=>by go_simp⟩) hH ?_
 simp only [Act.put,pS1,pS2,pS3];refine RegD.T_ 13 (v:=.pointer (some ⟨gn,3,none⟩)) rfl (by kernel_rfl) (fun _ _ _ h=>h) (.inl ⟨by rfl,fun W hW=>by go_simp⟩) hH ?_
 simp only [Act.put,pS1,pS2,pS3];refine RegD.T_ 14 (v:=.int .i64 a) rfl (by kernel_rfl) (fun _ _ _ h=>h) (.inl ⟨by rfl,fun W hW=>by have a0:=hW.c3; go_simp⟩) hH ?_
 simp only [Act.put,pS1,pS2,pS3];refine RegD.T_ 15 (v:=.agg #[.int .i64 k,.int .i64 i,.int .i64 l,.int .i64 a]) rfl (by kernel_rfl) (fun _ _ _ h=>h) (.inl ⟨by rfl,fun W hW=>by go_simp⟩) hH ?_
 simp only [Act.put,pS1,pS2,pS3];refine RegD.O_ 2 rfl (by kernel_rfl) ?_; intro K hK; go_simp
 go_wp2_with fail
 refine hK.out _ _ (hH.on ((Below.refl _ _).alloc (Nat.le_refl _) _)) ?_;clear hK hH;intro hH;clear K;refine RegD.L_ 16 rfl (by kernel_rfl) (by kernel_rfl) ?_; intro K hK; go_simp
 go_at_call 146
 refine (lay_yes 0 _ gk W.heap.size k i l a (dkC gd gs gv gm r) _ HDB.out (by omega) HLB.out HR.out HOW.out HBX.out (by have:=HKW.out.1; omega)).mono ?_
 rintro e1 w1 ⟨rfl,gs',gv',v',w3,hsv,hb3,hk3,hgs,hgv,c',hx,q0,q1,q2,q3,q4,q5,q6,q7⟩
 have HF:Hid (∃ gd' gs' gv' v',DkI 0 w1 gk gd' gs' gv' gm ⟨k,i,l,a⟩ zeroP v'∧Keep [gk] W w1∧W.heap.size≤gd'∧W.heap.size≤gs'):=by
  have h1:=HB2.out.size;have h2:=HKW.out;refine ⟨_,gs',gv',v',DkI.laid hsv hb3 hk3 hgs hx q0 q1 q2 q3 q4 q5 q6 q7 HO.out (by omega) (by omega) (by omega) (by omega),?_,Nat.le_refl _,Nat.le_trans h1 hgs⟩
  exact (Keep.of _ (HB2.out.trans (hb3.mono h1))).trans hk3
 clear hsv hb3 hk3 hgs hgv hx q0 q1 q2 q3 q4 q5 q6 q7 HDB HLB HBX HB2 hH HN;go_wp2_with fail
 refine hK.out _ _ ?_;clear hK K;refine RegD.D_ (by kernel_rfl) ?_ _
 go_wp2_with fail
 go_ret;obtain ⟨gd2,gs2,gv2,v2,z1,z2,z3,z4⟩:=HF.out;have h5:=HB.out.size;exact ⟨rfl,gd2,gs2,gv2,v2,z1,(Keep.of _ HB.out).trans z2,by omega,by omega⟩
theorem begin_no (N:Nat) (w:World) (gk gd gs gv gm gn nt ct:Nat) (bt:Option Addr) (nn cn:Nat) (r:Rul) (p:Pub) (v:Value) (k i l a:Int) (h:DkI N w gk gd gs gv gm r p v) (ho:OldsR gk) (h0:N4 w gn k i l a) (hn:3<nn) (hr:rightB ⟨k,i,l,a⟩=false) :
 Calls Tryz.prog 227 #[.pointer (some ⟨gk,0,none⟩),.agg #[.slice bt nt ct,.slice (some ⟨gn,0,none⟩) nn cn]] w fun e w'=>e=thrownE (2:Nat)∧Below w.heap.size w w':=by
 have hb:Below w.heap.size w (w.alloc (.cells #[.slice bt nt ct,.slice (some ⟨gn,0,none⟩) nn cn] 256)):=(Below.refl _ _).alloc (Nat.le_refl _) _;have HB:Hid _:=hb;have hA:=AgB.made w bt (some ⟨gn,0,none⟩) nt ct nn cn 256;have HD:Hid _:=h.on hb;have HR:Hid (rightB ⟨k,i,l,a⟩=false):=hr;have HN:Hid _:=h0.on hb;have HO:Hid (OldsR gk):=ho;have HKL:Hid (gk<w.heap.size):=h.box.lt;have HML:Hid (gm<w.heap.size):=h.ml;have a1:=hA.c1;have i0:(0:Int)<(nn:Int):=by omega
 have i1:(1:Int)<(nn:Int):=by omega
 have i2:(2:Int)<(nn:Int):=by omega
 have i3:(3:Int)<(nn:Int):=by omega
 have hnz:¬ nn=0:=by omega
 clear h0 hb hn h ho hr hA;go_enter Tryz.func227,Tryz.ntmps227
 go_upto_region 2 with fail
 generalize hW:(w.alloc (.cells #[.slice bt nt ct,.slice (some ⟨gn,0,none⟩) nn cn] 256))=W at *;clear hW a1;have HOW:Hid (OldsR W.heap.size):=HO.out.mono (Nat.le_of_lt HD.out.box.lt);have HB2:Hid (Below W.heap.size W (W.alloc (.cells Tryz.zeroCells28 28)).drew):=((Below.refl _ _).alloc (Nat.le_refl _) _).drew;have HDB:Hid (DB 0 (W.alloc (.cells Tryz.zeroCells28 28)).drew W.heap.size zeroP):=(db_zero W HD.out.sv.libs.toA HD.out.sv.libs.base.err HOW.out.toA).onL (Below.refl _ _).drew;have HLB:Hid (LibsR (W.alloc (.cells Tryz.zeroCells28 28)).drew):=HD.out.sv.libs.on HB2.out;have HBX:Hid (Bx (W.alloc (.cells Tryz.zeroCells28 28)).drew gk (dkC gd gs gv gm r)):=HD.out.box.bx.on HB2.out;have HKW:Hid (gk<W.heap.size∧gm<W.heap.size):=⟨HD.out.box.lt,HD.out.ml⟩;clear HD HKL HML
 refine RegD.R_ (fun V=>N4 V gn k i l a) 16 (by kernel_rfl) (HN.out.on (Below.refl _ _).drew) (fun hH=>?_)
 refine RegD.T_ 0 (v:=.pointer (some ⟨gk,0,none⟩)) rfl (by kernel_rfl) (fun _ _ _ h=>h) (.inl ⟨by rfl,fun W hW=>by go_simp⟩) hH ?_
 simp only [Act.put,pS1,pS2,pS3];refine RegD.T_ 1 (v:=.agg Tryz.zeroCells28) rfl (by kernel_rfl) (fun _ _ _ h=>h) (.inl ⟨by rfl,fun W hW=>by go_simp⟩) hH ?_
 simp only [Act.put,pS1,pS2,pS3];refine RegD.T_ 3 (v:=.slice (some ⟨gn,0,none⟩) nn cn) rfl (by kernel_rfl) (fun _ _ _ h=>h) (.inl ⟨by rfl,fun W hW=>by go_simp⟩) hH ?_
 simp only [Act.put,pS1,pS2,pS3];refine RegD.T_ 4 (v:=.pointer (some ⟨gn,0,none⟩)) rfl (by kernel_rfl) (fun _ _ _ h=>h) (.inl ⟨by rfl,fun W hW=>by go_simp⟩) hH ?_
 simp only [Act.put,pS1,pS2,pS3];refine RegD.T_ 5 (v:=.int .i64 k) rfl (by kernel_rfl) (fun _ _ _ h=>h) (.inl ⟨by rfl,fun W hW=>by have a0:=hW.c0; go_simp⟩) hH ?_
 simp only [Act.put,pS1,pS2,pS3];refine RegD.T_ 6 (v:=.slice (some ⟨gn,0,none⟩) nn cn) rfl (by kernel_rfl) (fun _ _ _ h=>h) (.inl ⟨by rfl,fun W hW=>by go_simp⟩) hH ?_
 simp only [Act.put,pS1,pS2,pS3];refine RegD.T_ 7 (v:=.pointer (some ⟨gn,1,none⟩)) rfl (by kernel_rfl) (fun _ _ _ h=>h) (.inl ⟨by rfl,fun W hW=>by go_simp⟩) hH ?_
 simp only [Act.put,pS1,pS2,pS3];refine RegD.T_ 8 (v:=.int .i64 i) rfl (by kernel_rfl) (fun _ _ _ h=>h) (.inl ⟨by rfl,fun W hW=>by have a0:=hW.c1; go_simp⟩) hH ?_
 simp only [Act.put,pS1,pS2,pS3];refine RegD.T_ 9 (v:=.slice (some ⟨gn,0,none⟩) nn cn) rfl (by kernel_rfl) (fun _ _ _ h=>h) (.inl ⟨by rfl,fun W hW=>by go_simp⟩) hH ?_
 simp only [Act.put,pS1,pS2,pS3];refine RegD.T_ 10 (v:=.pointer (some ⟨gn,2,none⟩)) rfl (by kernel_rfl) (fun _ _ _ h=>h) (.inl ⟨by rfl,fun W hW=>by go_simp⟩) hH ?_
 simp only [Act.put,pS1,pS2,pS3];refine RegD.T_ 11 (v:=.int .i64 l) rfl (by kernel_rfl) (fun _ _ _ h=>h) (.inl ⟨by rfl,fun W hW=>by have a0:=hW.c2; go_simp⟩) hH ?_
 simp only [Act.put,pS1,pS2,pS3];refine RegD.T_ 12 (v:=.slice (some ⟨gn,0,none⟩) nn cn) rfl (by kernel_rfl) (fun _ _ _ h=>h) (.inl ⟨by rfl,fun W hW=>by go_simp⟩) hH ?_
 simp only [Act.put,pS1,pS2,pS3];refine RegD.T_ 13 (v:=.pointer (some ⟨gn,3,none⟩)) rfl (by kernel_rfl) (fun _ _ _ h=>h) (.inl ⟨by rfl,fun W hW=>by go_simp⟩) hH ?_
 simp only [Act.put,pS1,pS2,pS3];refine RegD.T_ 14 (v:=.int .i64 a) rfl (by kernel_rfl) (fun _ _ _ h=>h) (.inl ⟨by rfl,fun W hW=>by have a0:=hW.c3; go_simp⟩) hH ?_
 simp only [Act.put,pS1,pS2,pS3];refine RegD.T_ 15 (v:=.agg #[.int .i64 k,.int .i64 i,.int .i64 l,.int .i64 a]) rfl (by kernel_rfl) (fun _ _ _ h=>h) (.inl ⟨by rfl,fun W hW=>by go_simp⟩) hH ?_
 simp only [Act.put,pS1,pS2,pS3];refine RegD.O_ 2 rfl (by kernel_rfl) ?_; intro K hK; go_simp
 go_wp2_with fail
 refine hK.out _ _ (hH.on ((Below.refl _ _).alloc (Nat.le_refl _) _)) ?_;clear hK hH;intro hH;clear K;refine RegD.L_ 16 rfl (by kernel_rfl) (by kernel_rfl) ?_; intro K hK; go_simp
 go_at_call 146
 refine (lay_no 0 _ gk W.heap.size k i l a _ HDB.out (by omega) HR.out).mono ?_
 rintro e1 w1 ⟨rfl,hb1⟩;have HF:Hid (Below W.heap.size W w1):=HB2.out.trans (hb1.mono HB2.out.size);clear hb1 HDB HLB HBX HB2 hH HN;unfold thrownE;go_wp2_with fail
 exact ⟨rfl,rfl,HB.out.trans (HF.out.mono HB.out.size)⟩
theorem DkI.left {N:Nat} {w:World} {gk gd gs gv gm:Nat} {r:Rul} {p:Pub} {v:Value} (h:DkI N w gk gd gs gv gm r p v) (hc:p.c=false) (l2:Int):DkI N w gk gd gs gv gm r ⟨p.st,p.lg,p.n,p.c,l2,p.dn⟩ v:=
 ⟨⟨h.sv.sp.left hc l2,h.sv.box,h.sv.libs,h.sv.rul,h.sv.ord,h.sv.out,h.sv.old⟩,h.box,h.ne,h.out,h.ml⟩
theorem open_yes (N:Nat) (w:World) (gk gd gs gv gm:Nat) (bt bn:Option Addr) (nt ct nn cn:Nat) (r:Rul) (p:Pub) (v:Value) (h:DkI N w gk gd gs gv gm r p v) (ho:OldsR gk) (hN:N<99000) :
 Calls Tryz.prog 228 #[.pointer (some ⟨gk,0,none⟩),.agg #[.slice bt nt ct,.slice bn nn cn]] w fun e w'=>e=.returned (.string ⟨#[111,112,101,110]⟩)∧∃ gs' gv' v',DkI N w' gk gd gs' gv' gm r (openP p) v'∧Keep [gk,gd] w w'∧w.heap.size≤gs':=by
 have hb:Below w.heap.size w (w.alloc (.cells #[.slice bt nt ct,.slice bn nn cn] 256)):=(Below.refl _ _).alloc (Nat.le_refl _) _;have HB:Hid _:=hb;have HD:Hid _:=h.on hb;have HO:Hid (OldsR gk):=ho;have HNN:Hid (N<99000):=(show _<_ by omega)
 have a0:=HD.out.box.c0;clear hb h ho hN;go_enter Tryz.func228,Tryz.ntmps228
 go_wp2_with fail
 go_at_call 15
 refine (cutS_is N _ gs gd p v (-1) (by omega) HD.out.sv.sp).mono ?_
 rintro e1 w1 ⟨rfl,hsp,hk1⟩;have hlt:=HD.out.sv.sp.lt;have hord:=HD.out.sv.sp.ord;have HDB:Hid (DB N w1.drew gd (cutP p (-1))):=hsp.db.onL (Below.refl _ _).drew;have HLB:Hid (LibsR w1.drew):=((HD.out.sv.libs.belowO (hk1.below (B:=gd) (by omega) (by simp)) HD.out.sv.old).on (Below.refl _ _).drew)
 have HBX:Hid (Bx w1.drew gk (dkC gd gs gv gm r)):=(HD.out.box.bx.keep hk1 (by have:=HD.out.ne.1; simp; omega)).on (Below.refl _ _).drew
 have HDT:Hid (DAt w1.drew gk gd gs gv gm r):=(HD.out.box.keep hk1 (by have:=HD.out.ne.1; simp; omega)).on (Below.refl _ _).drew
 have HKW:Hid (gk<w1.heap.size∧gm<w1.heap.size∧gk≠gd∧gm≠gd):=⟨Nat.lt_of_lt_of_le HD.out.box.lt hk1.size,Nat.lt_of_lt_of_le HD.out.ml hk1.size,HD.out.ne.1,HD.out.ne.2.2.1⟩;have HK1:Hid (Keep [gk,gd] w w1):=(Keep.of _ HB.out).trans (hk1.mono (by simp))
 have HRU:Hid (RulOk r):=HD.out.sv.rul;have HOD:Hid (OldsR gd):=HD.out.sv.old;have HSZ:Hid (w.heap.size≤w1.heap.size):=HK1.out.size;clear hsp hk1 hlt hord a0 HB HD;go_upto_region 2 with fail
 obtain ⟨k,i,l,a⟩:=r;refine RegD.R_ (fun V=>DAt V gk gd gs gv gm ⟨k,i,l,a⟩) 9 (by kernel_rfl) (HDT.out) (fun hH=>?_)
 refine RegD.T_ 0 (v:=.pointer (some ⟨gk,0,none⟩)) rfl (by kernel_rfl) (fun _ _ _ h=>h) (.inl ⟨by rfl,fun W hW=>by go_simp⟩) hH ?_
 simp only [Act.put,pS1,pS2,pS3];refine RegD.T_ 1 (v:=.pointer (some ⟨gk,0,none⟩)) rfl (by kernel_rfl) (fun _ _ _ h=>h) (.inl ⟨by rfl,fun W hW=>by go_simp⟩) hH ?_
 simp only [Act.put,pS1,pS2,pS3];refine RegD.T_ 2 (v:=.pointer (some ⟨gk,0,none⟩)) rfl (by kernel_rfl) (fun _ _ _ h=>h) (.inl ⟨by rfl,fun W hW=>by go_simp⟩) hH ?_
 simp only [Act.put,pS1,pS2,pS3];refine RegD.T_ 3 (v:=.pointer (some ⟨gk,0,none⟩)) rfl (by kernel_rfl) (fun _ _ _ h=>h) (.inl ⟨by rfl,fun W hW=>by go_simp⟩) hH ?_
 simp only [Act.put,pS1,pS2,pS3];refine RegD.T_ 4 (v:=.pointer (some ⟨gd,0,none⟩)) rfl (by kernel_rfl) (fun _ _ _ h=>h) (.inl ⟨by rfl,fun W hW=>by have a0:=hW.c0; go_simp⟩) hH ?_
 simp only [Act.put,pS1,pS2,pS3];refine RegD.T_ 5 (v:=.pointer (some ⟨gk,0,none⟩)) rfl (by kernel_rfl) (fun _ _ _ h=>h) (.inl ⟨by rfl,fun W hW=>by go_simp⟩) hH ?_
 simp only [Act.put,pS1,pS2,pS3];refine RegD.T_ 6 (v:=.pointer (some ⟨gk,0,none⟩)) rfl (by kernel_rfl) (fun _ _ _ h=>h) (.inl ⟨by rfl,fun W hW=>by go_simp⟩) hH ?_
 simp only [Act.put,pS1,pS2,pS3];refine RegD.T_ 7 (v:=.pointer (some ⟨gk,3,none⟩)) rfl (by kernel_rfl) (fun _ _ _ h=>h) (.inl ⟨by rfl,fun W hW=>by go_simp⟩) hH ?_
 simp only [Act.put,pS1,pS2,pS3];refine RegD.T_ 8 (v:=.agg #[.int .i64 k,.int .i64 i,.int .i64 l,.int .i64 a]) rfl (by kernel_rfl) (fun _ _ _ h=>h) (.inl ⟨by rfl,fun W hW=>by have a3:=hW.c3; have a4:=hW.c4; have a5:=hW.c5; have a6:=hW.c6; go_simp⟩) hH ?_
 simp only [Act.put,pS1,pS2,pS3];refine RegD.L_ 9 rfl (by kernel_rfl) (by kernel_rfl) ?_; intro K hK; go_simp
 go_at_call 146
 refine (lay_yes N _ gk gd k i l a (dkC gd gs gv gm ⟨k,i,l,a⟩) _ HDB.out HNN.out HLB.out HRU.out HOD.out HBX.out HKW.out.2.2.1).mono ?_;rintro e2 w2 ⟨rfl,gs',gv',v',w3,hsv,hb3,hk3,hgs,hgv,c',hx,q0,q1,q2,q3,q4,q5,q6,q7⟩
 have HF:Hid (∃ gs' gv' v',DkI N w2 gk gd gs' gv' gm ⟨k,i,l,a⟩ (openP p) v'∧Keep [gk,gd] w w2∧w.heap.size≤gs'):=by
  have h2:=HKW.out;have h3:=HSZ.out;have h4:=DkI.laid hsv hb3 hk3 hgs hx q0 q1 q2 q3 q4 q5 q6 q7 HO.out h2.1 h2.2.1 h2.2.2.1 h2.2.2.2;refine ⟨gs',gv',v',h4.left (by simp [cutP]) p.l,?_,Nat.le_trans h3 hgs⟩
  exact (HK1.out.drew.trans (Keep.of _ hb3)).trans (hk3.mono (by simp))
 clear hsv hb3 hk3 hgs hgv hx q0 q1 q2 q3 q4 q5 q6 q7 HDB HLB HBX HDT hH HK1 HKW;go_wp2_with fail
 refine hK.out _ _ ?_;clear hK K;refine RegD.D_ (by kernel_rfl) ?_ _
 go_wp2_with fail
 go_ret;exact ⟨rfl,HF.out⟩
end Go.Proofs.YtlailakofhenkabGreatDoor
