import Derived.Test.YtlailakofhenkabGreatDoorB39
import Derived.Test.YtlailakofhenkabGreatDoorB36
set_option maxRecDepth 100000
set_option maxHeartbeats 8000000
namespace Go.Proofs.YtlailakofhenkabGreatDoor
open Go Go.RowKit Tok Sc Ev
theorem dShow_is (N:Nat) (w:World) (gk gd gs gv gm gt nt ct:Nat) (bn:Option Addr) (nn cn:Nat) (r:Rul) (p q:Pub) (v:Value) (x0:ByteArray) (F:Fam) (n:Nat) (h:DkI N w gk gd gs gv gm r p v) (h0:w.cell? ⟨gt,0,none⟩=some (.string x0)) (hgt:gt≠gd∧gt≠gs) (hn:0<nt) (hF:n=0→mayF F∧(famL F).length≤100000) (HC:∀ W,SvIs N W gv gs gd r p v→Calls Tryz.prog 33 #[.pointer (some ⟨gv,0,none⟩),.string x0] W fun e w'=>e=.returned (.tuple #[famV F,errQ n])∧∃ v',SPto N gs gd v W w' q v') :
 Calls Tryz.prog 232 #[.pointer (some ⟨gk,0,none⟩),.agg #[.slice (some ⟨gt,0,none⟩) nt ct,.slice bn nn cn]] w fun e w'=>e=tellE ⟨(famL F).toArray⟩ n∧∃ v',SPto N gs gd v w w' q v':=by
 have hb:Below w.heap.size w (w.alloc (.cells #[.slice (some ⟨gt,0,none⟩) nt ct,.slice bn nn cn] 256)):=(Below.refl _ _).alloc (Nat.le_refl _) _;have HB:Hid _:=hb;have HA:Hid _:=AgB.made w (some ⟨gt,0,none⟩) bn nt ct nn cn 256;have HD:Hid _:=h.on hb;have HCC:Hid _:=HC;have HFF:Hid _:=hF;have HSO:Hid (SvIs N w gv gs gd r p v):=h.sv;have HT0:Hid _:=(hb.cell (p:=⟨gt,0,none⟩) (World.block_lt_of_cell? _ _ h0)).trans h0;have HTL:Hid (gt<(w.alloc (.cells #[.slice (some ⟨gt,0,none⟩) nt ct,.slice bn nn cn] 256)).heap.size):=Nat.lt_of_lt_of_le (World.block_lt_of_cell? _ _ h0) hb.size;have hi0:(0:Int)<(nt:Int):=by omega
 have hnz:¬ nt=0:=by omega
 have HNE:Hid (w.heap.size≠gd∧w.heap.size≠gs∧gk≠gd∧gk≠gs∧gt≠gd∧gt≠gs):=by
  have h8:=h.sv.sp.ord;have h9:=h.sv.sp.lt;exact ⟨by omega,by omega,h.ne.1,h.ne.2.1,hgt.1,hgt.2⟩
 clear h0 hb hn h HC hgt hF;go_enter Tryz.func232,Tryz.ntmps232
 go_upto_region 1 with fail
 generalize hW:(w.alloc (.cells #[.slice (some ⟨gt,0,none⟩) nt ct,.slice bn nn cn] 256))=W at *;clear hW;generalize hg:w.heap.size=g at *;have HG:Hid (w.heap.size=g):=hg;clear hg;refine RegD.R_ (fun V=>AgB V g (some ⟨gt,0,none⟩) bn nt ct nn cn∧DAt V gk gd gs gv gm r∧V.cell? ⟨gt,0,none⟩=some (.string x0)) 11 (by kernel_rfl) (⟨HA.out.on (Below.refl _ _).drew,HD.out.box.on (Below.refl _ _).drew,HT0.out⟩) (fun hH=>?_)
 refine RegD.T_ 0 (v:=.pointer (some ⟨gk,0,none⟩)) rfl (by kernel_rfl) (fun _ _ _ h=>h) (.inl ⟨by rfl,fun W hW=>by go_simp⟩) hH ?_
 simp only [Act.put,pS1,pS2,pS3];refine RegD.T_ 1 (v:=.pointer (some ⟨gk,0,none⟩)) rfl (by kernel_rfl) (fun _ _ _ h=>h) (.inl ⟨by rfl,fun W hW=>by go_simp⟩) hH ?_
 simp only [Act.put,pS1,pS2,pS3];refine RegD.T_ 2 (v:=.pointer (some ⟨gk,2,none⟩)) rfl (by kernel_rfl) (fun _ _ _ h=>h) (.inl ⟨by rfl,fun W hW=>by go_simp⟩) hH ?_
 simp only [Act.put,pS1,pS2,pS3];refine RegD.T_ 3 (v:=.pointer (some ⟨gv,0,none⟩)) rfl (by kernel_rfl) (fun _ _ _ h=>h) (.inl ⟨by rfl,fun W hW=>by have a0:=hW.2.1.c2; go_simp⟩) hH ?_
 simp only [Act.put,pS1,pS2,pS3];refine RegD.T_ 4 (v:=.pointer (some ⟨g,0,none⟩)) rfl (by kernel_rfl) (fun _ _ _ h=>h) (.inl ⟨by rfl,fun W hW=>by go_simp⟩) hH ?_
 simp only [Act.put,pS1,pS2,pS3];refine RegD.T_ 5 (v:=.slice (some ⟨gt,0,none⟩) nt ct) rfl (by kernel_rfl) (fun _ _ _ h=>h) (.inl ⟨by rfl,fun W hW=>by have a0:=hW.1.c0; go_simp⟩) hH ?_
 simp only [Act.put,pS1,pS2,pS3];refine RegD.T_ 6 (v:=.pointer (some ⟨gt,0,none⟩)) rfl (by kernel_rfl) (fun _ _ _ h=>h) (.inl ⟨by rfl,fun W hW=>by go_simp⟩) hH ?_
 simp only [Act.put,pS1,pS2,pS3];refine RegD.T_ 7 (v:=.string x0) rfl (by kernel_rfl) (fun _ _ _ h=>h) (.inl ⟨by rfl,fun W hW=>by have a0:=hW.2.2; go_simp⟩) hH ?_
 simp only [Act.put,pS1,pS2,pS3];refine RegD.O_ 8 rfl (by kernel_rfl) ?_; intro K hK; go_simp
 go_at_call 33
 refine (HCC.out _ (HD.out.sv.on (Below.refl _ _).drew)).mono ?_;rintro e1 w1 ⟨rfl,v1,hto⟩;have HTO:Hid _:=SPto.pre (Below.refl _ _).drew hto;go_wp2_with fail
 refine hK.out _ _ (⟨hH.1.keep hto.keep (by have:=HNE.out; simp; omega),hH.2.1.keep hto.keep (by have:=HNE.out; simp; omega),(hto.keep.cell (p:=⟨gt,0,none⟩) (World.block_lt_of_cell? _ _ (hH.2.2)) (by have:=HNE.out; simp; omega)).trans (hH.2.2)⟩) ?_
 clear hK hH;intro hH;clear K;clear hto;refine RegD.T_ 9 (v:=famV F) rfl (by kernel_rfl) (fun _ _ _ h=>h) (.inl ⟨by rfl,fun W hW=>by go_simp⟩) hH ?_
 simp only [Act.put,pS1,pS2,pS3];refine RegD.T_ 10 (v:=errQ n) rfl (by kernel_rfl) (fun _ _ _ h=>h) (.inl ⟨by rfl,fun W hW=>by go_simp⟩) hH ?_
 simp only [Act.put,pS1,pS2,pS3]
 have HTB:Hid (SPto N gs gd v w w1 q v1):=by
  have h1:=HB.out;rw [← HG.out] at h1;exact SPto.pre h1 HTO.out
 have HER:Hid (ErrVar w1):=HTB.out.prog.err;have HLB:Hid (LibsR w1):=(HSO.out.to HTB.out).libs;clear HTO HA HD HCC HB HT0 HTL hH
 cases n with
 |zero=>
  refine RegD.L_ 11 rfl (by kernel_rfl) (by kernel_rfl) ?_; intro K hK; go_simp
  go_at_call 297
  refine (mustF_ok F _).mono ?_;rintro e2 w2 ⟨rfl,hb2⟩;have HB2:Hid _:=hb2;clear hb2;go_wp2_with fail
  refine hK.out _ _ ?_;clear hK K;refine RegD.L_ 12 rfl (by kernel_rfl) (by kernel_rfl) ?_; intro K hK; go_simp
  go_at_call 296
  refine (famT_is F _ (HFF.out (by simp)).1 (HFF.out (by simp)).2 (HLB.out.on HB2.out)).mono ?_
  rintro e3 w3 ⟨rfl,hb3⟩;have HB3:Hid _:=hb3;clear hb3;go_wp2_with fail
  refine hK.out _ _ ?_;clear hK K;refine RegD.L_ 13 rfl (by kernel_rfl) (by kernel_rfl) ?_; intro K hK; go_simp
  refine hK.out _ _ ?_;clear hK K;refine RegD.D_ (by kernel_rfl) ?_ _
  go_wp2_with fail
  go_ret;exact ⟨rfl,v1,(HTB.out.post HB2.out).post HB3.out⟩
 |succ n=>
  refine RegD.L_ 11 rfl (by kernel_rfl) (by kernel_rfl) ?_; intro K hK; go_simp
  go_at_call 297
  refine (mustF_no F n _ HER.out).mono ?_;rintro e2 w2 ⟨rfl,hb2⟩;have HTE:Hid _:=HTB.out.post hb2;clear hb2;unfold thrownE;go_wp2_with fail
  exact ⟨rfl,rfl,v1,HTE.out⟩
theorem dToken_bad (w:World) (gk gd gs gv gm gt gn nt ct nn cn:Nat) (r:Rul) (x:ByteArray) (a b c:Int) (hD:DAt w gk gd gs gv gm r) (h0:w.cell? ⟨gt,0,none⟩=some (.string x)) (k0:w.cell? ⟨gn,0,none⟩=some (.int .i64 a)) (k1:w.cell? ⟨gn,1,none⟩=some (.int .i64 b)) (k2:w.cell? ⟨gn,2,none⟩=some (.int .i64 c)) (hn:0<nt) (hm:2<nn) (hk:dkKindB x=0) :
 Calls Tryz.prog 243 #[.pointer (some ⟨gk,0,none⟩),.agg #[.slice (some ⟨gt,0,none⟩) nt ct,.slice (some ⟨gn,0,none⟩) nn cn]] w fun e w'=>e=thrownE 3∧Below w.heap.size w w':=by
 have hb:Below w.heap.size w (w.alloc (.cells #[.slice (some ⟨gt,0,none⟩) nt ct,.slice (some ⟨gn,0,none⟩) nn cn] 256)):=(Below.refl _ _).alloc (Nat.le_refl _) _;have HB:Hid _:=hb;have HA:Hid _:=AgB.made w (some ⟨gt,0,none⟩) (some ⟨gn,0,none⟩) nt ct nn cn 256;have HD:Hid _:=hD.on hb;have HT:Hid _:=(hb.cell (p:=⟨gt,0,none⟩) (World.block_lt_of_cell? _ _ h0)).trans h0;have HK0:Hid _:=(hb.cell (p:=⟨gn,0,none⟩) (World.block_lt_of_cell? _ _ k0)).trans k0;have HK1:Hid _:=(hb.cell (p:=⟨gn,1,none⟩) (World.block_lt_of_cell? _ _ k1)).trans k1;have HK2:Hid _:=(hb.cell (p:=⟨gn,2,none⟩) (World.block_lt_of_cell? _ _ k2)).trans k2;have _HBS:Hid (w.heap.size≤(w.alloc (.cells #[.slice (some ⟨gt,0,none⟩) nt ct,.slice (some ⟨gn,0,none⟩) nn cn] 256)).heap.size):=hb.size;have hi0:(0:Int)<(nt:Int):=by omega
 have hj0:(0:Int)<(nn:Int):=by omega
 have hj1:(1:Int)<(nn:Int):=by omega
 have hj2:(2:Int)<(nn:Int):=by omega
 have hnz:¬ nt=0:=by omega
 have hmz:¬ nn=0:=by omega
 clear h0 k0 k1 k2 hb hn hm hD ;go_enter Tryz.func243,Tryz.ntmps243
 go_upto_region 1 with fail
 generalize hW:(w.alloc (.cells #[.slice (some ⟨gt,0,none⟩) nt ct,.slice (some ⟨gn,0,none⟩) nn cn] 256))=W at *;clear hW;generalize hg:w.heap.size=g at *;have HG:Hid (w.heap.size=g):=hg;clear hg;refine RegD.R_ (fun V=>AgB V g (some ⟨gt,0,none⟩) (some ⟨gn,0,none⟩) nt ct nn cn∧DAt V gk gd gs gv gm r∧V.cell? ⟨gt,0,none⟩=some (.string x)∧V.cell? ⟨gn,0,none⟩=some (.int .i64 a)∧V.cell? ⟨gn,1,none⟩=some (.int .i64 b)∧V.cell? ⟨gn,2,none⟩=some (.int .i64 c)∧Below g W V) 26 (by kernel_rfl) (⟨HA.out.on (Below.refl _ _).drew,HD.out.on (Below.refl _ _).drew,HT.out,HK0.out,HK1.out,HK2.out,(Below.refl _ _).drew⟩) (fun hH=>?_)
 refine RegD.T_ 0 (v:=.pointer (some ⟨gk,0,none⟩)) rfl (by kernel_rfl) (fun _ _ _ h=>h) (.inl ⟨by rfl,fun W hW=>by go_simp⟩) hH ?_
 simp only [Act.put,pS1,pS2,pS3];refine RegD.T_ 1 (v:=.pointer (some ⟨gk,0,none⟩)) rfl (by kernel_rfl) (fun _ _ _ h=>h) (.inl ⟨by rfl,fun W hW=>by go_simp⟩) hH ?_
 simp only [Act.put,pS1,pS2,pS3];refine RegD.T_ 2 (v:=.pointer (some ⟨gk,3,none⟩)) rfl (by kernel_rfl) (fun _ _ _ h=>h) (.inl ⟨by rfl,fun W hW=>by go_simp⟩) hH ?_
 simp only [Act.put,pS1,pS2,pS3];refine RegD.T_ 3 (v:=.pointer (some ⟨gk,3,none⟩)) rfl (by kernel_rfl) (fun _ _ _ h=>h) (.inl ⟨by rfl,fun W hW=>by go_simp⟩) hH ?_
 simp only [Act.put,pS1,pS2,pS3];refine RegD.T_ 4 (v:=.int .i64 r.key) rfl (by kernel_rfl) (fun _ _ _ h=>h) (.inl ⟨by rfl,fun W hW=>by have a0:=hW.2.1.c3; go_simp⟩) hH ?_
 simp only [Act.put,pS1,pS2,pS3];refine RegD.T_ 5 (v:=.pointer (some ⟨g,0,none⟩)) rfl (by kernel_rfl) (fun _ _ _ h=>h) (.inl ⟨by rfl,fun W hW=>by go_simp⟩) hH ?_
 simp only [Act.put,pS1,pS2,pS3];refine RegD.T_ 6 (v:=.slice (some ⟨gt,0,none⟩) nt ct) rfl (by kernel_rfl) (fun _ _ _ h=>h) (.inl ⟨by rfl,fun W hW=>by have a0:=hW.1.c0; go_simp⟩) hH ?_
 simp only [Act.put,pS1,pS2,pS3];refine RegD.T_ 7 (v:=.pointer (some ⟨gt,0,none⟩)) rfl (by kernel_rfl) (fun _ _ _ h=>h) (.inl ⟨by rfl,fun W hW=>by go_simp⟩) hH ?_
 simp only [Act.put,pS1,pS2,pS3];refine RegD.T_ 8 (v:=.string x) rfl (by kernel_rfl) (fun _ _ _ h=>h) (.inl ⟨by rfl,fun W hW=>by have a0:=hW.2.2.1; go_simp⟩) hH ?_
 simp only [Act.put,pS1,pS2,pS3];refine RegD.T_ 10 (v:=.pointer (some ⟨g,1,none⟩)) rfl (by kernel_rfl) (fun _ _ _ h=>h) (.inl ⟨by rfl,fun W hW=>by go_simp⟩) hH ?_
 simp only [Act.put,pS1,pS2,pS3];refine RegD.T_ 11 (v:=.slice (some ⟨gn,0,none⟩) nn cn) rfl (by kernel_rfl) (fun _ _ _ h=>h) (.inl ⟨by rfl,fun W hW=>by have a0:=hW.1.c1; go_simp⟩) hH ?_
 simp only [Act.put,pS1,pS2,pS3];refine RegD.T_ 12 (v:=.pointer (some ⟨gn,0,none⟩)) rfl (by kernel_rfl) (fun _ _ _ h=>h) (.inl ⟨by rfl,fun W hW=>by go_simp⟩) hH ?_
 simp only [Act.put,pS1,pS2,pS3];refine RegD.T_ 13 (v:=.int .i64 a) rfl (by kernel_rfl) (fun _ _ _ h=>h) (.inl ⟨by rfl,fun W hW=>by have a0:=hW.2.2.2.1; go_simp⟩) hH ?_
 simp only [Act.put,pS1,pS2,pS3];refine RegD.T_ 14 (v:=.pointer (some ⟨g,1,none⟩)) rfl (by kernel_rfl) (fun _ _ _ h=>h) (.inl ⟨by rfl,fun W hW=>by go_simp⟩) hH ?_
 simp only [Act.put,pS1,pS2,pS3];refine RegD.T_ 15 (v:=.slice (some ⟨gn,0,none⟩) nn cn) rfl (by kernel_rfl) (fun _ _ _ h=>h) (.inl ⟨by rfl,fun W hW=>by have a0:=hW.1.c1; go_simp⟩) hH ?_
 simp only [Act.put,pS1,pS2,pS3];refine RegD.T_ 16 (v:=.pointer (some ⟨gn,1,none⟩)) rfl (by kernel_rfl) (fun _ _ _ h=>h) (.inl ⟨by rfl,fun W hW=>by go_simp⟩) hH ?_
 simp only [Act.put,pS1,pS2,pS3];refine RegD.T_ 17 (v:=.int .i64 b) rfl (by kernel_rfl) (fun _ _ _ h=>h) (.inl ⟨by rfl,fun W hW=>by have a0:=hW.2.2.2.2.1; go_simp⟩) hH ?_
 simp only [Act.put,pS1,pS2,pS3];refine RegD.T_ 18 (v:=.pointer (some ⟨g,1,none⟩)) rfl (by kernel_rfl) (fun _ _ _ h=>h) (.inl ⟨by rfl,fun W hW=>by go_simp⟩) hH ?_
 simp only [Act.put,pS1,pS2,pS3];refine RegD.T_ 19 (v:=.slice (some ⟨gn,0,none⟩) nn cn) rfl (by kernel_rfl) (fun _ _ _ h=>h) (.inl ⟨by rfl,fun W hW=>by have a0:=hW.1.c1; go_simp⟩) hH ?_
 simp only [Act.put,pS1,pS2,pS3];refine RegD.T_ 20 (v:=.pointer (some ⟨gn,2,none⟩)) rfl (by kernel_rfl) (fun _ _ _ h=>h) (.inl ⟨by rfl,fun W hW=>by go_simp⟩) hH ?_
 simp only [Act.put,pS1,pS2,pS3];refine RegD.T_ 21 (v:=.int .i64 c) rfl (by kernel_rfl) (fun _ _ _ h=>h) (.inl ⟨by rfl,fun W hW=>by have a0:=hW.2.2.2.2.2.1; go_simp⟩) hH ?_
 simp only [Act.put,pS1,pS2,pS3];refine RegD.O_ 9 rfl (by kernel_rfl) ?_; intro K hK; go_simp
 go_at_call 302
 refine (dkKindOf_is x _).mono ?_;rw [if_pos hk];rintro e1 w1 ⟨rfl,rfl⟩;have HBX:Hid _:=HB.out.trans hH.2.2.2.2.2.2;clear hH;unfold thrownE;go_wp2_with fail
 have h1:=HBX.out;rw [← HG.out] at h1;exact ⟨rfl,rfl,h1⟩
theorem dToken_ok (w:World) (gk gd gs gv gm gt gn nt ct nn cn:Nat) (r:Rul) (x X:ByteArray) (a b c:Int) (n:Nat) (hD:DAt w gk gd gs gv gm r) (h0:w.cell? ⟨gt,0,none⟩=some (.string x)) (k0:w.cell? ⟨gn,0,none⟩=some (.int .i64 a)) (k1:w.cell? ⟨gn,1,none⟩=some (.int .i64 b)) (k2:w.cell? ⟨gn,2,none⟩=some (.int .i64 c)) (hn:0<nt) (hm:2<nn) (hk:dkKindB x≠0) (hE:ErrVar w) (HC:∀ W,Below w.heap.size w W→Calls Tryz.prog 81 #[.int .i64 r.key,.agg #[.int .i64 (dkKindB x),.int .i64 a,.int .i64 b,.int .i64 c]] W fun e w'=>e=.returned (.tuple #[.string X,errQ n])∧Below W.heap.size W w') :
 Calls Tryz.prog 243 #[.pointer (some ⟨gk,0,none⟩),.agg #[.slice (some ⟨gt,0,none⟩) nt ct,.slice (some ⟨gn,0,none⟩) nn cn]] w fun e w'=>e=tellE X n∧Below w.heap.size w w':=by
 have hb:Below w.heap.size w (w.alloc (.cells #[.slice (some ⟨gt,0,none⟩) nt ct,.slice (some ⟨gn,0,none⟩) nn cn] 256)):=(Below.refl _ _).alloc (Nat.le_refl _) _;have HB:Hid _:=hb;have HA:Hid _:=AgB.made w (some ⟨gt,0,none⟩) (some ⟨gn,0,none⟩) nt ct nn cn 256;have HD:Hid _:=hD.on hb;have HT:Hid _:=(hb.cell (p:=⟨gt,0,none⟩) (World.block_lt_of_cell? _ _ h0)).trans h0;have HK0:Hid _:=(hb.cell (p:=⟨gn,0,none⟩) (World.block_lt_of_cell? _ _ k0)).trans k0;have HK1:Hid _:=(hb.cell (p:=⟨gn,1,none⟩) (World.block_lt_of_cell? _ _ k1)).trans k1;have HK2:Hid _:=(hb.cell (p:=⟨gn,2,none⟩) (World.block_lt_of_cell? _ _ k2)).trans k2;have HBS:Hid (w.heap.size≤(w.alloc (.cells #[.slice (some ⟨gt,0,none⟩) nt ct,.slice (some ⟨gn,0,none⟩) nn cn] 256)).heap.size):=hb.size;have hi0:(0:Int)<(nt:Int):=by omega
 have hj0:(0:Int)<(nn:Int):=by omega
 have hj1:(1:Int)<(nn:Int):=by omega
 have hj2:(2:Int)<(nn:Int):=by omega
 have hnz:¬ nt=0:=by omega
 have hmz:¬ nn=0:=by omega
 have HCC:Hid _:=HC;have HER:Hid (ErrVar w):=hE;clear h0 k0 k1 k2 hb hn hm hD hE HC;go_enter Tryz.func243,Tryz.ntmps243
 go_upto_region 1 with fail
 generalize hW:(w.alloc (.cells #[.slice (some ⟨gt,0,none⟩) nt ct,.slice (some ⟨gn,0,none⟩) nn cn] 256))=W at *;clear hW;generalize hg:w.heap.size=g at *;have HG:Hid (w.heap.size=g):=hg;clear hg;refine RegD.R_ (fun V=>AgB V g (some ⟨gt,0,none⟩) (some ⟨gn,0,none⟩) nt ct nn cn∧DAt V gk gd gs gv gm r∧V.cell? ⟨gt,0,none⟩=some (.string x)∧V.cell? ⟨gn,0,none⟩=some (.int .i64 a)∧V.cell? ⟨gn,1,none⟩=some (.int .i64 b)∧V.cell? ⟨gn,2,none⟩=some (.int .i64 c)∧Below g W V) 26 (by kernel_rfl) (⟨HA.out.on (Below.refl _ _).drew,HD.out.on (Below.refl _ _).drew,HT.out,HK0.out,HK1.out,HK2.out,(Below.refl _ _).drew⟩) (fun hH=>?_)
 refine RegD.T_ 0 (v:=.pointer (some ⟨gk,0,none⟩)) rfl (by kernel_rfl) (fun _ _ _ h=>h) (.inl ⟨by rfl,fun W hW=>by go_simp⟩) hH ?_
 simp only [Act.put,pS1,pS2,pS3];refine RegD.T_ 1 (v:=.pointer (some ⟨gk,0,none⟩)) rfl (by kernel_rfl) (fun _ _ _ h=>h) (.inl ⟨by rfl,fun W hW=>by go_simp⟩) hH ?_
 simp only [Act.put,pS1,pS2,pS3];refine RegD.T_ 2 (v:=.pointer (some ⟨gk,3,none⟩)) rfl (by kernel_rfl) (fun _ _ _ h=>h) (.inl ⟨by rfl,fun W hW=>by go_simp⟩) hH ?_
 simp only [Act.put,pS1,pS2,pS3];refine RegD.T_ 3 (v:=.pointer (some ⟨gk,3,none⟩)) rfl (by kernel_rfl) (fun _ _ _ h=>h) (.inl ⟨by rfl,fun W hW=>by go_simp⟩) hH ?_
 simp only [Act.put,pS1,pS2,pS3];refine RegD.T_ 4 (v:=.int .i64 r.key) rfl (by kernel_rfl) (fun _ _ _ h=>h) (.inl ⟨by rfl,fun W hW=>by have a0:=hW.2.1.c3; go_simp⟩) hH ?_
 simp only [Act.put,pS1,pS2,pS3];refine RegD.T_ 5 (v:=.pointer (some ⟨g,0,none⟩)) rfl (by kernel_rfl) (fun _ _ _ h=>h) (.inl ⟨by rfl,fun W hW=>by go_simp⟩) hH ?_
 simp only [Act.put,pS1,pS2,pS3];refine RegD.T_ 6 (v:=.slice (some ⟨gt,0,none⟩) nt ct) rfl (by kernel_rfl) (fun _ _ _ h=>h) (.inl ⟨by rfl,fun W hW=>by have a0:=hW.1.c0; go_simp⟩) hH ?_
 simp only [Act.put,pS1,pS2,pS3];refine RegD.T_ 7 (v:=.pointer (some ⟨gt,0,none⟩)) rfl (by kernel_rfl) (fun _ _ _ h=>h) (.inl ⟨by rfl,fun W hW=>by go_simp⟩) hH ?_
 simp only [Act.put,pS1,pS2,pS3];refine RegD.T_ 8 (v:=.string x) rfl (by kernel_rfl) (fun _ _ _ h=>h) (.inl ⟨by rfl,fun W hW=>by have a0:=hW.2.2.1; go_simp⟩) hH ?_
 simp only [Act.put,pS1,pS2,pS3];refine RegD.T_ 10 (v:=.pointer (some ⟨g,1,none⟩)) rfl (by kernel_rfl) (fun _ _ _ h=>h) (.inl ⟨by rfl,fun W hW=>by go_simp⟩) hH ?_
 simp only [Act.put,pS1,pS2,pS3];refine RegD.T_ 11 (v:=.slice (some ⟨gn,0,none⟩) nn cn) rfl (by kernel_rfl) (fun _ _ _ h=>h) (.inl ⟨by rfl,fun W hW=>by have a0:=hW.1.c1; go_simp⟩) hH ?_
 simp only [Act.put,pS1,pS2,pS3];refine RegD.T_ 12 (v:=.pointer (some ⟨gn,0,none⟩)) rfl (by kernel_rfl) (fun _ _ _ h=>h) (.inl ⟨by rfl,fun W hW=>by go_simp⟩) hH ?_
 simp only [Act.put,pS1,pS2,pS3];refine RegD.T_ 13 (v:=.int .i64 a) rfl (by kernel_rfl) (fun _ _ _ h=>h) (.inl ⟨by rfl,fun W hW=>by have a0:=hW.2.2.2.1; go_simp⟩) hH ?_
 simp only [Act.put,pS1,pS2,pS3];refine RegD.T_ 14 (v:=.pointer (some ⟨g,1,none⟩)) rfl (by kernel_rfl) (fun _ _ _ h=>h) (.inl ⟨by rfl,fun W hW=>by go_simp⟩) hH ?_
 simp only [Act.put,pS1,pS2,pS3];refine RegD.T_ 15 (v:=.slice (some ⟨gn,0,none⟩) nn cn) rfl (by kernel_rfl) (fun _ _ _ h=>h) (.inl ⟨by rfl,fun W hW=>by have a0:=hW.1.c1; go_simp⟩) hH ?_
 simp only [Act.put,pS1,pS2,pS3];refine RegD.T_ 16 (v:=.pointer (some ⟨gn,1,none⟩)) rfl (by kernel_rfl) (fun _ _ _ h=>h) (.inl ⟨by rfl,fun W hW=>by go_simp⟩) hH ?_
 simp only [Act.put,pS1,pS2,pS3];refine RegD.T_ 17 (v:=.int .i64 b) rfl (by kernel_rfl) (fun _ _ _ h=>h) (.inl ⟨by rfl,fun W hW=>by have a0:=hW.2.2.2.2.1; go_simp⟩) hH ?_
 simp only [Act.put,pS1,pS2,pS3];refine RegD.T_ 18 (v:=.pointer (some ⟨g,1,none⟩)) rfl (by kernel_rfl) (fun _ _ _ h=>h) (.inl ⟨by rfl,fun W hW=>by go_simp⟩) hH ?_
 simp only [Act.put,pS1,pS2,pS3];refine RegD.T_ 19 (v:=.slice (some ⟨gn,0,none⟩) nn cn) rfl (by kernel_rfl) (fun _ _ _ h=>h) (.inl ⟨by rfl,fun W hW=>by have a0:=hW.1.c1; go_simp⟩) hH ?_
 simp only [Act.put,pS1,pS2,pS3];refine RegD.T_ 20 (v:=.pointer (some ⟨gn,2,none⟩)) rfl (by kernel_rfl) (fun _ _ _ h=>h) (.inl ⟨by rfl,fun W hW=>by go_simp⟩) hH ?_
 simp only [Act.put,pS1,pS2,pS3];refine RegD.T_ 21 (v:=.int .i64 c) rfl (by kernel_rfl) (fun _ _ _ h=>h) (.inl ⟨by rfl,fun W hW=>by have a0:=hW.2.2.2.2.2.1; go_simp⟩) hH ?_
 simp only [Act.put,pS1,pS2,pS3];refine RegD.O_ 9 rfl (by kernel_rfl) ?_; intro K hK; go_simp
 go_at_call 302
 refine (dkKindOf_is x _).mono ?_;rw [if_neg hk];rintro e1 w1 ⟨rfl,rfl⟩;go_wp2_with fail
 refine hK.out _ _ (hH) ?_;clear hK hH;intro hH;clear K;refine RegD.T_ 22 (v:=.agg #[.int .i64 (dkKindB x),.int .i64 a,.int .i64 b,.int .i64 c]) rfl (by kernel_rfl) (fun _ _ _ h=>h) (.inl ⟨by rfl,fun W hW=>by go_simp⟩) hH ?_
 simp only [Act.put,pS1,pS2,pS3];refine RegD.O_ 23 rfl (by kernel_rfl) ?_; intro K hK; go_simp
 go_at_call 81
 refine (HCC.out _ (HB.out.trans hH.2.2.2.2.2.2)).mono ?_;rintro e2 w2 ⟨rfl,hb2⟩;have HB2:Hid _:=hb2;clear hb2;go_wp2_with fail
 refine hK.out _ _ (⟨hH.1.on HB2.out,hH.2.1.on HB2.out,(HB2.out.cell (p:=⟨gt,0,none⟩) (World.block_lt_of_cell? _ _ hH.2.2.1)).trans hH.2.2.1,(HB2.out.cell (p:=⟨gn,0,none⟩) (World.block_lt_of_cell? _ _ hH.2.2.2.1)).trans hH.2.2.2.1,(HB2.out.cell (p:=⟨gn,1,none⟩) (World.block_lt_of_cell? _ _ hH.2.2.2.2.1)).trans hH.2.2.2.2.1,(HB2.out.cell (p:=⟨gn,2,none⟩) (World.block_lt_of_cell? _ _ hH.2.2.2.2.2.1)).trans hH.2.2.2.2.2.1,hH.2.2.2.2.2.2.trans (HB2.out.mono (by have:=HBS.out; have:=hH.2.2.2.2.2.2.size; omega))⟩) ?_
 clear hK hH;intro hH;clear K;refine RegD.T_ 24 (v:=.string X) rfl (by kernel_rfl) (fun _ _ _ h=>h) (.inl ⟨by rfl,fun W hW=>by go_simp⟩) hH ?_
 simp only [Act.put,pS1,pS2,pS3];refine RegD.T_ 25 (v:=errQ n) rfl (by kernel_rfl) (fun _ _ _ h=>h) (.inl ⟨by rfl,fun W hW=>by go_simp⟩) hH ?_
 simp only [Act.put,pS1,pS2,pS3]
 have HBF:Hid (Below w.heap.size w w2):=by
  have h1:=HB.out.trans hH.2.2.2.2.2.2;rw [← HG.out] at h1;exact h1
 have HE2:Hid (ErrVar w2):=HER.out.on HBF.out;have HSZ:Hid (w.heap.size≤w2.heap.size):=HBF.out.size;clear HA HD HCC HB HT HK0 HK1 HK2 HB2 hH
 cases n with
 |zero=>
  refine RegD.L_ 26 rfl (by kernel_rfl) (by kernel_rfl) ?_; intro K hK; go_simp
  go_at_call 295
  refine (mustS_ok X _).mono ?_;rintro e3 w3 ⟨rfl,rfl⟩;go_wp2_with fail
  refine hK.out _ _ ?_;clear hK K;refine RegD.L_ 27 rfl (by kernel_rfl) (by kernel_rfl) ?_; intro K hK; go_simp
  refine hK.out _ _ ?_;clear hK K;refine RegD.D_ (by kernel_rfl) ?_ _
  go_wp2_with fail
  go_ret;exact ⟨rfl,by have h:=HBF.out; exact h⟩
 |succ n=>
  refine RegD.L_ 26 rfl (by kernel_rfl) (by kernel_rfl) ?_; intro K hK; go_simp
  go_at_call 295
  refine (mustS_no X n _ HE2.out).mono ?_;rintro e3 w3 ⟨rfl,hb3⟩;have HB3:Hid _:=HBF.out.trans (hb3.mono HSZ.out);clear hb3;unfold thrownE;go_wp2_with fail
  exact ⟨rfl,rfl,HB3.out⟩
end Go.Proofs.YtlailakofhenkabGreatDoor
