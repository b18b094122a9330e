import Derived.Test.YtlailakofhenkabGreatDoorB34
set_option maxRecDepth 100000
set_option maxHeartbeats 8000000
namespace Go.Proofs.YtlailakofhenkabGreatDoor
open Go Go.RowKit Tok Sc Ev
theorem dGrant_is (N:Nat) (w:World) (gk gd gs gv gm gt nt ct:Nat) (bn:Option Addr) (nn cn:Nat) (r:Rul) (p q:Pub) (v:Value) (x0 x1 x2 X:ByteArray) (n:Nat) (h:DkI N w gk gd gs gv gm r p v) (h0:w.cell? ⟨gt,0,none⟩=some (.string x0)) (h1:w.cell? ⟨gt,1,none⟩=some (.string x1)) (h2:w.cell? ⟨gt,2,none⟩=some (.string x2)) (hgt:gt≠gd∧gt≠gs) (hn:2<nt) (HC:∀ W,SvIs N W gv gs gd r p v→Calls Tryz.prog 27 #[.pointer (some ⟨gv,0,none⟩),.string x0,.string x1,.string x2] W fun e w'=>e=.returned (.tuple #[.string X,errQ n])∧∃ v',SPto N gs gd v W w' q v') :
 Calls Tryz.prog 229 #[.pointer (some ⟨gk,0,none⟩),.agg #[.slice (some ⟨gt,0,none⟩) nt ct,.slice bn nn cn]] w fun e w'=>e=tellE X n∧∃ v',SPto N gs gd v w w' q v':=by
 have hb:Below w.heap.size w (w.alloc (.cells #[.slice (some ⟨gt,0,none⟩) nt ct,.slice bn nn cn] 256)):=(Below.refl _ _).alloc (Nat.le_refl _) _;have HB:Hid _:=hb;have HA:Hid _:=AgB.made w (some ⟨gt,0,none⟩) bn nt ct nn cn 256;have HD:Hid _:=h.on hb;have HCC:Hid _:=HC;have HT0:Hid _:=(hb.cell (p:=⟨gt,0,none⟩) (World.block_lt_of_cell? _ _ h0)).trans h0;have HT1:Hid _:=(hb.cell (p:=⟨gt,1,none⟩) (World.block_lt_of_cell? _ _ h1)).trans h1;have HT2:Hid _:=(hb.cell (p:=⟨gt,2,none⟩) (World.block_lt_of_cell? _ _ h2)).trans h2;have HTL:Hid (gt<(w.alloc (.cells #[.slice (some ⟨gt,0,none⟩) nt ct,.slice bn nn cn] 256)).heap.size):=Nat.lt_of_lt_of_le (World.block_lt_of_cell? _ _ h0) hb.size;have hi0:(0:Int)<(nt:Int):=by omega
 have hi1:(1:Int)<(nt:Int):=by omega
 have hi2:(2:Int)<(nt:Int):=by omega
 have hnz:¬ nt=0:=by omega
 have HNE:Hid (w.heap.size≠gd∧w.heap.size≠gs∧gk≠gd∧gk≠gs∧gt≠gd∧gt≠gs):=by
  have h8:=h.sv.sp.ord;have h9:=h.sv.sp.lt;exact ⟨by omega,by omega,h.ne.1,h.ne.2.1,hgt.1,hgt.2⟩
 clear h0 h1 h2 hb hn h HC hgt;go_enter Tryz.func229,Tryz.ntmps229
 go_upto_region 1 with fail
 generalize hW:(w.alloc (.cells #[.slice (some ⟨gt,0,none⟩) nt ct,.slice bn nn cn] 256))=W at *;clear hW;generalize hg:w.heap.size=g at *;have HG:Hid (w.heap.size=g):=hg;clear hg;refine RegD.R_ (fun V=>AgB V g (some ⟨gt,0,none⟩) bn nt ct nn cn∧DAt V gk gd gs gv gm r∧V.cell? ⟨gt,0,none⟩=some (.string x0)∧V.cell? ⟨gt,1,none⟩=some (.string x1)∧V.cell? ⟨gt,2,none⟩=some (.string x2)) 19 (by kernel_rfl) (⟨HA.out.on (Below.refl _ _).drew,HD.out.box.on (Below.refl _ _).drew,HT0.out,HT1.out,HT2.out⟩) (fun hH=>?_)
 refine RegD.T_ 0 (v:=.pointer (some ⟨gk,0,none⟩)) rfl (by kernel_rfl) (fun _ _ _ h=>h) (.inl ⟨by rfl,fun W hW=>by go_simp⟩) hH ?_
 simp only [Act.put,pS1,pS2,pS3];refine RegD.T_ 1 (v:=.pointer (some ⟨gk,0,none⟩)) rfl (by kernel_rfl) (fun _ _ _ h=>h) (.inl ⟨by rfl,fun W hW=>by go_simp⟩) hH ?_
 simp only [Act.put,pS1,pS2,pS3];refine RegD.T_ 2 (v:=.pointer (some ⟨gk,2,none⟩)) rfl (by kernel_rfl) (fun _ _ _ h=>h) (.inl ⟨by rfl,fun W hW=>by go_simp⟩) hH ?_
 simp only [Act.put,pS1,pS2,pS3];refine RegD.T_ 3 (v:=.pointer (some ⟨gv,0,none⟩)) rfl (by kernel_rfl) (fun _ _ _ h=>h) (.inl ⟨by rfl,fun W hW=>by have a0:=hW.2.1.c2; go_simp⟩) hH ?_
 simp only [Act.put,pS1,pS2,pS3];refine RegD.T_ 4 (v:=.pointer (some ⟨g,0,none⟩)) rfl (by kernel_rfl) (fun _ _ _ h=>h) (.inl ⟨by rfl,fun W hW=>by go_simp⟩) hH ?_
 simp only [Act.put,pS1,pS2,pS3];refine RegD.T_ 5 (v:=.slice (some ⟨gt,0,none⟩) nt ct) rfl (by kernel_rfl) (fun _ _ _ h=>h) (.inl ⟨by rfl,fun W hW=>by have a0:=hW.1.c0; go_simp⟩) hH ?_
 simp only [Act.put,pS1,pS2,pS3];refine RegD.T_ 6 (v:=.pointer (some ⟨gt,0,none⟩)) rfl (by kernel_rfl) (fun _ _ _ h=>h) (.inl ⟨by rfl,fun W hW=>by go_simp⟩) hH ?_
 simp only [Act.put,pS1,pS2,pS3];refine RegD.T_ 7 (v:=.string x0) rfl (by kernel_rfl) (fun _ _ _ h=>h) (.inl ⟨by rfl,fun W hW=>by have a0:=hW.2.2.1; go_simp⟩) hH ?_
 simp only [Act.put,pS1,pS2,pS3];refine RegD.T_ 8 (v:=.pointer (some ⟨g,0,none⟩)) rfl (by kernel_rfl) (fun _ _ _ h=>h) (.inl ⟨by rfl,fun W hW=>by go_simp⟩) hH ?_
 simp only [Act.put,pS1,pS2,pS3];refine RegD.T_ 9 (v:=.slice (some ⟨gt,0,none⟩) nt ct) rfl (by kernel_rfl) (fun _ _ _ h=>h) (.inl ⟨by rfl,fun W hW=>by have a0:=hW.1.c0; go_simp⟩) hH ?_
 simp only [Act.put,pS1,pS2,pS3];refine RegD.T_ 10 (v:=.pointer (some ⟨gt,1,none⟩)) rfl (by kernel_rfl) (fun _ _ _ h=>h) (.inl ⟨by rfl,fun W hW=>by go_simp⟩) hH ?_
 simp only [Act.put,pS1,pS2,pS3];refine RegD.T_ 11 (v:=.string x1) rfl (by kernel_rfl) (fun _ _ _ h=>h) (.inl ⟨by rfl,fun W hW=>by have a0:=hW.2.2.2.1; go_simp⟩) hH ?_
 simp only [Act.put,pS1,pS2,pS3];refine RegD.T_ 12 (v:=.pointer (some ⟨g,0,none⟩)) rfl (by kernel_rfl) (fun _ _ _ h=>h) (.inl ⟨by rfl,fun W hW=>by go_simp⟩) hH ?_
 simp only [Act.put,pS1,pS2,pS3];refine RegD.T_ 13 (v:=.slice (some ⟨gt,0,none⟩) nt ct) rfl (by kernel_rfl) (fun _ _ _ h=>h) (.inl ⟨by rfl,fun W hW=>by have a0:=hW.1.c0; go_simp⟩) hH ?_
 simp only [Act.put,pS1,pS2,pS3];refine RegD.T_ 14 (v:=.pointer (some ⟨gt,2,none⟩)) rfl (by kernel_rfl) (fun _ _ _ h=>h) (.inl ⟨by rfl,fun W hW=>by go_simp⟩) hH ?_
 simp only [Act.put,pS1,pS2,pS3];refine RegD.T_ 15 (v:=.string x2) rfl (by kernel_rfl) (fun _ _ _ h=>h) (.inl ⟨by rfl,fun W hW=>by have a0:=hW.2.2.2.2; go_simp⟩) hH ?_
 simp only [Act.put,pS1,pS2,pS3];refine RegD.O_ 16 rfl (by kernel_rfl) ?_; intro K hK; go_simp
 go_at_call 27
 refine (HCC.out _ (HD.out.sv.on (Below.refl _ _).drew)).mono ?_;rintro e1 w1 ⟨rfl,v1,hto⟩;have HTO:Hid _:=SPto.pre (Below.refl _ _).drew hto;go_wp2_with fail
 refine hK.out _ _ (⟨hH.1.keep hto.keep (by have:=HNE.out; simp; omega),hH.2.1.keep hto.keep (by have:=HNE.out; simp; omega),(hto.keep.cell (p:=⟨gt,0,none⟩) (World.block_lt_of_cell? _ _ (hH.2.2.1)) (by have:=HNE.out; simp; omega)).trans (hH.2.2.1),(hto.keep.cell (p:=⟨gt,1,none⟩) (World.block_lt_of_cell? _ _ (hH.2.2.2.1)) (by have:=HNE.out; simp; omega)).trans (hH.2.2.2.1),(hto.keep.cell (p:=⟨gt,2,none⟩) (World.block_lt_of_cell? _ _ (hH.2.2.2.2)) (by have:=HNE.out; simp; omega)).trans (hH.2.2.2.2)⟩) ?_
 clear hK hH;intro hH;clear K;clear hto;refine RegD.T_ 17 (v:=.string X) rfl (by kernel_rfl) (fun _ _ _ h=>h) (.inl ⟨by rfl,fun W hW=>by go_simp⟩) hH ?_
 simp only [Act.put,pS1,pS2,pS3];refine RegD.T_ 18 (v:=errQ n) rfl (by kernel_rfl) (fun _ _ _ h=>h) (.inl ⟨by rfl,fun W hW=>by go_simp⟩) hH ?_
 simp only [Act.put,pS1,pS2,pS3]
 have HTB:Hid (SPto N gs gd v w w1 q v1):=by
  have h1:=HB.out;rw [← HG.out] at h1;exact SPto.pre h1 HTO.out
 have HER:Hid (ErrVar w1):=HTB.out.prog.err;clear HTO HA HD HCC HB HT0 HT1 HT2 HTL hH
 cases n with
 |zero=>
  refine RegD.L_ 19 rfl (by kernel_rfl) (by kernel_rfl) ?_; intro K hK; go_simp
  go_at_call 295
  refine (mustS_ok X _).mono ?_;rintro e2 w2 ⟨rfl,rfl⟩;go_wp2_with fail
  refine hK.out _ _ ?_;clear hK K;refine RegD.L_ 20 rfl (by kernel_rfl) (by kernel_rfl) ?_; intro K hK; go_simp
  refine hK.out _ _ ?_;clear hK K;refine RegD.D_ (by kernel_rfl) ?_ _
  go_wp2_with fail
  go_ret;exact ⟨rfl,v1,HTB.out⟩
 |succ n=>
  refine RegD.L_ 19 rfl (by kernel_rfl) (by kernel_rfl) ?_; intro K hK; go_simp
  go_at_call 295
  refine (mustS_no X n _ HER.out).mono ?_;rintro e2 w2 ⟨rfl,hb2⟩;have HTE:Hid _:=HTB.out.post hb2;clear hb2;unfold thrownE;go_wp2_with fail
  exact ⟨rfl,rfl,v1,HTE.out⟩
theorem dRotate_is (N:Nat) (w:World) (gk gd gs gv gm gt nt ct:Nat) (bn:Option Addr) (nn cn:Nat) (r:Rul) (p q:Pub) (v:Value) (x0 x1 x2 X:ByteArray) (n:Nat) (h:DkI N w gk gd gs gv gm r p v) (h0:w.cell? ⟨gt,0,none⟩=some (.string x0)) (h1:w.cell? ⟨gt,1,none⟩=some (.string x1)) (h2:w.cell? ⟨gt,2,none⟩=some (.string x2)) (hgt:gt≠gd∧gt≠gs) (hn:2<nt) (HC:∀ W,SvIs N W gv gs gd r p v→Calls Tryz.prog 29 #[.pointer (some ⟨gv,0,none⟩),.string x0,.string x1,.string x2] W fun e w'=>e=.returned (.tuple #[.string X,errQ n])∧∃ v',SPto N gs gd v W w' q v') :
 Calls Tryz.prog 230 #[.pointer (some ⟨gk,0,none⟩),.agg #[.slice (some ⟨gt,0,none⟩) nt ct,.slice bn nn cn]] w fun e w'=>e=tellE X n∧∃ v',SPto N gs gd v w w' q v':=by
 have hb:Below w.heap.size w (w.alloc (.cells #[.slice (some ⟨gt,0,none⟩) nt ct,.slice bn nn cn] 256)):=(Below.refl _ _).alloc (Nat.le_refl _) _;have HB:Hid _:=hb;have HA:Hid _:=AgB.made w (some ⟨gt,0,none⟩) bn nt ct nn cn 256;have HD:Hid _:=h.on hb;have HCC:Hid _:=HC;have HT0:Hid _:=(hb.cell (p:=⟨gt,0,none⟩) (World.block_lt_of_cell? _ _ h0)).trans h0;have HT1:Hid _:=(hb.cell (p:=⟨gt,1,none⟩) (World.block_lt_of_cell? _ _ h1)).trans h1;have HT2:Hid _:=(hb.cell (p:=⟨gt,2,none⟩) (World.block_lt_of_cell? _ _ h2)).trans h2;have HTL:Hid (gt<(w.alloc (.cells #[.slice (some ⟨gt,0,none⟩) nt ct,.slice bn nn cn] 256)).heap.size):=Nat.lt_of_lt_of_le (World.block_lt_of_cell? _ _ h0) hb.size;have hi0:(0:Int)<(nt:Int):=by omega
 have hi1:(1:Int)<(nt:Int):=by omega
 have hi2:(2:Int)<(nt:Int):=by omega
 have hnz:¬ nt=0:=by omega
 have HNE:Hid (w.heap.size≠gd∧w.heap.size≠gs∧gk≠gd∧gk≠gs∧gt≠gd∧gt≠gs):=by
  have h8:=h.sv.sp.ord;have h9:=h.sv.sp.lt;exact ⟨by omega,by omega,h.ne.1,h.ne.2.1,hgt.1,hgt.2⟩
 clear h0 h1 h2 hb hn h HC hgt;go_enter Tryz.func230,Tryz.ntmps230
 go_upto_region 1 with fail
 generalize hW:(w.alloc (.cells #[.slice (some ⟨gt,0,none⟩) nt ct,.slice bn nn cn] 256))=W at *;clear hW;generalize hg:w.heap.size=g at *;have HG:Hid (w.heap.size=g):=hg;clear hg;refine RegD.R_ (fun V=>AgB V g (some ⟨gt,0,none⟩) bn nt ct nn cn∧DAt V gk gd gs gv gm r∧V.cell? ⟨gt,0,none⟩=some (.string x0)∧V.cell? ⟨gt,1,none⟩=some (.string x1)∧V.cell? ⟨gt,2,none⟩=some (.string x2)) 19 (by kernel_rfl) (⟨HA.out.on (Below.refl _ _).drew,HD.out.box.on (Below.refl _ _).drew,HT0.out,HT1.out,HT2.out⟩) (fun hH=>?_)
 refine RegD.T_ 0 (v:=.pointer (some ⟨gk,0,none⟩)) rfl (by kernel_rfl) (fun _ _ _ h=>h) (.inl ⟨by rfl,fun W hW=>by go_simp⟩) hH ?_
 simp only [Act.put,pS1,pS2,pS3];refine RegD.T_ 1 (v:=.pointer (some ⟨gk,0,none⟩)) rfl (by kernel_rfl) (fun _ _ _ h=>h) (.inl ⟨by rfl,fun W hW=>by go_simp⟩) hH ?_
 simp only [Act.put,pS1,pS2,pS3];refine RegD.T_ 2 (v:=.pointer (some ⟨gk,2,none⟩)) rfl (by kernel_rfl) (fun _ _ _ h=>h) (.inl ⟨by rfl,fun W hW=>by go_simp⟩) hH ?_
 simp only [Act.put,pS1,pS2,pS3];refine RegD.T_ 3 (v:=.pointer (some ⟨gv,0,none⟩)) rfl (by kernel_rfl) (fun _ _ _ h=>h) (.inl ⟨by rfl,fun W hW=>by have a0:=hW.2.1.c2; go_simp⟩) hH ?_
 simp only [Act.put,pS1,pS2,pS3];refine RegD.T_ 4 (v:=.pointer (some ⟨g,0,none⟩)) rfl (by kernel_rfl) (fun _ _ _ h=>h) (.inl ⟨by rfl,fun W hW=>by go_simp⟩) hH ?_
 simp only [Act.put,pS1,pS2,pS3];refine RegD.T_ 5 (v:=.slice (some ⟨gt,0,none⟩) nt ct) rfl (by kernel_rfl) (fun _ _ _ h=>h) (.inl ⟨by rfl,fun W hW=>by have a0:=hW.1.c0; go_simp⟩) hH ?_
 simp only [Act.put,pS1,pS2,pS3];refine RegD.T_ 6 (v:=.pointer (some ⟨gt,0,none⟩)) rfl (by kernel_rfl) (fun _ _ _ h=>h) (.inl ⟨by rfl,fun W hW=>by go_simp⟩) hH ?_
 simp only [Act.put,pS1,pS2,pS3];refine RegD.T_ 7 (v:=.string x0) rfl (by kernel_rfl) (fun _ _ _ h=>h) (.inl ⟨by rfl,fun W hW=>by have a0:=hW.2.2.1; go_simp⟩) hH ?_
 simp only [Act.put,pS1,pS2,pS3];refine RegD.T_ 8 (v:=.pointer (some ⟨g,0,none⟩)) rfl (by kernel_rfl) (fun _ _ _ h=>h) (.inl ⟨by rfl,fun W hW=>by go_simp⟩) hH ?_
 simp only [Act.put,pS1,pS2,pS3];refine RegD.T_ 9 (v:=.slice (some ⟨gt,0,none⟩) nt ct) rfl (by kernel_rfl) (fun _ _ _ h=>h) (.inl ⟨by rfl,fun W hW=>by have a0:=hW.1.c0; go_simp⟩) hH ?_
 simp only [Act.put,pS1,pS2,pS3];refine RegD.T_ 10 (v:=.pointer (some ⟨gt,1,none⟩)) rfl (by kernel_rfl) (fun _ _ _ h=>h) (.inl ⟨by rfl,fun W hW=>by go_simp⟩) hH ?_
 simp only [Act.put,pS1,pS2,pS3];refine RegD.T_ 11 (v:=.string x1) rfl (by kernel_rfl) (fun _ _ _ h=>h) (.inl ⟨by rfl,fun W hW=>by have a0:=hW.2.2.2.1; go_simp⟩) hH ?_
 simp only [Act.put,pS1,pS2,pS3];refine RegD.T_ 12 (v:=.pointer (some ⟨g,0,none⟩)) rfl (by kernel_rfl) (fun _ _ _ h=>h) (.inl ⟨by rfl,fun W hW=>by go_simp⟩) hH ?_
 simp only [Act.put,pS1,pS2,pS3];refine RegD.T_ 13 (v:=.slice (some ⟨gt,0,none⟩) nt ct) rfl (by kernel_rfl) (fun _ _ _ h=>h) (.inl ⟨by rfl,fun W hW=>by have a0:=hW.1.c0; go_simp⟩) hH ?_
 simp only [Act.put,pS1,pS2,pS3];refine RegD.T_ 14 (v:=.pointer (some ⟨gt,2,none⟩)) rfl (by kernel_rfl) (fun _ _ _ h=>h) (.inl ⟨by rfl,fun W hW=>by go_simp⟩) hH ?_
 simp only [Act.put,pS1,pS2,pS3];refine RegD.T_ 15 (v:=.string x2) rfl (by kernel_rfl) (fun _ _ _ h=>h) (.inl ⟨by rfl,fun W hW=>by have a0:=hW.2.2.2.2; go_simp⟩) hH ?_
 simp only [Act.put,pS1,pS2,pS3];refine RegD.O_ 16 rfl (by kernel_rfl) ?_; intro K hK; go_simp
 go_at_call 29
 refine (HCC.out _ (HD.out.sv.on (Below.refl _ _).drew)).mono ?_;rintro e1 w1 ⟨rfl,v1,hto⟩;have HTO:Hid _:=SPto.pre (Below.refl _ _).drew hto;go_wp2_with fail
 refine hK.out _ _ (⟨hH.1.keep hto.keep (by have:=HNE.out; simp; omega),hH.2.1.keep hto.keep (by have:=HNE.out; simp; omega),(hto.keep.cell (p:=⟨gt,0,none⟩) (World.block_lt_of_cell? _ _ (hH.2.2.1)) (by have:=HNE.out; simp; omega)).trans (hH.2.2.1),(hto.keep.cell (p:=⟨gt,1,none⟩) (World.block_lt_of_cell? _ _ (hH.2.2.2.1)) (by have:=HNE.out; simp; omega)).trans (hH.2.2.2.1),(hto.keep.cell (p:=⟨gt,2,none⟩) (World.block_lt_of_cell? _ _ (hH.2.2.2.2)) (by have:=HNE.out; simp; omega)).trans (hH.2.2.2.2)⟩) ?_
 clear hK hH;intro hH;clear K;clear hto;refine RegD.T_ 17 (v:=.string X) rfl (by kernel_rfl) (fun _ _ _ h=>h) (.inl ⟨by rfl,fun W hW=>by go_simp⟩) hH ?_
 simp only [Act.put,pS1,pS2,pS3];refine RegD.T_ 18 (v:=errQ n) rfl (by kernel_rfl) (fun _ _ _ h=>h) (.inl ⟨by rfl,fun W hW=>by go_simp⟩) hH ?_
 simp only [Act.put,pS1,pS2,pS3]
 have HTB:Hid (SPto N gs gd v w w1 q v1):=by
  have h1:=HB.out;rw [← HG.out] at h1;exact SPto.pre h1 HTO.out
 have HER:Hid (ErrVar w1):=HTB.out.prog.err;clear HTO HA HD HCC HB HT0 HT1 HT2 HTL hH
 cases n with
 |zero=>
  refine RegD.L_ 19 rfl (by kernel_rfl) (by kernel_rfl) ?_; intro K hK; go_simp
  go_at_call 295
  refine (mustS_ok X _).mono ?_;rintro e2 w2 ⟨rfl,rfl⟩;go_wp2_with fail
  refine hK.out _ _ ?_;clear hK K;refine RegD.L_ 20 rfl (by kernel_rfl) (by kernel_rfl) ?_; intro K hK; go_simp
  refine hK.out _ _ ?_;clear hK K;refine RegD.D_ (by kernel_rfl) ?_ _
  go_wp2_with fail
  go_ret;exact ⟨rfl,v1,HTB.out⟩
 |succ n=>
  refine RegD.L_ 19 rfl (by kernel_rfl) (by kernel_rfl) ?_; intro K hK; go_simp
  go_at_call 295
  refine (mustS_no X n _ HER.out).mono ?_;rintro e2 w2 ⟨rfl,hb2⟩;have HTE:Hid _:=HTB.out.post hb2;clear hb2;unfold thrownE;go_wp2_with fail
  exact ⟨rfl,rfl,v1,HTE.out⟩
theorem dMint_is (N:Nat) (w:World) (gk gd gs gv gm gt nt ct:Nat) (bn:Option Addr) (nn cn:Nat) (r:Rul) (p q:Pub) (v:Value) (x0 X:ByteArray) (n:Nat) (h:DkI N w gk gd gs gv gm r p v) (h0:w.cell? ⟨gt,0,none⟩=some (.string x0)) (hgt:gt≠gd∧gt≠gs) (hn:0<nt) (HC:∀ W,SvIs N W gv gs gd r p v→Calls Tryz.prog 31 #[.pointer (some ⟨gv,0,none⟩),.string x0] W fun e w'=>e=.returned (.tuple #[.string X,errQ n])∧∃ v',SPto N gs gd v W w' q v') :
 Calls Tryz.prog 231 #[.pointer (some ⟨gk,0,none⟩),.agg #[.slice (some ⟨gt,0,none⟩) nt ct,.slice bn nn cn]] w fun e w'=>e=tellE X n∧∃ v',SPto N gs gd v w w' q v':=by
 have hb:Below w.heap.size w (w.alloc (.cells #[.slice (some ⟨gt,0,none⟩) nt ct,.slice bn nn cn] 256)):=(Below.refl _ _).alloc (Nat.le_refl _) _;have HB:Hid _:=hb;have HA:Hid _:=AgB.made w (some ⟨gt,0,none⟩) bn nt ct nn cn 256;have HD:Hid _:=h.on hb;have HCC:Hid _:=HC;have HT0:Hid _:=(hb.cell (p:=⟨gt,0,none⟩) (World.block_lt_of_cell? _ _ h0)).trans h0;have HTL:Hid (gt<(w.alloc (.cells #[.slice (some ⟨gt,0,none⟩) nt ct,.slice bn nn cn] 256)).heap.size):=Nat.lt_of_lt_of_le (World.block_lt_of_cell? _ _ h0) hb.size;have hi0:(0:Int)<(nt:Int):=by omega
 have hnz:¬ nt=0:=by omega
 have HNE:Hid (w.heap.size≠gd∧w.heap.size≠gs∧gk≠gd∧gk≠gs∧gt≠gd∧gt≠gs):=by
  have h8:=h.sv.sp.ord;have h9:=h.sv.sp.lt;exact ⟨by omega,by omega,h.ne.1,h.ne.2.1,hgt.1,hgt.2⟩
 clear h0 hb hn h HC hgt;go_enter Tryz.func231,Tryz.ntmps231
 go_upto_region 1 with fail
 generalize hW:(w.alloc (.cells #[.slice (some ⟨gt,0,none⟩) nt ct,.slice bn nn cn] 256))=W at *;clear hW;generalize hg:w.heap.size=g at *;have HG:Hid (w.heap.size=g):=hg;clear hg;refine RegD.R_ (fun V=>AgB V g (some ⟨gt,0,none⟩) bn nt ct nn cn∧DAt V gk gd gs gv gm r∧V.cell? ⟨gt,0,none⟩=some (.string x0)) 11 (by kernel_rfl) (⟨HA.out.on (Below.refl _ _).drew,HD.out.box.on (Below.refl _ _).drew,HT0.out⟩) (fun hH=>?_)
 refine RegD.T_ 0 (v:=.pointer (some ⟨gk,0,none⟩)) rfl (by kernel_rfl) (fun _ _ _ h=>h) (.inl ⟨by rfl,fun W hW=>by go_simp⟩) hH ?_
 simp only [Act.put,pS1,pS2,pS3];refine RegD.T_ 1 (v:=.pointer (some ⟨gk,0,none⟩)) rfl (by kernel_rfl) (fun _ _ _ h=>h) (.inl ⟨by rfl,fun W hW=>by go_simp⟩) hH ?_
 simp only [Act.put,pS1,pS2,pS3];refine RegD.T_ 2 (v:=.pointer (some ⟨gk,2,none⟩)) rfl (by kernel_rfl) (fun _ _ _ h=>h) (.inl ⟨by rfl,fun W hW=>by go_simp⟩) hH ?_
 simp only [Act.put,pS1,pS2,pS3];refine RegD.T_ 3 (v:=.pointer (some ⟨gv,0,none⟩)) rfl (by kernel_rfl) (fun _ _ _ h=>h) (.inl ⟨by rfl,fun W hW=>by have a0:=hW.2.1.c2; go_simp⟩) hH ?_
 simp only [Act.put,pS1,pS2,pS3];refine RegD.T_ 4 (v:=.pointer (some ⟨g,0,none⟩)) rfl (by kernel_rfl) (fun _ _ _ h=>h) (.inl ⟨by rfl,fun W hW=>by go_simp⟩) hH ?_
 simp only [Act.put,pS1,pS2,pS3];refine RegD.T_ 5 (v:=.slice (some ⟨gt,0,none⟩) nt ct) rfl (by kernel_rfl) (fun _ _ _ h=>h) (.inl ⟨by rfl,fun W hW=>by have a0:=hW.1.c0; go_simp⟩) hH ?_
 simp only [Act.put,pS1,pS2,pS3];refine RegD.T_ 6 (v:=.pointer (some ⟨gt,0,none⟩)) rfl (by kernel_rfl) (fun _ _ _ h=>h) (.inl ⟨by rfl,fun W hW=>by go_simp⟩) hH ?_
 simp only [Act.put,pS1,pS2,pS3];refine RegD.T_ 7 (v:=.string x0) rfl (by kernel_rfl) (fun _ _ _ h=>h) (.inl ⟨by rfl,fun W hW=>by have a0:=hW.2.2; go_simp⟩) hH ?_
 simp only [Act.put,pS1,pS2,pS3];refine RegD.O_ 8 rfl (by kernel_rfl) ?_; intro K hK; go_simp
 go_at_call 31
 refine (HCC.out _ (HD.out.sv.on (Below.refl _ _).drew)).mono ?_;rintro e1 w1 ⟨rfl,v1,hto⟩;have HTO:Hid _:=SPto.pre (Below.refl _ _).drew hto;go_wp2_with fail
 refine hK.out _ _ (⟨hH.1.keep hto.keep (by have:=HNE.out; simp; omega),hH.2.1.keep hto.keep (by have:=HNE.out; simp; omega),(hto.keep.cell (p:=⟨gt,0,none⟩) (World.block_lt_of_cell? _ _ (hH.2.2)) (by have:=HNE.out; simp; omega)).trans (hH.2.2)⟩) ?_
 clear hK hH;intro hH;clear K;clear hto;refine RegD.T_ 9 (v:=.string X) rfl (by kernel_rfl) (fun _ _ _ h=>h) (.inl ⟨by rfl,fun W hW=>by go_simp⟩) hH ?_
 simp only [Act.put,pS1,pS2,pS3];refine RegD.T_ 10 (v:=errQ n) rfl (by kernel_rfl) (fun _ _ _ h=>h) (.inl ⟨by rfl,fun W hW=>by go_simp⟩) hH ?_
 simp only [Act.put,pS1,pS2,pS3]
 have HTB:Hid (SPto N gs gd v w w1 q v1):=by
  have h1:=HB.out;rw [← HG.out] at h1;exact SPto.pre h1 HTO.out
 have HER:Hid (ErrVar w1):=HTB.out.prog.err;clear HTO HA HD HCC HB HT0 HTL hH
 cases n with
 |zero=>
  refine RegD.L_ 11 rfl (by kernel_rfl) (by kernel_rfl) ?_; intro K hK; go_simp
  go_at_call 295
  refine (mustS_ok X _).mono ?_;rintro e2 w2 ⟨rfl,rfl⟩;go_wp2_with fail
  refine hK.out _ _ ?_;clear hK K;refine RegD.L_ 12 rfl (by kernel_rfl) (by kernel_rfl) ?_; intro K hK; go_simp
  refine hK.out _ _ ?_;clear hK K;refine RegD.D_ (by kernel_rfl) ?_ _
  go_wp2_with fail
  go_ret;exact ⟨rfl,v1,HTB.out⟩
 |succ n=>
  refine RegD.L_ 11 rfl (by kernel_rfl) (by kernel_rfl) ?_; intro K hK; go_simp
  go_at_call 295
  refine (mustS_no X n _ HER.out).mono ?_;rintro e2 w2 ⟨rfl,hb2⟩;have HTE:Hid _:=HTB.out.post hb2;clear hb2;unfold thrownE;go_wp2_with fail
  exact ⟨rfl,rfl,v1,HTE.out⟩
theorem dSweep_is (N:Nat) (w:World) (gk gd gs gv gm:Nat) (bt bn:Option Addr) (nt ct nn cn:Nat) (r:Rul) (p q:Pub) (v:Value) (k:Int) (n:Nat) (h:DkI N w gk gd gs gv gm r p v) (hk:-9223372036854775808≤k∧k≤9223372036854775807) (HC:∀ W,SvIs N W gv gs gd r p v→Calls Tryz.prog 39 #[.pointer (some ⟨gv,0,none⟩)] W fun e w'=>e=.returned (.tuple #[.int .i64 k,errQ n])∧∃ v',SPto N gs gd v W w' q v') :
 Calls Tryz.prog 237 #[.pointer (some ⟨gk,0,none⟩),.agg #[.slice bt nt ct,.slice bn nn cn]] w fun e w'=>e=tellE ⟨(Lib.itoa k).toArray⟩ n∧∃ v',SPto N gs gd v w w' q v':=by
 have HB:Hid (Below w.heap.size w (w.alloc (.cells #[.slice bt nt ct,.slice bn nn cn] 256))):=(Below.refl _ _).alloc (Nat.le_refl _) _;have HD:Hid _:=h.on HB.out;have HCC:Hid _:=HC;have a2:=HD.out.box.c2;have HKK:Hid _:=hk;clear h HC hk;go_enter Tryz.func237,Tryz.ntmps237
 go_wp2_with fail
 go_at_call 39
 refine (HCC.out _ HD.out.sv).mono ?_;rintro e1 w1 ⟨rfl,v1,hto⟩;have HTO:Hid _:=SPto.pre HB.out hto;have HER:Hid (ErrVar w1):=HTO.out.prog.err;have HLB:Hid (LibsR w1):=(HD.out.sv.to hto).libs;clear hto a2
 cases n with
 |zero=>
  rw [show errQ 0=.nilIface from rfl]
  go_wp2_with fail
  go_at_call 298
  refine (mustI_ok k _).mono ?_;rintro e2 w2 ⟨rfl,rfl⟩;go_wp2_with fail
  go_at_call 57
  refine (itoaR_is k _ HKK.out.1 HKK.out.2 HLB.out).mono ?_;rintro e4 w4 ⟨rfl,hb4⟩;have HB4:Hid _:=hb4;clear hb4;go_wp2_with fail
  go_ret;exact ⟨rfl,v1,HTO.out.post HB4.out⟩
 |succ n=>
  go_wp2_with fail
  go_at_call 298
  refine (mustI_no k n _ HER.out).mono ?_;rintro e2 w2 ⟨rfl,hb2⟩;have HTE:Hid _:=HTO.out.post hb2;clear hb2;unfold thrownE;go_wp2_with fail
  exact ⟨rfl,rfl,v1,HTE.out⟩
theorem dSave_is (N:Nat) (w:World) (gk gd gs gv gm:Nat) (bt bn:Option Addr) (nt ct nn cn:Nat) (r:Rul) (p q:Pub) (v:Value) (n:Nat) (h:DkI N w gk gd gs gv gm r p v) (HC:∀ W,SvIs N W gv gs gd r p v→Calls Tryz.prog 16 #[.pointer (some ⟨gs,0,none⟩)] W fun e w'=>e=.returned (errQ n)∧∃ v',SPto N gs gd v W w' q v') :
 Calls Tryz.prog 234 #[.pointer (some ⟨gk,0,none⟩),.agg #[.slice bt nt ct,.slice bn nn cn]] w fun e w'=>e=tellE ⟨#[115,97,118,101]⟩ n∧∃ v',SPto N gs gd v w w' q v':=by
 have HB:Hid (Below w.heap.size w (w.alloc (.cells #[.slice bt nt ct,.slice bn nn cn] 256))):=(Below.refl _ _).alloc (Nat.le_refl _) _;have HD:Hid _:=h.on HB.out;have HCC:Hid _:=HC;have a2:=HD.out.box.c1;clear h HC;go_enter Tryz.func234,Tryz.ntmps234
 go_wp2_with fail
 go_at_call 16
 refine (HCC.out _ HD.out.sv).mono ?_;rintro e1 w1 ⟨rfl,v1,hto⟩;have HTO:Hid _:=SPto.pre HB.out hto;have HER:Hid (ErrVar w1):=HTO.out.prog.err;clear hto a2
 cases n with
 |zero=>
  rw [show errQ 0=.nilIface from rfl]
  go_wp2_with fail
  go_at_call 294
  refine (check_ok _).mono ?_;rintro e2 w2 ⟨rfl,rfl⟩;go_wp2_with fail
  go_ret;exact ⟨rfl,v1,HTO.out⟩
 |succ n=>
  go_wp2_with fail
  go_at_call 294
  refine (check_no n _ HER.out).mono ?_;rintro e2 w2 ⟨rfl,hb2⟩;have HTE:Hid _:=HTO.out.post hb2;clear hb2;unfold thrownE;go_wp2_with fail
  exact ⟨rfl,rfl,v1,HTE.out⟩
theorem dWrites_is (N:Nat) (w:World) (gk gd gs gv gm:Nat) (bt bn:Option Addr) (nt ct nn cn:Nat) (r:Rul) (p:Pub) (v:Value) (h:DkI N w gk gd gs gv gm r p v) (hk:(p.n:Int)≤9223372036854775807) :
 Calls Tryz.prog 238 #[.pointer (some ⟨gk,0,none⟩),.agg #[.slice bt nt ct,.slice bn nn cn]] w fun e w'=>e=.returned (.string ⟨(Lib.itoa p.n).toArray⟩)∧Below w.heap.size w w':=by
 have HB:Hid (Below w.heap.size w (w.alloc (.cells #[.slice bt nt ct,.slice bn nn cn] 256))):=(Below.refl _ _).alloc (Nat.le_refl _) _;have HD:Hid _:=h.on HB.out;have a2:=HD.out.box.c0;have HKK:Hid _:=hk;clear h hk;go_enter Tryz.func238,Tryz.ntmps238
 go_wp2_with fail
 go_at_call 299
 obtain ⟨A,F,l,hF,_⟩:=HD.out.sv.sp.disk;refine (writes_any gd F p.n p.c l _ hF).mono ?_;clear hF;rintro e1 w1 ⟨rfl,rfl⟩;go_wp2_with fail
 go_at_call 57
 refine (itoaR_is (p.n:Int) _ (by omega) HKK.out HD.out.sv.libs).mono ?_
 rintro e4 w4 ⟨rfl,hb4⟩;have HB4:Hid _:=HB.out.trans (hb4.mono HB.out.size);clear hb4;go_wp2_with fail
 go_ret;exact ⟨rfl,HB4.out⟩
theorem fmtBool0_is (b:Bool) (w:World):Calls Tryz.prog 255 #[.bool b] w fun e w'=>e=.returned (.string ⟨(boolL b).toArray⟩)∧w'=w:=by
 cases b with
 |false=>
  go_enter Tryz.func255,Tryz.ntmps255
  go_wp2_with fail
  go_ret;exact ⟨rfl,rfl⟩
 |true=>
  go_enter Tryz.func255,Tryz.ntmps255
  go_wp2_with fail
  go_ret;exact ⟨rfl,rfl⟩
theorem fmtBool_is (b:Bool) (w:World):Calls Tryz.prog 161 #[.bool b] w fun e w'=>e=.returned (.string ⟨(boolL b).toArray⟩)∧w'=w:=by
 go_enter Tryz.func161,Tryz.ntmps161
 go_wp2_with fail
 go_at_call 255
 refine (fmtBool0_is b _).mono ?_;rintro e1 w1 ⟨rfl,rfl⟩;go_wp2_with fail
 go_ret;exact ⟨rfl,rfl⟩
theorem svLog_is (N:Nat) (w:World) (gv gs gd:Nat) (r:Rul) (p:Pub) (v:Value) (h:SvIs N w gv gs gd r p v):Calls Tryz.prog 51 #[.pointer (some ⟨gs,0,none⟩)] w fun e w'=>e=.returned (.int .i64 p.lg)∧w'=w:=by
 obtain ⟨sv,hst⟩:=h.sp.store;exact log_is w gs gd p.dn sv p.lg p.st v hst
theorem svDown_is (N:Nat) (w:World) (gv gs gd:Nat) (r:Rul) (p:Pub) (v:Value) (h:SvIs N w gv gs gd r p v):Calls Tryz.prog 300 #[.pointer (some ⟨gs,0,none⟩)] w fun e w'=>e=.returned (.bool p.dn)∧w'=w:=by
 obtain ⟨sv,hst⟩:=h.sp.store;exact down_is w gs gd p.dn sv p.lg p.st v hst
theorem dLog_is (N:Nat) (w:World) (gk gd gs gv gm:Nat) (bt bn:Option Addr) (nt ct nn cn:Nat) (r:Rul) (p:Pub) (v:Value) (h:DkI N w gk gd gs gv gm r p v) (hk:okN (p.lg:Int)) :
 Calls Tryz.prog 239 #[.pointer (some ⟨gk,0,none⟩),.agg #[.slice bt nt ct,.slice bn nn cn]] w fun e w'=>e=.returned (.string ⟨(Lib.itoa p.lg ++ 32::boolL p.dn).toArray⟩)∧Below w.heap.size w w':=by
 have hb:Below w.heap.size w (w.alloc (.cells #[.slice bt nt ct,.slice bn nn cn] 256)):=(Below.refl _ _).alloc (Nat.le_refl _) _;have HB:Hid _:=hb;have HD:Hid _:=h.on hb;have HKK:Hid ((p.lg:Int)≤9223372036854775807):=(show (p.lg:Int)≤9223372036854775807 by have:=hk.2; omega)
 have HK0:Hid (-9223372036854775808≤(p.lg:Int)):=(show -9223372036854775808≤(p.lg:Int) by have:=hk.1; omega)
 have hl13:=digits13 hk;have hb5:(boolL p.dn).length≤5:=by unfold boolL; split <;> simp
 have hni:¬ (9223372036854775807<(Lib.itoa ↑p.lg).length+1+(boolL p.dn).length):=by omega
 have hnj:(Lib.itoa ↑p.lg).length≤9223372036854775806:=by omega
 have HGW:Hid (w.heap.size≤(w.alloc (.cells #[.slice bt nt ct,.slice bn nn cn] 256)).heap.size):=hb.size;clear h hb hk;go_enter Tryz.func239,Tryz.ntmps239
 go_upto_region 1 with fail
 generalize hW:(w.alloc (.cells #[.slice bt nt ct,.slice bn nn cn] 256))=W at *;clear hW;generalize hg:w.heap.size=g at *;have HG:Hid (w.heap.size=g):=hg;clear hg
 have HXX:Hid ((⟨(Lib.itoa p.lg).toArray⟩:ByteArray) ++ (⟨#[32]⟩:ByteArray) ++ (⟨(boolL p.dn).toArray⟩:ByteArray)=⟨(Lib.itoa p.lg ++ 32::boolL p.dn).toArray⟩):=by
  show _=_
  exact bytes_eq (by simp)
 refine RegD.R_ (fun V=>DkI N V gk gd gs gv gm r p v∧Below g W V) 13 (by kernel_rfl) (⟨HD.out.on (Below.refl _ _).drew,(Below.refl _ _).drew⟩) (fun hH=>?_)
 refine RegD.T_ 0 (v:=.pointer (some ⟨gk,0,none⟩)) rfl (by kernel_rfl) (fun _ _ _ h=>h) (.inl ⟨by rfl,fun W hW=>by go_simp⟩) hH ?_
 simp only [Act.put,pS1,pS2,pS3];refine RegD.T_ 1 (v:=.pointer (some ⟨gk,0,none⟩)) rfl (by kernel_rfl) (fun _ _ _ h=>h) (.inl ⟨by rfl,fun W hW=>by go_simp⟩) hH ?_
 simp only [Act.put,pS1,pS2,pS3];refine RegD.T_ 2 (v:=.pointer (some ⟨gk,1,none⟩)) rfl (by kernel_rfl) (fun _ _ _ h=>h) (.inl ⟨by rfl,fun W hW=>by go_simp⟩) hH ?_
 simp only [Act.put,pS1,pS2,pS3];refine RegD.T_ 3 (v:=.pointer (some ⟨gs,0,none⟩)) rfl (by kernel_rfl) (fun _ _ _ h=>h) (.inl ⟨by rfl,fun W hW=>by have a0:=hW.1.box.c1; go_simp⟩) hH ?_
 simp only [Act.put,pS1,pS2,pS3];refine RegD.T_ 7 (v:=.pointer (some ⟨gk,0,none⟩)) rfl (by kernel_rfl) (fun _ _ _ h=>h) (.inl ⟨by rfl,fun W hW=>by go_simp⟩) hH ?_
 simp only [Act.put,pS1,pS2,pS3];refine RegD.T_ 8 (v:=.pointer (some ⟨gk,0,none⟩)) rfl (by kernel_rfl) (fun _ _ _ h=>h) (.inl ⟨by rfl,fun W hW=>by go_simp⟩) hH ?_
 simp only [Act.put,pS1,pS2,pS3];refine RegD.T_ 9 (v:=.pointer (some ⟨gk,1,none⟩)) rfl (by kernel_rfl) (fun _ _ _ h=>h) (.inl ⟨by rfl,fun W hW=>by go_simp⟩) hH ?_
 simp only [Act.put,pS1,pS2,pS3];refine RegD.T_ 10 (v:=.pointer (some ⟨gs,0,none⟩)) rfl (by kernel_rfl) (fun _ _ _ h=>h) (.inl ⟨by rfl,fun W hW=>by have a0:=hW.1.box.c1; go_simp⟩) hH ?_
 simp only [Act.put,pS1,pS2,pS3];refine RegD.O_ 4 rfl (by kernel_rfl) ?_; intro K hK; go_simp
 go_at_call 51
 refine (svLog_is N _ gv gs gd r p v hH.1.sv).mono ?_;rintro e1 w1 ⟨rfl,rfl⟩;go_wp2_with fail
 refine hK.out _ _ (hH) ?_;clear hK hH;intro hH;clear K;refine RegD.O_ 5 rfl (by kernel_rfl) ?_; intro K hK; go_simp
 go_at_call 57
 refine (itoaR_is (p.lg:Int) _ HK0.out HKK.out hH.1.sv.libs).mono ?_;rintro e2 w2 ⟨rfl,hb2⟩;have HB2:Hid _:=hb2;clear hb2;go_wp2_with fail
 refine hK.out _ _ (⟨hH.1.on HB2.out,hH.2.trans (HB2.out.mono (by have:=HGW.out; have:=hH.2.size; omega))⟩) ?_
 clear hK hH;intro hH;clear K;refine RegD.T_ 6 (v:=.string (⟨(Lib.itoa p.lg).toArray⟩ ++ ⟨#[32]⟩)) rfl (by kernel_rfl) (fun _ _ _ h=>h) (.inl ⟨by rfl,fun W hW=>by go_simp⟩) hH ?_
 simp only [Act.put,pS1,pS2,pS3];refine RegD.O_ 11 rfl (by kernel_rfl) ?_; intro K hK; go_simp
 go_at_call 300
 refine (svDown_is N _ gv gs gd r p v hH.1.sv).mono ?_;rintro e3 w3 ⟨rfl,rfl⟩;go_wp2_with fail
 refine hK.out _ _ (hH) ?_;clear hK hH;intro hH;clear K;refine RegD.O_ 12 rfl (by kernel_rfl) ?_; intro K hK; go_simp
 go_at_call 161
 refine (fmtBool_is p.dn _).mono ?_;rintro e4 w4 ⟨rfl,rfl⟩;go_wp2_with fail
 refine hK.out _ _ (hH) ?_;clear hK hH;intro hH;clear K;refine RegD.L_ 13 rfl (by kernel_rfl) (by kernel_rfl) ?_; intro K hK; go_simp
 refine hK.out _ _ ?_;clear hK K;refine RegD.L_ 14 rfl (by kernel_rfl) (by kernel_rfl) ?_; intro K hK; go_simp
 refine hK.out _ _ ?_;clear hK K;refine RegD.D_ (by kernel_rfl) ?_ _
 go_wp2_with fail
 go_ret;have hf:=HB.out.trans (hH.2);rw [← HG.out] at hf;exact ⟨congrArg (fun x=>Ending.returned (.string x)) HXX.out,hf⟩
theorem dLeast_is (w:World) (pd:Value) (gt nt ct:Nat) (bn:Option Addr) (nn cn:Nat) (x X:ByteArray) (n:Nat) (h0:w.cell? ⟨gt,0,none⟩=some (.string x)) (hn:0<nt) (hE:ErrVar w) (HC:∀ W,Below w.heap.size w W→Calls Tryz.prog 71 #[.string x] W fun e w'=>e=.returned (.tuple #[.string X,errQ n])∧Below W.heap.size W w') :
 Calls Tryz.prog 241 #[pd,.agg #[.slice (some ⟨gt,0,none⟩) nt ct,.slice bn nn cn]] w fun e w'=>e=tellE (dkWordB X) n∧Below w.heap.size w w':=by
 have hb:Below w.heap.size w (w.alloc (.cells #[.slice (some ⟨gt,0,none⟩) nt ct,.slice bn nn cn] 256)):=(Below.refl _ _).alloc (Nat.le_refl _) _;have HB:Hid _:=hb;have HA:=AgB.made w (some ⟨gt,0,none⟩) bn nt ct nn cn 256;have a0:=HA.c0;have a1:=(hb.cell (p:=⟨gt,0,none⟩) (World.block_lt_of_cell? _ _ h0)).trans h0;have HCC:Hid _:=HC;have HE:Hid (ErrVar w):=hE;have hi0:(0:Int)<(nt:Int):=by omega
 have hnz:¬ nt=0:=by omega
 clear h0 hb HA HC hn hE;go_enter Tryz.func241,Tryz.ntmps241
 go_wp2_with fail
 go_at_call 71
 refine (HCC.out _ HB.out).mono ?_;rintro e1 w1 ⟨rfl,hb1⟩;have HB1:Hid (Below w.heap.size w w1):=HB.out.trans (hb1.mono HB.out.size);have HE1:Hid (ErrVar w1):=HE.out.on HB1.out;clear hb1 a0 a1
 cases n with
 |zero=>
  rw [show errQ 0=.nilIface from rfl]
  go_wp2_with fail
  go_at_call 295
  refine (mustS_ok X _).mono ?_;rintro e2 w2 ⟨rfl,rfl⟩;go_wp2_with fail
  go_at_call 301
  refine (dkWordOf_is X _).mono ?_;rintro e3 w3 ⟨rfl,rfl⟩;go_wp2_with fail
  go_ret;exact ⟨rfl,HB1.out⟩
 |succ n=>
  go_wp2_with fail
  go_at_call 295
  refine (mustS_no X n _ HE1.out).mono ?_;rintro e2 w2 ⟨rfl,hb2⟩;have HTE:Hid _:=HB1.out.trans (hb2.mono HB1.out.size);clear hb2;unfold thrownE;go_wp2_with fail
  exact ⟨rfl,rfl,HTE.out⟩
theorem mustF_ok (f:Fam) (w:World):Calls Tryz.prog 297 #[famV f,.nilIface] w fun e w'=>e=.returned (famV f)∧Below w.heap.size w w':=by
 obtain ⟨f1,f2,f3,f4,f5,f6,f7,f8,f9⟩:=f;unfold famV famCs;simp only;go_enter Tryz.func297,Tryz.ntmps297
 go_wp2_with fail
 go_at_call 294
 refine (check_ok _).mono ?_;rintro e1 w1 ⟨rfl,rfl⟩;go_wp2_with fail
 refine bodyPost_ret (v:=.agg #[.int .i64 f1,.string f2,.string f3,.string f4,.int .i64 f5,.int .i64 f6,.int .i64 f7,.string f8,.bool f9]) (by simp [results,Tryz.results297,go_sem]) rfl ⟨rfl,?_⟩
 exact ((Below.refl _ _).alloc (Nat.le_refl _) _).alloc (by simp) _
theorem mustF_no (f:Fam) (n:Nat) (w:World) (hE:ErrVar w):Calls Tryz.prog 297 #[famV f,errQ (n+1)] w fun e w'=>e=thrownE (n+1:Nat)∧Below w.heap.size w w':=by
 obtain ⟨f1,f2,f3,f4,f5,f6,f7,f8,f9⟩:=f;have HBE:Hid (Below w.heap.size w ((w.alloc (.cells #[.int .i64 f1,.string f2,.string f3,.string f4,.int .i64 f5,.int .i64 f6,.int .i64 f7,.string f8,.bool f9] 40)).alloc (.cells #[.int .i64 0,.string ⟨#[]⟩,.string ⟨#[]⟩,.string ⟨#[]⟩,.int .i64 0,.int .i64 0,.int .i64 0,.string ⟨#[]⟩,.bool false] 40))):=((Below.refl _ _).alloc (Nat.le_refl _) _).alloc (by simp) _
 have HE:Hid (ErrVar ((w.alloc (.cells #[.int .i64 f1,.string f2,.string f3,.string f4,.int .i64 f5,.int .i64 f6,.int .i64 f7,.string f8,.bool f9] 40)).alloc (.cells #[.int .i64 0,.string ⟨#[]⟩,.string ⟨#[]⟩,.string ⟨#[]⟩,.int .i64 0,.int .i64 0,.int .i64 0,.string ⟨#[]⟩,.bool false] 40))):=hE.on HBE.out;clear hE;unfold famV famCs;simp only;go_enter Tryz.func297,Tryz.ntmps297
 go_wp2_with fail
 go_at_call 294
 refine (check_no n _ HE.out).mono ?_;rintro e1 w1 ⟨rfl,hb1⟩;have HB:Hid _:=HBE.out.trans (hb1.mono HBE.out.size);clear hb1;unfold thrownE;go_wp2_with fail
 exact ⟨rfl,rfl,HB.out⟩
end Go.Proofs.YtlailakofhenkabGreatDoor
