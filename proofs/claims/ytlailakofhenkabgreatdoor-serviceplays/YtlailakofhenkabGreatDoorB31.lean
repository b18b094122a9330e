import Derived.Test.YtlailakofhenkabGreatDoorB30
set_option maxRecDepth 100000
set_option maxHeartbeats 8000000
namespace Go.Proofs.YtlailakofhenkabGreatDoor
open Go Go.RowKit Tok Sc Ev
structure RTo (N:Nat) (gr:Nat) (v:Value) (w w':World) (q:Pub) (v':Value):Prop where
 doc:RefAt w' gr q v'
 ok:PubOk (N+22) q
 keep:Keep [gr] w w'
 new:v'=v∨Fams w.heap.size w' v' q.st.fams
structure RvIs (N:Nat) (w:World) (gx gr:Nat) (r:Rul) (p:Pub) (v:Value):Prop where
 doc:RefAt w gr p v
 ok:PubOk N p
 box:SvAt w gx gr r
 libs:LibsR w
 rul:RulOk r
 ord:gr<gx
 out:NotIn v gx
 old:OldsR gr
theorem RvIs.on {N:Nat} {w w':World} {gx gr:Nat} {r:Rul} {p:Pub} {v:Value} (h:RvIs N w gx gr r p v) (hb:Below w.heap.size w w'):RvIs N w' gx gr r p v:=
 ⟨h.doc.on hb,h.ok,h.box.on hb,h.libs.on hb,h.rul,h.ord,h.out,h.old⟩
theorem RvIs.mono {N M:Nat} {w:World} {gx gr:Nat} {r:Rul} {p:Pub} {v:Value} (h:RvIs N w gx gr r p v) (hm:N≤M):RvIs M w gx gr r p v:=
 ⟨h.doc,ok_mono h.ok hm,h.box,h.libs,h.rul,h.ord,h.out,h.old⟩
theorem RTo.notIn {N:Nat} {gr b:Nat} {v v':Value} {q:Pub} {w w':World} (h:RTo N gr v w w' q v') (hv:NotIn v b) (hb:b<w.heap.size):NotIn v' b:=by
 rcases h.new with h1 | h1
 ·rw [h1]; exact hv
 ·exact NotIn.above h1 hb
theorem RTo.pre {N:Nat} {gr:Nat} {v v':Value} {q:Pub} {w w1 w':World} (hb:Below w.heap.size w w1) (h:RTo N gr v w1 w' q v'):RTo N gr v w w' q v':=
 ⟨h.doc,h.ok,(Keep.of _ hb).trans h.keep,h.new.imp id (fun k=>k.mono hb.size)⟩
theorem RTo.post {N:Nat} {gr:Nat} {v v':Value} {q:Pub} {w w1 w':World} (h:RTo N gr v w w1 q v') (hb:Below w1.heap.size w1 w'):RTo N gr v w w' q v':=by
 refine ⟨h.doc.on hb,h.ok,h.keep.then hb,?_⟩;rcases h.new with h1 | h1
 ·exact .inl h1
 ·exact .inr (h1.below hb (Nat.le_refl _))
theorem RTo.same {N:Nat} {gr:Nat} {p:Pub} {v:Value} {w w':World} (h:RefAt w gr p v) (ho:PubOk N p) (hb:Below w.heap.size w w'):RTo N gr v w w' p v:=
 ⟨h.on hb,ok_mono ho (by omega),Keep.of _ hb,.inl rfl⟩
theorem RvIs.to {N:Nat} {w w':World} {gx gr:Nat} {r:Rul} {p q:Pub} {v v':Value} (h:RvIs N w gx gr r p v) (ht:RTo N gr v w w' q v'):RvIs (N+22) w' gx gr r q v':=by
 have h3:=h.ord;have h4:=h.doc.lt;exact ⟨ht.doc,ht.ok,h.box.keep ht.keep (by simp; omega),h.libs.belowO (ht.keep.below (B:=gr) (by omega) (fun x hx=>by simp at hx; omega)) h.old,h.rul,h.ord,ht.notIn h.out h.box.lt,h.old⟩
theorem refAddT (N:Nat) (w:World) (gr:Nat) (p:Pub) (v:Value) (e:E) (m:Bool) (hm:m=true↔Ev.may e) (hs:Small 5000 e.fam) (h:RefAt w gr p v) (ho:PubOk N p) (hN:N<99000) :
 Calls Tryz.prog 86 #[.pointer (some ⟨gr,0,none⟩),evV e] w fun x w'=>x=.returned (.int .i64 ((addP p e m).2:Nat))∧∃ v',RTo N gr v w w' (addP p e m).1 v':=by
 have hok:=ok_add hm ho;have hfew:=ho.few
 cases hdn:p.dn with
 |true=>
  have he:addP p e m=(p,6):=by unfold addP; rw [if_pos hdn]
  rw [he] at hok ⊢;refine (refAdd_down w gr p v e hdn h).mono ?_;rintro x w' ⟨rfl,q1,q2⟩;exact ⟨rfl,v,q1,hok,q2,.inl rfl⟩
 |false=>
  obtain ⟨st,lg,n,c,l,dn⟩:=p;obtain rfl:dn=false:=hdn;refine (refAdd_up w gr st lg n c l v e m hm hs h (by have:n≤N:=hfew; omega) ho.good ho.low ho.left).mono ?_
  rintro x w' ⟨rfl,v',q1,q2,q3⟩;exact ⟨rfl,v',q1,hok,q2,q3⟩
theorem refAddM (N:Nat) (w:World) (gr:Nat) (p:Pub) (v:Value) (e:E) (hm:Ev.may e) (h:RefAt w gr p v) (ho:PubOk N p) (hN:N<99000) :
 Calls Tryz.prog 86 #[.pointer (some ⟨gr,0,none⟩),evV e] w fun x w'=>x=.returned (.int .i64 ((addP p e true).2:Nat))∧∃ v',RTo N gr v w w' (addP p e true).1 v':=by
 refine refAddT N w gr p v e true ⟨fun _=>hm,fun _=>rfl⟩ ?_ h ho hN;rcases hm with ⟨-,h1,-⟩ | ⟨-,h1,-⟩ | ⟨-,h1,-⟩
 ·exact small_may h1
 ·rw [h1]; unfold Small zeroF; decide
 ·rw [h1]; unfold Small zeroF; decide
theorem refAdd_is (a b:Int) (ha:okN a) (hb:okN b) (w:World):Calls Tryz.prog 80 #[.int .i64 a,.int .i64 b] w fun e w'=>e=.returned (.int .i64 (laterI a b))∧w'=w:=by
 obtain ⟨a1,a2⟩:=ha;obtain ⟨b1,b2⟩:=hb;have hw:IntKind.i64.wrap (a+b)=a+b:=by rw [IntKind.wrap_i64]; omega
 by_cases h:1099511627776<a+b
 ·have HE:Hid (laterI a b=1099511627776):=if_pos h
  go_enter Tryz.func80,Tryz.ntmps80
  go_wp2_with fail
  go_ret;exact ⟨by rw [HE.out]; rfl,rfl⟩
 ·have HE:Hid (laterI a b=a+b):=if_neg h
  go_enter Tryz.func80,Tryz.ntmps80
  go_wp2_with fail
  go_ret;exact ⟨by rw [HE.out]; rfl,rfl⟩
theorem refPut_is (N:Nat) (w:World) (gx gr:Nat) (r:Rul) (p:Pub) (v:Value) (f:Fam) (h:RvIs N w gx gr r p v) (hf:Ev.may (putE f)) (hN:N<99000) :
 Calls Tryz.prog 69 #[.pointer (some ⟨gx,0,none⟩),famV f] w fun e w'=>e=.returned (.int .i64 ((addP p (putE f) true).2:Nat))∧∃ v',RTo N gr v w w' (addP p (putE f) true).1 v':=by
 obtain ⟨f1,f2,f3,f4,f5,f6,f7,f8,f9⟩:=f;have HB0:Hid (Below w.heap.size w (w.alloc (.cells #[.int .i64 f1,.string f2,.string f3,.string f4,.int .i64 f5,.int .i64 f6,.int .i64 f7,.string f8,.bool f9] 40))):=(Below.refl _ _).alloc (Nat.le_refl _) _;have HF0:Hid (FB (w.alloc (.cells #[.int .i64 f1,.string f2,.string f3,.string f4,.int .i64 f5,.int .i64 f6,.int .i64 f7,.string f8,.bool f9] 40)) w.heap.size ⟨f1,f2,f3,f4,f5,f6,f7,f8,f9⟩):=FB.made w ⟨f1,f2,f3,f4,f5,f6,f7,f8,f9⟩ _;have HA0:Hid (SvAt (w.alloc (.cells #[.int .i64 f1,.string f2,.string f3,.string f4,.int .i64 f5,.int .i64 f6,.int .i64 f7,.string f8,.bool f9] 40)) gx gr r):=h.box.on HB0.out;have HNE:Hid (w.heap.size≠gr):=by have h1:=h.doc.lt; show _≠_; omega
 have HNV:Hid (gx≠gr):=by have h1:=h.ord; show _≠_; omega
 have hadd:=refAddM N (w.alloc (.cells #[.int .i64 f1,.string f2,.string f3,.string f4,.int .i64 f5,.int .i64 f6,.int .i64 f7,.string f8,.bool f9] 40)).drew gr p v (putE ⟨f1,f2,f3,f4,f5,f6,f7,f8,f9⟩) hf ((h.doc.on HB0.out).on (Below.refl _ _).drew) h.ok hN
 have HADD:Hid (∀ _:Unit,Calls Tryz.prog 86 #[.pointer (some ⟨gr,0,none⟩),.agg #[.int .i64 1,.int .i64 f1,.string f2,.string f3,.string f4,.int .i64 f5,.int .i64 f6,.int .i64 f7,.string f8,.bool f9,.int .i64 0,.int .i64 0]] (w.alloc (.cells #[.int .i64 f1,.string f2,.string f3,.string f4,.int .i64 f5,.int .i64 f6,.int .i64 f7,.string f8,.bool f9] 40)).drew fun e w'=>e=.returned (.int .i64 ((addP p (putE ⟨f1,f2,f3,f4,f5,f6,f7,f8,f9⟩) true).2:Nat))∧∃ v',RTo N gr v (w.alloc (.cells #[.int .i64 f1,.string f2,.string f3,.string f4,.int .i64 f5,.int .i64 f6,.int .i64 f7,.string f8,.bool f9] 40)).drew w' (addP p (putE ⟨f1,f2,f3,f4,f5,f6,f7,f8,f9⟩) true).1 v'):=fun _=>hadd;unfold famV famCs;simp only;clear h hf hadd;generalize addP p (putE ⟨f1,f2,f3,f4,f5,f6,f7,f8,f9⟩) true=Q at *;obtain ⟨q,n⟩:=Q;simp only at HADD ⊢
 go_enter Tryz.func69,Tryz.ntmps69
 go_upto_region 1 with fail
 refine RegD.R_ (fun W=>FB W w.heap.size ⟨f1,f2,f3,f4,f5,f6,f7,f8,f9⟩∧SvAt W gx gr r) 7 (by kernel_rfl) (⟨HF0.out.on (Below.refl _ _).drew,HA0.out.on (Below.refl _ _).drew⟩) (fun hH=>?_)
 refine RegD.T_ 0 (v:=.pointer (some ⟨gx,0,none⟩)) rfl (by kernel_rfl) (fun _ _ _ h=>h) (.inl ⟨by rfl,fun W hW=>by go_simp⟩) hH ?_
 simp only [Act.put,pS1,pS2,pS3];refine RegD.T_ 1 (v:=.pointer (some ⟨gx,0,none⟩)) rfl (by kernel_rfl) (fun _ _ _ h=>h) (.inl ⟨by rfl,fun W hW=>by go_simp⟩) hH ?_
 simp only [Act.put,pS1,pS2,pS3];refine RegD.T_ 2 (v:=.pointer (some ⟨gx,0,none⟩)) rfl (by kernel_rfl) (fun _ _ _ h=>h) (.inl ⟨by rfl,fun W hW=>by go_simp⟩) hH ?_
 simp only [Act.put,pS1,pS2,pS3];refine RegD.T_ 3 (v:=.pointer (some ⟨gr,0,none⟩)) rfl (by kernel_rfl) (fun _ _ _ h=>h) (.inl ⟨by rfl,fun W hW=>by have a0:=hW.2.c0; go_simp⟩) hH ?_
 simp only [Act.put,pS1,pS2,pS3];refine RegD.T_ 4 (v:=.agg #[.int .i64 f1,.string f2,.string f3,.string f4,.int .i64 f5,.int .i64 f6,.int .i64 f7,.string f8,.bool f9]) rfl (by kernel_rfl) (fun _ _ _ h=>h) (.inl ⟨by rfl,fun W hW=>by have a0:=hW.1.c0; have a1:=hW.1.c1; have a2:=hW.1.c2; have a3:=hW.1.c3; have a4:=hW.1.c4; have a5:=hW.1.c5; have a6:=hW.1.c6; have a7:=hW.1.c7; have a8:=hW.1.c8; go_simp⟩) hH ?_
 simp only [Act.put,pS1,pS2,pS3];refine RegD.T_ 5 (v:=.agg #[.int .i64 1,.int .i64 f1,.string f2,.string f3,.string f4,.int .i64 f5,.int .i64 f6,.int .i64 f7,.string f8,.bool f9,.int .i64 0,.int .i64 0]) rfl (by kernel_rfl) (fun _ _ _ h=>h) (.inl ⟨by rfl,fun W hW=>by go_simp⟩) hH ?_
 simp only [Act.put,pS1,pS2,pS3];refine RegD.O_ 6 rfl (by kernel_rfl) ?_; intro K hK; go_simp
 go_at_call 86
 refine (HADD.out ()).mono ?_;rintro e1 w1 ⟨rfl,v1,hto⟩;have HTO:Hid _:=RTo.pre HB0.out.drew hto;go_wp2_with fail
 refine hK.out _ _ (⟨hH.1.keep hto.keep (by have:=HNE.out; simp; omega),hH.2.keep hto.keep (by have:=HNV.out; simp; omega)⟩) ?_
 clear hK hH;intro hH;clear K;clear hto hH;refine RegD.L_ 7 rfl (by kernel_rfl) (by kernel_rfl) ?_; intro K hK; go_simp
 refine hK.out _ _ ?_;clear hK K;refine RegD.D_ (by kernel_rfl) ?_ _
 go_wp2_with fail
 go_ret;exact ⟨rfl,_,HTO.out⟩
theorem refRefresh_is (N:Nat) (w:World) (gx gr:Nat) (r:Rul) (p:Pub) (v:Value) (f:Fam) (h:RvIs N w gx gr r p v) (hf:mayF f) :
 Calls Tryz.prog 70 #[.pointer (some ⟨gx,0,none⟩),famV f] w fun e w'=>e=.returned (.string (txtB r ⟨1,f.id,f.gen,0⟩))∧Below w.heap.size w w':=by
 have hmt:Tok.may ⟨1,f.id,f.gen,0⟩:=⟨.inl ⟨rfl,rfl⟩,hf.1.1,hf.1.2.1⟩;obtain ⟨f1,f2,f3,f4,f5,f6,f7,f8,f9⟩:=f;have HB0:Hid (Below w.heap.size w (w.alloc (.cells #[.int .i64 f1,.string f2,.string f3,.string f4,.int .i64 f5,.int .i64 f6,.int .i64 f7,.string f8,.bool f9] 40))):=(Below.refl _ _).alloc (Nat.le_refl _) _;have HF0:Hid (FB (w.alloc (.cells #[.int .i64 f1,.string f2,.string f3,.string f4,.int .i64 f5,.int .i64 f6,.int .i64 f7,.string f8,.bool f9] 40)) w.heap.size ⟨f1,f2,f3,f4,f5,f6,f7,f8,f9⟩):=FB.made w ⟨f1,f2,f3,f4,f5,f6,f7,f8,f9⟩ _;have HA0:Hid (SvAt (w.alloc (.cells #[.int .i64 f1,.string f2,.string f3,.string f4,.int .i64 f5,.int .i64 f6,.int .i64 f7,.string f8,.bool f9] 40)) gx gr r):=h.box.on HB0.out
 have HWT:Hid (∀ (W:World),Below (w.alloc (.cells #[.int .i64 f1,.string f2,.string f3,.string f4,.int .i64 f5,.int .i64 f6,.int .i64 f7,.string f8,.bool f9] 40)).drew.heap.size (w.alloc (.cells #[.int .i64 f1,.string f2,.string f3,.string f4,.int .i64 f5,.int .i64 f6,.int .i64 f7,.string f8,.bool f9] 40)).drew W→Calls Tryz.prog 79 #[.int .i64 r.key,.agg #[.int .i64 1,.int .i64 f1,.int .i64 f5,.int .i64 0]] W fun e w'=>e=.returned (.tuple #[.string (txtB r ⟨1,f1,f5,0⟩),.int .i64 0])∧Below W.heap.size W w'):=fun W hW=>writeR_yes r.key ⟨1,f1,f5,0⟩ W hmt (((h.libs.on HB0.out).on (Below.refl _ _).drew).on hW).base;unfold famV famCs;simp only;clear h hf hmt;go_enter Tryz.func70,Tryz.ntmps70
 go_upto_region 1 with fail
 refine RegD.R_ (fun W=>FB W w.heap.size ⟨f1,f2,f3,f4,f5,f6,f7,f8,f9⟩∧SvAt W gx gr r) 15 (by kernel_rfl) (⟨HF0.out.on (Below.refl _ _).drew,HA0.out.on (Below.refl _ _).drew⟩) (fun hH=>?_)
 refine RegD.T_ 0 (v:=.pointer (some ⟨gx,0,none⟩)) rfl (by kernel_rfl) (fun _ _ _ h=>h) (.inl ⟨by rfl,fun W hW=>by go_simp⟩) hH ?_
 simp only [Act.put,pS1,pS2,pS3];refine RegD.T_ 1 (v:=.pointer (some ⟨gx,0,none⟩)) rfl (by kernel_rfl) (fun _ _ _ h=>h) (.inl ⟨by rfl,fun W hW=>by go_simp⟩) hH ?_
 simp only [Act.put,pS1,pS2,pS3];refine RegD.T_ 2 (v:=.pointer (some ⟨gx,1,none⟩)) rfl (by kernel_rfl) (fun _ _ _ h=>h) (.inl ⟨by rfl,fun W hW=>by go_simp⟩) hH ?_
 simp only [Act.put,pS1,pS2,pS3];refine RegD.T_ 3 (v:=.pointer (some ⟨gx,1,none⟩)) rfl (by kernel_rfl) (fun _ _ _ h=>h) (.inl ⟨by rfl,fun W hW=>by go_simp⟩) hH ?_
 simp only [Act.put,pS1,pS2,pS3];refine RegD.T_ 4 (v:=.int .i64 r.key) rfl (by kernel_rfl) (fun _ _ _ h=>h) (.inl ⟨by rfl,fun W hW=>by have a0:=hW.2.c1; go_simp⟩) hH ?_
 simp only [Act.put,pS1,pS2,pS3];refine RegD.T_ 5 (v:=.pointer (some ⟨w.heap.size,0,none⟩)) rfl (by kernel_rfl) (fun _ _ _ h=>h) (.inl ⟨by rfl,fun W hW=>by go_simp⟩) hH ?_
 simp only [Act.put,pS1,pS2,pS3];refine RegD.T_ 6 (v:=.int .i64 f1) rfl (by kernel_rfl) (fun _ _ _ h=>h) (.inl ⟨by rfl,fun W hW=>by have a0:=hW.1.c0; go_simp⟩) hH ?_
 simp only [Act.put,pS1,pS2,pS3];refine RegD.T_ 7 (v:=.pointer (some ⟨w.heap.size,4,none⟩)) rfl (by kernel_rfl) (fun _ _ _ h=>h) (.inl ⟨by rfl,fun W hW=>by go_simp⟩) hH ?_
 simp only [Act.put,pS1,pS2,pS3];refine RegD.T_ 8 (v:=.int .i64 f5) rfl (by kernel_rfl) (fun _ _ _ h=>h) (.inl ⟨by rfl,fun W hW=>by have a0:=hW.1.c4; go_simp⟩) hH ?_
 simp only [Act.put,pS1,pS2,pS3];refine RegD.T_ 9 (v:=.agg #[.int .i64 1,.int .i64 f1,.int .i64 f5,.int .i64 0]) rfl (by kernel_rfl) (fun _ _ _ h=>h) (.inl ⟨by rfl,fun W hW=>by go_simp⟩) hH ?_
 simp only [Act.put,pS1,pS2,pS3];refine RegD.O_ 10 rfl (by kernel_rfl) ?_; intro K hK; go_simp
 go_at_call 79
 refine (HWT.out _ (Below.refl _ _)).mono ?_;rintro e1 w1 ⟨rfl,hb1⟩;go_wp2_with fail
 have HBB:Hid (Below w.heap.size w w1):=HB0.out.drew.trans (hb1.mono (by simp))
 refine hK.out _ _ (⟨hH.1.on hb1,hH.2.on hb1⟩) ?_;clear hK hH;intro hH;clear K;clear hb1;refine RegD.T_ 11 (v:=.tuple #[.string (txtB r ⟨1,f1,f5,0⟩),.int .i64 0]) rfl (by kernel_rfl) (fun _ _ _ h=>h) (.inl ⟨by rfl,fun W hW=>by go_simp⟩) hH ?_
 simp only [Act.put,pS1,pS2,pS3];refine RegD.T_ 12 (v:=.string (txtB r ⟨1,f1,f5,0⟩)) rfl (by kernel_rfl) (fun _ _ _ h=>h) (.inl ⟨by rfl,fun W hW=>by go_simp⟩) hH ?_
 simp only [Act.put,pS1,pS2,pS3];refine RegD.T_ 13 (v:=.int .i64 0) rfl (by kernel_rfl) (fun _ _ _ h=>h) (.inl ⟨by rfl,fun W hW=>by go_simp⟩) hH ?_
 simp only [Act.put,pS1,pS2,pS3];refine RegD.T_ 14 (v:=.string (txtB r ⟨1,f1,f5,0⟩)) rfl (by kernel_rfl) (fun _ _ _ h=>h) (.inl ⟨by rfl,fun W hW=>by go_simp⟩) hH ?_
 simp only [Act.put,pS1,pS2,pS3];clear hH;refine RegD.L_ 15 rfl (by kernel_rfl) (by kernel_rfl) ?_; intro K hK; go_simp
 refine hK.out _ _ ?_;clear hK K;refine RegD.D_ (by kernel_rfl) ?_ _
 go_wp2_with fail
 go_ret;exact ⟨rfl,HBB.out⟩
theorem refOld_is (N:Nat) (w:World) (gx gr:Nat) (r:Rul) (p:Pub) (v:Value) (f:Fam) (h:RvIs N w gx gr r p v) (hf:mayF f) :
 Calls Tryz.prog 87 #[.pointer (some ⟨gx,0,none⟩),famV f] w fun e w'=>e=.returned (.bool (oldF r p.st.clock f))∧Below w.heap.size w w':=by
 obtain ⟨f1,f2,f3,f4,f5,f6,f7,f8,f9⟩:=f;have HB0:Hid (Below w.heap.size w (w.alloc (.cells #[.int .i64 f1,.string f2,.string f3,.string f4,.int .i64 f5,.int .i64 f6,.int .i64 f7,.string f8,.bool f9] 40))):=(Below.refl _ _).alloc (Nat.le_refl _) _;have HF0:Hid (FB (w.alloc (.cells #[.int .i64 f1,.string f2,.string f3,.string f4,.int .i64 f5,.int .i64 f6,.int .i64 f7,.string f8,.bool f9] 40)) w.heap.size ⟨f1,f2,f3,f4,f5,f6,f7,f8,f9⟩):=FB.made w ⟨f1,f2,f3,f4,f5,f6,f7,f8,f9⟩ _;have HA0:Hid (RvIs N (w.alloc (.cells #[.int .i64 f1,.string f2,.string f3,.string f4,.int .i64 f5,.int .i64 f6,.int .i64 f7,.string f8,.bool f9] 40)) gx gr r p v):=h.on HB0.out;have HU:Hid (okN f7):=hf.1.2.2.2;have HMD:Hid (okN f6):=hf.1.2.2.1;have HRU:Hid (RulOk r):=h.rul;unfold famV famCs;simp only;clear h hf
 by_cases h1:laterI f7 r.idle<p.st.clock
 ·have HE:Hid (oldF r p.st.clock ⟨f1,f2,f3,f4,f5,f6,f7,f8,f9⟩=true):=by show _=true; unfold oldF; simp [h1]
  go_enter Tryz.func87,Tryz.ntmps87
  go_upto_region 1 with fail
  have k0:=HA0.out.box.c0;have k1:=HA0.out.doc.c0;go_upto_region 2 with fail
  clear k0 k1;refine RegD.R_ (fun W=>FB W w.heap.size ⟨f1,f2,f3,f4,f5,f6,f7,f8,f9⟩∧SvAt W gx gr r) 22 (by kernel_rfl) (⟨HF0.out.on (Below.refl _ _).drew,HA0.out.box.on (Below.refl _ _).drew⟩) (fun hH=>?_)
  refine RegD.T_ 0 (v:=.int .i64 p.st.clock) rfl (by kernel_rfl) (fun _ _ _ h=>h) (.inl ⟨by rfl,fun W hW=>by go_simp⟩) hH ?_
  simp only [Act.put,pS1,pS2,pS3];refine RegD.T_ 1 (v:=.pointer (some ⟨w.heap.size,6,none⟩)) rfl (by kernel_rfl) (fun _ _ _ h=>h) (.inl ⟨by rfl,fun W hW=>by go_simp⟩) hH ?_
  simp only [Act.put,pS1,pS2,pS3];refine RegD.T_ 2 (v:=.int .i64 f7) rfl (by kernel_rfl) (fun _ _ _ h=>h) (.inl ⟨by rfl,fun W hW=>by have a0:=hW.1.c6; go_simp⟩) hH ?_
  simp only [Act.put,pS1,pS2,pS3];refine RegD.T_ 3 (v:=.pointer (some ⟨gx,0,none⟩)) rfl (by kernel_rfl) (fun _ _ _ h=>h) (.inl ⟨by rfl,fun W hW=>by go_simp⟩) hH ?_
  simp only [Act.put,pS1,pS2,pS3];refine RegD.T_ 4 (v:=.pointer (some ⟨gx,0,none⟩)) rfl (by kernel_rfl) (fun _ _ _ h=>h) (.inl ⟨by rfl,fun W hW=>by go_simp⟩) hH ?_
  simp only [Act.put,pS1,pS2,pS3];refine RegD.T_ 5 (v:=.pointer (some ⟨gx,1,none⟩)) rfl (by kernel_rfl) (fun _ _ _ h=>h) (.inl ⟨by rfl,fun W hW=>by go_simp⟩) hH ?_
  simp only [Act.put,pS1,pS2,pS3];refine RegD.T_ 6 (v:=.pointer (some ⟨gx,2,none⟩)) rfl (by kernel_rfl) (fun _ _ _ h=>h) (.inl ⟨by rfl,fun W hW=>by go_simp⟩) hH ?_
  simp only [Act.put,pS1,pS2,pS3];refine RegD.T_ 7 (v:=.int .i64 r.idle) rfl (by kernel_rfl) (fun _ _ _ h=>h) (.inl ⟨by rfl,fun W hW=>by have a0:=hW.2.c2; go_simp⟩) hH ?_
  simp only [Act.put,pS1,pS2,pS3];refine RegD.O_ 8 rfl (by kernel_rfl) ?_; intro K hK; go_simp
  go_at_call 80
  refine (refAdd_is _ _ HU.out HRU.out.idle _).mono ?_;rintro e1 w1 ⟨rfl,rfl⟩;go_wp2_with fail
  refine hK.out _ _ (hH) ?_;clear hK hH;intro hH;clear K;refine RegD.T_ 9 (v:=.bool true) rfl (by kernel_rfl) (fun _ _ _ h=>h) (.inl ⟨by rfl,fun W hW=>by go_simp⟩) hH ?_
  simp only [Act.put,pS1,pS2,pS3];refine RegD.T_ 10 (v:=.bool true) rfl (by kernel_rfl) (fun _ _ _ h=>h) (.inl ⟨by rfl,fun W hW=>by go_simp⟩) hH ?_
  simp only [Act.put,pS1,pS2,pS3];refine RegD.T_ 11 (v:=undef) rfl (by kernel_rfl) (fun _ _ _ h=>h) (.inr ⟨by rfl,rfl⟩) hH ?_
  simp only [Act.put,pS1,pS2,pS3];refine RegD.T_ 12 (v:=undef) rfl (by kernel_rfl) (fun _ _ _ h=>h) (.inr ⟨by rfl,rfl⟩) hH ?_
  simp only [Act.put,pS1,pS2,pS3];refine RegD.T_ 13 (v:=undef) rfl (by kernel_rfl) (fun _ _ _ h=>h) (.inr ⟨by rfl,rfl⟩) hH ?_
  simp only [Act.put,pS1,pS2,pS3];refine RegD.T_ 14 (v:=undef) rfl (by kernel_rfl) (fun _ _ _ h=>h) (.inr ⟨by rfl,rfl⟩) hH ?_
  simp only [Act.put,pS1,pS2,pS3];refine RegD.T_ 15 (v:=undef) rfl (by kernel_rfl) (fun _ _ _ h=>h) (.inr ⟨by rfl,rfl⟩) hH ?_
  simp only [Act.put,pS1,pS2,pS3];refine RegD.T_ 16 (v:=undef) rfl (by kernel_rfl) (fun _ _ _ h=>h) (.inr ⟨by rfl,rfl⟩) hH ?_
  simp only [Act.put,pS1,pS2,pS3];refine RegD.T_ 17 (v:=undef) rfl (by kernel_rfl) (fun _ _ _ h=>h) (.inr ⟨by rfl,rfl⟩) hH ?_
  simp only [Act.put,pS1,pS2,pS3];refine RegD.T_ 18 (v:=undef) rfl (by kernel_rfl) (fun _ _ _ h=>h) (.inr ⟨by rfl,rfl⟩) hH ?_
  simp only [Act.put,pS1,pS2,pS3];refine RegD.T_ 19 (v:=undef) rfl (by kernel_rfl) (fun _ _ _ h=>h) (.inr ⟨by rfl,rfl⟩) hH ?_
  simp only [Act.put,pS1,pS2,pS3];refine RegD.T_ 20 (v:=undef) rfl (by kernel_rfl) (fun _ _ _ h=>h) (.inr ⟨by rfl,rfl⟩) hH ?_
  simp only [Act.put,pS1,pS2,pS3];refine RegD.T_ 21 (v:=.bool true) rfl (by kernel_rfl) (fun _ _ _ h=>h) (.inl ⟨by rfl,fun W hW=>by go_simp⟩) hH ?_
  simp only [Act.put,pS1,pS2,pS3];have HBB:Hid (Below w.heap.size w (w.alloc (.cells #[.int .i64 f1,.string f2,.string f3,.string f4,.int .i64 f5,.int .i64 f6,.int .i64 f7,.string f8,.bool f9] 40)).drew):=HB0.out.drew;clear hH;refine RegD.L_ 22 rfl (by kernel_rfl) (by kernel_rfl) ?_; intro K hK; go_simp
  refine hK.out _ _ ?_;clear hK K;refine RegD.D_ (by kernel_rfl) ?_ _
  go_wp2_with fail
  go_ret;exact ⟨by rw [HE.out]; rfl,HBB.out⟩
 ·by_cases h2:laterI f6 r.life<p.st.clock
  ·have HE:Hid (oldF r p.st.clock ⟨f1,f2,f3,f4,f5,f6,f7,f8,f9⟩=true):=by show _=true; unfold oldF; simp [h2]
   go_enter Tryz.func87,Tryz.ntmps87
   go_upto_region 1 with fail
   have k0:=HA0.out.box.c0;have k1:=HA0.out.doc.c0;go_upto_region 2 with fail
   clear k0 k1;refine RegD.R_ (fun W=>FB W w.heap.size ⟨f1,f2,f3,f4,f5,f6,f7,f8,f9⟩∧SvAt W gx gr r) 22 (by kernel_rfl) (⟨HF0.out.on (Below.refl _ _).drew,HA0.out.box.on (Below.refl _ _).drew⟩) (fun hH=>?_)
   refine RegD.T_ 0 (v:=.int .i64 p.st.clock) rfl (by kernel_rfl) (fun _ _ _ h=>h) (.inl ⟨by rfl,fun W hW=>by go_simp⟩) hH ?_
   simp only [Act.put,pS1,pS2,pS3];refine RegD.T_ 1 (v:=.pointer (some ⟨w.heap.size,6,none⟩)) rfl (by kernel_rfl) (fun _ _ _ h=>h) (.inl ⟨by rfl,fun W hW=>by go_simp⟩) hH ?_
   simp only [Act.put,pS1,pS2,pS3];refine RegD.T_ 2 (v:=.int .i64 f7) rfl (by kernel_rfl) (fun _ _ _ h=>h) (.inl ⟨by rfl,fun W hW=>by have a0:=hW.1.c6; go_simp⟩) hH ?_
   simp only [Act.put,pS1,pS2,pS3];refine RegD.T_ 3 (v:=.pointer (some ⟨gx,0,none⟩)) rfl (by kernel_rfl) (fun _ _ _ h=>h) (.inl ⟨by rfl,fun W hW=>by go_simp⟩) hH ?_
   simp only [Act.put,pS1,pS2,pS3];refine RegD.T_ 4 (v:=.pointer (some ⟨gx,0,none⟩)) rfl (by kernel_rfl) (fun _ _ _ h=>h) (.inl ⟨by rfl,fun W hW=>by go_simp⟩) hH ?_
   simp only [Act.put,pS1,pS2,pS3];refine RegD.T_ 5 (v:=.pointer (some ⟨gx,1,none⟩)) rfl (by kernel_rfl) (fun _ _ _ h=>h) (.inl ⟨by rfl,fun W hW=>by go_simp⟩) hH ?_
   simp only [Act.put,pS1,pS2,pS3];refine RegD.T_ 6 (v:=.pointer (some ⟨gx,2,none⟩)) rfl (by kernel_rfl) (fun _ _ _ h=>h) (.inl ⟨by rfl,fun W hW=>by go_simp⟩) hH ?_
   simp only [Act.put,pS1,pS2,pS3];refine RegD.T_ 7 (v:=.int .i64 r.idle) rfl (by kernel_rfl) (fun _ _ _ h=>h) (.inl ⟨by rfl,fun W hW=>by have a0:=hW.2.c2; go_simp⟩) hH ?_
   simp only [Act.put,pS1,pS2,pS3];refine RegD.O_ 8 rfl (by kernel_rfl) ?_; intro K hK; go_simp
   go_at_call 80
   refine (refAdd_is _ _ HU.out HRU.out.idle _).mono ?_;rintro e1 w1 ⟨rfl,rfl⟩;go_wp2_with fail
   refine hK.out _ _ (hH) ?_;clear hK hH;intro hH;clear K;refine RegD.T_ 9 (v:=.bool false) rfl (by kernel_rfl) (fun _ _ _ h=>h) (.inl ⟨by rfl,fun W hW=>by go_simp⟩) hH ?_
   simp only [Act.put,pS1,pS2,pS3];refine RegD.T_ 10 (v:=.bool false) rfl (by kernel_rfl) (fun _ _ _ h=>h) (.inl ⟨by rfl,fun W hW=>by go_simp⟩) hH ?_
   simp only [Act.put,pS1,pS2,pS3];refine RegD.T_ 11 (v:=.int .i64 p.st.clock) rfl (by kernel_rfl) (fun _ _ _ h=>h) (.inl ⟨by rfl,fun W hW=>by go_simp⟩) hH ?_
   simp only [Act.put,pS1,pS2,pS3];refine RegD.T_ 12 (v:=.pointer (some ⟨w.heap.size,5,none⟩)) rfl (by kernel_rfl) (fun _ _ _ h=>h) (.inl ⟨by rfl,fun W hW=>by go_simp⟩) hH ?_
   simp only [Act.put,pS1,pS2,pS3];refine RegD.T_ 13 (v:=.int .i64 f6) rfl (by kernel_rfl) (fun _ _ _ h=>h) (.inl ⟨by rfl,fun W hW=>by have a0:=hW.1.c5; go_simp⟩) hH ?_
   simp only [Act.put,pS1,pS2,pS3];refine RegD.T_ 14 (v:=.pointer (some ⟨gx,0,none⟩)) rfl (by kernel_rfl) (fun _ _ _ h=>h) (.inl ⟨by rfl,fun W hW=>by go_simp⟩) hH ?_
   simp only [Act.put,pS1,pS2,pS3];refine RegD.T_ 15 (v:=.pointer (some ⟨gx,0,none⟩)) rfl (by kernel_rfl) (fun _ _ _ h=>h) (.inl ⟨by rfl,fun W hW=>by go_simp⟩) hH ?_
   simp only [Act.put,pS1,pS2,pS3];refine RegD.T_ 16 (v:=.pointer (some ⟨gx,1,none⟩)) rfl (by kernel_rfl) (fun _ _ _ h=>h) (.inl ⟨by rfl,fun W hW=>by go_simp⟩) hH ?_
   simp only [Act.put,pS1,pS2,pS3];refine RegD.T_ 17 (v:=.pointer (some ⟨gx,3,none⟩)) rfl (by kernel_rfl) (fun _ _ _ h=>h) (.inl ⟨by rfl,fun W hW=>by go_simp⟩) hH ?_
   simp only [Act.put,pS1,pS2,pS3];refine RegD.T_ 18 (v:=.int .i64 r.life) rfl (by kernel_rfl) (fun _ _ _ h=>h) (.inl ⟨by rfl,fun W hW=>by have a0:=hW.2.c3; go_simp⟩) hH ?_
   simp only [Act.put,pS1,pS2,pS3];refine RegD.O_ 19 rfl (by kernel_rfl) ?_; intro K hK; go_simp
   go_at_call 80
   refine (refAdd_is _ _ HMD.out HRU.out.life _).mono ?_;rintro e2 w2 ⟨rfl,rfl⟩;go_wp2_with fail
   refine hK.out _ _ (hH) ?_;clear hK hH;intro hH;clear K;refine RegD.T_ 20 (v:=.bool true) rfl (by kernel_rfl) (fun _ _ _ h=>h) (.inl ⟨by rfl,fun W hW=>by go_simp⟩) hH ?_
   simp only [Act.put,pS1,pS2,pS3];refine RegD.T_ 21 (v:=.bool true) rfl (by kernel_rfl) (fun _ _ _ h=>h) (.inl ⟨by rfl,fun W hW=>by go_simp⟩) hH ?_
   simp only [Act.put,pS1,pS2,pS3];have HBB:Hid (Below w.heap.size w (w.alloc (.cells #[.int .i64 f1,.string f2,.string f3,.string f4,.int .i64 f5,.int .i64 f6,.int .i64 f7,.string f8,.bool f9] 40)).drew):=HB0.out.drew;clear hH;refine RegD.L_ 22 rfl (by kernel_rfl) (by kernel_rfl) ?_; intro K hK; go_simp
   refine hK.out _ _ ?_;clear hK K;refine RegD.D_ (by kernel_rfl) ?_ _
   go_wp2_with fail
   go_ret;exact ⟨by rw [HE.out]; rfl,HBB.out⟩
  ·have HE:Hid (oldF r p.st.clock ⟨f1,f2,f3,f4,f5,f6,f7,f8,f9⟩=false):=by show _=false; unfold oldF; simp [h1,h2]
   go_enter Tryz.func87,Tryz.ntmps87
   go_upto_region 1 with fail
   have k0:=HA0.out.box.c0;have k1:=HA0.out.doc.c0;go_upto_region 2 with fail
   clear k0 k1;refine RegD.R_ (fun W=>FB W w.heap.size ⟨f1,f2,f3,f4,f5,f6,f7,f8,f9⟩∧SvAt W gx gr r) 22 (by kernel_rfl) (⟨HF0.out.on (Below.refl _ _).drew,HA0.out.box.on (Below.refl _ _).drew⟩) (fun hH=>?_)
   refine RegD.T_ 0 (v:=.int .i64 p.st.clock) rfl (by kernel_rfl) (fun _ _ _ h=>h) (.inl ⟨by rfl,fun W hW=>by go_simp⟩) hH ?_
   simp only [Act.put,pS1,pS2,pS3];refine RegD.T_ 1 (v:=.pointer (some ⟨w.heap.size,6,none⟩)) rfl (by kernel_rfl) (fun _ _ _ h=>h) (.inl ⟨by rfl,fun W hW=>by go_simp⟩) hH ?_
   simp only [Act.put,pS1,pS2,pS3];refine RegD.T_ 2 (v:=.int .i64 f7) rfl (by kernel_rfl) (fun _ _ _ h=>h) (.inl ⟨by rfl,fun W hW=>by have a0:=hW.1.c6; go_simp⟩) hH ?_
   simp only [Act.put,pS1,pS2,pS3];refine RegD.T_ 3 (v:=.pointer (some ⟨gx,0,none⟩)) rfl (by kernel_rfl) (fun _ _ _ h=>h) (.inl ⟨by rfl,fun W hW=>by go_simp⟩) hH ?_
   simp only [Act.put,pS1,pS2,pS3];refine RegD.T_ 4 (v:=.pointer (some ⟨gx,0,none⟩)) rfl (by kernel_rfl) (fun _ _ _ h=>h) (.inl ⟨by rfl,fun W hW=>by go_simp⟩) hH ?_
   simp only [Act.put,pS1,pS2,pS3];refine RegD.T_ 5 (v:=.pointer (some ⟨gx,1,none⟩)) rfl (by kernel_rfl) (fun _ _ _ h=>h) (.inl ⟨by rfl,fun W hW=>by go_simp⟩) hH ?_
   simp only [Act.put,pS1,pS2,pS3];refine RegD.T_ 6 (v:=.pointer (some ⟨gx,2,none⟩)) rfl (by kernel_rfl) (fun _ _ _ h=>h) (.inl ⟨by rfl,fun W hW=>by go_simp⟩) hH ?_
   simp only [Act.put,pS1,pS2,pS3];refine RegD.T_ 7 (v:=.int .i64 r.idle) rfl (by kernel_rfl) (fun _ _ _ h=>h) (.inl ⟨by rfl,fun W hW=>by have a0:=hW.2.c2; go_simp⟩) hH ?_
   simp only [Act.put,pS1,pS2,pS3];refine RegD.O_ 8 rfl (by kernel_rfl) ?_; intro K hK; go_simp
   go_at_call 80
   refine (refAdd_is _ _ HU.out HRU.out.idle _).mono ?_;rintro e1 w1 ⟨rfl,rfl⟩;go_wp2_with fail
   refine hK.out _ _ (hH) ?_;clear hK hH;intro hH;clear K;refine RegD.T_ 9 (v:=.bool false) rfl (by kernel_rfl) (fun _ _ _ h=>h) (.inl ⟨by rfl,fun W hW=>by go_simp⟩) hH ?_
   simp only [Act.put,pS1,pS2,pS3];refine RegD.T_ 10 (v:=.bool false) rfl (by kernel_rfl) (fun _ _ _ h=>h) (.inl ⟨by rfl,fun W hW=>by go_simp⟩) hH ?_
   simp only [Act.put,pS1,pS2,pS3];refine RegD.T_ 11 (v:=.int .i64 p.st.clock) rfl (by kernel_rfl) (fun _ _ _ h=>h) (.inl ⟨by rfl,fun W hW=>by go_simp⟩) hH ?_
   simp only [Act.put,pS1,pS2,pS3];refine RegD.T_ 12 (v:=.pointer (some ⟨w.heap.size,5,none⟩)) rfl (by kernel_rfl) (fun _ _ _ h=>h) (.inl ⟨by rfl,fun W hW=>by go_simp⟩) hH ?_
   simp only [Act.put,pS1,pS2,pS3];refine RegD.T_ 13 (v:=.int .i64 f6) rfl (by kernel_rfl) (fun _ _ _ h=>h) (.inl ⟨by rfl,fun W hW=>by have a0:=hW.1.c5; go_simp⟩) hH ?_
   simp only [Act.put,pS1,pS2,pS3];refine RegD.T_ 14 (v:=.pointer (some ⟨gx,0,none⟩)) rfl (by kernel_rfl) (fun _ _ _ h=>h) (.inl ⟨by rfl,fun W hW=>by go_simp⟩) hH ?_
   simp only [Act.put,pS1,pS2,pS3];refine RegD.T_ 15 (v:=.pointer (some ⟨gx,0,none⟩)) rfl (by kernel_rfl) (fun _ _ _ h=>h) (.inl ⟨by rfl,fun W hW=>by go_simp⟩) hH ?_
   simp only [Act.put,pS1,pS2,pS3];refine RegD.T_ 16 (v:=.pointer (some ⟨gx,1,none⟩)) rfl (by kernel_rfl) (fun _ _ _ h=>h) (.inl ⟨by rfl,fun W hW=>by go_simp⟩) hH ?_
   simp only [Act.put,pS1,pS2,pS3];refine RegD.T_ 17 (v:=.pointer (some ⟨gx,3,none⟩)) rfl (by kernel_rfl) (fun _ _ _ h=>h) (.inl ⟨by rfl,fun W hW=>by go_simp⟩) hH ?_
   simp only [Act.put,pS1,pS2,pS3];refine RegD.T_ 18 (v:=.int .i64 r.life) rfl (by kernel_rfl) (fun _ _ _ h=>h) (.inl ⟨by rfl,fun W hW=>by have a0:=hW.2.c3; go_simp⟩) hH ?_
   simp only [Act.put,pS1,pS2,pS3];refine RegD.O_ 19 rfl (by kernel_rfl) ?_; intro K hK; go_simp
   go_at_call 80
   refine (refAdd_is _ _ HMD.out HRU.out.life _).mono ?_;rintro e2 w2 ⟨rfl,rfl⟩;go_wp2_with fail
   refine hK.out _ _ (hH) ?_;clear hK hH;intro hH;clear K;refine RegD.T_ 20 (v:=.bool false) rfl (by kernel_rfl) (fun _ _ _ h=>h) (.inl ⟨by rfl,fun W hW=>by go_simp⟩) hH ?_
   simp only [Act.put,pS1,pS2,pS3];refine RegD.T_ 21 (v:=.bool false) rfl (by kernel_rfl) (fun _ _ _ h=>h) (.inl ⟨by rfl,fun W hW=>by go_simp⟩) hH ?_
   simp only [Act.put,pS1,pS2,pS3];have HBB:Hid (Below w.heap.size w (w.alloc (.cells #[.int .i64 f1,.string f2,.string f3,.string f4,.int .i64 f5,.int .i64 f6,.int .i64 f7,.string f8,.bool f9] 40)).drew):=HB0.out.drew;clear hH;refine RegD.L_ 22 rfl (by kernel_rfl) (by kernel_rfl) ?_; intro K hK; go_simp
   refine hK.out _ _ ?_;clear hK K;refine RegD.D_ (by kernel_rfl) ?_ _
   go_wp2_with fail
   go_ret;exact ⟨by rw [HE.out]; rfl,HBB.out⟩
end Go.Proofs.YtlailakofhenkabGreatDoor
namespace Go.Proofs.YtlailakofhenkabGreatDoor
open Go.RowKit Tok
structure BoxAt (g:Nat) (t:T) (w:World):Prop where
 lt:g<w.heap.size
 c0:w.cell? ⟨g,0,none⟩=some (.int .i64 t.k)
 c1:w.cell? ⟨g,1,none⟩=some (.int .i64 t.f)
 c2:w.cell? ⟨g,2,none⟩=some (.int .i64 t.g)
 c3:w.cell? ⟨g,3,none⟩=some (.int .i64 t.e)
theorem BoxAt.on {g B:Nat} {t:T} {w w':World} (h:BoxAt g t w) (hb:Below B w w') (hg:g<B):BoxAt g t w':=
 ⟨Nat.lt_of_lt_of_le h.lt hb.size,(hb.cell (p:=⟨g,0,none⟩) hg).trans h.c0,(hb.cell (p:=⟨g,1,none⟩) hg).trans h.c1,(hb.cell (p:=⟨g,2,none⟩) hg).trans h.c2,(hb.cell (p:=⟨g,3,none⟩) hg).trans h.c3⟩
theorem BoxAt.made (w:World) (t:T) (ty:TypeId):BoxAt w.heap.size t (w.alloc (.cells #[.int .i64 t.k,.int .i64 t.f,.int .i64 t.g,.int .i64 t.e] ty)):=by
 constructor <;> simp
end Go.Proofs.YtlailakofhenkabGreatDoor
