import Derived.Test.YtlailakofhenkabGreatDoorB24
set_option maxRecDepth 100000
set_option maxHeartbeats 8000000
namespace Go.Proofs.YtlailakofhenkabGreatDoor
open Go Go.RowKit Tok Sc Ev
structure SvAt (w:World) (gv gs:Nat) (r:Rul):Prop where
 c0:w.cell? ⟨gv,0,none⟩=some (.pointer (some ⟨gs,0,none⟩))
 c1:w.cell? ⟨gv,1,none⟩=some (.int .i64 r.key)
 c2:w.cell? ⟨gv,2,none⟩=some (.int .i64 r.idle)
 c3:w.cell? ⟨gv,3,none⟩=some (.int .i64 r.life)
 c4:w.cell? ⟨gv,4,none⟩=some (.int .i64 r.access)
 lt:gv<w.heap.size
theorem SvAt.keep {l:List Nat} {w w':World} {gv gs:Nat} {r:Rul} (h:SvAt w gv gs r) (hk:Keep l w w') (hn:gv∉l):SvAt w' gv gs r:=by
 have hc:∀ i,w'.cell? ⟨gv,i,none⟩=w.cell? ⟨gv,i,none⟩:=fun i=>hk.cell (p:=⟨gv,i,none⟩) h.lt hn;exact ⟨(hc 0).trans h.c0,(hc 1).trans h.c1,(hc 2).trans h.c2,(hc 3).trans h.c3,(hc 4).trans h.c4,Nat.lt_of_lt_of_le h.lt hk.size⟩
theorem SvAt.on {w w':World} {gv gs:Nat} {r:Rul} (h:SvAt w gv gs r) (hb:Below w.heap.size w w'):SvAt w' gv gs r:=h.keep (Keep.of [] hb) (by simp)
def txtB (r:Rul) (t:T):ByteArray:=⟨(textOf r.key t).toArray⟩
def OldsR (n:Nat):Prop:=Bigs n∧BigsR n
theorem LibsR.belowO {B:Nat} {w w':World} (h:LibsR w) (hb:Below B w w') (ho:OldsR B):LibsR w' where
 base:=h.base.below hb ho.1
 big:=h.big.le hb.size
 len:=by
  obtain ⟨m,hm⟩:=h.len;exact ⟨m,(hb.cell (p:=⟨2,0,none⟩) ho.2.1).trans hm⟩
 syn:=by
  obtain ⟨m,hm,k⟩:=h.syn;exact ⟨m,(hb.cell (p:=⟨4,0,none⟩) ho.2.2.1).trans hm,k⟩
 rng:=by
  obtain ⟨m,hm,k⟩:=h.rng;exact ⟨m,(hb.cell (p:=⟨5,0,none⟩) ho.2.2.2).trans hm,k⟩
theorem LibsR.on {w w':World} (h:LibsR w) (hb:Below w.heap.size w w'):LibsR w':=h.below hb rfl
structure SvIs (N:Nat) (w:World) (gv gs gd:Nat) (r:Rul) (p:Pub) (v:Value):Prop where
 sp:SP N w gs gd p v
 box:SvAt w gv gs r
 libs:LibsR w
 rul:RulOk r
 ord:gs<gv
 out:NotIn v gv
 old:OldsR gd
theorem SvIs.on {N:Nat} {w w':World} {gv gs gd:Nat} {r:Rul} {p:Pub} {v:Value} (h:SvIs N w gv gs gd r p v) (hb:Below w.heap.size w w'):SvIs N w' gv gs gd r p v:=
 ⟨h.sp.on hb,h.box.on hb,h.libs.on hb,h.rul,h.ord,h.out,h.old⟩
theorem SvIs.to {N:Nat} {w w':World} {gv gs gd:Nat} {r:Rul} {p q:Pub} {v v':Value} (h:SvIs N w gv gs gd r p v) (ht:SPto N gs gd v w w' q v'):SvIs (N+22) w' gv gs gd r q v':=by
 have h1:=h.sp.ord;have h2:=h.sp.lt;have h3:=h.ord;exact ⟨ht.prog,h.box.keep ht.keep (by simp; omega),h.libs.belowO (ht.keep.below (B:=gd) (by omega) (fun x hx=>by simp at hx; omega)) h.old,h.rul,h.ord,ht.notIn h.out h.box.lt,h.old⟩
theorem SvIs.mono {N M:Nat} {w:World} {gv gs gd:Nat} {r:Rul} {p:Pub} {v:Value} (h:SvIs N w gv gs gd r p v) (hm:N≤M):SvIs M w gv gs gd r p v:=⟨h.sp.mono hm,h.box,h.libs,h.rul,h.ord,h.out,h.old⟩
theorem old_is (w:World) (gv gs:Nat) (r:Rul) (f:Fam) (now:Int) (hA:SvAt w gv gs r) (hr:RulOk r) (hf:mayF f) :
 Calls Tryz.prog 89 #[.pointer (some ⟨gv,0,none⟩),famV f,.int .i64 now] w fun e w'=>e=.returned (.bool (oldF r now f))∧Below w.heap.size w w':=by
 obtain ⟨f1,f2,f3,f4,f5,f6,f7,f8,f9⟩:=f;have HB0:Hid (Below w.heap.size w (w.alloc (.cells #[.int .i64 f1,.string f2,.string f3,.string f4,.int .i64 f5,.int .i64 f6,.int .i64 f7,.string f8,.bool f9] 40))):=(Below.refl _ _).alloc (Nat.le_refl _) _;have HF0:Hid (FB (w.alloc (.cells #[.int .i64 f1,.string f2,.string f3,.string f4,.int .i64 f5,.int .i64 f6,.int .i64 f7,.string f8,.bool f9] 40)) w.heap.size ⟨f1,f2,f3,f4,f5,f6,f7,f8,f9⟩):=FB.made w ⟨f1,f2,f3,f4,f5,f6,f7,f8,f9⟩ _;have HA0:Hid (SvAt (w.alloc (.cells #[.int .i64 f1,.string f2,.string f3,.string f4,.int .i64 f5,.int .i64 f6,.int .i64 f7,.string f8,.bool f9] 40)) gv gs r):=hA.on HB0.out;have HU:Hid (okN f7):=hf.1.2.2.2;have HMD:Hid (okN f6):=hf.1.2.2.1;have HRU:Hid (RulOk r):=hr;have hgv:=hA.lt;unfold famV famCs;simp only;clear hA hr hf
 by_cases h1:laterI f7 r.idle<now
 ·have HE:Hid (oldF r now ⟨f1,f2,f3,f4,f5,f6,f7,f8,f9⟩=true):=by show _=true; unfold oldF; simp [h1]
  go_enter Tryz.func89,Tryz.ntmps89
  go_upto_region 1 with fail
  refine RegD.R_ (fun W=>FB W w.heap.size ⟨f1,f2,f3,f4,f5,f6,f7,f8,f9⟩∧SvAt W gv gs r) 22 (by kernel_rfl) (⟨HF0.out.on (Below.refl _ _).drew,HA0.out.on (Below.refl _ _).drew⟩) (fun hH=>?_)
  refine RegD.T_ 0 (v:=.int .i64 now) rfl (by kernel_rfl) (fun _ _ _ h=>h) (.inl ⟨by rfl,fun W hW=>by go_simp⟩) hH ?_
  simp only [Act.put,pS1,pS2,pS3];refine RegD.T_ 1 (v:=.pointer (some ⟨w.heap.size,6,none⟩)) rfl (by kernel_rfl) (fun _ _ _ h=>h) (.inl ⟨by rfl,fun W hW=>by go_simp⟩) hH ?_
  simp only [Act.put,pS1,pS2,pS3];refine RegD.T_ 2 (v:=.int .i64 f7) rfl (by kernel_rfl) (fun _ _ _ h=>h) (.inl ⟨by rfl,fun W hW=>by have a0:=hW.1.c6; go_simp⟩) hH ?_
  simp only [Act.put,pS1,pS2,pS3];refine RegD.T_ 3 (v:=.pointer (some ⟨gv,0,none⟩)) rfl (by kernel_rfl) (fun _ _ _ h=>h) (.inl ⟨by rfl,fun W hW=>by go_simp⟩) hH ?_
  simp only [Act.put,pS1,pS2,pS3];refine RegD.T_ 4 (v:=.pointer (some ⟨gv,0,none⟩)) rfl (by kernel_rfl) (fun _ _ _ h=>h) (.inl ⟨by rfl,fun W hW=>by go_simp⟩) hH ?_
  simp only [Act.put,pS1,pS2,pS3];refine RegD.T_ 5 (v:=.pointer (some ⟨gv,1,none⟩)) rfl (by kernel_rfl) (fun _ _ _ h=>h) (.inl ⟨by rfl,fun W hW=>by go_simp⟩) hH ?_
  simp only [Act.put,pS1,pS2,pS3];refine RegD.T_ 6 (v:=.pointer (some ⟨gv,2,none⟩)) rfl (by kernel_rfl) (fun _ _ _ h=>h) (.inl ⟨by rfl,fun W hW=>by go_simp⟩) hH ?_
  simp only [Act.put,pS1,pS2,pS3];refine RegD.T_ 7 (v:=.int .i64 r.idle) rfl (by kernel_rfl) (fun _ _ _ h=>h) (.inl ⟨by rfl,fun W hW=>by have a0:=hW.2.c2; go_simp⟩) hH ?_
  simp only [Act.put,pS1,pS2,pS3];refine RegD.O_ 8 rfl (by kernel_rfl) ?_; intro K hK; go_simp
  go_at_call 82
  refine (later_is _ _ HU.out HRU.out.idle _).mono ?_;rintro e1 w1 ⟨rfl,rfl⟩;go_wp2_with fail
  refine hK.out _ _ (hH) ?_;clear hK hH;intro hH;clear K;refine RegD.T_ 9 (v:=.bool true) rfl (by kernel_rfl) (fun _ _ _ h=>h) (.inl ⟨by rfl,fun W hW=>by go_simp⟩) hH ?_
  simp only [Act.put,pS1,pS2,pS3];refine RegD.T_ 10 (v:=.bool true) rfl (by kernel_rfl) (fun _ _ _ h=>h) (.inl ⟨by rfl,fun W hW=>by go_simp⟩) hH ?_
  simp only [Act.put,pS1,pS2,pS3];refine RegD.T_ 11 (v:=undef) rfl (by kernel_rfl) (fun _ _ _ h=>h) (.inr ⟨by rfl,rfl⟩) hH ?_
  simp only [Act.put,pS1,pS2,pS3];refine RegD.T_ 12 (v:=undef) rfl (by kernel_rfl) (fun _ _ _ h=>h) (.inr ⟨by rfl,rfl⟩) hH ?_
  simp only [Act.put,pS1,pS2,pS3];refine RegD.T_ 13 (v:=undef) rfl (by kernel_rfl) (fun _ _ _ h=>h) (.inr ⟨by rfl,rfl⟩) hH ?_
  simp only [Act.put,pS1,pS2,pS3];refine RegD.T_ 14 (v:=undef) rfl (by kernel_rfl) (fun _ _ _ h=>h) (.inr ⟨by rfl,rfl⟩) hH ?_
  simp only [Act.put,pS1,pS2,pS3];refine RegD.T_ 15 (v:=undef) rfl (by kernel_rfl) (fun _ _ _ h=>h) (.inr ⟨by rfl,rfl⟩) hH ?_
  simp only [Act.put,pS1,pS2,pS3];refine RegD.T_ 16 (v:=undef) rfl (by kernel_rfl) (fun _ _ _ h=>h) (.inr ⟨by rfl,rfl⟩) hH ?_
  simp only [Act.put,pS1,pS2,pS3];refine RegD.T_ 17 (v:=undef) rfl (by kernel_rfl) (fun _ _ _ h=>h) (.inr ⟨by rfl,rfl⟩) hH ?_
  simp only [Act.put,pS1,pS2,pS3];refine RegD.T_ 18 (v:=undef) rfl (by kernel_rfl) (fun _ _ _ h=>h) (.inr ⟨by rfl,rfl⟩) hH ?_
  simp only [Act.put,pS1,pS2,pS3];refine RegD.T_ 19 (v:=undef) rfl (by kernel_rfl) (fun _ _ _ h=>h) (.inr ⟨by rfl,rfl⟩) hH ?_
  simp only [Act.put,pS1,pS2,pS3];refine RegD.T_ 20 (v:=undef) rfl (by kernel_rfl) (fun _ _ _ h=>h) (.inr ⟨by rfl,rfl⟩) hH ?_
  simp only [Act.put,pS1,pS2,pS3];refine RegD.T_ 21 (v:=.bool true) rfl (by kernel_rfl) (fun _ _ _ h=>h) (.inl ⟨by rfl,fun W hW=>by go_simp⟩) hH ?_
  simp only [Act.put,pS1,pS2,pS3];have HBB:Hid (Below w.heap.size w (w.alloc (.cells #[.int .i64 f1,.string f2,.string f3,.string f4,.int .i64 f5,.int .i64 f6,.int .i64 f7,.string f8,.bool f9] 40)).drew):=HB0.out.drew;clear hH;refine RegD.L_ 22 rfl (by kernel_rfl) (by kernel_rfl) ?_; intro K hK; go_simp
  refine hK.out _ _ ?_;clear hK K;refine RegD.D_ (by kernel_rfl) ?_ _
  go_wp2_with fail
  go_ret;exact ⟨by rw [HE.out]; rfl,HBB.out⟩
 ·by_cases h2:laterI f6 r.life<now
  ·have HE:Hid (oldF r now ⟨f1,f2,f3,f4,f5,f6,f7,f8,f9⟩=true):=by show _=true; unfold oldF; simp [h2]
   go_enter Tryz.func89,Tryz.ntmps89
   go_upto_region 1 with fail
   refine RegD.R_ (fun W=>FB W w.heap.size ⟨f1,f2,f3,f4,f5,f6,f7,f8,f9⟩∧SvAt W gv gs r) 22 (by kernel_rfl) (⟨HF0.out.on (Below.refl _ _).drew,HA0.out.on (Below.refl _ _).drew⟩) (fun hH=>?_)
   refine RegD.T_ 0 (v:=.int .i64 now) rfl (by kernel_rfl) (fun _ _ _ h=>h) (.inl ⟨by rfl,fun W hW=>by go_simp⟩) hH ?_
   simp only [Act.put,pS1,pS2,pS3];refine RegD.T_ 1 (v:=.pointer (some ⟨w.heap.size,6,none⟩)) rfl (by kernel_rfl) (fun _ _ _ h=>h) (.inl ⟨by rfl,fun W hW=>by go_simp⟩) hH ?_
   simp only [Act.put,pS1,pS2,pS3];refine RegD.T_ 2 (v:=.int .i64 f7) rfl (by kernel_rfl) (fun _ _ _ h=>h) (.inl ⟨by rfl,fun W hW=>by have a0:=hW.1.c6; go_simp⟩) hH ?_
   simp only [Act.put,pS1,pS2,pS3];refine RegD.T_ 3 (v:=.pointer (some ⟨gv,0,none⟩)) rfl (by kernel_rfl) (fun _ _ _ h=>h) (.inl ⟨by rfl,fun W hW=>by go_simp⟩) hH ?_
   simp only [Act.put,pS1,pS2,pS3];refine RegD.T_ 4 (v:=.pointer (some ⟨gv,0,none⟩)) rfl (by kernel_rfl) (fun _ _ _ h=>h) (.inl ⟨by rfl,fun W hW=>by go_simp⟩) hH ?_
   simp only [Act.put,pS1,pS2,pS3];refine RegD.T_ 5 (v:=.pointer (some ⟨gv,1,none⟩)) rfl (by kernel_rfl) (fun _ _ _ h=>h) (.inl ⟨by rfl,fun W hW=>by go_simp⟩) hH ?_
   simp only [Act.put,pS1,pS2,pS3];refine RegD.T_ 6 (v:=.pointer (some ⟨gv,2,none⟩)) rfl (by kernel_rfl) (fun _ _ _ h=>h) (.inl ⟨by rfl,fun W hW=>by go_simp⟩) hH ?_
   simp only [Act.put,pS1,pS2,pS3];refine RegD.T_ 7 (v:=.int .i64 r.idle) rfl (by kernel_rfl) (fun _ _ _ h=>h) (.inl ⟨by rfl,fun W hW=>by have a0:=hW.2.c2; go_simp⟩) hH ?_
   simp only [Act.put,pS1,pS2,pS3];refine RegD.O_ 8 rfl (by kernel_rfl) ?_; intro K hK; go_simp
   go_at_call 82
   refine (later_is _ _ HU.out HRU.out.idle _).mono ?_;rintro e1 w1 ⟨rfl,rfl⟩;go_wp2_with fail
   refine hK.out _ _ (hH) ?_;clear hK hH;intro hH;clear K;refine RegD.T_ 9 (v:=.bool false) rfl (by kernel_rfl) (fun _ _ _ h=>h) (.inl ⟨by rfl,fun W hW=>by go_simp⟩) hH ?_
   simp only [Act.put,pS1,pS2,pS3];refine RegD.T_ 10 (v:=.bool false) rfl (by kernel_rfl) (fun _ _ _ h=>h) (.inl ⟨by rfl,fun W hW=>by go_simp⟩) hH ?_
   simp only [Act.put,pS1,pS2,pS3];refine RegD.T_ 11 (v:=.int .i64 now) rfl (by kernel_rfl) (fun _ _ _ h=>h) (.inl ⟨by rfl,fun W hW=>by go_simp⟩) hH ?_
   simp only [Act.put,pS1,pS2,pS3];refine RegD.T_ 12 (v:=.pointer (some ⟨w.heap.size,5,none⟩)) rfl (by kernel_rfl) (fun _ _ _ h=>h) (.inl ⟨by rfl,fun W hW=>by go_simp⟩) hH ?_
   simp only [Act.put,pS1,pS2,pS3];refine RegD.T_ 13 (v:=.int .i64 f6) rfl (by kernel_rfl) (fun _ _ _ h=>h) (.inl ⟨by rfl,fun W hW=>by have a0:=hW.1.c5; go_simp⟩) hH ?_
   simp only [Act.put,pS1,pS2,pS3];refine RegD.T_ 14 (v:=.pointer (some ⟨gv,0,none⟩)) rfl (by kernel_rfl) (fun _ _ _ h=>h) (.inl ⟨by rfl,fun W hW=>by go_simp⟩) hH ?_
   simp only [Act.put,pS1,pS2,pS3];refine RegD.T_ 15 (v:=.pointer (some ⟨gv,0,none⟩)) rfl (by kernel_rfl) (fun _ _ _ h=>h) (.inl ⟨by rfl,fun W hW=>by go_simp⟩) hH ?_
   simp only [Act.put,pS1,pS2,pS3];refine RegD.T_ 16 (v:=.pointer (some ⟨gv,1,none⟩)) rfl (by kernel_rfl) (fun _ _ _ h=>h) (.inl ⟨by rfl,fun W hW=>by go_simp⟩) hH ?_
   simp only [Act.put,pS1,pS2,pS3];refine RegD.T_ 17 (v:=.pointer (some ⟨gv,3,none⟩)) rfl (by kernel_rfl) (fun _ _ _ h=>h) (.inl ⟨by rfl,fun W hW=>by go_simp⟩) hH ?_
   simp only [Act.put,pS1,pS2,pS3];refine RegD.T_ 18 (v:=.int .i64 r.life) rfl (by kernel_rfl) (fun _ _ _ h=>h) (.inl ⟨by rfl,fun W hW=>by have a0:=hW.2.c3; go_simp⟩) hH ?_
   simp only [Act.put,pS1,pS2,pS3];refine RegD.O_ 19 rfl (by kernel_rfl) ?_; intro K hK; go_simp
   go_at_call 82
   refine (later_is _ _ HMD.out HRU.out.life _).mono ?_;rintro e2 w2 ⟨rfl,rfl⟩;go_wp2_with fail
   refine hK.out _ _ (hH) ?_;clear hK hH;intro hH;clear K;refine RegD.T_ 20 (v:=.bool true) rfl (by kernel_rfl) (fun _ _ _ h=>h) (.inl ⟨by rfl,fun W hW=>by go_simp⟩) hH ?_
   simp only [Act.put,pS1,pS2,pS3];refine RegD.T_ 21 (v:=.bool true) rfl (by kernel_rfl) (fun _ _ _ h=>h) (.inl ⟨by rfl,fun W hW=>by go_simp⟩) hH ?_
   simp only [Act.put,pS1,pS2,pS3];have HBB:Hid (Below w.heap.size w (w.alloc (.cells #[.int .i64 f1,.string f2,.string f3,.string f4,.int .i64 f5,.int .i64 f6,.int .i64 f7,.string f8,.bool f9] 40)).drew):=HB0.out.drew;clear hH;refine RegD.L_ 22 rfl (by kernel_rfl) (by kernel_rfl) ?_; intro K hK; go_simp
   refine hK.out _ _ ?_;clear hK K;refine RegD.D_ (by kernel_rfl) ?_ _
   go_wp2_with fail
   go_ret;exact ⟨by rw [HE.out]; rfl,HBB.out⟩
  ·have HE:Hid (oldF r now ⟨f1,f2,f3,f4,f5,f6,f7,f8,f9⟩=false):=by show _=false; unfold oldF; simp [h1,h2]
   go_enter Tryz.func89,Tryz.ntmps89
   go_upto_region 1 with fail
   refine RegD.R_ (fun W=>FB W w.heap.size ⟨f1,f2,f3,f4,f5,f6,f7,f8,f9⟩∧SvAt W gv gs r) 22 (by kernel_rfl) (⟨HF0.out.on (Below.refl _ _).drew,HA0.out.on (Below.refl _ _).drew⟩) (fun hH=>?_)
   refine RegD.T_ 0 (v:=.int .i64 now) rfl (by kernel_rfl) (fun _ _ _ h=>h) (.inl ⟨by rfl,fun W hW=>by go_simp⟩) hH ?_
   simp only [Act.put,pS1,pS2,pS3];refine RegD.T_ 1 (v:=.pointer (some ⟨w.heap.size,6,none⟩)) rfl (by kernel_rfl) (fun _ _ _ h=>h) (.inl ⟨by rfl,fun W hW=>by go_simp⟩) hH ?_
   simp only [Act.put,pS1,pS2,pS3];refine RegD.T_ 2 (v:=.int .i64 f7) rfl (by kernel_rfl) (fun _ _ _ h=>h) (.inl ⟨by rfl,fun W hW=>by have a0:=hW.1.c6; go_simp⟩) hH ?_
   simp only [Act.put,pS1,pS2,pS3];refine RegD.T_ 3 (v:=.pointer (some ⟨gv,0,none⟩)) rfl (by kernel_rfl) (fun _ _ _ h=>h) (.inl ⟨by rfl,fun W hW=>by go_simp⟩) hH ?_
   simp only [Act.put,pS1,pS2,pS3];refine RegD.T_ 4 (v:=.pointer (some ⟨gv,0,none⟩)) rfl (by kernel_rfl) (fun _ _ _ h=>h) (.inl ⟨by rfl,fun W hW=>by go_simp⟩) hH ?_
   simp only [Act.put,pS1,pS2,pS3];refine RegD.T_ 5 (v:=.pointer (some ⟨gv,1,none⟩)) rfl (by kernel_rfl) (fun _ _ _ h=>h) (.inl ⟨by rfl,fun W hW=>by go_simp⟩) hH ?_
   simp only [Act.put,pS1,pS2,pS3];refine RegD.T_ 6 (v:=.pointer (some ⟨gv,2,none⟩)) rfl (by kernel_rfl) (fun _ _ _ h=>h) (.inl ⟨by rfl,fun W hW=>by go_simp⟩) hH ?_
   simp only [Act.put,pS1,pS2,pS3];refine RegD.T_ 7 (v:=.int .i64 r.idle) rfl (by kernel_rfl) (fun _ _ _ h=>h) (.inl ⟨by rfl,fun W hW=>by have a0:=hW.2.c2; go_simp⟩) hH ?_
   simp only [Act.put,pS1,pS2,pS3];refine RegD.O_ 8 rfl (by kernel_rfl) ?_; intro K hK; go_simp
   go_at_call 82
   refine (later_is _ _ HU.out HRU.out.idle _).mono ?_;rintro e1 w1 ⟨rfl,rfl⟩;go_wp2_with fail
   refine hK.out _ _ (hH) ?_;clear hK hH;intro hH;clear K;refine RegD.T_ 9 (v:=.bool false) rfl (by kernel_rfl) (fun _ _ _ h=>h) (.inl ⟨by rfl,fun W hW=>by go_simp⟩) hH ?_
   simp only [Act.put,pS1,pS2,pS3];refine RegD.T_ 10 (v:=.bool false) rfl (by kernel_rfl) (fun _ _ _ h=>h) (.inl ⟨by rfl,fun W hW=>by go_simp⟩) hH ?_
   simp only [Act.put,pS1,pS2,pS3];refine RegD.T_ 11 (v:=.int .i64 now) rfl (by kernel_rfl) (fun _ _ _ h=>h) (.inl ⟨by rfl,fun W hW=>by go_simp⟩) hH ?_
   simp only [Act.put,pS1,pS2,pS3];refine RegD.T_ 12 (v:=.pointer (some ⟨w.heap.size,5,none⟩)) rfl (by kernel_rfl) (fun _ _ _ h=>h) (.inl ⟨by rfl,fun W hW=>by go_simp⟩) hH ?_
   simp only [Act.put,pS1,pS2,pS3];refine RegD.T_ 13 (v:=.int .i64 f6) rfl (by kernel_rfl) (fun _ _ _ h=>h) (.inl ⟨by rfl,fun W hW=>by have a0:=hW.1.c5; go_simp⟩) hH ?_
   simp only [Act.put,pS1,pS2,pS3];refine RegD.T_ 14 (v:=.pointer (some ⟨gv,0,none⟩)) rfl (by kernel_rfl) (fun _ _ _ h=>h) (.inl ⟨by rfl,fun W hW=>by go_simp⟩) hH ?_
   simp only [Act.put,pS1,pS2,pS3];refine RegD.T_ 15 (v:=.pointer (some ⟨gv,0,none⟩)) rfl (by kernel_rfl) (fun _ _ _ h=>h) (.inl ⟨by rfl,fun W hW=>by go_simp⟩) hH ?_
   simp only [Act.put,pS1,pS2,pS3];refine RegD.T_ 16 (v:=.pointer (some ⟨gv,1,none⟩)) rfl (by kernel_rfl) (fun _ _ _ h=>h) (.inl ⟨by rfl,fun W hW=>by go_simp⟩) hH ?_
   simp only [Act.put,pS1,pS2,pS3];refine RegD.T_ 17 (v:=.pointer (some ⟨gv,3,none⟩)) rfl (by kernel_rfl) (fun _ _ _ h=>h) (.inl ⟨by rfl,fun W hW=>by go_simp⟩) hH ?_
   simp only [Act.put,pS1,pS2,pS3];refine RegD.T_ 18 (v:=.int .i64 r.life) rfl (by kernel_rfl) (fun _ _ _ h=>h) (.inl ⟨by rfl,fun W hW=>by have a0:=hW.2.c3; go_simp⟩) hH ?_
   simp only [Act.put,pS1,pS2,pS3];refine RegD.O_ 19 rfl (by kernel_rfl) ?_; intro K hK; go_simp
   go_at_call 82
   refine (later_is _ _ HMD.out HRU.out.life _).mono ?_;rintro e2 w2 ⟨rfl,rfl⟩;go_wp2_with fail
   refine hK.out _ _ (hH) ?_;clear hK hH;intro hH;clear K;refine RegD.T_ 20 (v:=.bool false) rfl (by kernel_rfl) (fun _ _ _ h=>h) (.inl ⟨by rfl,fun W hW=>by go_simp⟩) hH ?_
   simp only [Act.put,pS1,pS2,pS3];refine RegD.T_ 21 (v:=.bool false) rfl (by kernel_rfl) (fun _ _ _ h=>h) (.inl ⟨by rfl,fun W hW=>by go_simp⟩) hH ?_
   simp only [Act.put,pS1,pS2,pS3];have HBB:Hid (Below w.heap.size w (w.alloc (.cells #[.int .i64 f1,.string f2,.string f3,.string f4,.int .i64 f5,.int .i64 f6,.int .i64 f7,.string f8,.bool f9] 40)).drew):=HB0.out.drew;clear hH;refine RegD.L_ 22 rfl (by kernel_rfl) (by kernel_rfl) ?_; intro K hK; go_simp
   refine hK.out _ _ ?_;clear hK K;refine RegD.D_ (by kernel_rfl) ?_ _
   go_wp2_with fail
   go_ret;exact ⟨by rw [HE.out]; rfl,HBB.out⟩
theorem svState_is (N:Nat) (w:World) (gv gs gd:Nat) (r:Rul) (p:Pub) (v:Value) (h:SvIs N w gv gs gd r p v) :
 Calls Tryz.prog 43 #[.pointer (some ⟨gv,0,none⟩)] w fun e w'=>∃ v',e=.returned (stV p.st.clock p.st.next v')∧Fams w.heap.size w' v' p.st.fams∧Below w.heap.size w w':=by
 have HB0:Hid (Below w.heap.size w (w.alloc (.cells #[.int .i64 0,.int .i64 0,.slice none 0 0] 36))):=(Below.refl _ _).alloc (Nat.le_refl _) _;have HS0:Hid _:=h.on HB0.out;have c0:=HS0.out.box.c0;have hz:∀ i,(w.alloc (.cells #[.int .i64 0,.int .i64 0,.slice none 0 0] 36)).cell? ⟨w.heap.size,i,none⟩=(#[.int .i64 0,.int .i64 0,.slice none 0 0]:Array Value)[i]?:=fun i=>World.cell?_alloc_at _ _ _ _ rfl;have HZ:Hid (∀ i,_):=hz;have hzf:∀ i,(w.alloc (.cells #[.int .i64 0,.int .i64 0,.slice none 0 0] 36)).frozen? ⟨w.heap.size,i,none⟩=false:=fun i=>World.frozen?_alloc_at _ _ _ _ rfl;have HZF:Hid (∀ i,_):=hzf;have hs:(w.alloc (.cells #[.int .i64 0,.int .i64 0,.slice none 0 0] 36)).heap.size=w.heap.size+1:=by simp
 have HSZ:Hid _:=hs;clear h hz hzf hs;unfold stV;go_enter Tryz.func43,Tryz.ntmps43
 go_wp2_with fail
 refine (stateS_is _ _ _ _ _ _ HS0.out.sp).mono ?_;rintro e1 w1 ⟨v1,rfl,hf1,hb1⟩;obtain ⟨b1,c1,rfl⟩:=RowsK.slice hf1;unfold stV;have HB1:Hid (Below w.heap.size w w1):=HB0.out.trans (hb1.mono HB0.out.size);have hlt:w.heap.size<(w.alloc (.cells #[.int .i64 0,.int .i64 0,.slice none 0 0] 36)).heap.size:=by rw [HSZ.out]; omega
 have z0:=(hb1.cell (p:=⟨w.heap.size,0,none⟩) hlt).trans ((HZ.out 0).trans rfl);have z1:=(hb1.cell (p:=⟨w.heap.size,1,none⟩) hlt).trans ((HZ.out 1).trans rfl);have z2:=(hb1.cell (p:=⟨w.heap.size,2,none⟩) hlt).trans ((HZ.out 2).trans rfl);have zf:∀ i,w1.frozen? ⟨w.heap.size,i,none⟩=false:=fun i=>(hb1.frozen (p:=⟨w.heap.size,i,none⟩) hlt).trans (HZF.out i);have HF1:Hid (Fams (w.heap.size+1) w1 (.slice b1 p.st.fams.length c1) p.st.fams):=by rw [← HSZ.out]; exact hf1
 clear hf1 hb1 hlt c0;have HBF:Hid (Below w.heap.size w (((w1.setCell ⟨w.heap.size,0,none⟩ (.int .i64 p.st.clock)).setCell ⟨w.heap.size,1,none⟩ (.int .i64 p.st.next)).setCell ⟨w.heap.size,2,none⟩ (.slice b1 p.st.fams.length c1))):=HB1.out.trans (below3 _ 0 1 2 _ _ _ _)
 have HFF:Hid (Fams w.heap.size (((w1.setCell ⟨w.heap.size,0,none⟩ (.int .i64 p.st.clock)).setCell ⟨w.heap.size,1,none⟩ (.int .i64 p.st.next)).setCell ⟨w.heap.size,2,none⟩ (.slice b1 p.st.fams.length c1)) (.slice b1 p.st.fams.length c1) p.st.fams):=
  RowsK.mono (((HF1.out.other (a:=⟨w.heap.size,0,none⟩) (Nat.lt_succ_self _) _).other (a:=⟨w.heap.size,1,none⟩) (Nat.lt_succ_self _) _).other (a:=⟨w.heap.size,2,none⟩) (Nat.lt_succ_self _) _) (Nat.le_succ _)
 obtain ⟨q0,q1,q2⟩:=@three_set w1 w.heap.size (.int .i64 p.st.clock) (.int .i64 p.st.next) (.slice b1 p.st.fams.length c1) _ _ _ z0 z1 z2;go_wp2_with fail
 have HBF2:=HBF.out;have HFF2:=HFF.out;clear HBF HFF z0 z1 z2 zf;generalize World.setCell _ ⟨w.heap.size,2,none⟩ _=WW at *;exact bodyPost_ret (v:=.agg #[.int .i64 p.st.clock,.int .i64 p.st.next,.slice b1 p.st.fams.length c1]) (by simp [results,Tryz.results43,go_sem,q0,q1,q2]) rfl ⟨_,rfl,HFF2,HBF2⟩
theorem refresh_is (N:Nat) (w:World) (gv gs gd:Nat) (r:Rul) (p:Pub) (v:Value) (f:Fam) (h:SvIs N w gv gs gd r p v) (hf:mayF f) :
 Calls Tryz.prog 77 #[.pointer (some ⟨gv,0,none⟩),famV f] w fun e w'=>e=.returned (.tuple #[.string (txtB r ⟨1,f.id,f.gen,0⟩),.nilIface])∧Below w.heap.size w w':=by
 have hmt:Tok.may ⟨1,f.id,f.gen,0⟩:=⟨.inl ⟨rfl,rfl⟩,hf.1.1,hf.1.2.1⟩;obtain ⟨f1,f2,f3,f4,f5,f6,f7,f8,f9⟩:=f;have HB0:Hid (Below w.heap.size w (w.alloc (.cells #[.int .i64 f1,.string f2,.string f3,.string f4,.int .i64 f5,.int .i64 f6,.int .i64 f7,.string f8,.bool f9] 40))):=(Below.refl _ _).alloc (Nat.le_refl _) _;have HF0:Hid (FB (w.alloc (.cells #[.int .i64 f1,.string f2,.string f3,.string f4,.int .i64 f5,.int .i64 f6,.int .i64 f7,.string f8,.bool f9] 40)) w.heap.size ⟨f1,f2,f3,f4,f5,f6,f7,f8,f9⟩):=FB.made w ⟨f1,f2,f3,f4,f5,f6,f7,f8,f9⟩ _;have HA0:Hid (SvAt (w.alloc (.cells #[.int .i64 f1,.string f2,.string f3,.string f4,.int .i64 f5,.int .i64 f6,.int .i64 f7,.string f8,.bool f9] 40)) gv gs r):=h.box.on HB0.out
 have HWT:Hid (∀ (W:World),Below (w.alloc (.cells #[.int .i64 f1,.string f2,.string f3,.string f4,.int .i64 f5,.int .i64 f6,.int .i64 f7,.string f8,.bool f9] 40)).drew.heap.size (w.alloc (.cells #[.int .i64 f1,.string f2,.string f3,.string f4,.int .i64 f5,.int .i64 f6,.int .i64 f7,.string f8,.bool f9] 40)).drew W→Calls Tryz.prog 81 #[.int .i64 r.key,.agg #[.int .i64 1,.int .i64 f1,.int .i64 f5,.int .i64 0]] W fun e w'=>e=.returned (.tuple #[.string (txtB r ⟨1,f1,f5,0⟩),.nilIface])∧Below W.heap.size W w'):=fun W hW=>writeP_yes r.key ⟨1,f1,f5,0⟩ W hmt (((h.libs.on HB0.out).on (Below.refl _ _).drew).on hW).base;unfold famV famCs;simp only;clear h hf hmt;go_enter Tryz.func77,Tryz.ntmps77
 go_upto_region 1 with fail
 refine RegD.R_ (fun W=>FB W w.heap.size ⟨f1,f2,f3,f4,f5,f6,f7,f8,f9⟩∧SvAt W gv gs r) 14 (by kernel_rfl) (⟨HF0.out.on (Below.refl _ _).drew,HA0.out.on (Below.refl _ _).drew⟩) (fun hH=>?_)
 refine RegD.T_ 0 (v:=.pointer (some ⟨gv,0,none⟩)) rfl (by kernel_rfl) (fun _ _ _ h=>h) (.inl ⟨by rfl,fun W hW=>by go_simp⟩) hH ?_
 simp only [Act.put,pS1,pS2,pS3];refine RegD.T_ 1 (v:=.pointer (some ⟨gv,0,none⟩)) rfl (by kernel_rfl) (fun _ _ _ h=>h) (.inl ⟨by rfl,fun W hW=>by go_simp⟩) hH ?_
 simp only [Act.put,pS1,pS2,pS3];refine RegD.T_ 2 (v:=.pointer (some ⟨gv,1,none⟩)) rfl (by kernel_rfl) (fun _ _ _ h=>h) (.inl ⟨by rfl,fun W hW=>by go_simp⟩) hH ?_
 simp only [Act.put,pS1,pS2,pS3];refine RegD.T_ 3 (v:=.pointer (some ⟨gv,1,none⟩)) rfl (by kernel_rfl) (fun _ _ _ h=>h) (.inl ⟨by rfl,fun W hW=>by go_simp⟩) hH ?_
 simp only [Act.put,pS1,pS2,pS3];refine RegD.T_ 4 (v:=.int .i64 r.key) rfl (by kernel_rfl) (fun _ _ _ h=>h) (.inl ⟨by rfl,fun W hW=>by have a0:=hW.2.c1; go_simp⟩) hH ?_
 simp only [Act.put,pS1,pS2,pS3];refine RegD.T_ 5 (v:=.pointer (some ⟨w.heap.size,0,none⟩)) rfl (by kernel_rfl) (fun _ _ _ h=>h) (.inl ⟨by rfl,fun W hW=>by go_simp⟩) hH ?_
 simp only [Act.put,pS1,pS2,pS3];refine RegD.T_ 6 (v:=.int .i64 f1) rfl (by kernel_rfl) (fun _ _ _ h=>h) (.inl ⟨by rfl,fun W hW=>by have a0:=hW.1.c0; go_simp⟩) hH ?_
 simp only [Act.put,pS1,pS2,pS3];refine RegD.T_ 7 (v:=.pointer (some ⟨w.heap.size,4,none⟩)) rfl (by kernel_rfl) (fun _ _ _ h=>h) (.inl ⟨by rfl,fun W hW=>by go_simp⟩) hH ?_
 simp only [Act.put,pS1,pS2,pS3];refine RegD.T_ 8 (v:=.int .i64 f5) rfl (by kernel_rfl) (fun _ _ _ h=>h) (.inl ⟨by rfl,fun W hW=>by have a0:=hW.1.c4; go_simp⟩) hH ?_
 simp only [Act.put,pS1,pS2,pS3];refine RegD.T_ 9 (v:=.agg #[.int .i64 1,.int .i64 f1,.int .i64 f5,.int .i64 0]) rfl (by kernel_rfl) (fun _ _ _ h=>h) (.inl ⟨by rfl,fun W hW=>by go_simp⟩) hH ?_
 simp only [Act.put,pS1,pS2,pS3];refine RegD.O_ 10 rfl (by kernel_rfl) ?_; intro K hK; go_simp
 go_at_call 81
 refine (HWT.out _ (Below.refl _ _)).mono ?_;rintro e1 w1 ⟨rfl,hb1⟩;go_wp2_with fail
 have HBB:Hid (Below w.heap.size w w1):=HB0.out.drew.trans (hb1.mono (by simp))
 refine hK.out _ _ (⟨hH.1.on hb1,hH.2.on hb1⟩) ?_;clear hK hH;intro hH;clear K;clear hb1;refine RegD.T_ 11 (v:=.string (txtB r ⟨1,f1,f5,0⟩)) rfl (by kernel_rfl) (fun _ _ _ h=>h) (.inl ⟨by rfl,fun W hW=>by go_simp⟩) hH ?_
 simp only [Act.put,pS1,pS2,pS3];refine RegD.T_ 12 (v:=.nilIface) rfl (by kernel_rfl) (fun _ _ _ h=>h) (.inl ⟨by rfl,fun W hW=>by go_simp⟩) hH ?_
 simp only [Act.put,pS1,pS2,pS3];refine RegD.T_ 13 (v:=.string (txtB r ⟨1,f1,f5,0⟩)) rfl (by kernel_rfl) (fun _ _ _ h=>h) (.inl ⟨by rfl,fun W hW=>by go_simp⟩) hH ?_
 simp only [Act.put,pS1,pS2,pS3];clear hH;refine RegD.L_ 14 rfl (by kernel_rfl) (by kernel_rfl) ?_; intro K hK; go_simp
 refine hK.out _ _ ?_;clear hK K;refine RegD.D_ (by kernel_rfl) ?_ _
 go_wp2_with fail
 go_ret2;exact ⟨rfl,HBB.out⟩
theorem svPut_is (N:Nat) (w:World) (gv gs gd:Nat) (r:Rul) (p:Pub) (v:Value) (f:Fam) (h:SvIs N w gv gs gd r p v) (hf:Ev.may (putE f)) (hN:N<99000) :
 Calls Tryz.prog 130 #[.pointer (some ⟨gv,0,none⟩),famV f] w fun e w'=>e=.returned (errQ (addP p (putE f) true).2)∧∃ v',SPto N gs gd v w w' (addP p (putE f) true).1 v':=by
 obtain ⟨f1,f2,f3,f4,f5,f6,f7,f8,f9⟩:=f;have HB0:Hid (Below w.heap.size w (w.alloc (.cells #[.int .i64 f1,.string f2,.string f3,.string f4,.int .i64 f5,.int .i64 f6,.int .i64 f7,.string f8,.bool f9] 40))):=(Below.refl _ _).alloc (Nat.le_refl _) _;have HF0:Hid (FB (w.alloc (.cells #[.int .i64 f1,.string f2,.string f3,.string f4,.int .i64 f5,.int .i64 f6,.int .i64 f7,.string f8,.bool f9] 40)) w.heap.size ⟨f1,f2,f3,f4,f5,f6,f7,f8,f9⟩):=FB.made w ⟨f1,f2,f3,f4,f5,f6,f7,f8,f9⟩ _;have HA0:Hid (SvAt (w.alloc (.cells #[.int .i64 f1,.string f2,.string f3,.string f4,.int .i64 f5,.int .i64 f6,.int .i64 f7,.string f8,.bool f9] 40)) gv gs r):=h.box.on HB0.out;have HNE:Hid (w.heap.size≠gd∧w.heap.size≠gs):=by have h1:=h.sp.lt; have h2:=h.sp.ord; show _∧_; omega
 have HNV:Hid (gv≠gd∧gv≠gs):=by have h1:=h.ord; have h2:=h.sp.ord; show _∧_; omega
 have hadd:=addM_is N (w.alloc (.cells #[.int .i64 f1,.string f2,.string f3,.string f4,.int .i64 f5,.int .i64 f6,.int .i64 f7,.string f8,.bool f9] 40)).drew gs gd p v (putE ⟨f1,f2,f3,f4,f5,f6,f7,f8,f9⟩) hf ((h.sp.on HB0.out).on (Below.refl _ _).drew) hN
 have HADD:Hid (∀ _:Unit,Calls Tryz.prog 17 #[.pointer (some ⟨gs,0,none⟩),.agg #[.int .i64 1,.int .i64 f1,.string f2,.string f3,.string f4,.int .i64 f5,.int .i64 f6,.int .i64 f7,.string f8,.bool f9,.int .i64 0,.int .i64 0]] (w.alloc (.cells #[.int .i64 f1,.string f2,.string f3,.string f4,.int .i64 f5,.int .i64 f6,.int .i64 f7,.string f8,.bool f9] 40)).drew fun e w'=>e=.returned (errQ (addP p (putE ⟨f1,f2,f3,f4,f5,f6,f7,f8,f9⟩) true).2)∧∃ v',SPto N gs gd v (w.alloc (.cells #[.int .i64 f1,.string f2,.string f3,.string f4,.int .i64 f5,.int .i64 f6,.int .i64 f7,.string f8,.bool f9] 40)).drew w' (addP p (putE ⟨f1,f2,f3,f4,f5,f6,f7,f8,f9⟩) true).1 v'):=fun _=>hadd;unfold famV famCs;simp only;clear h hf hadd;generalize addP p (putE ⟨f1,f2,f3,f4,f5,f6,f7,f8,f9⟩) true=Q at *;obtain ⟨q,n⟩:=Q;simp only at HADD ⊢
 go_enter Tryz.func130,Tryz.ntmps130
 go_upto_region 1 with fail
 refine RegD.R_ (fun W=>FB W w.heap.size ⟨f1,f2,f3,f4,f5,f6,f7,f8,f9⟩∧SvAt W gv gs r) 7 (by kernel_rfl) (⟨HF0.out.on (Below.refl _ _).drew,HA0.out.on (Below.refl _ _).drew⟩) (fun hH=>?_)
 refine RegD.T_ 0 (v:=.pointer (some ⟨gv,0,none⟩)) rfl (by kernel_rfl) (fun _ _ _ h=>h) (.inl ⟨by rfl,fun W hW=>by go_simp⟩) hH ?_
 simp only [Act.put,pS1,pS2,pS3];refine RegD.T_ 1 (v:=.pointer (some ⟨gv,0,none⟩)) rfl (by kernel_rfl) (fun _ _ _ h=>h) (.inl ⟨by rfl,fun W hW=>by go_simp⟩) hH ?_
 simp only [Act.put,pS1,pS2,pS3];refine RegD.T_ 2 (v:=.pointer (some ⟨gv,0,none⟩)) rfl (by kernel_rfl) (fun _ _ _ h=>h) (.inl ⟨by rfl,fun W hW=>by go_simp⟩) hH ?_
 simp only [Act.put,pS1,pS2,pS3];refine RegD.T_ 3 (v:=.pointer (some ⟨gs,0,none⟩)) rfl (by kernel_rfl) (fun _ _ _ h=>h) (.inl ⟨by rfl,fun W hW=>by have a0:=hW.2.c0; go_simp⟩) hH ?_
 simp only [Act.put,pS1,pS2,pS3];refine RegD.T_ 4 (v:=.agg #[.int .i64 f1,.string f2,.string f3,.string f4,.int .i64 f5,.int .i64 f6,.int .i64 f7,.string f8,.bool f9]) rfl (by kernel_rfl) (fun _ _ _ h=>h) (.inl ⟨by rfl,fun W hW=>by have a0:=hW.1.c0; have a1:=hW.1.c1; have a2:=hW.1.c2; have a3:=hW.1.c3; have a4:=hW.1.c4; have a5:=hW.1.c5; have a6:=hW.1.c6; have a7:=hW.1.c7; have a8:=hW.1.c8; go_simp⟩) hH ?_
 simp only [Act.put,pS1,pS2,pS3];refine RegD.T_ 5 (v:=.agg #[.int .i64 1,.int .i64 f1,.string f2,.string f3,.string f4,.int .i64 f5,.int .i64 f6,.int .i64 f7,.string f8,.bool f9,.int .i64 0,.int .i64 0]) rfl (by kernel_rfl) (fun _ _ _ h=>h) (.inl ⟨by rfl,fun W hW=>by go_simp⟩) hH ?_
 simp only [Act.put,pS1,pS2,pS3];refine RegD.O_ 6 rfl (by kernel_rfl) ?_; intro K hK; go_simp
 go_at_call 17
 refine (HADD.out ()).mono ?_;rintro e1 w1 ⟨rfl,v1,hto⟩;have HTO:Hid _:=SPto.pre HB0.out.drew hto;go_wp2_with fail
 refine hK.out _ _ (⟨hH.1.keep hto.keep (by have:=HNE.out; simp; omega),hH.2.keep hto.keep (by have:=HNV.out; simp; omega)⟩) ?_
 clear hK hH;intro hH;clear K;clear hto hH;refine RegD.L_ 7 rfl (by kernel_rfl) (by kernel_rfl) ?_; intro K hK; go_simp
 refine hK.out _ _ ?_;clear hK K;refine RegD.D_ (by kernel_rfl) ?_ _
 go_wp2_with fail
 go_ret;exact ⟨rfl,_,HTO.out⟩
end Go.Proofs.YtlailakofhenkabGreatDoor
