import Derived.Test.YtlailakofhenkabGreatDoorB19
set_option maxRecDepth 100000
set_option maxHeartbeats 8000000
namespace Go.Proofs.YtlailakofhenkabGreatDoor
open Go Go.RowKit Tok Sc Ev
theorem small_may {f:Fam} (h:mayF f):Small 5000 f:=by
 obtain ⟨_,h2,h3,h4,h5⟩:=h;have n1:=(nameB_iff.1 h2).2.2;have n2:=(nameB_iff.1 h3).2.2;have n3:=lst_len h5
 have n4:f.request.data.toList.length≤20:=by
  rcases h4 with h | h
  ·rw [h]; simp
  ·exact (nameB_iff.1 h).2.2
 have e:∀ x:ByteArray,x.data.toList.length=x.size:=fun x=>Array.length_toList;rw [e] at n1 n2 n3 n4;unfold Small;omega
theorem save_down (w0:World) (gs gd:Nat) (A:AD) (n:Nat) (c:Bool) (l:Int) (sv lg:Nat) (st:St) (v:Value) (w:World) (h:DS w0 gs gd A n c l true sv lg st v w) :
 Calls Tryz.prog 16 #[.pointer (some ⟨gs,0,none⟩)] w fun r w'=>r=.returned (.iface 47 (.int .i64 6))∧w'=w:=by
 have p1:=h.store.p1;clear h;go_enter Tryz.func16,Tryz.ntmps16
 go_wp2_with fail
 go_ret;exact ⟨rfl,rfl⟩
theorem save_up (w0:World) (gs gd:Nat) (A:AD) (n:Nat) (c:Bool) (l:Int) (sv lg:Nat) (st b:St) (es:List E) (v:Value) (w:World) (h:DS w0 gs gd A n c l false sv lg st v w) (hI:Inv A st sv lg b es) (hsv:okN ((sv:Int)+1)) (hl:c=true→0≤l∧l≤9223372036854775807) (hn:n+22<100000) :
 Calls Tryz.prog 16 #[.pointer (some ⟨gs,0,none⟩)] w fun r w'=>∃ p:Pub,p=⟨st,lg,n,c,l,false⟩∧r=.returned (errQ (saveP p).2)∧∃ A' sv' b' es',Inv A' st sv' (saveP p).1.lg b' es'∧sv'≤sv+1∧DS w0 gs gd A' (saveP p).1.n c (saveP p).1.l (saveP p).1.dn sv' (saveP p).1.lg st v w':=by
 obtain ⟨ba,ca,rfl⟩:=RowsK.slice h.store.fam;have H0:Hid (DS w0 gs gd A n c l false sv lg st (.slice ba st.fams.length ca) w):=h;have HI:Hid (Inv A st sv lg b es):=hI;have HSV:Hid (okN ((sv:Int)+1)):=hsv;have HLL:Hid (c=true→0≤l∧l≤9223372036854775807):=hl;have HN:Hid (n+22<100000):=hn;have hsvI:(sv:Int)+1≤1099511627776:=hsv.2;have hsv0:0≤(sv:Int):=by omega
 have hl20:(st.fams.length:Int)≤20:=by have:=hI.good.len; omega
 have p1:=h.store.p1;have p2:=h.store.p2;have p6:=h.store.p6;clear h hI hl hn;go_enter Tryz.func16,Tryz.ntmps16
 go_wp2_with fail
 obtain ⟨sl,hsl⟩:∃ sl,sl=(sv+1) % 2:=⟨_,rfl⟩;have hsl2:sl<2:=by omega
 have hslI:((sv:Int)+1) % 2=(sl:Int):=by omega
 have HSL:Hid (sl=(sv+1) % 2):=hsl;have HSL2:Hid (sl<2):=hsl2;have HFI:Hid (∀ i,i≤st.fams.length→Inv (fillA A (17+21*sl) (sv+1) st.fams i) st sv lg b es):=by rw [hsl]; exact fill_inv HI.out
 have HFD:Hid (Inv ⟨(fillA A (17+21*sl) (sv+1) st.fams st.fams.length).blk,updN (fillA A (17+21*sl) (sv+1) st.fams st.fams.length).head sl (some (sv+1,st.clock,st.next,st.fams.length))⟩ st (sv+1) 0 st []):=by rw [hsl]; exact fill_done HI.out
 have hsb:=fun (W:World)=>slotBlock_is sl W hsl2;rw [hslI];refine (hsb _).mono ?_;rintro e1 w1 ⟨rfl,rfl⟩;have HK16:Hid (((16+21*sl:Nat):Int)=16+21*sl):=by show ((16+21*sl:Nat):Int)=16+21*sl; push_cast; rfl
 generalize hKK:((16+21*sl:Nat):Int)=K at *;have HKK:Hid (K=((16+21*sl:Nat):Int)):=hKK.symm;have hK0:0≤K∧K≤37:=by omega
 clear hKK hsl hslI hsb hsl2;go_wp2_with fail
 go_loopg [30] st.fams.length (fun gk iv wr=>∃ i:Nat,i+gk=st.fams.length∧iv=.int .i64 i∧Hid (writesP (st.fams.length+1) ⟨st,lg,n,c,l,false⟩=writesP (gk+1) ⟨st,lg,n+i,c,l - i,false⟩)∧Hid (c=true→0≤l - i)∧Hid (DS w0 gs gd (fillA A (17+21*sl) (sv+1) st.fams i) (n+i) c (l - i) false sv lg st (.slice ba st.fams.length ca) wr))
 case atStart=>exact ⟨0,by omega,rfl,by show _=_; simp,fun hc=>by have:=HLL.out hc; omega,by simpa [fillA] using H0⟩
 case round=>
  obtain ⟨i,hj,rfl,HWP,HLI,HDS⟩:=hrel;have HJ:Hid (i+gk=st.fams.length):=hj;clear hj H0;by_cases hlt:i<st.fams.length
  ·have hltI:(i:Int)<(st.fams.length:Int):=by omega
   obtain ⟨r,hr⟩:∃ r,gk=r+1:=⟨gk - 1,by have:=HJ.out; omega⟩
   have HR:Hid (gk=r+1):=hr;clear hr;have hfm:=(HI.out.good.may _ (List.getElem_mem hlt)).1;have hgD:st.fams.getD i zeroF=st.fams[i]:=by simp [List.getD,hlt]
   have HFN:Hid (fillA A (17+21*sl) (sv+1) st.fams (i+1)=⟨updN (fillA A (17+21*sl) (sv+1) st.fams i).blk (17+21*sl+i) (some (sv+1,putE st.fams[i])),(fillA A (17+21*sl) (sv+1) st.fams i).head⟩):=by show _=_; rw [fillA,hgD]
   have HM:Hid (Ev.may (putE st.fams[i])):=may_put hfm;obtain ⟨g,rfl,hglt,hfa⟩:=HDS.out.store.fam.fam i hlt;have hwe:∀ (W:World),LibsE W→Calls Tryz.prog 55 #[evV (putE st.fams[i])] W fun r w'=>r=.returned (.tuple #[.string (bs8 (line (putE st.fams[i]))),.nilIface])∧Below W.heap.size W w':=fun W hW=>writeE_yes (putE st.fams[i]) W HM.out (small_may hfm) hW;have HEV:Hid (evL (sv+1) (putE st.fams[i])=evL (sv+1) (putE st.fams[i])):=rfl;have hel:=evL_len (s:=sv+1) (by push_cast; exact HSV.out) HM.out
   have HEL:Hid ((evL (sv+1) (putE st.fams[i])).length≤194):=hel;have hit:=fun (W:World) (hW:LibsE W)=>itoaE_is ((sv:Int)+1) W HSV.out.1 (by have:=HSV.out.2; omega) hW
   have HBX:Hid (∀ W:World,FamAt (W.alloc (.cells #[.int .i64 st.fams[i].id,.string st.fams[i].client,.string st.fams[i].subject,.string st.fams[i].scope,.int .i64 st.fams[i].gen,.int .i64 st.fams[i].made,.int .i64 st.fams[i].used,.string st.fams[i].request,.bool st.fams[i].dead] 40)) W.heap.size 0 st.fams[i]):=fun W=>famAt_made W _ _ _ rfl;generalize st.fams[i]=f at *;clear hfm hgD hel;obtain ⟨f1,f2,f3,f4,f5,f6,f7,f8,f9⟩:=f;have hwe2:=hwe;unfold putE evV evCs at hwe2;simp only at hwe2;have k0:=hfa.c0; have k1:=hfa.c1; have k2:=hfa.c2; have k3:=hfa.c3; have k4:=hfa.c4; have k5:=hfa.c5; have k6:=hfa.c6; have k7:=hfa.c7; have k8:=hfa.c8;have p6:=HDS.out.store.p6;simp only at k0 k1 k2 k3 k4 k5 k6 k7 k8;clear hfa hwe
   have HB0:Hid (DS w0 gs gd (fillA A (17+21*sl) (sv+1) st.fams i) (n+i) c (l - i) false sv lg st (.slice (some ⟨g,0,none⟩) st.fams.length ca) (wr.alloc (.cells #[.int .i64 f1,.string f2,.string f3,.string f4,.int .i64 f5,.int .i64 f6,.int .i64 f7,.string f8,.bool f9] 40))):=HDS.out.on ((Below.refl _ _).alloc (Nat.le_refl _) _)
   have HJN:Hid (Lib.join ([bs8 (Lib.itoa ((sv:Int)+1)),bs8 (line (putE ⟨f1,f2,f3,f4,f5,f6,f7,f8,f9⟩))].map (·.data.toList)) [32]=evL (sv+1) (putE ⟨f1,f2,f3,f4,f5,f6,f7,f8,f9⟩)):=by
    show _=_
    rw [← evL_join];rfl
   have HKI:Hid (((17+21*sl+i:Nat):Int)=K+1+i):=by show ((17+21*sl+i:Nat):Int)=K+1+i; rw [HK16.out]; push_cast; omega
   have HI20:Hid (i<20):=by show i<20; omega
   have HOFF:Hid (∀ (bb:Nat) (W:World),offB c (l - i)=true→DS w0 gs gd (fillA A (17+21*sl) (sv+1) st.fams i) (n+i) c (l - i) false sv lg st (.slice (some ⟨g,0,none⟩) st.fams.length ca) W→WordsAt W bb [bs8 (Lib.itoa ((sv:Int)+1)),bs8 (line (putE ⟨f1,f2,f3,f4,f5,f6,f7,f8,f9⟩))]→
    Calls Tryz.prog 56 #[.pointer (some ⟨gs,0,none⟩),.int .i64 (K+1+i),.slice (some ⟨bb,0,none⟩) 2 2] W fun r w'=>r=.returned (.iface 47 (.int .i64 14))∧DS w0 gs gd (fillA A (17+21*sl) (sv+1) st.fams i) (n+i) c (l - i) true sv lg st (.slice (some ⟨g,0,none⟩) st.fams.length ca) w'):=fun bb W ho hd hw=>by
    rw [← HKI.out];exact writeS_off w0 gs gd _ _ c _ false sv lg st _ (17+21*sl+i) [bs8 (Lib.itoa ((sv:Int)+1)),bs8 (line (putE ⟨f1,f2,f3,f4,f5,f6,f7,f8,f9⟩))] bb 2 W hd (by have:=HSL2.out; have:=HI20.out; omega) hw (by simp) (Nat.le_refl _) (by rw [HJN.out]; have:=HEL.out; omega) ho
   have HON:Hid (∀ (bb:Nat) (W:World),offB c (l - i)=false→DS w0 gs gd (fillA A (17+21*sl) (sv+1) st.fams i) (n+i) c (l - i) false sv lg st (.slice (some ⟨g,0,none⟩) st.fams.length ca) W→WordsAt W bb [bs8 (Lib.itoa ((sv:Int)+1)),bs8 (line (putE ⟨f1,f2,f3,f4,f5,f6,f7,f8,f9⟩))]→
    Calls Tryz.prog 56 #[.pointer (some ⟨gs,0,none⟩),.int .i64 (K+1+i),.slice (some ⟨bb,0,none⟩) 2 2] W fun r w'=>r=.returned .nilIface∧DS w0 gs gd (fillA A (17+21*sl) (sv+1) st.fams (i+1)) (n+i+1) c (l - i - 1) false sv lg st (.slice (some ⟨g,0,none⟩) st.fams.length ca) w'):=fun bb W ho hd hw=>by
    rw [← HKI.out];refine writeS_on w0 gs gd _ _ _ c _ false sv lg st _ (17+21*sl+i) [bs8 (Lib.itoa ((sv:Int)+1)),bs8 (line (putE ⟨f1,f2,f3,f4,f5,f6,f7,f8,f9⟩))] bb 2 W hd (by have:=HSL2.out; have:=HI20.out; omega) hw (by simp) (Nat.le_refl _) (by rw [HJN.out]; have:=HEL.out; omega) ho (fun hc=>⟨HLI.out hc,by have:=(HLL.out hc).2; omega⟩) (by have:=HN.out; have:=HI20.out; omega) (fun F F' hF h1 h2=>?_)
    rw [HJN.out] at h1;rw [HFN.out];exact enc_blk hF _ ⟨by have:=HSL2.out; have:=HI20.out; omega,by have:=HSL2.out; have:=HI20.out; omega⟩ (sv+1) _ h1 h2
   generalize hLN:bs8 (line ⟨1,⟨f1,f2,f3,f4,f5,f6,f7,f8,f9⟩,0,0⟩)=LN at *;have HLN:Hid (bs8 (line (putE ⟨f1,f2,f3,f4,f5,f6,f7,f8,f9⟩))=LN):=hLN;clear hLN HBX HEV;go_wp2_with fail
   refine (hwe2 _ HB0.out.libs.base).mono ?_;rintro e2 w2 ⟨rfl,hb2⟩;have HD2:Hid _:=HB0.out.on hb2;clear hb2 hwe2 k0 k1 k2 k3 k4 k5 k6 k7 k8;go_wp2_with fail
   refine (hit _ HD2.out.libs.base).mono ?_;rintro e3 w3 ⟨rfl,hb3⟩;have HD3:Hid _:=HD2.out.on hb3;have HD4:Hid _:=HD3.out.on (w':=w3.alloc (.cells #[.string ⟨(Lib.itoa ((sv:Int)+1)).toArray⟩,.string LN] 9)) ((Below.refl _ _).alloc (Nat.le_refl _) _)
   have HWA:Hid (WordsAt (w3.alloc (.cells #[.string ⟨(Lib.itoa ((sv:Int)+1)).toArray⟩,.string LN] 9)) w3.heap.size [bs8 (Lib.itoa ((sv:Int)+1)),bs8 (line (putE ⟨f1,f2,f3,f4,f5,f6,f7,f8,f9⟩))]):=by
    rw [HLN.out];exact wordsAt_new w3 [bs8 (Lib.itoa ((sv:Int)+1)),LN] _
   clear hb3 hit p6
   cases ho:offB c (l - i) with
   |true=>
    have HO:Hid (offB c (l - i)=true):=ho;clear ho;go_wp2_with fail
    refine (HOFF.out _ _ HO.out HD4.out HWA.out).mono ?_;rintro e5 w5 ⟨rfl,hds⟩;have H5:Hid _:=hds;clear hds;go_wp2_with fail
    go_ret
    have hw:writesP (st.fams.length+1) ⟨st,lg,n,c,l,false⟩=(downP ⟨st,lg,n+i,c,l - i,false⟩,false):=by
     rw [HWP.out,writesP,if_pos (show offP ⟨st,lg,n+i,c,l - i,false⟩=true from HO.out)]
    have hsv:saveP ⟨st,lg,n,c,l,false⟩=(downP ⟨st,lg,n+i,c,l - i,false⟩,14):=by
     unfold saveP;rw [if_neg (by simp)]
     show (if (writesP (st.fams.length+1) _).2=true then _ else _)=_
     rw [hw];rfl
    refine ⟨_,rfl,by rw [hsv]; rfl,?_⟩
    rw [hsv];exact ⟨_,sv,b,es,HFI.out i (Nat.le_of_lt hlt),by omega,H5.out⟩
   |false=>
    have HO:Hid (offB c (l - i)=false):=ho;clear ho;go_wp2_with fail
    refine (HON.out _ _ HO.out HD4.out HWA.out).mono ?_;rintro e5 w5 ⟨rfl,hds⟩;have H5:Hid _:=hds;clear hds
    have HLN2:Hid (c=true→0≤l - ((i+1:Nat):Int)):=fun hc=>by
     have h1:=HLI.out hc;have h2:=HO.out;unfold offB at h2;rw [hc] at h2;have h3:l - i≠0:=by simpa using h2
     push_cast
     omega
    have HWN:Hid (writesP (st.fams.length+1) ⟨st,lg,n,c,l,false⟩=writesP (r+1) ⟨st,lg,n+(i+1),c,l - ((i+1:Nat):Int),false⟩):=by
     show _=_
     rw [HWP.out,HR.out,writesP,if_neg (show ¬ offP ⟨st,lg,n+i,c,l - i,false⟩=true by have:=HO.out; unfold offP; unfold offB at this; simp [this])]
     unfold wroteP;congr 2
     push_cast
     omega
    have HDN:Hid (DS w0 gs gd (fillA A (17+21*sl) (sv+1) st.fams (i+1)) (n+(i+1)) c (l - ((i+1:Nat):Int)) false sv lg st (.slice (some ⟨g,0,none⟩) st.fams.length ca) w5):=by
     have e:l - ((i+1:Nat):Int)=l - i - 1:=by push_cast; omega
     rw [e];exact H5.out
    go_wp2_with fail
    go_roundg r
    case measure=>have:=HR.out; omega
    case rel=>exact ⟨i+1,by have:=HJ.out; have:=HR.out; omega,by go_num,HWN,HLN2,HDN⟩
  ·obtain hie:i=st.fams.length:=by have:=HJ.out; omega
   subst hie;obtain rfl:gk=0:=by have:=HJ.out; omega
   have HJN:Hid (Lib.join (((hdWs (sv+1) st.clock st.next st.fams.length).map bs8).map (·.data.toList)) [32]=hdL (sv+1) st.clock st.next st.fams.length):=by show _=_; rw [map_bs8]; rfl
   have hhl:=hdL_len (s:=sv+1) (by push_cast; exact HSV.out) HI.out.good.clock (show okN (st.next - 1) from ⟨by have:=HI.out.good.next0; omega,by have:=HI.out.good.next1; omega⟩) HI.out.good.len
   have HHL:Hid ((hdL (sv+1) st.clock st.next st.fams.length).length≤55):=hhl;have HS1:Hid (((sv+1:Nat):Int)=(sv:Int)+1):=by show ((sv+1:Nat):Int)=_; push_cast; rfl
   have HL20:Hid (st.fams.length≤20):=by show st.fams.length≤20; omega
   have HOFF:Hid (offB c (l - (st.fams.length:Int))=true→∀ (W:World),DS w0 gs gd (fillA A (17+21*sl) (sv+1) st.fams st.fams.length) (n+st.fams.length) c (l - (st.fams.length:Int)) false sv lg st (.slice ba st.fams.length ca) W→
    Calls Tryz.prog 58 #[.pointer (some ⟨gs,0,none⟩),.int .i64 K,.int .i64 ((sv:Int)+1)] W fun r w'=>r=.returned (.iface 47 (.int .i64 14))∧DS w0 gs gd (fillA A (17+21*sl) (sv+1) st.fams st.fams.length) (n+st.fams.length) c (l - (st.fams.length:Int)) true sv lg st (.slice ba st.fams.length ca) w'):=fun ho W hd=>by
    rw [HKK.out,← HS1.out];refine writeHead_gen _ _ w0 gs gd _ _ c _ false sv lg st _ (16+21*sl) (sv+1) W hd HI.out.good (by push_cast; exact HSV.out) (fun bb W2 hd2 hw2=>?_)
    exact writeS_off w0 gs gd _ _ c _ false sv lg st _ (16+21*sl) ((hdWs (sv+1) st.clock st.next st.fams.length).map bs8) bb 4 W2 hd2 (by have:=HSL2.out; omega) hw2 (by simp [hdWs]) (by simp [hdWs]) (by rw [HJN.out]; have:=HHL.out; omega) ho
   have HON:Hid (offB c (l - (st.fams.length:Int))=false→∀ (W:World),DS w0 gs gd (fillA A (17+21*sl) (sv+1) st.fams st.fams.length) (n+st.fams.length) c (l - (st.fams.length:Int)) false sv lg st (.slice ba st.fams.length ca) W→
    Calls Tryz.prog 58 #[.pointer (some ⟨gs,0,none⟩),.int .i64 K,.int .i64 ((sv:Int)+1)] W fun r w'=>r=.returned .nilIface∧DS w0 gs gd ⟨(fillA A (17+21*sl) (sv+1) st.fams st.fams.length).blk,updN (fillA A (17+21*sl) (sv+1) st.fams st.fams.length).head sl (some (sv+1,st.clock,st.next,st.fams.length))⟩ (n+st.fams.length+1) c (l - (st.fams.length:Int) - 1) false sv lg st (.slice ba st.fams.length ca) w'):=fun ho W hd=>by
    rw [HKK.out,← HS1.out];refine writeHead_gen _ _ w0 gs gd _ _ c _ false sv lg st _ (16+21*sl) (sv+1) W hd HI.out.good (by push_cast; exact HSV.out) (fun bb W2 hd2 hw2=>?_)
    refine writeS_on w0 gs gd _ _ _ c _ false sv lg st _ (16+21*sl) ((hdWs (sv+1) st.clock st.next st.fams.length).map bs8) bb 4 W2 hd2 (by have:=HSL2.out; omega) hw2 (by simp [hdWs]) (by simp [hdWs]) (by rw [HJN.out]; have:=HHL.out; omega) ho (fun hc=>⟨HLI.out hc,by have:=(HLL.out hc).2; omega⟩) (by have:=HN.out; have:=HL20.out; omega) (fun F F' hF h1 h2=>?_)
    rw [HJN.out] at h1;exact enc_head hF sl HSL2.out (sv+1) st.clock st.next st.fams.length h1 h2
   clear hhl
   cases ho:offB c (l - (st.fams.length:Int)) with
   |true=>
    have HO:Hid (offB c (l - (st.fams.length:Int))=true):=ho;clear ho;go_wp2_with fail
    refine (HOFF.out HO.out _ HDS.out).mono ?_;rintro e5 w5 ⟨rfl,hds⟩;have H5:Hid _:=hds;clear hds;go_wp2_with fail
    go_ret
    have hw:writesP (st.fams.length+1) ⟨st,lg,n,c,l,false⟩=(downP ⟨st,lg,n+st.fams.length,c,l - (st.fams.length:Int),false⟩,false):=by
     rw [HWP.out,writesP,if_pos (show offP ⟨st,lg,n+st.fams.length,c,l - (st.fams.length:Int),false⟩=true from HO.out)]
    have hsv:saveP ⟨st,lg,n,c,l,false⟩=(downP ⟨st,lg,n+st.fams.length,c,l - (st.fams.length:Int),false⟩,14):=by
     unfold saveP;rw [if_neg (by simp)]
     show (if (writesP (st.fams.length+1) _).2=true then _ else _)=_
     rw [hw];rfl
    refine ⟨_,rfl,by rw [hsv]; rfl,?_⟩
    rw [hsv];exact ⟨_,sv,b,es,HFI.out _ (Nat.le_refl _),by omega,H5.out⟩
   |false=>
    have HO:Hid (offB c (l - (st.fams.length:Int))=false):=ho;clear ho;go_wp2_with fail
    refine (HON.out HO.out _ HDS.out).mono ?_;rintro e5 w5 ⟨rfl,hds⟩;have H5:Hid _:=hds;have p2:=hds.store.p2;have p3:=hds.store.p3;have pf:=hds.store.pf;have H6:Hid _:=hds.own (below1 gs 2 (.int .i64 ((sv+1:Nat):Int)) _) (keep1 gs 2 _ _) (hds.store.putSaves (sv':=sv+1));have H7:Hid _:=H6.out.own (below1 gs 3 (.int .i64 ((0:Nat):Int)) _) (keep1 gs 3 _ _) (H6.out.store.putLog (lg':=0));have H8:=H7.out;rw [HS1.out] at H8;have HF8:Hid _:=H8;clear hds H8;go_wp2_with fail
    go_ret
    have hw:writesP (st.fams.length+1) ⟨st,lg,n,c,l,false⟩=(wroteP ⟨st,lg,n+st.fams.length,c,l - (st.fams.length:Int),false⟩,true):=by
     rw [HWP.out,writesP,if_neg (show ¬ offP ⟨st,lg,n+st.fams.length,c,l - (st.fams.length:Int),false⟩=true by have:=HO.out; unfold offP; unfold offB at this; simp [this])]
     rfl
    have hsv:saveP ⟨st,lg,n,c,l,false⟩=(emptyLogP (wroteP ⟨st,lg,n+st.fams.length,c,l - (st.fams.length:Int),false⟩),0):=by
     unfold saveP;rw [if_neg (by simp)]
     show (if (writesP (st.fams.length+1) _).2=true then _ else _)=_
     rw [hw];rfl
    refine ⟨_,rfl,by rw [hsv]; rfl,?_⟩
    rw [hsv];exact ⟨_,sv+1,st,[],HFD.out,by omega,HF8.out⟩
end Go.Proofs.YtlailakofhenkabGreatDoor
