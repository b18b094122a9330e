import Derived.Test.YtlailakofhenkabGreatDoorB28
set_option maxRecDepth 100000
set_option maxHeartbeats 16000000
namespace Go.Proofs.YtlailakofhenkabGreatDoor
open Go Go.RowKit Ev
theorem refApply_1 {B:Nat} {w:World} {v:Value} {l:List Fam} (c n:Int) (f:Fam) (h:Fams B w v l) (hr:Rising l) (hn:l.length≤5000) (hf:0≤f.id∧f.id≤1099511627776) :
 Calls Tryz.prog 141 #[stV c n v,evV ⟨1,f,0,0⟩] w fun r w'=>∃ v',r=.returned (stV c (if n≤f.id then f.id+1 else n) v')∧Fams w.heap.size w' v' (putP l f)∧Below w.heap.size w w':=by
 obtain ⟨i0,hi,hz0,hz1,hz2⟩:=info_fam;have HRA:Hid _:=ra_made w c n v l ⟨1,f,0,0⟩ h 36 154 36 34;have HPS:Hid (∀ d:List Fam,d.Perm (dropP l f.id ++ [f])→Asc d→d=putP l f):=fun d h1 h2=>put_sorted hr h1 h2;obtain ⟨base,cap,rfl⟩:=h.slice;clear h hr;have HFI:Hid (0≤f.id∧f.id≤1099511627776):=hf;have HE:Hid (EvAt _ _ _):=HRA.out.ab.ev;obtain ⟨f1,f2,f3,f4,f5,f6,f7,f8,f9⟩:=f;unfold evV evCs stV;simp only at hf ⊢;obtain ⟨hf0,hf1⟩:=hf;go_enter Tryz.func141,Tryz.ntmps141
 go_wp2_with fail
 clear HE;go_loopg [24] l.length (fun gk iv wr=>∃ (j:Nat) (vl:Value),j+gk=l.length∧iv=.int .i64 j∧Hid (RA w c n (.slice base l.length cap) l ⟨1,⟨f1,f2,f3,f4,f5,f6,f7,f8,f9⟩,0,0⟩ vl (dropP (l.take j) f1) wr))
 case atStart=>exact ⟨0,_,by omega,rfl,HRA.out⟩
 case round=>
  obtain ⟨j,vl,hj,rfl,HR⟩:=hrel;obtain ⟨bl,cl,rfl⟩:=HR.out.fl.slice
  have hdl:(dropP (l.take j) f1).length≤5000:=by
   have h1:=drop_len (l.take j) f1;rw [List.length_take] at h1;omega
  have HJ:Hid (j+gk=l.length):=hj;have hjl:j≤l.length:=by omega
  clear hj HRA;by_cases hlt:j<l.length
  ·have hltI:(j:Int)<(l.length:Int):=by omega
   obtain ⟨g,rfl,hc⟩:=HR.out.src.fam j hlt;have HDT:Hid (dropP (l.take (j+1)) f1=dropP (l.take j) f1 ++ (if l[j].id=f1 then [] else [l[j]])):=dropP_take l f1 j hlt
   generalize l[j]=y at *;obtain ⟨y1,y2,y3,y4,y5,y6,y7,y8,y9⟩:=y;have q0:=hc.c0; have q1:=hc.c1; have q2:=hc.c2; have q3:=hc.c3; have q4:=hc.c4; have q5:=hc.c5; have q6:=hc.c6; have q7:=hc.c7; have q8:=hc.c8;simp only at q0 q1 q2 q3 q4 q5 q6 q7 q8;have HR1:Hid (RA w c n _ l _ _ _ (wr.alloc (.cells #[.int .i64 y1,.string y2,.string y3,.string y4,.int .i64 y5,.int .i64 y6,.int .i64 y7,.string y8,.bool y9] 40))):=HR.out.on ((Below.refl _ _).alloc (Nat.le_refl _) _);have e0:=HR1.out.ab.ev.fam.c0;have e1:=HR1.out.l0;have e2:=HR1.out.lf;simp only at e0;clear hc;by_cases hid:y1=f1
   ·have HDT2:Hid (dropP (l.take (j+1)) f1=dropP (l.take j) f1):=by show _=_; rw [HDT.out,if_pos hid,List.append_nil]
    have hidb:(y1 == f1)=true:=by rw [beq_iff_eq]; exact hid
    clear hid;go_wp2_with fail
    go_roundg (gk - 1)
    case measure=>have:=HJ.out; omega
    case rel=>exact ⟨j+1,_,by have:=HJ.out; omega,by go_num,by show RA _ _ _ _ _ _ _ _ _; rw [HDT2.out]; exact HR1.out⟩
   ·have HDT2:Hid (dropP (l.take (j+1)) f1=dropP (l.take j) f1 ++ [⟨y1,y2,y3,y4,y5,y6,y7,y8,y9⟩]):=by show _=_; rw [HDT.out,if_neg hid]
    have hidb:(y1 == f1)=false:=by rw [beq_eq_false_iff_ne]; exact hid
    clear hid;have HR2:Hid (RA w c n _ l _ _ _ ((wr.alloc (.cells #[.int .i64 y1,.string y2,.string y3,.string y4,.int .i64 y5,.int .i64 y6,.int .i64 y7,.string y8,.bool y9] 40)).alloc (.cells #[.int .i64 y1,.string y2,.string y3,.string y4,.int .i64 y5,.int .i64 y6,.int .i64 y7,.string y8,.bool y9] 40))):=HR1.out.on ((Below.refl _ _).alloc (Nat.le_refl _) _)
    have hsrc:Src Tryz.prog 9 34 (.slice (some ⟨wr.heap.size+1,0,none⟩) 1 1) 1 (famCs ⟨y1,y2,y3,y4,y5,y6,y7,y8,y9⟩) ((wr.alloc (.cells #[.int .i64 y1,.string y2,.string y3,.string y4,.int .i64 y5,.int .i64 y6,.int .i64 y7,.string y8,.bool y9] 40)).alloc (.cells #[.int .i64 y1,.string y2,.string y3,.string y4,.int .i64 y5,.int .i64 y6,.int .i64 y7,.string y8,.bool y9] 40)):=Src.ofSlice _ Tryz.underlying34 ⟨wr.heap.size+1,0,none⟩ 1 1 _ (by simp [famCs_len]) (fun k u hk=>by
     rw [Addr.add_lit,Nat.zero_add,World.cell?_alloc_at _ _ _ _ (by simp)]
     simpa [famCs] using hk) (famCs_one _)
    go_wp2_with (at_builtin; refine wpList_append_rowsK _ rfl _ _ 34 rfl 40 i0 _ 9 i0.bytes Tryz.underlying34 hi hz0 hz1 rfl zero_cells (w.heap.size+4) _ _ _ rfl HR2.out.fl HR2.out.ab.size _ 1 (famCs ⟨y1,y2,y3,y4,y5,y6,y7,y8,y9⟩) rfl hsrc (by omega) (by omega) ?_)
    intro v' w3 h7 h8 h9;have HRB:Hid _:=HR2.out.rb h8
    have hff:Fams (w.heap.size+4) w3 v' (dropP (l.take (j+1)) f1):=by
     show RowsK _ _ _ _ _ _
     rw [HDT2.out,List.length_append,List.length_singleton,famsCs_app,famsCs_one1];exact h7
    obtain ⟨b3,c3,rfl⟩:=hff.slice;have HR3:Hid _:=HRB.out.put hff;have z1:=HRB.out.l0;have z2:=HRB.out.lf;clear h7 h8 h9 hff hsrc e0 e1 e2 q0 q1 q2 q3 q4 q5 q6 q7 q8;go_wp2_with fail
    go_roundg (gk - 1)
    case measure=>have:=HJ.out; omega
    case rel=>exact ⟨j+1,_,by have:=HJ.out; omega,by go_num,HR3.out⟩
  ·obtain rfl:j=l.length:=by omega
   have hrr:=HR.out;rw [List.take_of_length_le (Nat.le_refl _)] at hrr hdl;have HRE:Hid _:=hrr;clear hrr HR HJ hlt;have e1:=HRE.out.l0;have e2:=HRE.out.lf;have a1:=HRE.out.ab.ev.fam.c0;have a2:=HRE.out.ab.ev.fam.c1;have a3:=HRE.out.ab.ev.fam.c2;have a4:=HRE.out.ab.ev.fam.c3;have a5:=HRE.out.ab.ev.fam.c4;have a6:=HRE.out.ab.ev.fam.c5;have a7:=HRE.out.ab.ev.fam.c6;have a8:=HRE.out.ab.ev.fam.c7;have a9:=HRE.out.ab.ev.fam.c8;simp only at a1 a2 a3 a4 a5 a6 a7 a8 a9;have HR2:Hid _:=HRE.out.on ((Below.refl _ _).alloc (Nat.le_refl _) (.cells #[.int .i64 f1,.string f2,.string f3,.string f4,.int .i64 f5,.int .i64 f6,.int .i64 f7,.string f8,.bool f9] 40))
   have hsrc:Src Tryz.prog 9 34 (.slice (some ⟨wr.heap.size,0,none⟩) 1 1) 1 (famCs ⟨f1,f2,f3,f4,f5,f6,f7,f8,f9⟩) (wr.alloc (.cells #[.int .i64 f1,.string f2,.string f3,.string f4,.int .i64 f5,.int .i64 f6,.int .i64 f7,.string f8,.bool f9] 40)):=Src.ofSlice _ Tryz.underlying34 ⟨wr.heap.size,0,none⟩ 1 1 _ (by simp [famCs_len]) (fun k u hk=>by
    rw [Addr.add_lit,Nat.zero_add,World.cell?_alloc_at _ _ _ _ rfl];simpa [famCs] using hk) (famCs_one _)
   go_wp2_with (at_builtin; refine wpList_append_rowsK _ rfl _ _ 34 rfl 40 i0 _ 9 i0.bytes Tryz.underlying34 hi hz0 hz1 rfl zero_cells (w.heap.size+4) _ _ _ rfl HR2.out.fl HR2.out.ab.size _ 1 (famCs ⟨f1,f2,f3,f4,f5,f6,f7,f8,f9⟩) rfl hsrc (by omega) (by omega) ?_)
   intro v' w3 h7 h8 h9;have HRB:Hid _:=HR2.out.rb h8
   have hff:Fams (w.heap.size+4) w3 v' (dropP l f1 ++ [⟨f1,f2,f3,f4,f5,f6,f7,f8,f9⟩]):=by
    show RowsK _ _ _ _ _ _
    rw [List.length_append,List.length_singleton,famsCs_app,famsCs_one1];exact h7
   have hlen:(dropP l f1 ++ [(⟨f1,f2,f3,f4,f5,f6,f7,f8,f9⟩:Fam)]).length≤100000:=by rw [List.length_append,List.length_singleton]; omega
   have HPS2:Hid (∀ d:List Fam,d.Perm (dropP l f1 ++ [⟨f1,f2,f3,f4,f5,f6,f7,f8,f9⟩])→Asc d→d=putP l ⟨f1,f2,f3,f4,f5,f6,f7,f8,f9⟩):=HPS.out;have hpos:0<(dropP l f1 ++ [(⟨f1,f2,f3,f4,f5,f6,f7,f8,f9⟩:Fam)]).length:=by simp
   have hdne:(dropP l f1 ++ [(⟨f1,f2,f3,f4,f5,f6,f7,f8,f9⟩:Fam)]).length=(dropP l f1 ++ [(⟨f1,f2,f3,f4,f5,f6,f7,f8,f9⟩:Fam)]).length:=rfl;clear HPS;generalize dropP l f1 ++ [(⟨f1,f2,f3,f4,f5,f6,f7,f8,f9⟩:Fam)]=L at *;rcases hff with ⟨_,h0,_⟩ | ⟨gl,c3,rfl,hrow⟩
   ·omega
   have HR3:Hid (RA w c n _ l _ _ L (w3.setCell ⟨w.heap.size+3,0,none⟩ (.slice (some ⟨gl,0,none⟩) L.length c3))):=HRB.out.put (.inr ⟨gl,c3,rfl,hrow⟩);have z1:=HRB.out.l0;have z2:=HRB.out.lf;have z3:=HR3.out.l0;have hgl:w.heap.size+4≤gl:=hrow.new;have hrow2:RowK 9 (w.heap.size+4) (w3.setCell ⟨w.heap.size+3,0,none⟩ (.slice (some ⟨gl,0,none⟩) L.length c3)) gl c3 L.length (famsCs L):=hrow.block (by simp [World.setCell]) (Below.heap_setCell _ _ _ _ (by show gl≠w.heap.size+3; omega))
   have hsort:=sort_fams hrow2 hlen z3 (by omega)
   clear h7 h8 h9 hrow hrow2 hsrc e1 e2 a1 a2 a3 a4 a5 a6 a7 a8 a9 hpos hdne hlen;go_wp2_with fail
   refine hsort.mono ?_;rintro e5 w5 ⟨rfl,d,hd1,hd2,hd3,hd4⟩;obtain rfl:d=putP l ⟨f1,f2,f3,f4,f5,f6,f7,f8,f9⟩:=HPS2.out d hd1 hd2;have HRBF:Hid _:=HR3.out.rb hd4;have hpl:=hd1.length_eq;generalize hpp:putP l ⟨f1,f2,f3,f4,f5,f6,f7,f8,f9⟩=D at *;have HPP:Hid (putP l ⟨f1,f2,f3,f4,f5,f6,f7,f8,f9⟩=D):=hpp;have HF5:Hid (RowsK 9 (w.heap.size+4) w5 (.slice (some ⟨gl,0,none⟩) L.length c3) D.length (famsCs D)):=.inr ⟨gl,c3,by rw [hpl],hd3⟩
   clear hpl hpp;have s0:=HRBF.out.ab.s0;have s1:=HRBF.out.ab.s1;have s2:=HRBF.out.ab.s2;have k1:=HRBF.out.ab.ev.fam.c0;have fz:=HRBF.out.ab.fs;have fr:∀ i,w5.frozen? ⟨w.heap.size+1+1,i,none⟩=false:=HRBF.out.ab.fr;have r0:w5.cell? ⟨w.heap.size+1+1,0,none⟩=_:=HRBF.out.ab.r0;have r1:w5.cell? ⟨w.heap.size+1+1,1,none⟩=_:=HRBF.out.ab.r1;have r2:w5.cell? ⟨w.heap.size+1+1,2,none⟩=_:=HRBF.out.ab.r2;have l0:=HRBF.out.l0;have HB5:Hid (Below w.heap.size w w5):=HRBF.out.below;simp only at k1;have HSET:Hid (∀ (W:World) (g i:Nat) (u:Value),g<w.heap.size+4→RowsK 9 (w.heap.size+4) W (.slice (some ⟨gl,0,none⟩) L.length c3) D.length (famsCs D)→RowsK 9 (w.heap.size+4) (W.setCell ⟨g,i,none⟩ u) (.slice (some ⟨gl,0,none⟩) L.length c3) D.length (famsCs D)):=fun W g i u hg hw=>hw.other (a:=⟨g,i,none⟩) hg u
   clear hd1 hd2 hd3 hd4 z1 z2 z3 hgl hsort HRBF;generalize hb:w.heap.size=b at *;have HWB:Hid (w.heap.size=b):=hb;clear hb;by_cases hnx:n≤f1
   ·have HX:Hid ((if n≤f1 then f1+1 else n)=f1+1):=if_pos hnx
    have HFN:Hid (RowsK 9 b (((((w5.setCell ⟨b,1,none⟩ (.int .i64 (f1+1))).setCell ⟨b,2,none⟩ (.slice (some ⟨gl,0,none⟩) L.length c3)).setCell ⟨b+1+1,0,none⟩ (.int .i64 c)).setCell ⟨b+1+1,1,none⟩ (.int .i64 (f1+1))).setCell ⟨b+1+1,2,none⟩ (.slice (some ⟨gl,0,none⟩) L.length c3)) (.slice (some ⟨gl,0,none⟩) L.length c3) D.length (famsCs D)):=by
     refine RowsK.mono (B:=b+4) ?_ (by omega)
     repeat (first | exact HF5.out | refine HSET.out _ _ _ _ (by omega) ?_)
    have HBN:Hid (Below b w (((((w5.setCell ⟨b,1,none⟩ (.int .i64 (f1+1))).setCell ⟨b,2,none⟩ (.slice (some ⟨gl,0,none⟩) L.length c3)).setCell ⟨b+1+1,0,none⟩ (.int .i64 c)).setCell ⟨b+1+1,1,none⟩ (.int .i64 (f1+1))).setCell ⟨b+1+1,2,none⟩ (.slice (some ⟨gl,0,none⟩) L.length c3))):=by
     show Below _ _ _
     repeat (first | exact HB5.out | refine Below.setCell ?_ (by simp; try omega) _)
    go_wp2_with fail
    obtain ⟨q0,q1,q2⟩:=@three_set ((w5.setCell ⟨b,1,none⟩ (.int .i64 (f1+1))).setCell ⟨b,2,none⟩ (.slice (some ⟨gl,0,none⟩) L.length c3)) (b+1+1) (.int .i64 c) (.int .i64 (f1+1)) (.slice (some ⟨gl,0,none⟩) L.length c3) _ _ _ (set_other (set_other r0 (by omega)) (by omega)) (set_other (set_other r1 (by omega)) (by omega)) (set_other (set_other r2 (by omega)) (by omega))
    have HFN2:=HFN.out;have HBN2:=HBN.out;clear HFN HBN s0 s1 s2 fz fr r0 r1 r2 l0;generalize World.setCell _ ⟨b+1+1,2,none⟩ _=WW at *;exact bodyPost_ret (v:=.agg #[.int .i64 c,.int .i64 (f1+1),.slice (some ⟨gl,0,none⟩) L.length c3]) (by simp [results,Tryz.results141,go_sem,q0,q1,q2]) rfl ⟨_,rfl,by rw [HWB.out]; first | exact HFN2 | (rw [HPP.out]; exact HFN2),by rw [HWB.out]; exact HBN2⟩
   ·have HX:Hid ((if n≤f1 then f1+1 else n)=n):=if_neg hnx
    have hnx2:¬ n≤f1:=hnx
    have HFN:Hid (RowsK 9 b ((((w5.setCell ⟨b,2,none⟩ (.slice (some ⟨gl,0,none⟩) L.length c3)).setCell ⟨b+1+1,0,none⟩ (.int .i64 c)).setCell ⟨b+1+1,1,none⟩ (.int .i64 n)).setCell ⟨b+1+1,2,none⟩ (.slice (some ⟨gl,0,none⟩) L.length c3)) (.slice (some ⟨gl,0,none⟩) L.length c3) D.length (famsCs D)):=by
     refine RowsK.mono (B:=b+4) ?_ (by omega)
     repeat (first | exact HF5.out | refine HSET.out _ _ _ _ (by omega) ?_)
    have HBN:Hid (Below b w ((((w5.setCell ⟨b,2,none⟩ (.slice (some ⟨gl,0,none⟩) L.length c3)).setCell ⟨b+1+1,0,none⟩ (.int .i64 c)).setCell ⟨b+1+1,1,none⟩ (.int .i64 n)).setCell ⟨b+1+1,2,none⟩ (.slice (some ⟨gl,0,none⟩) L.length c3))):=by
     show Below _ _ _
     repeat (first | exact HB5.out | refine Below.setCell ?_ (by simp; try omega) _)
    go_wp2_with fail
    obtain ⟨q0,q1,q2⟩:=@three_set (w5.setCell ⟨b,2,none⟩ (.slice (some ⟨gl,0,none⟩) L.length c3)) (b+1+1) (.int .i64 c) (.int .i64 n) (.slice (some ⟨gl,0,none⟩) L.length c3) _ _ _ (set_other r0 (by omega)) (set_other r1 (by omega)) (set_other r2 (by omega))
    have HFN2:=HFN.out;have HBN2:=HBN.out;clear HFN HBN s0 s1 s2 fz fr r0 r1 r2 l0;generalize World.setCell _ ⟨b+1+1,2,none⟩ _=WW at *;exact bodyPost_ret (v:=.agg #[.int .i64 c,.int .i64 n,.slice (some ⟨gl,0,none⟩) L.length c3]) (by simp [results,Tryz.results141,go_sem,q0,q1,q2]) rfl ⟨_,rfl,by rw [HWB.out]; first | exact HFN2 | (rw [HPP.out]; exact HFN2),by rw [HWB.out]; exact HBN2⟩
theorem refApply_2 {B:Nat} {w:World} {v:Value} {l:List Fam} (c n d:Int) (h:Fams B w v l) (hn:l.length≤5000) :
 Calls Tryz.prog 141 #[stV c n v,evV ⟨2,zeroF,d,0⟩] w fun r w'=>∃ v',r=.returned (stV c n v')∧Fams w.heap.size w' v' (dropP l d)∧Below w.heap.size w w':=by
 obtain ⟨i0,hi,hz0,hz1,hz2⟩:=info_fam;have HRA:Hid _:=ra_made w c n v l ⟨2,zeroF,d,0⟩ h 36 154 36 34;obtain ⟨base,cap,rfl⟩:=h.slice;clear h;have HE:Hid (EvAt _ _ _):=HRA.out.ab.ev;have HRA0:Hid _:=HRA.out;unfold evV evCs stV;unfold zeroF at HRA0;simp only [zeroF];simp only at HRA0;go_enter Tryz.func141,Tryz.ntmps141
 go_wp2_with fail
 clear HE;go_loopg [64] l.length (fun gk iv wr=>∃ (j:Nat) (vl:Value),j+gk=l.length∧iv=.int .i64 j∧Hid (RA w c n (.slice base l.length cap) l ⟨2,zeroF,d,0⟩ vl (dropP (l.take j) d) wr))
 case atStart=>exact ⟨0,_,by omega,rfl,HRA.out⟩
 case round=>
  obtain ⟨j,vl,hj,rfl,HR⟩:=hrel;obtain ⟨bl,cl,rfl⟩:=HR.out.fl.slice
  have hdl:(dropP (l.take j) d).length≤5000:=by
   have h1:=drop_len (l.take j) d;rw [List.length_take] at h1;omega
  have HJ:Hid (j+gk=l.length):=hj;have hjl:j≤l.length:=by omega
  clear hj HRA;by_cases hlt:j<l.length
  ·have hltI:(j:Int)<(l.length:Int):=by omega
   obtain ⟨g,rfl,hc⟩:=HR.out.src.fam j hlt;have HDT:Hid (dropP (l.take (j+1)) d=dropP (l.take j) d ++ (if l[j].id=d then [] else [l[j]])):=dropP_take l d j hlt
   generalize l[j]=y at *;obtain ⟨y1,y2,y3,y4,y5,y6,y7,y8,y9⟩:=y;have q0:=hc.c0; have q1:=hc.c1; have q2:=hc.c2; have q3:=hc.c3; have q4:=hc.c4; have q5:=hc.c5; have q6:=hc.c6; have q7:=hc.c7; have q8:=hc.c8;simp only at q0 q1 q2 q3 q4 q5 q6 q7 q8;have HR1:Hid (RA w c n _ l _ _ _ (wr.alloc (.cells #[.int .i64 y1,.string y2,.string y3,.string y4,.int .i64 y5,.int .i64 y6,.int .i64 y7,.string y8,.bool y9] 40))):=HR.out.on ((Below.refl _ _).alloc (Nat.le_refl _) _);have e0:=HR1.out.ab.ev.c10;have e1:=HR1.out.l0;have e2:=HR1.out.lf;simp only at e0;clear hc;by_cases hid:y1=d
   ·have HDT2:Hid (dropP (l.take (j+1)) d=dropP (l.take j) d):=by show _=_; rw [HDT.out,if_pos hid,List.append_nil]
    have hidb:(y1 == d)=true:=by rw [beq_iff_eq]; exact hid
    clear hid;go_wp2_with fail
    go_roundg (gk - 1)
    case measure=>have:=HJ.out; omega
    case rel=>exact ⟨j+1,_,by have:=HJ.out; omega,by go_num,by show RA _ _ _ _ _ _ _ _ _; rw [HDT2.out]; exact HR1.out⟩
   ·have HDT2:Hid (dropP (l.take (j+1)) d=dropP (l.take j) d ++ [⟨y1,y2,y3,y4,y5,y6,y7,y8,y9⟩]):=by show _=_; rw [HDT.out,if_neg hid]
    have hidb:(y1 == d)=false:=by rw [beq_eq_false_iff_ne]; exact hid
    clear hid;have HR2:Hid (RA w c n _ l _ _ _ ((wr.alloc (.cells #[.int .i64 y1,.string y2,.string y3,.string y4,.int .i64 y5,.int .i64 y6,.int .i64 y7,.string y8,.bool y9] 40)).alloc (.cells #[.int .i64 y1,.string y2,.string y3,.string y4,.int .i64 y5,.int .i64 y6,.int .i64 y7,.string y8,.bool y9] 40))):=HR1.out.on ((Below.refl _ _).alloc (Nat.le_refl _) _)
    have hsrc:Src Tryz.prog 9 34 (.slice (some ⟨wr.heap.size+1,0,none⟩) 1 1) 1 (famCs ⟨y1,y2,y3,y4,y5,y6,y7,y8,y9⟩) ((wr.alloc (.cells #[.int .i64 y1,.string y2,.string y3,.string y4,.int .i64 y5,.int .i64 y6,.int .i64 y7,.string y8,.bool y9] 40)).alloc (.cells #[.int .i64 y1,.string y2,.string y3,.string y4,.int .i64 y5,.int .i64 y6,.int .i64 y7,.string y8,.bool y9] 40)):=Src.ofSlice _ Tryz.underlying34 ⟨wr.heap.size+1,0,none⟩ 1 1 _ (by simp [famCs_len]) (fun k u hk=>by
     rw [Addr.add_lit,Nat.zero_add,World.cell?_alloc_at _ _ _ _ (by simp)]
     simpa [famCs] using hk) (famCs_one _)
    go_wp2_with (at_builtin; refine wpList_append_rowsK _ rfl _ _ 34 rfl 40 i0 _ 9 i0.bytes Tryz.underlying34 hi hz0 hz1 rfl zero_cells (w.heap.size+4) _ _ _ rfl HR2.out.fl HR2.out.ab.size _ 1 (famCs ⟨y1,y2,y3,y4,y5,y6,y7,y8,y9⟩) rfl hsrc (by omega) (by omega) ?_)
    intro v' w3 h7 h8 h9;have HRB:Hid _:=HR2.out.rb h8
    have hff:Fams (w.heap.size+4) w3 v' (dropP (l.take (j+1)) d):=by
     show RowsK _ _ _ _ _ _
     rw [HDT2.out,List.length_append,List.length_singleton,famsCs_app,famsCs_one1];exact h7
    obtain ⟨b3,c3,rfl⟩:=hff.slice;have HR3:Hid _:=HRB.out.put hff;have z1:=HRB.out.l0;have z2:=HRB.out.lf;clear h7 h8 h9 hff hsrc e0 e1 e2 q0 q1 q2 q3 q4 q5 q6 q7 q8;go_wp2_with fail
    go_roundg (gk - 1)
    case measure=>have:=HJ.out; omega
    case rel=>exact ⟨j+1,_,by have:=HJ.out; omega,by go_num,HR3.out⟩
  ·obtain rfl:j=l.length:=by omega
   have hrr:=HR.out;rw [List.take_of_length_le (Nat.le_refl _)] at hrr hdl;have HRE:Hid _:=hrr;clear hrr HR HJ hlt;generalize hpp:dropP l d=D at *;have HPP:Hid (dropP l d=D):=hpp;have HF5:Hid (Fams (w.heap.size+4) wr (.slice bl D.length cl) D):=HRE.out.fl;have s0:=HRE.out.ab.s0;have s1:=HRE.out.ab.s1;have s2:=HRE.out.ab.s2;have fz:=HRE.out.ab.fs;have fr:∀ i,wr.frozen? ⟨w.heap.size+1+1,i,none⟩=false:=HRE.out.ab.fr;have r0:wr.cell? ⟨w.heap.size+1+1,0,none⟩=_:=HRE.out.ab.r0;have r1:wr.cell? ⟨w.heap.size+1+1,1,none⟩=_:=HRE.out.ab.r1;have r2:wr.cell? ⟨w.heap.size+1+1,2,none⟩=_:=HRE.out.ab.r2;have l0:=HRE.out.l0;have HB5:Hid (Below w.heap.size w wr):=HRE.out.below
   have HSET:Hid (∀ (W:World) (g i:Nat) (u:Value),g<w.heap.size+4→Fams (w.heap.size+4) W (.slice bl D.length cl) D→Fams (w.heap.size+4) (W.setCell ⟨g,i,none⟩ u) (.slice bl D.length cl) D):=fun W g i u hg hw=>hw.other (a:=⟨g,i,none⟩) hg u;clear hpp HRE hdl;generalize hb:w.heap.size=b at *;have HWB:Hid (w.heap.size=b):=hb;clear hb
   have HFN:Hid (Fams b ((((wr.setCell ⟨b,2,none⟩ (.slice bl D.length cl)).setCell ⟨b+1+1,0,none⟩ (.int .i64 c)).setCell ⟨b+1+1,1,none⟩ (.int .i64 n)).setCell ⟨b+1+1,2,none⟩ (.slice bl D.length cl)) (.slice bl D.length cl) D):=by
    refine RowsK.mono (B:=b+4) ?_ (by omega)
    repeat (first | exact HF5.out | refine HSET.out _ _ _ _ (by omega) ?_)
   have HBN:Hid (Below b w ((((wr.setCell ⟨b,2,none⟩ (.slice bl D.length cl)).setCell ⟨b+1+1,0,none⟩ (.int .i64 c)).setCell ⟨b+1+1,1,none⟩ (.int .i64 n)).setCell ⟨b+1+1,2,none⟩ (.slice bl D.length cl))):=by
    show Below _ _ _
    repeat (first | exact HB5.out | refine Below.setCell ?_ (by simp; try omega) _)
   go_wp2_with fail
   obtain ⟨q0,q1,q2⟩:=@three_set (wr.setCell ⟨b,2,none⟩ (.slice bl D.length cl)) (b+1+1) (.int .i64 c) (.int .i64 n) (.slice bl D.length cl) _ _ _ (set_other r0 (by omega)) (set_other r1 (by omega)) (set_other r2 (by omega))
   have HFN2:=HFN.out;have HBN2:=HBN.out;clear HFN HBN s0 s1 s2 fz fr r0 r1 r2 l0;generalize World.setCell _ ⟨b+1+1,2,none⟩ _=WW at *;exact bodyPost_ret (v:=.agg #[.int .i64 c,.int .i64 n,.slice bl D.length cl]) (by simp [results,Tryz.results141,go_sem,q0,q1,q2]) rfl ⟨_,rfl,by rw [HWB.out]; first | exact HFN2 | (rw [HPP.out]; exact HFN2),by rw [HWB.out]; exact HBN2⟩
theorem refApply_3 {B:Nat} {w:World} {v:Value} {l:List Fam} (c n d:Int) (h:Fams B w v l) (hn:l.length≤5000) :
 Calls Tryz.prog 141 #[stV c n v,evV ⟨3,zeroF,0,d⟩] w fun r w'=>∃ v',r=.returned (stV d n v')∧Fams w.heap.size w' v' l∧Below w.heap.size w w':=by
 obtain ⟨i0,hi,hz0,hz1,hz2⟩:=info_fam;have HRA:Hid _:=ra_made w c n v l ⟨3,zeroF,0,d⟩ h 36 154 36 34;obtain ⟨base,cap,rfl⟩:=h.slice;clear h;have hsrc:=HRA.out.src.src;have hfl:=HRA.out.fl;have hsz:=HRA.out.ab.size;unfold zeroF at hsrc hfl hsz;unfold evV evCs stV;simp only [zeroF];simp only at hsrc hfl hsz;go_enter Tryz.func141,Tryz.ntmps141
 go_wp2_with (at_builtin; refine wpList_append_rowsK _ rfl _ _ 34 rfl 40 i0 _ 9 i0.bytes Tryz.underlying34 hi hz0 hz1 rfl zero_cells (w.heap.size+4) _ _ _ rfl hfl hsz _ l.length (famsCs l) rfl hsrc (by first | omega | (simp; done) | (simp; omega)) (by first | omega | (simp; done) | (simp; omega)) ?_)
 intro v' w3 h7 h8 h9;have HRB:Hid _:=HRA.out.rb h8
 have hff:Fams (w.heap.size+4) w3 v' l:=by
  show RowsK _ _ _ _ _ _
  simpa [famsCs] using h7
 obtain ⟨bl,cl,rfl⟩:=hff.slice;have HR3:Hid _:=HRB.out.put hff;have z1:=HRB.out.l0;have z2:=HRB.out.lf;clear h7 h8 h9 hff hsrc HRA hfl hsz;have s0:=HRB.out.ab.s0;have s1:=HRB.out.ab.s1;have s2:=HRB.out.ab.s2;have k1:=HRB.out.ab.ev.c11;have fz:=HRB.out.ab.fs;have fr:∀ i,w3.frozen? ⟨w.heap.size+1+1,i,none⟩=false:=HRB.out.ab.fr;have r0:w3.cell? ⟨w.heap.size+1+1,0,none⟩=_:=HRB.out.ab.r0;have r1:w3.cell? ⟨w.heap.size+1+1,1,none⟩=_:=HRB.out.ab.r1;have r2:w3.cell? ⟨w.heap.size+1+1,2,none⟩=_:=HRB.out.ab.r2;simp only at k1;have HF5:Hid (Fams (w.heap.size+4) (w3.setCell ⟨w.heap.size+3,0,none⟩ (.slice bl l.length cl)) (.slice bl l.length cl) l):=HR3.out.fl;have HB5:Hid (Below w.heap.size w (w3.setCell ⟨w.heap.size+3,0,none⟩ (.slice bl l.length cl))):=HR3.out.below
 have HSET:Hid (∀ (W:World) (g i:Nat) (u:Value),g<w.heap.size+4→Fams (w.heap.size+4) W (.slice bl l.length cl) l→Fams (w.heap.size+4) (W.setCell ⟨g,i,none⟩ u) (.slice bl l.length cl) l):=fun W g i u hg hw=>hw.other (a:=⟨g,i,none⟩) hg u;clear HRB HR3;generalize hb:w.heap.size=b at *;have HWB:Hid (w.heap.size=b):=hb;clear hb
 have HFN:Hid (Fams b ((((((w3.setCell ⟨b+1+1+1,0,none⟩ (.slice bl l.length cl)).setCell ⟨b,0,none⟩ (.int .i64 d)).setCell ⟨b,2,none⟩ (.slice bl l.length cl)).setCell ⟨b+1+1,0,none⟩ (.int .i64 d)).setCell ⟨b+1+1,1,none⟩ (.int .i64 n)).setCell ⟨b+1+1,2,none⟩ (.slice bl l.length cl)) (.slice bl l.length cl) l):=by
  refine RowsK.mono (B:=b+4) ?_ (by omega)
  iterate 5 refine HSET.out _ _ _ _ (by omega) ?_
  exact HF5.out
 have HBN:Hid (Below b w ((((((w3.setCell ⟨b+1+1+1,0,none⟩ (.slice bl l.length cl)).setCell ⟨b,0,none⟩ (.int .i64 d)).setCell ⟨b,2,none⟩ (.slice bl l.length cl)).setCell ⟨b+1+1,0,none⟩ (.int .i64 d)).setCell ⟨b+1+1,1,none⟩ (.int .i64 n)).setCell ⟨b+1+1,2,none⟩ (.slice bl l.length cl))):=by
  show Below _ _ _
  iterate 5 refine Below.setCell ?_ (by simp; try omega) _
  exact HB5.out
 go_wp2_with fail
 obtain ⟨q0,q1,q2⟩:=@three_set (((w3.setCell ⟨b+1+1+1,0,none⟩ (.slice bl l.length cl)).setCell ⟨b,0,none⟩ (.int .i64 d)).setCell ⟨b,2,none⟩ (.slice bl l.length cl)) (b+1+1) (.int .i64 d) (.int .i64 n) (.slice bl l.length cl) _ _ _ (set_other (set_other (set_other r0 (by omega)) (by omega)) (by omega)) (set_other (set_other (set_other r1 (by omega)) (by omega)) (by omega)) (set_other (set_other (set_other r2 (by omega)) (by omega)) (by omega))
 have HFN2:=HFN.out;have HBN2:=HBN.out;clear HFN HBN s0 s1 s2 fz fr r0 r1 r2;generalize World.setCell _ ⟨b+1+1,2,none⟩ _=WW at *;exact bodyPost_ret (v:=.agg #[.int .i64 d,.int .i64 n,.slice bl l.length cl]) (by simp [results,Tryz.results141,go_sem,q0,q1,q2]) rfl ⟨_,rfl,by rw [HWB.out]; exact HFN2,by rw [HWB.out]; exact HBN2⟩
theorem refApply_is {B:Nat} {w:World} {v:Value} (s:St) (e:E) (hm:Ev.may e) (h:Fams B w v s.fams) (hr:Rising s.fams) (hn:s.fams.length≤5000) :
 Calls Tryz.prog 141 #[stV s.clock s.next v,evV e] w fun r w'=>∃ v',r=.returned (stV (applyP s e).clock (applyP s e).next v')∧Fams w.heap.size w' v' (applyP s e).fams∧Below w.heap.size w w':=by
 obtain ⟨c,n,l⟩:=s;obtain ⟨k,f,i,t⟩:=e;rcases hm with ⟨hk,hf,hi,ht⟩ | ⟨hk,hf,hi,ht⟩ | ⟨hk,hf,hi,ht⟩ <;> simp only at hk hf hi ht <;> subst hk
 ·subst hi; subst ht
  rw [apply_put _ rfl];exact refApply_1 c n f h hr hn hf.1.1
 ·subst hf; subst ht
  rw [apply_drop _ rfl];exact refApply_2 c n i h hn
 ·subst hf; subst hi
  rw [apply_clock _ rfl];exact refApply_3 c n t h hn
end Go.Proofs.YtlailakofhenkabGreatDoor
set_option maxHeartbeats 4000000
namespace Go.Proofs.YtlailakofhenkabGreatDoor
open Go Go.RowKit Tok Sc Ev
structure RefAt (w:World) (g:Nat) (p:Pub) (v:Value):Prop where
 c0:w.cell? ⟨g,0,none⟩=some (.int .i64 p.st.clock)
 c1:w.cell? ⟨g,1,none⟩=some (.int .i64 p.st.next)
 c2:w.cell? ⟨g,2,none⟩=some v
 c3:w.cell? ⟨g,3,none⟩=some (.int .i64 p.lg)
 c4:w.cell? ⟨g,4,none⟩=some (.int .i64 p.n)
 c5:w.cell? ⟨g,5,none⟩=some (.bool p.c)
 c6:∃ l',w.cell? ⟨g,6,none⟩=some (.int .i64 l')∧(p.c=true→l'=p.l)
 c7:w.cell? ⟨g,7,none⟩=some (.bool p.dn)
 free:∀ i,w.frozen? ⟨g,i,none⟩=false
 fam:Fams (g+1) w v p.st.fams
 lt:g<w.heap.size
theorem RefAt.on {w w':World} {g:Nat} {p:Pub} {v:Value} (h:RefAt w g p v) (hb:Below w.heap.size w w'):RefAt w' g p v:=by
 have hc:∀ i,w'.cell? ⟨g,i,none⟩=w.cell? ⟨g,i,none⟩:=fun i=>hb.cell (p:=⟨g,i,none⟩) h.lt;obtain ⟨l',h1,h2⟩:=h.c6;exact ⟨(hc 0).trans h.c0,(hc 1).trans h.c1,(hc 2).trans h.c2,(hc 3).trans h.c3,(hc 4).trans h.c4,(hc 5).trans h.c5,⟨l',(hc 6).trans h1,h2⟩,(hc 7).trans h.c7,fun i=>(hb.frozen (p:=⟨g,i,none⟩) h.lt).trans (h.free i),RowsK.below h.fam hb (Nat.le_refl _),Nat.lt_of_lt_of_le h.lt hb.size⟩
theorem keepR (g i:Nat) (a:Value) (w:World):Keep [g] w (w.setCell ⟨g,i,none⟩ a):=(Keep.refl _ w).setCell (p:=⟨g,i,none⟩) (.inl (by simp)) a
theorem RefAt.putDown {w:World} {g:Nat} {p:Pub} {v:Value} (h:RefAt w g p v):RefAt (w.setCell ⟨g,7,none⟩ (.bool true)) g (downP p) v:=by
 obtain ⟨l',h1,h2⟩:=h.c6;exact ⟨setO h.c0 (by decide),setO h.c1 (by decide),setO h.c2 (by decide),setO h.c3 (by decide),setO h.c4 (by decide),setO h.c5 (by decide),⟨l',setO h1 (by decide),h2⟩,World.cell?_setCell_same _ _ _ h.c7,fun i=>by simp only [World.frozen?_setCell]; exact h.free i,h.fam.other (a:=⟨g,7,none⟩) (Nat.lt_succ_self _) _,by simpa using h.lt⟩
theorem RefAt.putWrote {w:World} {g:Nat} {p:Pub} {v:Value} (l1:Int) (h:RefAt w g p v) (hl:p.c=true→l1=p.l - 1):RefAt ((w.setCell ⟨g,6,none⟩ (.int .i64 l1)).setCell ⟨g,4,none⟩ (.int .i64 ((p.n+1:Nat):Int))) g (wroteP p) v:=by
 obtain ⟨l',h1,h2⟩:=h.c6;exact ⟨setO (setO h.c0 (by decide)) (by decide),setO (setO h.c1 (by decide)) (by decide),setO (setO h.c2 (by decide)) (by decide),setO (setO h.c3 (by decide)) (by decide),World.cell?_setCell_same _ _ _ (setO h.c4 (by decide)),setO (setO h.c5 (by decide)) (by decide),⟨l1,setO (World.cell?_setCell_same _ _ _ h1) (by decide),hl⟩,setO (setO h.c7 (by decide)) (by decide),fun i=>by simp only [World.frozen?_setCell]; exact h.free i,(h.fam.other (a:=⟨g,6,none⟩) (Nat.lt_succ_self _) _).other (a:=⟨g,4,none⟩) (Nat.lt_succ_self _) _,by simpa using h.lt⟩
theorem newStore_is (w:World):Calls Tryz.prog 25 #[] w fun r w'=>r=.returned (.pointer (some ⟨w.heap.size,0,none⟩))∧RefAt w' w.heap.size ⟨⟨0,1,[]⟩,0,0,false,0,false⟩ (.slice none 0 0)∧Below w.heap.size w w':=by
 have HR:Hid (RefAt (w.alloc (.cells #[.int .i64 0,.int .i64 1,.slice none 0 0,.int .i64 0,.int .i64 0,.bool false,.int .i64 0,.bool false] 87)) w.heap.size ⟨⟨0,1,[]⟩,0,0,false,0,false⟩ (.slice none 0 0)):=by
  refine ⟨?_,?_,?_,?_,?_,?_,⟨0,?_,fun _=>rfl⟩,?_,fun i=>World.frozen?_alloc_at _ _ _ _ rfl,Fams.nil _ _,by simp⟩ <;> exact (World.cell?_alloc_at _ _ _ _ rfl).trans rfl
 have HB:Hid (Below w.heap.size w (w.alloc (.cells #[.int .i64 0,.int .i64 1,.slice none 0 0,.int .i64 0,.int .i64 0,.bool false,.int .i64 0,.bool false] 87))):=(Below.refl _ _).alloc (Nat.le_refl _) _;go_enter Tryz.func25,Tryz.ntmps25
 go_wp2_with fail
 go_ret;exact ⟨rfl,HR.out,HB.out⟩
def stepP (p:Pub):Pub × Bool:=if offP p then (downP p,false) else (wroteP p,true)
theorem step_off {p:Pub} (h:offP p=true):stepP p=(downP p,false):=if_pos h
theorem step_on {p:Pub} (h:offP p=false):stepP p=(wroteP p,true):=if_neg (by simp [h])
theorem refStoreWrite_is (w:World) (g:Nat) (p:Pub) (v:Value) (h:RefAt w g p v) (hn:p.n<100000) (hl:p.c=true→0≤p.l∧p.l≤9223372036854775807) :
 Calls Tryz.prog 90 #[.pointer (some ⟨g,0,none⟩)] w fun r w'=>r=.returned (.bool (stepP p).2)∧RefAt w' g (stepP p).1 v∧Keep [g] w w':=by
 obtain ⟨st,lg,n,c,l,dn⟩:=p;obtain ⟨l',h1,h2⟩:=h.c6;have c4:w.cell? ⟨g,4,none⟩=some (.int .i64 n):=h.c4;have c5:w.cell? ⟨g,5,none⟩=some (.bool c):=h.c5;have c7:w.cell? ⟨g,7,none⟩=some (.bool dn):=h.c7;have fz:=h.free;have HD:Hid _:=h.putDown;have HW:Hid (∀ l1:Int,(c=true→l1=l - 1)→RefAt ((w.setCell ⟨g,6,none⟩ (.int .i64 l1)).setCell ⟨g,4,none⟩ (.int .i64 ((n+1:Nat):Int))) g (wroteP ⟨st,lg,n,c,l,dn⟩) v):=fun l1 hl1=>h.putWrote l1 hl1;simp only at hn hl h2;obtain ⟨N,hN⟩:∃ N:Int,N=(n:Int):=⟨_,rfl⟩;have hN0:0≤N:=by omega
 have hN1:N<100000:=by omega
 rw [← hN] at c4;have HP:Hid (((n+1:Nat):Int)=N+1):=by show ((n+1:Nat):Int)=_; rw [hN]; push_cast; rfl
 clear hn hN
 cases c with
 |false=>
  have HO:Hid (stepP ⟨st,lg,n,false,l,dn⟩=(wroteP ⟨st,lg,n,false,l,dn⟩,true)):=step_on rfl;have HWF:=HW.out (wrap64 (l' - 1)) (fun hh=>by cases hh)
  rw [HP.out] at HWF;have HW2:Hid _:=HWF;clear h h2 HWF HW hl;go_enter Tryz.func90,Tryz.ntmps90
  go_wp2_with fail
  go_ret;rw [HO.out];exact ⟨rfl,HW2.out,(keepR g 6 _ _).trans (keepR g 4 _ _)⟩
 |true=>
  obtain rfl:=h2 rfl;have hlb:=hl rfl;by_cases h0:l'=0
  ·subst h0
   have HO:Hid (stepP ⟨st,lg,n,true,0,dn⟩=(downP ⟨st,lg,n,true,0,dn⟩,false)):=step_off rfl;clear h h2 HW hl hlb;go_enter Tryz.func90,Tryz.ntmps90
   go_wp2_with fail
   go_ret;rw [HO.out];exact ⟨rfl,HD.out,keepR g 7 _ _⟩
  ·have HO:Hid (stepP ⟨st,lg,n,true,l',dn⟩=(wroteP ⟨st,lg,n,true,l',dn⟩,true)):=step_on (by unfold offP; simp [h0])
   have HWF:=HW.out (l' - 1) (fun _=>rfl);rw [HP.out] at HWF;have HW2:Hid _:=HWF;have h0b:(l' == (0:Int))=false:=by simp [h0]
   obtain ⟨hlb0,hlb1⟩:=hlb;clear h h2 HWF HW hl;go_enter Tryz.func90,Tryz.ntmps90
   go_wp2_with fail
   go_ret;rw [HO.out];exact ⟨rfl,HW2.out,(keepR g 6 _ _).trans (keepR g 4 _ _)⟩
theorem RefAt.putCut {w:World} {g:Nat} {p:Pub} {v:Value} (k:Int) (h:RefAt w g p v):RefAt ((w.setCell ⟨g,5,none⟩ (.bool (decide (0≤k)))).setCell ⟨g,6,none⟩ (.int .i64 k)) g (cutP p k) v:=by
 obtain ⟨l',h1,h2⟩:=h.c6;exact ⟨setO (setO h.c0 (by decide)) (by decide),setO (setO h.c1 (by decide)) (by decide),setO (setO h.c2 (by decide)) (by decide),setO (setO h.c3 (by decide)) (by decide),setO (setO h.c4 (by decide)) (by decide),setO (World.cell?_setCell_same _ _ _ h.c5) (by decide),⟨k,World.cell?_setCell_same _ _ _ (setO h1 (by decide)),fun _=>rfl⟩,setO (setO h.c7 (by decide)) (by decide),fun i=>by simp only [World.frozen?_setCell]; exact h.free i,(h.fam.other (a:=⟨g,5,none⟩) (Nat.lt_succ_self _) _).other (a:=⟨g,6,none⟩) (Nat.lt_succ_self _) _,by simpa using h.lt⟩
theorem RefAt.putOpen {w:World} {g:Nat} {p:Pub} {v:Value} (h:RefAt w g p v):RefAt ((w.setCell ⟨g,5,none⟩ (.bool false)).setCell ⟨g,7,none⟩ (.bool false)) g (openP p) v:=by
 obtain ⟨l',h1,h2⟩:=h.c6;exact ⟨setO (setO h.c0 (by decide)) (by decide),setO (setO h.c1 (by decide)) (by decide),setO (setO h.c2 (by decide)) (by decide),setO (setO h.c3 (by decide)) (by decide),setO (setO h.c4 (by decide)) (by decide),setO (World.cell?_setCell_same _ _ _ h.c5) (by decide),⟨l',setO (setO h1 (by decide)) (by decide),fun hc=>by cases hc⟩,World.cell?_setCell_same _ _ _ (setO h.c7 (by decide)),fun i=>by simp only [World.frozen?_setCell]; exact h.free i,(h.fam.other (a:=⟨g,5,none⟩) (Nat.lt_succ_self _) _).other (a:=⟨g,7,none⟩) (Nat.lt_succ_self _) _,by simpa using h.lt⟩
theorem RefAt.putEmpty {w:World} {g:Nat} {p:Pub} {v:Value} (h:RefAt w g p v):RefAt (w.setCell ⟨g,3,none⟩ (.int .i64 0)) g (emptyLogP p) v:=by
 obtain ⟨l',h1,h2⟩:=h.c6;exact ⟨setO h.c0 (by decide),setO h.c1 (by decide),setO h.c2 (by decide),World.cell?_setCell_same _ _ _ h.c3,setO h.c4 (by decide),setO h.c5 (by decide),⟨l',setO h1 (by decide),h2⟩,setO h.c7 (by decide),fun i=>by simp only [World.frozen?_setCell]; exact h.free i,h.fam.other (a:=⟨g,3,none⟩) (Nat.lt_succ_self _) _,by simpa using h.lt⟩
theorem refCut_is (w:World) (g:Nat) (p:Pub) (v:Value) (k:Int) (h:RefAt w g p v):Calls Tryz.prog 41 #[.pointer (some ⟨g,0,none⟩),.int .i64 k] w fun r w'=>r=.returned (.tuple #[])∧RefAt w' g (cutP p k) v∧Keep [g] w w':=by
 obtain ⟨l',h1,-⟩:=h.c6;have c5:=h.c5;have fz:=h.free;have HF:Hid _:=h.putCut k;clear h;go_enter Tryz.func41,Tryz.ntmps41
 go_wp2_with fail
 go_end0
 exact ⟨rfl,HF.out,(keepR g 5 _ _).trans (keepR g 6 _ _)⟩
theorem refOpen_is (w:World) (g:Nat) (p:Pub) (v:Value) (h:RefAt w g p v):Calls Tryz.prog 42 #[.pointer (some ⟨g,0,none⟩)] w fun r w'=>r=.returned (.tuple #[])∧RefAt w' g (openP p) v∧Keep [g] w w':=by
 have c5:=h.c5;have c7:=h.c7;have fz:=h.free;have HF:Hid _:=h.putOpen;clear h;go_enter Tryz.func42,Tryz.ntmps42
 go_wp2_with fail
 go_end0
 exact ⟨rfl,HF.out,(keepR g 5 _ _).trans (keepR g 7 _ _)⟩
theorem writesP_step (k:Nat) (p:Pub):writesP (k+1) p=if offP p then (downP p,false) else writesP k (wroteP p):=rfl
theorem refSave_is (w:World) (g:Nat) (p:Pub) (v:Value) (h:RefAt w g p v) (hn:p.n<99970) (hf:p.st.fams.length≤20) (hl:p.c=true→0≤p.l∧p.l≤9223372036854775807) :
 Calls Tryz.prog 40 #[.pointer (some ⟨g,0,none⟩)] w fun r w'=>r=.returned (.int .i64 ((saveP p).2:Nat))∧RefAt w' g (saveP p).1 v∧Keep [g] w w':=by
 obtain ⟨ba,ca,rfl⟩:=RowsK.slice h.fam;have H0:Hid (RefAt w g p (.slice ba p.st.fams.length ca)):=h;have c7:=h.c7;have c2:=h.c2;have HN:Hid (p.n<99970):=hn;have HLL:Hid (p.c=true→0≤p.l∧p.l≤9223372036854775807):=hl;have HF20:Hid (p.st.fams.length≤20):=hf;obtain ⟨FL,hFL⟩:∃ FL,FL=p.st.fams.length:=⟨_,rfl⟩;have HFL:Hid (FL=p.st.fams.length):=hFL;have hFI:(FL:Int)≤20:=by omega
 cases hd:p.dn with
 |true=>
  have HS:Hid (saveP p=(p,6)):=by show saveP p=_; unfold saveP; rw [if_pos hd]
  rw [hd] at c7;clear h hn hf hl hd;go_enter Tryz.func40,Tryz.ntmps40
  go_wp2_with fail
  go_ret;rw [HS.out];exact ⟨rfl,H0.out,Keep.refl _ _⟩
 |false=>
  have HD:Hid (p.dn=false):=hd
  have HSV:Hid (∀ q b,writesP (FL+1) p=(q,b)→saveP p=if b then (emptyLogP q,0) else (q,14)):=fun q b hq=>by
   unfold saveP;rw [if_neg (by simp [hd]),← hFL,hq]
  rw [hd] at c7;rw [← hFL] at c2;clear h hn hf hl hd;go_enter Tryz.func40,Tryz.ntmps40
  go_wp2_with fail
  go_loopg [14] (FL+1) (fun gk iv wr=>∃ (i:Nat) (q:Pub),i+gk=FL+1∧iv=.int .i64 i∧Hid (writesP (FL+1) p=writesP gk q)∧Hid (q.n≤p.n+i∧(q.c=true→0≤q.l∧q.l≤9223372036854775807))∧Hid (RefAt wr g q (.slice ba p.st.fams.length ca))∧Hid (Keep [g] w wr))
  case atStart=>exact ⟨0,p,by omega,rfl,rfl,⟨Nat.le_refl _,HLL.out⟩,H0.out,Keep.refl _ _⟩
  case round=>
   obtain ⟨i,q,hj,rfl,HW,HQ,HR,HKP⟩:=hrel;have HJ:Hid (i+gk=FL+1):=hj;clear hj;by_cases hlt:i<FL+1
   ·have hltI:(i:Int)<(FL:Int)+1:=by omega
    obtain ⟨r,hr⟩:∃ r,gk=r+1:=⟨gk - 1,by have:=HJ.out; omega⟩
    have HGK:Hid (gk=r+1):=hr;clear hr;have hw:=fun (W:World) (hW:RefAt W g q (.slice ba p.st.fams.length ca))=>refStoreWrite_is W g q _ hW (by have:=HQ.out.1; have:=HN.out; have:=HF20.out; have:=HFL.out; omega) HQ.out.2
    cases ho:offP q with
    |true=>
     have hst:=step_off ho;rw [hst] at hw;have HS:Hid (saveP p=(downP q,14)):=HSV.out (downP q) false (by rw [HW.out,HGK.out,writesP_step,if_pos ho])
     clear hst ho;go_wp2_with fail
     refine (hw _ HR.out).mono ?_;rintro e1 w1 ⟨rfl,h1,h2⟩;have H1:Hid _:=h1;have H2:Hid _:=HKP.out.trans h2;clear h1 h2 hw;go_wp2_with fail
     go_ret;rw [HS.out];exact ⟨rfl,H1.out,H2.out⟩
    |false=>
     have hst:=step_on ho;rw [hst] at hw;have HW2:Hid (writesP (FL+1) p=writesP r (wroteP q)):=by show _=_; rw [HW.out,HGK.out,writesP_step,if_neg (by simp [ho])]
     have HQ2:Hid ((wroteP q).n≤p.n+(i+1)∧((wroteP q).c=true→0≤(wroteP q).l∧(wroteP q).l≤9223372036854775807)):=by
      refine ⟨by show q.n+1≤_; have:=HQ.out.1; omega,fun hc=>?_⟩
      have hc':q.c=true:=hc;have hh:=HQ.out.2 hc';unfold offP at ho;rw [hc'] at ho;have h0:q.l≠0:=by simpa using ho
      show 0≤q.l - 1∧q.l - 1≤_
      omega
     clear hst ho;go_wp2_with fail
     refine (hw _ HR.out).mono ?_;rintro e1 w1 ⟨rfl,h1,h2⟩;have H1:Hid _:=h1;have H2:Hid _:=HKP.out.trans h2;clear h1 h2 hw;go_wp2_with fail
     go_roundg r
     case measure=>have:=HGK.out; omega
     case rel=>exact ⟨i+1,wroteP q,by have:=HJ.out; have:=HGK.out; omega,by go_num,HW2,HQ2,H1,H2⟩
   ·obtain rfl:i=FL+1:=by have:=HJ.out; omega
    obtain rfl:gk=0:=by have:=HJ.out; omega
    have HS:Hid (saveP p=(emptyLogP q,0)):=HSV.out q true (by rw [HW.out]; rfl)
    have c3:=HR.out.c3;have fz:=HR.out.free;have HE:Hid _:=HR.out.putEmpty;go_wp2_with fail
    go_ret;rw [HS.out];exact ⟨rfl,HE.out,HKP.out.trans (keepR g 3 _ _)⟩
end Go.Proofs.YtlailakofhenkabGreatDoor
