import Derived.Test.YtlailakofhenkabGreatDoorB13
import Derived.Test.YtlailakofhenkabGreatDoorB15
namespace Go.Proofs.YtlailakofhenkabGreatDoor
open Go Go.RowKit Tok Sc Ev
theorem split_is (t:List UInt8) (ws:List Word) (hp:parts 32 t=ws) (hl:t.length≤5000) (W:World) (hL:LenOk W) :
 Calls Tryz.prog 102 #[.string (bs8 t),.string ⟨#[32]⟩] W fun e w'=>e=.returned (.slice (some ⟨W.heap.size,0,none⟩) ws.length ws.length)∧WordsAt w' W.heap.size (ws.map bs8)∧Below W.heap.size W w':=by
 obtain ⟨m,hm⟩:=hL;refine (Tryz.strings_Split (bs8 t) ⟨#[32]⟩ m W (by rw [bsize]; omega) hm (by decide)).mono ?_
 have h1:=parts_split 32 (bs8 t);have h2:=Lib.splitB_all ⟨#[32]⟩ (by decide) 0 _ (bs8 t) rfl
 rw [show (bs8 t).data.toList=t from rfl,hp] at h1
 generalize Lib.splitB ⟨#[32]⟩ 0 (Lib.countB (bs8 t) ⟨#[32]⟩) (bs8 t)=ps at *;generalize Lib.countB (bs8 t) ⟨#[32]⟩=N at *
 have hps:ps=ws.map bs8:=by
  rw [← h1,List.map_map];exact (List.map_id' ps).symm
 rintro e w' ⟨rfl,rfl⟩
 have hn:N+1=ws.length:=by
  have h3:ps.length=ws.length:=by rw [hps,List.length_map]
  omega
 refine ⟨by rw [hn],?_,(Below.refl _ _).alloc (Nat.le_refl _) _⟩
 rw [← hps];exact wordsAt_new W ps _
theorem slotBlock_is (k:Nat) (w:World) (hk:k<2):Calls Tryz.prog 54 #[.int .i64 k] w fun e w'=>e=.returned (.int .i64 ((16+21*k:Nat):Int))∧w'=w:=by
 rcases (show k=0∨k=1 by omega) with rfl | rfl
 ·go_enter Tryz.func54,Tryz.ntmps54
  go_wp2_with fail
  go_ret;exact ⟨rfl,rfl⟩
 ·go_enter Tryz.func54,Tryz.ntmps54
  go_wp2_with fail
  go_ret;exact ⟨rfl,rfl⟩
set_option maxRecDepth 100000
set_option maxHeartbeats 8000000
structure DiskIs (w:World) (g:Nat) (A:AD):Prop where
 disk:∃ F n c l,IsDisk w g F n c l∧EncF tag0 F A
 lt:g<w.heap.size
 blks:∀ k s e,A.blk k=some (s,e)→Ev.may e∧okN s
 heads:∀ k s c nx n,A.head k=some (s,c,nx,n)→okN s∧okN c∧0≤nx∧nx≤1099511627777∧n≤20
theorem DiskIs.below {B:Nat} {w w':World} {g:Nat} {A:AD} (h:DiskIs w g A) (hb:Below B w w') (hg:g<B):DiskIs w' g A:=by
 obtain ⟨F,n,c,l,h1,h2⟩:=h.disk;exact ⟨⟨F,n,c,l,h1.below hb hg,h2⟩,Nat.lt_of_lt_of_le h.lt hb.size,h.blks,h.heads⟩
theorem DiskIs.on {w w':World} {g:Nat} {A:AD} (h:DiskIs w g A) (hb:Below w.heap.size w w'):DiskIs w' g A:=h.below hb h.lt
theorem DiskIs.readHead {w:World} {g:Nat} {A:AD} (h:DiskIs w g A) (k:Nat) (hk:k<2) (hL:LenOk w):Calls Tryz.prog 111 #[.pointer (some ⟨g,0,none⟩),.int .i64 ((16+21*k:Nat):Int)] w fun r w'=>r=.returned (.string (bs8 (txtH (A.head k))))∧Below w.heap.size w w':=by
 obtain ⟨F,n,c,l,h1,h2⟩:=h.disk;refine readBlock_is g F n c l (16+21*k) (txtH (A.head k)) w h1 (by omega) ?_ ?_ hL
 ·rw [h2 _ (by omega),txtAt_head hk]
 ·cases hh:A.head k with
  |none=>simp [txtH]
  |some p=>
   obtain ⟨s,cc,nx,nn⟩:=p;obtain ⟨q1,q2,q3,q4,q5⟩:=h.heads k s cc nx nn hh;unfold txtH;simp only;rw [hdL_is];have d1:=digits13 q1;have d2:=digits13 q2;have d3:=digits13 (n:=(nn:Int)) ⟨by omega,by omega⟩
   have d4:(Lib.itoa nx).length≤13:=by
    by_cases hx:nx≤1099511627776
    ·exact digits13 ⟨q3,hx⟩
    ·obtain rfl:nx=1099511627777:=by omega
     decide +kernel
   simp only [List.length_append,List.length_cons];omega
theorem DiskIs.readEv {w:World} {g:Nat} {A:AD} (h:DiskIs w g A) (k sv:Nat) (hk:k<90) (hk1:k≠16) (hk2:k≠37) (hsv:okN sv) (hL:LibsA w):Calls Tryz.prog 112 #[.pointer (some ⟨g,0,none⟩),.int .i64 k,.int .i64 sv] w fun r w'=>r=.returned (.tuple #[evV (evOf (A.blk k) sv).1,.bool (evOf (A.blk k) sv).2])∧Below w.heap.size w w':=by
 obtain ⟨F,n,c,l,h1,h2⟩:=h.disk;refine readEvent_is g F n c l k sv (A.blk k) w h1 h.lt hk ?_ (fun s e hs=>h.blks k s e hs) hsv hL;rw [h2 _ hk];unfold txtAt;rw [if_neg hk1,if_neg hk2]
theorem readSlot_none (g:Nat) (A:AD) (k:Nat) (hk:k<2) (w:World) (hh:A.head k=none) (hD:DiskIs w g A) (hL:LibsA w) :
 Calls Tryz.prog 52 #[.pointer (some ⟨g,0,none⟩),.int .i64 k] w fun r w'=>r=.returned (.tuple #[stV 0 0 (.slice none 0 0),.int .i64 0])∧Below w.heap.size w w':=by
 have HB0:Hid (Below w.heap.size w (w.alloc (.cells #[.int .i64 0,.int .i64 0,.slice none 0 0] 36))):=(Below.refl _ _).alloc (Nat.le_refl _) _;have HL:Hid (LibsA w):=hL;have hsb:=fun (W:World)=>slotBlock_is k W hk
 have HRH:Hid (∀ W,DiskIs W g A→LenOk W→Calls Tryz.prog 111 #[.pointer (some ⟨g,0,none⟩),.int .i64 ((16+21*k:Nat):Int)] W fun r w'=>r=.returned (.string ⟨#[]⟩)∧Below W.heap.size W w'):=fun W hW hl=>by
  have:=hW.readHead k hk hl;rw [hh] at this;exact this
 have HD:Hid (DiskIs w g A):=hD;have hsp:=fun (W:World) (h:LenOk W)=>split_is [] [[]] (parts_no (by simp)) (by simp) W h
 generalize ((16+21*k:Nat):Int)=K at *;clear hD hL hh hk;unfold stV;go_enter Tryz.func52,Tryz.ntmps52
 go_wp2_with fail
 refine (hsb _).mono ?_;rintro e1 w1 ⟨rfl,rfl⟩;go_wp2_with fail
 refine (HRH.out _ (HD.out.on HB0.out) (HL.out.below HB0.out).base.len).mono ?_;rintro e2 w2 ⟨rfl,hb2⟩;have HB2:Hid (Below w.heap.size w w2):=HB0.out.trans (hb2.mono HB0.out.size);have z0:w2.cell? ⟨w.heap.size,0,none⟩=some (.int .i64 0):=(hb2.cell (p:=⟨w.heap.size,0,none⟩) (by simp)).trans ((World.cell?_alloc_at _ _ _ _ rfl).trans rfl)
 have z1:w2.cell? ⟨w.heap.size,1,none⟩=some (.int .i64 0):=(hb2.cell (p:=⟨w.heap.size,1,none⟩) (by simp)).trans ((World.cell?_alloc_at _ _ _ _ rfl).trans rfl)
 have z2:w2.cell? ⟨w.heap.size,2,none⟩=some (.slice none 0 0):=(hb2.cell (p:=⟨w.heap.size,2,none⟩) (by simp)).trans ((World.cell?_alloc_at _ _ _ _ rfl).trans rfl)
 have zf:∀ i,w2.frozen? ⟨w.heap.size,i,none⟩=false:=fun i=>(hb2.frozen (p:=⟨w.heap.size,i,none⟩) (by simp)).trans (World.frozen?_alloc_at _ _ _ _ rfl)
 have hlt:w.heap.size<w2.heap.size:=by have:=hb2.size; simp at this; omega
 clear hb2;go_wp2_with fail
 refine (hsp _ (HL.out.below HB2.out).base.len).mono ?_;rintro e3 w3 ⟨rfl,hwa,hb3⟩;have HB3:Hid (Below w.heap.size w w3):=HB2.out.trans (hb3.mono HB2.out.size);have y0:=(hb3.cell (p:=⟨w.heap.size,0,none⟩) hlt).trans z0;have y1:=(hb3.cell (p:=⟨w.heap.size,1,none⟩) hlt).trans z1;have y2:=(hb3.cell (p:=⟨w.heap.size,2,none⟩) hlt).trans z2;have yf:∀ i,w3.frozen? ⟨w.heap.size,i,none⟩=false:=fun i=>(hb3.frozen (p:=⟨w.heap.size,i,none⟩) hlt).trans (zf i);have hlt3:w.heap.size<w3.heap.size:=Nat.lt_of_lt_of_le hlt hb3.size;have hnn:=numbers_none w2.heap.size 1 w3 (hwa.2 0 _ rfl) (HL.out.below HB3.out);clear hb3 z0 z1 z2 zf hlt hwa;go_wp2_with fail
 refine hnn.mono ?_;rintro e4 w4 ⟨rfl,hb4⟩;have HB4:Hid (Below w.heap.size w w4):=HB3.out.trans (hb4.mono HB3.out.size);have z0:=(hb4.cell (p:=⟨w.heap.size,0,none⟩) hlt3).trans y0;have z1:=(hb4.cell (p:=⟨w.heap.size,1,none⟩) hlt3).trans y1;have z2:=(hb4.cell (p:=⟨w.heap.size,2,none⟩) hlt3).trans y2;have zf:∀ i,w4.frozen? ⟨w.heap.size,i,none⟩=false:=fun i=>(hb4.frozen (p:=⟨w.heap.size,i,none⟩) hlt3).trans (yf i);clear hb4 y0 y1 y2 yf hnn;have HBF:Hid (Below w.heap.size w (((w4.setCell ⟨w.heap.size,0,none⟩ (.int .i64 0)).setCell ⟨w.heap.size,1,none⟩ (.int .i64 0)).setCell ⟨w.heap.size,2,none⟩ (.slice none 0 0))):=((HB4.out.setCell (p:=⟨w.heap.size,0,none⟩) (Nat.le_refl _) _).setCell (p:=⟨w.heap.size,1,none⟩) (Nat.le_refl _) _).setCell (p:=⟨w.heap.size,2,none⟩) (Nat.le_refl _) _
 obtain ⟨q0,q1,q2⟩:=@three_set w4 w.heap.size (.int .i64 0) (.int .i64 0) (.slice none 0 0) _ _ _ z0 z1 z2;go_wp2_with fail
 have HBF2:=HBF.out;clear HBF;generalize World.setCell _ ⟨w.heap.size,2,none⟩ _=WW at *;exact bodyPost_ret (v:=.tuple #[.agg #[.int .i64 0,.int .i64 0,.slice none 0 0],.int .i64 0]) (by simp [results,Tryz.results52,go_sem,q0,q1,q2]) rfl ⟨rfl,HBF2⟩
set_option maxHeartbeats 16000000
structure SL (w0:World) (g:Nat) (A:AD) (bs:Nat) (st:St) (v:Value) (wr:World):Prop where
 disk:DiskIs wr g A
 libs:LibsA wr
 z0:wr.cell? ⟨w0.heap.size,0,none⟩=some (.int .i64 0)
 z1:wr.cell? ⟨w0.heap.size,1,none⟩=some (.int .i64 0)
 z2:wr.cell? ⟨w0.heap.size,2,none⟩=some (.slice none 0 0)
 zf:∀ i,wr.frozen? ⟨w0.heap.size,i,none⟩=false
 s0:wr.cell? ⟨bs,0,none⟩=some (.int .i64 st.clock)
 s1:wr.cell? ⟨bs,1,none⟩=some (.int .i64 st.next)
 s2:wr.cell? ⟨bs,2,none⟩=some v
 sf:∀ i,wr.frozen? ⟨bs,i,none⟩=false
 fam:Fams (bs+1) wr v st.fams
 lt:bs<wr.heap.size
 ord:w0.heap.size<bs
 old:g<w0.heap.size
 below:Below w0.heap.size w0 wr
theorem SL.on {w0:World} {g:Nat} {A:AD} {bs:Nat} {st:St} {v:Value} {w w':World} (h:SL w0 g A bs st v w) (hb:Below w.heap.size w w'):SL w0 g A bs st v w':=by
 have h1:=h.lt;have h2:=h.ord;have hc:∀ b i,b<w.heap.size→w'.cell? ⟨b,i,none⟩=w.cell? ⟨b,i,none⟩:=fun b i hl=>hb.cell (p:=⟨b,i,none⟩) hl;have hf:∀ b i,b<w.heap.size→w'.frozen? ⟨b,i,none⟩=w.frozen? ⟨b,i,none⟩:=fun b i hl=>hb.frozen (p:=⟨b,i,none⟩) hl
 exact ⟨h.disk.on hb,h.libs.below hb,(hc _ _ (by omega)).trans h.z0,(hc _ _ (by omega)).trans h.z1,(hc _ _ (by omega)).trans h.z2,fun i=>(hf _ _ (by omega)).trans (h.zf i),(hc _ _ h1).trans h.s0,(hc _ _ h1).trans h.s1,(hc _ _ h1).trans h.s2,fun i=>(hf _ _ h1).trans (h.sf i),
  RowsK.below h.fam hb (Nat.le_refl _),Nat.lt_of_lt_of_le h1 hb.size,h2,h.old,h.below.trans (hb.mono h.below.size)⟩
theorem SL.put {w0:World} {g:Nat} {A:AD} {bs:Nat} {st st':St} {v v':Value} {w:World} (h:SL w0 g A bs st v w) (hL:LibsA w0) (hf:Fams (bs+1) w v' st'.fams):SL w0 g A bs st' v' (((w.setCell ⟨bs,0,none⟩ (.int .i64 st'.clock)).setCell ⟨bs,1,none⟩ (.int .i64 st'.next)).setCell ⟨bs,2,none⟩ v'):=by
 have h1:=h.lt;have h2:=h.ord;have h3:=h.old;obtain ⟨q0,q1,q2⟩:=@three_set w bs (.int .i64 st'.clock) (.int .i64 st'.next) v' _ _ _ h.s0 h.s1 h.s2
 have hbs:∀ B,B≤bs→Below B w (((w.setCell ⟨bs,0,none⟩ (.int .i64 st'.clock)).setCell ⟨bs,1,none⟩ (.int .i64 st'.next)).setCell ⟨bs,2,none⟩ v'):=fun B hB=>
  (((Below.refl B w).setCell (p:=⟨bs,0,none⟩) hB _).setCell (p:=⟨bs,1,none⟩) hB _).setCell (p:=⟨bs,2,none⟩) hB _
 have hb:=hbs bs (Nat.le_refl _);have hbl:=h.below.trans (hbs w0.heap.size (by omega))
 refine ⟨h.disk.below hb (by omega),hL.below hbl,(hb.cell (p:=⟨w0.heap.size,0,none⟩) h2).trans h.z0,(hb.cell (p:=⟨w0.heap.size,1,none⟩) h2).trans h.z1,(hb.cell (p:=⟨w0.heap.size,2,none⟩) h2).trans h.z2,fun i=>(hb.frozen (p:=⟨w0.heap.size,i,none⟩) h2).trans (h.zf i),q0,q1,q2,fun i=>by simp only [World.frozen?_setCell]; exact h.sf i,?_,by simpa using h1,h2,h3,hbl⟩
 exact ((hf.other (a:=⟨bs,0,none⟩) (Nat.lt_succ_self _) _).other (a:=⟨bs,1,none⟩) (Nat.lt_succ_self _) _).other (a:=⟨bs,2,none⟩) (Nat.lt_succ_self _) _
theorem evOf_step (A:AD) (b s i r:Nat) (st:St):(∃ e,A.blk (b+i)=some (s,e)∧slotGo A b s i (r+1) st=slotGo A b s (i+1) r (applyP st e))∨(evOf (A.blk (b+i)) s=(zeroE,false)∧slotGo A b s i (r+1) st=none):=by
 cases h:A.blk (b+i) with
 |none=>exact .inr ⟨rfl,by rw [slotGo,h]⟩
 |some p=>
  obtain ⟨s',e⟩:=p;by_cases hs:s'=s
  ·subst hs
   exact .inl ⟨e,rfl,by rw [slotGo,h]; simp⟩
  ·exact .inr ⟨by unfold evOf; simp only [if_neg hs],by rw [slotGo,h]; simp only [if_neg hs]⟩
theorem readSlot_some (g:Nat) (A:AD) (k s:Nat) (c nx:Int) (n:Nat) (hk:k<2) (w:World) (hh:A.head k=some (s,c,nx,n)) (hD:DiskIs w g A) (hL:LibsA w) :
 Calls Tryz.prog 52 #[.pointer (some ⟨g,0,none⟩),.int .i64 k] w fun r w'=>∃ v,r=.returned (.tuple #[stV (slotM A k).1.clock (slotM A k).1.next v,.int .i64 ((slotM A k).2:Nat)])∧Fams w.heap.size w' v (slotM A k).1.fams∧Below w.heap.size w w':=by
 obtain ⟨q1,q2,q3,q4,q5⟩:=hD.heads k s c nx n hh;have HMS:Hid (∀ st,slotGo A (17+21*k) s 0 n ⟨c,nx,[]⟩=some st→slotM A k=(st,s)):=fun st h=>by unfold slotM; rw [hh]; simp only [h]
 have HMN:Hid (slotGo A (17+21*k) s 0 n ⟨c,nx,[]⟩=none→slotM A k=(⟨0,0,[]⟩,0)):=fun h=>by unfold slotM; rw [hh]; simp only [h]
 have HB0:Hid (Below w.heap.size w (w.alloc (.cells #[.int .i64 0,.int .i64 0,.slice none 0 0] 36))):=(Below.refl _ _).alloc (Nat.le_refl _) _;have HL:Hid (LibsA w):=hL;have HD:Hid (DiskIs w g A):=hD;have HK:Hid (k<2):=hk;have HOS:Hid (okN s):=q1;have hsb:=fun (W:World)=>slotBlock_is k W hk
 have HRH:Hid (∀ W,DiskIs W g A→LenOk W→Calls Tryz.prog 111 #[.pointer (some ⟨g,0,none⟩),.int .i64 ((16+21*k:Nat):Int)] W fun r w'=>r=.returned (.string (bs8 (hdL s c nx n)))∧Below W.heap.size W w'):=fun W hW hl=>by
  have:=hW.readHead k hk hl;rw [hh] at this;exact this
 have hlen:(hdL s c nx n).length≤5000:=by
  rw [hdL_is];have d1:=digits13 q1;have d2:=digits13 q2;have d3:=digits13 (n:=(n:Int)) ⟨by omega,by omega⟩
  have d4:(Lib.itoa nx).length≤13:=by
   by_cases hx:nx≤1099511627776
   ·exact digits13 ⟨q3,hx⟩
   ·obtain rfl:nx=1099511627777:=by omega
    decide +kernel
  simp only [List.length_append,List.length_cons];omega
 have hsp:=fun (W:World) (h:LenOk W)=>split_is (hdL s c nx n) (hdWs s c nx n) (parts_hd q2.1 q3) hlen W h
 have HNF:Hid (∀ (b:Nat) (W:World),WordsAt W b ((hdWs s c nx n).map bs8)→Calls Tryz.prog 110 #[.slice (some ⟨b,0,none⟩) 4 4] W fun r w'=>∃ b',r=.returned (.slice (some ⟨b',0,none⟩) 4 4)∧NumsAt w' b' [(s:Int),c,nx,n]∧Below W.heap.size W w'):=fun b W hW=>numbers_four s c nx n b 4 W hW (fun m hm=>by
  have b13:∀ x:Int,okN x→0≤x∧x≤9223372036854775807∧(Lib.itoa x).length≤5000:=fun x hx=>⟨hx.1,by have:=hx.2; omega,by have:=digits13 hx; omega⟩
  simp only [List.mem_cons,List.not_mem_nil,or_false] at hm;rcases hm with rfl | rfl | rfl | rfl
  ·exact b13 _ q1
  ·exact b13 _ q2
  ·refine ⟨q3,by omega,?_⟩
   by_cases hx:m≤1099511627776
   ·exact (b13 _ ⟨q3,hx⟩).2.2
   ·obtain rfl:m=1099511627777:=by omega
    decide +kernel
  ·exact b13 _ ⟨by omega,by omega⟩)
 have HN20:Hid (n≤20):=q5;rw [show (hdWs s c nx n).length=4 from rfl] at hsp
 generalize bs8 (hdL s c nx n)=HT at *;generalize (hdWs s c nx n).map bs8=WS4 at *;have HKI:Hid (((16+21*k:Nat):Int)=16+21*k):=by push_cast; rfl
 generalize hKK:((16+21*k:Nat):Int)=K at *;have HKK:Hid (K=((16+21*k:Nat):Int)):=hKK.symm;have hK0:0≤K∧K≤37:=by omega
 clear hD hL hh hk q1 q2 q3 q4 q5 hlen hKK;unfold stV;go_enter Tryz.func52,Tryz.ntmps52
 go_wp2_with fail
 refine (hsb _).mono ?_;rintro e1 w1 ⟨rfl,rfl⟩;go_wp2_with fail
 refine (HRH.out _ (HD.out.on HB0.out) (HL.out.below HB0.out).base.len).mono ?_;rintro e2 w2 ⟨rfl,hb2⟩;have HB2:Hid (Below w.heap.size w w2):=HB0.out.trans (hb2.mono HB0.out.size);have HC2:Hid (∀ i,w2.cell? ⟨w.heap.size,i,none⟩=(w.alloc (.cells #[.int .i64 0,.int .i64 0,.slice none 0 0] 36)).cell? ⟨w.heap.size,i,none⟩∧w2.frozen? ⟨w.heap.size,i,none⟩=false):=fun i=>⟨hb2.cell (p:=⟨w.heap.size,i,none⟩) (by simp),(hb2.frozen (p:=⟨w.heap.size,i,none⟩) (by simp)).trans (World.frozen?_alloc_at _ _ _ _ rfl)⟩
 have hlt:w.heap.size<w2.heap.size:=by have:=hb2.size; simp at this; omega
 have HLT2:Hid (w.heap.size<w2.heap.size):=hlt;clear hb2;go_wp2_with fail
 refine (hsp _ (HL.out.below HB2.out).base.len).mono ?_;rintro e3 w3 ⟨rfl,hwa,hb3⟩;have HB3:Hid (Below w.heap.size w w3):=HB2.out.trans (hb3.mono HB2.out.size);have HC3:Hid (∀ i,w3.cell? ⟨w.heap.size,i,none⟩=(w.alloc (.cells #[.int .i64 0,.int .i64 0,.slice none 0 0] 36)).cell? ⟨w.heap.size,i,none⟩∧w3.frozen? ⟨w.heap.size,i,none⟩=false):=fun i=>⟨(hb3.cell (p:=⟨w.heap.size,i,none⟩) HLT2.out).trans (HC2.out i).1,(hb3.frozen (p:=⟨w.heap.size,i,none⟩) HLT2.out).trans (HC2.out i).2⟩;have HLT3:Hid (w.heap.size<w3.heap.size):=Nat.lt_of_lt_of_le hlt hb3.size;have hnn:=HNF.out w2.heap.size w3 hwa;clear hb3 hwa hlt hsp;go_wp2_with fail
 refine hnn.mono ?_;rintro e4 w4 ⟨b,rfl,hna,hb4⟩;have HB4:Hid (Below w.heap.size w w4):=HB3.out.trans (hb4.mono HB3.out.size);have HC4:Hid (∀ i,w4.cell? ⟨w.heap.size,i,none⟩=(w.alloc (.cells #[.int .i64 0,.int .i64 0,.slice none 0 0] 36)).cell? ⟨w.heap.size,i,none⟩∧w4.frozen? ⟨w.heap.size,i,none⟩=false):=fun i=>⟨(hb4.cell (p:=⟨w.heap.size,i,none⟩) HLT3.out).trans (HC3.out i).1,(hb4.frozen (p:=⟨w.heap.size,i,none⟩) HLT3.out).trans (HC3.out i).2⟩;have HLT4:Hid (w.heap.size<w4.heap.size):=Nat.lt_of_lt_of_le HLT3.out hb4.size;have n0:=hna.2 0 _ rfl;have n1:=hna.2 1 _ rfl;have n2:=hna.2 2 _ rfl;have n3:=hna.2 3 _ rfl;have m1:=Lib.cell?_alloc_some (.cells #[.int .i64 0,.int .i64 0,.slice none 0 0] 36) n1;have m2:=Lib.cell?_alloc_some (.cells #[.int .i64 0,.int .i64 0,.slice none 0 0] 36) n2;clear hb4 hna hnn;go_wp2_with fail
 go_region
 go_wp2_with fail
 go_region
 go_wp2_with fail
 have HSL0:SL w g A w4.heap.size ⟨c,nx,[]⟩ (.slice none 0 0) (w4.alloc (.cells #[.int .i64 c,.int .i64 nx,.slice none 0 0] 36)).drew.drew:=by
  have hbd:Below w4.heap.size w4 (w4.alloc (.cells #[.int .i64 c,.int .i64 nx,.slice none 0 0] 36)).drew.drew:=(((Below.refl _ _).alloc (Nat.le_refl _) _).drew).drew;have hbl:=HB4.out.trans (hbd.mono HB4.out.size);have hc:∀ i,(w4.alloc (.cells #[.int .i64 c,.int .i64 nx,.slice none 0 0] 36)).drew.drew.cell? ⟨w.heap.size,i,none⟩=(w.alloc (.cells #[.int .i64 0,.int .i64 0,.slice none 0 0] 36)).cell? ⟨w.heap.size,i,none⟩:=fun i=>(hbd.cell (p:=⟨w.heap.size,i,none⟩) HLT4.out).trans (HC4.out i).1
  exact ⟨HD.out.on hbl,HL.out.below hbl,(hc 0).trans ((World.cell?_alloc_at _ _ _ _ rfl).trans rfl),(hc 1).trans ((World.cell?_alloc_at _ _ _ _ rfl).trans rfl),(hc 2).trans ((World.cell?_alloc_at _ _ _ _ rfl).trans rfl),fun i=>(hbd.frozen (p:=⟨w.heap.size,i,none⟩) HLT4.out).trans (HC4.out i).2,
   (show (w4.alloc (.cells #[.int .i64 c,.int .i64 nx,.slice none 0 0] 36)).cell? ⟨w4.heap.size,0,none⟩=some (.int .i64 c) from (World.cell?_alloc_at _ _ _ _ rfl).trans rfl),(show (w4.alloc (.cells #[.int .i64 c,.int .i64 nx,.slice none 0 0] 36)).cell? ⟨w4.heap.size,1,none⟩=some (.int .i64 nx) from (World.cell?_alloc_at _ _ _ _ rfl).trans rfl),(show (w4.alloc (.cells #[.int .i64 c,.int .i64 nx,.slice none 0 0] 36)).cell? ⟨w4.heap.size,2,none⟩=some (.slice none 0 0) from (World.cell?_alloc_at _ _ _ _ rfl).trans rfl),fun i=>(show (w4.alloc (.cells #[.int .i64 c,.int .i64 nx,.slice none 0 0] 36)).frozen? ⟨w4.heap.size,i,none⟩=false from World.frozen?_alloc_at _ _ _ _ rfl),Fams.nil _ _,by show w4.heap.size<(w4.heap.push _).size; simp,HLT4.out,HD.out.lt,hbl⟩
 have HS0:Hid _:=HSL0;clear HSL0 n0 n1 n2 n3 m1 m2 hsb;generalize hW:(w4.alloc (.cells #[.int .i64 c,.int .i64 nx,.slice none 0 0] 36)).drew.drew=W5 at *;clear hW;generalize w4.heap.size=bs at *;generalize hb17:17+21*k=b17 at *;have HB17:Hid (17+21*k=b17):=hb17;have HKB:Hid (K+1=(b17:Int)):=by show K+1=(b17:Int); have:=HKI.out; omega
 clear hb17;have hs9:0≤K∧K≤37:=hK0;clear hK0;have HNI:Hid (n≤20):=HN20.out;go_loopg [39] n (fun gk iv wr=>∃ (i:Nat) (st:St) (v:Value),i+gk=n∧iv=.int .i64 i∧Hid (slotGo A b17 s 0 n ⟨c,nx,[]⟩=slotGo A b17 s i gk st)∧Hid (Rising st.fams∧st.fams.length≤i)∧Hid (SL w g A bs st v wr))
 case atStart=>exact ⟨0,⟨c,nx,[]⟩,_,by omega,rfl,rfl,⟨List.Pairwise.nil,Nat.le_refl _⟩,HS0⟩
 case round=>
  obtain ⟨i,st,v,hj,rfl,HGO,HRI,HSL⟩:=hrel;have HJ:Hid (i+gk=n):=hj;clear hj HS0;by_cases hlt:i<n
  ·have hltI:(i:Int)<(n:Int):=by omega
   have hi20:(i:Int)<20:=by have:=HNI.out; omega
   obtain ⟨r,hr⟩:∃ r,gk=r+1:=⟨gk - 1,by have:=HJ.out; omega⟩
   have HR:Hid (gk=r+1):=hr;clear hr;have hre:=fun (W:World) (hd:DiskIs W g A) (hl:LibsA W)=>hd.readEv (b17+i) s (by have:=HB17.out; have:=HNI.out; have:=HK.out; omega) (by have:=HB17.out; have:=HNI.out; have:=HK.out; omega) (by have:=HB17.out; have:=HNI.out; have:=HK.out; omega) HOS.out hl
   have HKE:Hid (((b17+i:Nat):Int)=K+1+i):=by show ((b17+i:Nat):Int)=K+1+i; rw [HKB.out]; push_cast; rfl
   rw [HKE.out] at hre;rcases evOf_step A b17 s i r st with ⟨e,h1,h2⟩ | ⟨h1,h2⟩
   ·rw [h1] at hre
    have hev:evOf (some (s,e)) s=(e,true):=by unfold evOf; simp
    rw [hev] at hre;have HM:Hid (Ev.may e):=(HD.out.blks _ _ _ h1).1;have HG2:Hid (slotGo A b17 s 0 n ⟨c,nx,[]⟩=slotGo A b17 s (i+1) r (applyP st e)):=by show _=_; rw [HGO.out,HR.out,h2]
    have HAP:Hid (∀ (W:World),Fams (bs+1) W v st.fams→Calls Tryz.prog 19 #[stV st.clock st.next v,evV e] W fun r w'=>∃ v',r=.returned (stV (applyP st e).clock (applyP st e).next v')∧Fams W.heap.size w' v' (applyP st e).fams∧Below W.heap.size W w'):=fun W hW=>apply_is st e HM.out hW HRI.out.1 (by have:=HRI.out.2; have:=HNI.out; omega)
    have HR2:Hid (Rising (applyP st e).fams∧(applyP st e).fams.length≤i+1):=⟨rising_apply HRI.out.1,Nat.le_trans (apply_len st e) (by have:=HRI.out.2; omega)⟩
    have HME:Hid (∀ W:World,EvAt (W.alloc (.cells #[.int .i64 e.kind,.int .i64 e.fam.id,.string e.fam.client,.string e.fam.subject,.string e.fam.scope,.int .i64 e.fam.gen,.int .i64 e.fam.made,.int .i64 e.fam.used,.string e.fam.request,.bool e.fam.dead,.int .i64 e.id,.int .i64 e.time] 42)) W.heap.size e):=fun W=>evAt_made W e 42 _ rfl;generalize applyP st e=st' at *;clear h1 h2 hev;obtain ⟨kk,⟨f1,f2,f3,f4,f5,f6,f7,f8,f9⟩,ei,et⟩:=e;have HAP2:=HAP.out;unfold evV evCs stV at HAP2;unfold evV evCs at hre;simp only at hre HAP2;clear HAP;go_wp2_with fail
    refine (hre _ HSL.out.disk HSL.out.libs).mono ?_;rintro e6 w6 ⟨rfl,hb6⟩;have HS6:Hid _:=(HSL.out.on hb6).on (w':=w6.alloc (.cells #[.int .i64 kk,.int .i64 f1,.string f2,.string f3,.string f4,.int .i64 f5,.int .i64 f6,.int .i64 f7,.string f8,.bool f9,.int .i64 ei,.int .i64 et] 42)) ((Below.refl _ _).alloc (Nat.le_refl _) _);have he:=HME.out w6;have d0:=he.c0; have d1:=he.fam.c0; have d2:=he.fam.c1; have d3:=he.fam.c2; have d4:=he.fam.c3; have d5:=he.fam.c4; have d6:=he.fam.c5; have d7:=he.fam.c6; have d8:=he.fam.c7; have d9:=he.fam.c8; have d10:=he.c10; have d11:=he.c11;simp only at d0 d1 d2 d3 d4 d5 d6 d7 d8 d9 d10 d11;have s0:=HS6.out.s0;have s1:=HS6.out.s1;have s2:=HS6.out.s2;have sf:=HS6.out.sf;clear hre hb6 he HME HSL;go_wp2_with fail
    refine (HAP2 _ HS6.out.fam).mono ?_;rintro e7 w7 ⟨v7,rfl,hf7,hb7⟩;have HS7:Hid _:=HS6.out.on hb7;obtain ⟨ba,ca,rfl⟩:=RowsK.slice hf7;have HF7:Hid (Fams (bs+1) w7 (.slice ba st'.fams.length ca) st'.fams):=RowsK.mono hf7 HS6.out.lt;have HSP:Hid _:=HS7.out.put HL.out HF7.out;clear s0 s1 s2 sf hf7 hb7 HAP2 d0 d1 d2 d3 d4 d5 d6 d7 d8 d9 d10 d11;have s0:=HS7.out.s0;have s1:=HS7.out.s1;have s2:=HS7.out.s2;have sf:=HS7.out.sf;go_wp2_with fail
    go_roundg r
    case measure=>have:=HR.out; omega
    case rel=>exact ⟨i+1,st',_,by have:=HJ.out; have:=HR.out; omega,by go_num,HG2,HR2,HSP⟩
   ·rw [h1] at hre
    have HNONE:slotM A k=(⟨0,0,[]⟩,0):=HMN.out (by rw [HGO.out,HR.out,h2])
    unfold evV evCs zeroE zeroF at hre;simp only at hre;have HN2:Hid (slotM A k=(⟨0,0,[]⟩,0)):=HNONE;clear h1 h2 HNONE;go_wp2_with fail
    refine (hre _ HSL.out.disk HSL.out.libs).mono ?_;rintro e6 w6 ⟨rfl,hb6⟩;have HS6:Hid _:=(HSL.out.on hb6).on (w':=w6.alloc (.cells #[.int .i64 0,.int .i64 0,.string ⟨#[]⟩,.string ⟨#[]⟩,.string ⟨#[]⟩,.int .i64 0,.int .i64 0,.int .i64 0,.string ⟨#[]⟩,.bool false,.int .i64 0,.int .i64 0] 42)) ((Below.refl _ _).alloc (Nat.le_refl _) _);clear hre hb6 HSL;have z0:=HS6.out.z0;have z1:=HS6.out.z1;have z2:=HS6.out.z2;have zf:=HS6.out.zf;have HBL:Hid (Below w.heap.size w (w6.alloc (.cells #[.int .i64 0,.int .i64 0,.string ⟨#[]⟩,.string ⟨#[]⟩,.string ⟨#[]⟩,.int .i64 0,.int .i64 0,.int .i64 0,.string ⟨#[]⟩,.bool false,.int .i64 0,.int .i64 0] 42))):=HS6.out.below
    have HBF:Hid (Below w.heap.size w ((((w6.alloc (.cells #[.int .i64 0,.int .i64 0,.string ⟨#[]⟩,.string ⟨#[]⟩,.string ⟨#[]⟩,.int .i64 0,.int .i64 0,.int .i64 0,.string ⟨#[]⟩,.bool false,.int .i64 0,.int .i64 0] 42)).setCell ⟨w.heap.size,0,none⟩ (.int .i64 0)).setCell ⟨w.heap.size,1,none⟩ (.int .i64 0)).setCell ⟨w.heap.size,2,none⟩ (.slice none 0 0))):=((HBL.out.setCell (p:=⟨w.heap.size,0,none⟩) (Nat.le_refl _) _).setCell (p:=⟨w.heap.size,1,none⟩) (Nat.le_refl _) _).setCell (p:=⟨w.heap.size,2,none⟩) (Nat.le_refl _) _;obtain ⟨q0,q1,q2⟩:=@three_set (w6.alloc (.cells #[.int .i64 0,.int .i64 0,.string ⟨#[]⟩,.string ⟨#[]⟩,.string ⟨#[]⟩,.int .i64 0,.int .i64 0,.int .i64 0,.string ⟨#[]⟩,.bool false,.int .i64 0,.int .i64 0] 42)) w.heap.size (.int .i64 0) (.int .i64 0) (.slice none 0 0) _ _ _ z0 z1 z2;go_wp2_with fail
    have HBF2:=HBF.out;clear HBF;generalize World.setCell _ ⟨w.heap.size,2,none⟩ _=WW at *;have HNONE:=HN2.out;exact bodyPost_ret (v:=.tuple #[.agg #[.int .i64 0,.int .i64 0,.slice none 0 0],.int .i64 0]) (by simp [results,Tryz.results52,go_sem,q0,q1,q2]) rfl ⟨.slice none 0 0,by rw [HNONE]; rfl,by rw [HNONE]; exact Fams.nil _ _,HBF2⟩
  ·obtain rfl:i=n:=by have:=HJ.out; omega
   obtain rfl:gk=0:=by have:=HJ.out; omega
   have HMV:Hid (slotM A k=(st,s)):=HMS.out st (by rw [HGO.out]; rfl)
   have z0:=HSL.out.z0;have z1:=HSL.out.z1;have z2:=HSL.out.z2;have zf:=HSL.out.zf;have s0:=HSL.out.s0;have s1:=HSL.out.s1;have s2:=HSL.out.s2;obtain ⟨ba,ca,rfl⟩:=RowsK.slice HSL.out.fam;have HBF:Hid (Below w.heap.size w (((wr.setCell ⟨w.heap.size,0,none⟩ (.int .i64 st.clock)).setCell ⟨w.heap.size,1,none⟩ (.int .i64 st.next)).setCell ⟨w.heap.size,2,none⟩ (.slice ba st.fams.length ca))):=((HSL.out.below.setCell (p:=⟨w.heap.size,0,none⟩) (Nat.le_refl _) _).setCell (p:=⟨w.heap.size,1,none⟩) (Nat.le_refl _) _).setCell (p:=⟨w.heap.size,2,none⟩) (Nat.le_refl _) _
   have HFF:Hid (Fams w.heap.size (((wr.setCell ⟨w.heap.size,0,none⟩ (.int .i64 st.clock)).setCell ⟨w.heap.size,1,none⟩ (.int .i64 st.next)).setCell ⟨w.heap.size,2,none⟩ (.slice ba st.fams.length ca)) (.slice ba st.fams.length ca) st.fams):=RowsK.mono (((HSL.out.fam.other (a:=⟨w.heap.size,0,none⟩) (Nat.lt_succ_of_lt HSL.out.ord) _).other (a:=⟨w.heap.size,1,none⟩) (Nat.lt_succ_of_lt HSL.out.ord) _).other (a:=⟨w.heap.size,2,none⟩) (Nat.lt_succ_of_lt HSL.out.ord) _) (Nat.le_succ_of_le (Nat.le_of_lt HSL.out.ord));obtain ⟨q0,q1,q2⟩:=@three_set wr w.heap.size (.int .i64 st.clock) (.int .i64 st.next) (.slice ba st.fams.length ca) _ _ _ z0 z1 z2;go_wp2_with fail
   have HBF2:=HBF.out;have HFF2:=HFF.out;clear HBF HFF;generalize World.setCell _ ⟨w.heap.size,2,none⟩ _=WW at *;have HMV2:=HMV.out;exact bodyPost_ret (v:=.tuple #[.agg #[.int .i64 st.clock,.int .i64 st.next,.slice ba st.fams.length ca],.int .i64 s]) (by simp [results,Tryz.results52,go_sem,q0,q1,q2]) rfl ⟨_,by rw [HMV2],by rw [HMV2]; exact HFF2,HBF2⟩
end Go.Proofs.YtlailakofhenkabGreatDoor
namespace Go.Proofs.YtlailakofhenkabGreatDoor
open Go Go.RowKit Ev
structure Keep (l:List Nat) (w w':World):Prop where
 os:w'.os=w.os
 tape:w'.tape=w.tape
 output:w'.output=w.output
 size:w.heap.size≤w'.heap.size
 block:∀ b,b<w.heap.size→b∉l→w'.heap[b]?=w.heap[b]?
theorem Keep.refl (l:List Nat) (w:World):Keep l w w:=⟨rfl,rfl,rfl,Nat.le_refl _,fun _ _ _=>rfl⟩
theorem Keep.trans {l:List Nat} {a b c:World} (h:Keep l a b) (k:Keep l b c):Keep l a c:=
 ⟨k.os.trans h.os,k.tape.trans h.tape,k.output.trans h.output,Nat.le_trans h.size k.size,fun i hi hn=>(k.block i (Nat.lt_of_lt_of_le hi h.size) hn).trans (h.block i hi hn)⟩
theorem Keep.mono {l l':List Nat} {w w':World} (h:Keep l w w') (hl:∀ x∈l,x∈l'):Keep l' w w':=⟨h.os,h.tape,h.output,h.size,fun i hi hn=>h.block i hi (fun hx=>hn (hl i hx))⟩
theorem Keep.of (l:List Nat) {w w':World} (h:Below w.heap.size w w'):Keep l w w':=⟨h.os,h.tape,h.output,h.size,fun i hi _=>h.block i hi⟩
theorem Keep.then {l:List Nat} {a w w':World} (h:Keep l a w) (k:Below w.heap.size w w'):Keep l a w':=h.trans (.of l k)
theorem Keep.drew {l:List Nat} {a w:World} (h:Keep l a w):Keep l a w.drew:=h.then (Below.refl _ _).drew
theorem Keep.setCell {l:List Nat} {a w:World} (h:Keep l a w) {p:Addr} (hp:p.block∈l∨a.heap.size≤p.block) (u:Value):Keep l a (w.setCell p u):=
 ⟨h.os,h.tape,h.output,by simpa using h.size,fun i hi hn=>(Below.heap_setCell w p u i (by rintro rfl; rcases hp with hp | hp; exact hn hp; omega)).trans (h.block i hi hn)⟩
theorem Keep.grown {w w':World} {g:Nat} (h:w.grownBy w' (some g)):Keep [g] w w':=by
 obtain ⟨h1,h2,h3,h4,h5⟩:=h;exact ⟨h1,h2,h3,h4,fun i hi hn=>h5 i hi (by simpa using (fun e:i=g=>hn (by simp [e])))⟩
theorem Keep.cell {l:List Nat} {w w':World} (h:Keep l w w') {p:Addr} (hp:p.block<w.heap.size) (hn:p.block∉l):w'.cell? p=w.cell? p:=World.cell?_of_block (w:=w) (h.block p.block hp hn)
theorem Keep.frozen {l:List Nat} {w w':World} (h:Keep l w w') {p:Addr} (hp:p.block<w.heap.size) (hn:p.block∉l):w'.frozen? p=w.frozen? p:=World.frozen?_of_block (w:=w) (h.block p.block hp hn)
theorem Keep.below {l:List Nat} {B:Nat} {w w':World} (h:Keep l w w') (hB:B≤w.heap.size) (hl:∀ x∈l,B≤x):Below B w w':=⟨h.os,h.tape,h.output,h.size,fun i hi=>h.block i (by omega) (fun hx=>by have:=hl i hx; omega)⟩
theorem Keep.rows {l:List Nat} {k B:Nat} {w w':World} {v:Value} {n:Nat} {cs:List Value} (h:Keep l w w') (hr:RowsK k B w v n cs) (hl:∀ x∈l,x<B):RowsK k B w' v n cs:=by
 rcases hr with h1 | ⟨g,c,h1,h2⟩
 ·exact .inl h1
 ·exact .inr ⟨g,c,h1,h2.block h.size (h.block g h2.lt (fun hx=>by have:=hl g hx; have:=h2.new; omega))⟩
end Go.Proofs.YtlailakofhenkabGreatDoor
