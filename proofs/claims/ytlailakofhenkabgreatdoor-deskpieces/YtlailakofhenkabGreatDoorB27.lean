import Derived.Test.YtlailakofhenkabGreatDoorB26
set_option maxRecDepth 100000
set_option maxHeartbeats 16000000
namespace Go.Proofs.YtlailakofhenkabGreatDoor
open Go Go.RowKit Tok Sc Ev
def tokCs (t:T):List Value:= [.int .i64 t.k,.int .i64 t.f,.int .i64 t.g,.int .i64 t.e]
structure TB (w:World) (g:Nat) (t:T):Prop where
 c0:w.cell? ⟨g,0,none⟩=some (.int .i64 t.k)
 c1:w.cell? ⟨g,1,none⟩=some (.int .i64 t.f)
 c2:w.cell? ⟨g,2,none⟩=some (.int .i64 t.g)
 c3:w.cell? ⟨g,3,none⟩=some (.int .i64 t.e)
 lt:g<w.heap.size
 fz:∀ i,w.frozen? ⟨g,i,none⟩=false
theorem TB.made (w:World) (t:T) (ty:TypeId):TB (w.alloc (.cells #[.int .i64 t.k,.int .i64 t.f,.int .i64 t.g,.int .i64 t.e] ty)) w.heap.size t:=by
 refine ⟨?_,?_,?_,?_,by simp,fun i=>World.frozen?_alloc_at _ _ _ _ rfl⟩ <;> exact (World.cell?_alloc_at _ _ _ _ rfl).trans rfl
theorem TB.keep {l:List Nat} {w w':World} {g:Nat} {t:T} (h:TB w g t) (hk:Keep l w w') (hn:g∉l):TB w' g t:=by
 have hc:∀ i,w'.cell? ⟨g,i,none⟩=w.cell? ⟨g,i,none⟩:=fun i=>hk.cell (p:=⟨g,i,none⟩) h.lt hn;exact ⟨(hc 0).trans h.c0,(hc 1).trans h.c1,(hc 2).trans h.c2,(hc 3).trans h.c3,Nat.lt_of_lt_of_le h.lt hk.size,fun i=>(hk.frozen (p:=⟨g,i,none⟩) h.lt hn).trans (h.fz i)⟩
theorem TB.on {w w':World} {g:Nat} {t:T} (h:TB w g t) (hb:Below w.heap.size w w'):TB w' g t:=h.keep (Keep.of [] hb) (by simp)
theorem TB.there {w:World} {g:Nat} {t:T} (h:TB w g t):∀ j,j<4→(w.cell? ⟨g,0+j,none⟩).isSome=true:=by
 intro j hj;have c0:=h.c0; have c1:=h.c1; have c2:=h.c2; have c3:=h.c3;rw [Nat.zero_add];match j,hj with
 |0,_=>rw [c0]; rfl
 |1,_=>rw [c1]; rfl
 |2,_=>rw [c2]; rfl
 |3,_=>rw [c3]; rfl
theorem TB.set {w:World} {g:Nat} {t t':T} (h:TB w g t'):TB (w.setCells g 0 (tokCs t)) g t:=by
 have hq:=fun (j:Nat) (hj:j<(tokCs t).length)=>World.cell?_setCells_in g (tokCs t) 0 w h.there j hj;have hlt:g<(w.setCells g 0 (tokCs t)).heap.size:=Nat.lt_of_lt_of_le h.lt (below_setCellsW (B:=0) (Nat.zero_le _) _ 0 _).size
 have hc:∀ (j:Nat) (u:Value),(tokCs t)[j]?=some u→(w.setCells g 0 (tokCs t)).cell? ⟨g,j,none⟩=some u:=fun j u hj=>by
  obtain ⟨h1,h2⟩:=List.getElem?_eq_some_iff.1 hj
  have:=hq j h1;rw [Nat.zero_add,h2] at this;exact this
 exact ⟨hc 0 _ rfl,hc 1 _ rfl,hc 2 _ rfl,hc 3 _ rfl,hlt,fun i=>by rw [frozen_setCells]; exact h.fz i⟩
theorem Keep.setCells (g:Nat):∀ (vs:List Value) (o:Nat) (w:World),Keep [g] w (w.setCells g o vs)
 |[],_,w=>Keep.refl _ w
 |v::vs,o,w=>(keep1 g o v w).trans (Keep.setCells g vs (o+1) (w.setCell ⟨g,o,none⟩ v))
theorem look_end {w w1:World} {gt gf:Nat} {t0 t:T} {f0 f:Fam} (hb:Below w.heap.size w w1) (h1:TB w1 gt t0) (h2:FB w1 gf f0) (hg:w.heap.size≤gt∧w.heap.size≤gf∧gt≠gf) :
 Below w.heap.size w ((w1.setCells gt 0 (tokCs t)).setCells gf 0 (famCs f))∧TB ((w1.setCells gt 0 (tokCs t)).setCells gf 0 (famCs f)) gt t∧FB ((w1.setCells gt 0 (tokCs t)).setCells gf 0 (famCs f)) gf f:=by
 obtain ⟨g1,g2,g3⟩:=hg;refine ⟨(hb.trans (below_setCellsW g1 _ 0 _)).trans (below_setCellsW g2 _ 0 _),(h1.set).keep (Keep.setCells gf _ 0 _) (by simp; omega),?_⟩
 exact (h2.keep (Keep.setCells gt (tokCs t) 0 w1) (by simp; omega)).set
theorem readP_at (key:Int) (s:ByteArray) (t:T) (n:Nat) (ho:Tok.Out (tag key) s.data.toList t n) (w:World) (hs:s.size≤5000) (hL:LibsR w):Calls Tryz.prog 91 #[.int .i64 key,.string s] w fun e w'=>e=.returned (.tuple #[tokV t,errQ (errT n)])∧Below w.heap.size w w':=by
 refine (readP_is key s w hs hL).mono ?_;rintro e w' ⟨hb,t',n',ho',rfl⟩;obtain ⟨rfl,rfl⟩:=Tok.out_inj ho ho';refine ⟨?_,hb⟩;match n with
 |0=>rfl
 |1=>rfl
 |n+2=>rfl
theorem look_is (N:Nat) (w:World) (gv gs gd:Nat) (r:Rul) (p:Pub) (v:Value) (s:ByteArray) (kind:Int) (t:T) (n e:Nat) (h:SvIs N w gv gs gd r p v) (hs:s.size≤5000) (ho:Tok.Out (tag r.key) s.data.toList t n) (he:lookM r p.st kind t n=e) :
 Calls Tryz.prog 75 #[.pointer (some ⟨gv,0,none⟩),.string s,.int .i64 kind] w fun x w'=>x=.returned (.tuple #[tokV (if e=0 then t else zero),famV (if e=0 then famM p.st t else zeroF),errQ e])∧Below w.heap.size w w':=by
 have HB0:Hid (Below w.heap.size w ((w.alloc (.cells #[.int .i64 0,.int .i64 0,.int .i64 0,.int .i64 0] 142)).alloc (.cells #[.int .i64 0,.string ⟨#[]⟩,.string ⟨#[]⟩,.string ⟨#[]⟩,.int .i64 0,.int .i64 0,.int .i64 0,.string ⟨#[]⟩,.bool false] 40))):=((Below.refl _ _).alloc (Nat.le_refl _) _).alloc (by simp) _
 have HT0:Hid (TB ((w.alloc (.cells #[.int .i64 0,.int .i64 0,.int .i64 0,.int .i64 0] 142)).alloc (.cells #[.int .i64 0,.string ⟨#[]⟩,.string ⟨#[]⟩,.string ⟨#[]⟩,.int .i64 0,.int .i64 0,.int .i64 0,.string ⟨#[]⟩,.bool false] 40)) w.heap.size zero):=(TB.made w zero _).on ((Below.refl _ _).alloc (Nat.le_refl _) _);have hsz:(w.alloc (.cells #[.int .i64 0,.int .i64 0,.int .i64 0,.int .i64 0] 142)).heap.size=w.heap.size+1:=by simp
 have HF0:Hid (FB ((w.alloc (.cells #[.int .i64 0,.int .i64 0,.int .i64 0,.int .i64 0] 142)).alloc (.cells #[.int .i64 0,.string ⟨#[]⟩,.string ⟨#[]⟩,.string ⟨#[]⟩,.int .i64 0,.int .i64 0,.int .i64 0,.string ⟨#[]⟩,.bool false] 40)) (w.heap.size+1) zeroF):=by rw [← hsz]; exact FB.made _ zeroF _
 have HS0:Hid (SvIs N ((w.alloc (.cells #[.int .i64 0,.int .i64 0,.int .i64 0,.int .i64 0] 142)).alloc (.cells #[.int .i64 0,.string ⟨#[]⟩,.string ⟨#[]⟩,.string ⟨#[]⟩,.int .i64 0,.int .i64 0,.int .i64 0,.string ⟨#[]⟩,.bool false] 40)) gv gs gd r p v):=h.on HB0.out;have HRD:Hid (∀ (W:World),LibsR W→Calls Tryz.prog 91 #[.int .i64 r.key,.string s] W fun e w'=>e=.returned (.tuple #[.agg #[.int .i64 t.k,.int .i64 t.f,.int .i64 t.g,.int .i64 t.e],errQ (errT n)])∧Below W.heap.size W w'):=fun W hW=>readP_at r.key s t n ho W hs hW;have HMZ:Hid (Ev.Good p.st):=h.sp.ok.good;have c1:=HS0.out.box.c1;have HOF:Hid (t.f=t.f):=rfl;clear h hs ho;by_cases hn:n=0
 ·subst hn
  obtain ⟨tk,tf,tg,te⟩:=t;by_cases hk:tk=kind
  ·subst hk
   have HLN:Hid (findF p.st.fams tf=none→e=7):=fun hf=>he.symm.trans (look_none r p.st tk ⟨tk,tf,tg,te⟩ rfl hf);have HLS:Hid (∀ f,findF p.st.fams tf=some f→e=if f.dead=true then 6 else if oldF r p.st.clock f=true then 10 else if f.gen<tg then 2 else 0):=fun f hf=>he.symm.trans (look_some r p.st tk ⟨tk,tf,tg,te⟩ rfl hf)
   have HFM:Hid (∀ f,findF p.st.fams tf=some f→mayF f):=fun f hf=>fam_may HMZ.out hf;have HFE:Hid (famM p.st ⟨tk,tf,tg,te⟩=(findF p.st.fams tf).getD zeroF):=rfl;have hfm:famM p.st ⟨tk,tf,tg,te⟩=(findF p.st.fams tf).getD zeroF:=rfl;rw [hfm];clear he hfm;generalize hff:findF p.st.fams tf=ff at *;have HFF:Hid (findF p.st.fams tf=ff):=hff;clear hff;unfold tokV;go_enter Tryz.func75,Tryz.ntmps75
   go_wp2_with fail
   refine (HRD.out _ HS0.out.libs).mono ?_;rintro e1 w1 ⟨rfl,hb1⟩;have hb2:Below w1.heap.size w1 (w1.alloc (.cells #[.int .i64 tk,.int .i64 tf,.int .i64 tg,.int .i64 te] 142)):=(Below.refl _ _).alloc (Nat.le_refl _) _;have HB1:Hid (Below w.heap.size w (w1.alloc (.cells #[.int .i64 tk,.int .i64 tf,.int .i64 tg,.int .i64 te] 142))):=(HB0.out.trans (hb1.mono HB0.out.size)).trans (hb2.mono (Nat.le_trans HB0.out.size hb1.size));have HT1:Hid _:=(HT0.out.on hb1).on hb2;have HF1:Hid _:=(HF0.out.on hb1).on hb2;have HS1:Hid _:=(HS0.out.on hb1).on hb2;have HX1:Hid (TB (w1.alloc (.cells #[.int .i64 tk,.int .i64 tf,.int .i64 tg,.int .i64 te] 142)) w1.heap.size ⟨tk,tf,tg,te⟩):=TB.made w1 ⟨tk,tf,tg,te⟩ _;have HG1:Hid (w.heap.size+1<w1.heap.size):=by have h1:=hb1.size; have h2:=HF0.out.lt; show _<_; omega
   rw [show errQ (errT 0)=.nilIface from rfl]
   clear hb1 hb2 c1 HRD;go_upto_region 2 with fail
   have x0:=HX1.out.c0;simp only at x0;generalize hWX:w1.alloc (.cells #[.int .i64 tk,.int .i64 tf,.int .i64 tg,.int .i64 te] 142)=W1 at *;clear hWX;generalize w1.heap.size=gx at *;go_wp2_with fail
   refine (svState_is N _ gv gs gd r p v HS1.out).mono ?_;rintro e2 w2 ⟨v2,rfl,hf2,hb2⟩;obtain ⟨b2,c2,rfl⟩:=RowsK.slice hf2;unfold stV;have hb3:Below w2.heap.size w2 (w2.alloc (.cells #[.int .i64 p.st.clock,.int .i64 p.st.next,.slice b2 p.st.fams.length c2] 36)):=(Below.refl _ _).alloc (Nat.le_refl _) _;have HB2:Hid (Below w.heap.size w (w2.alloc (.cells #[.int .i64 p.st.clock,.int .i64 p.st.next,.slice b2 p.st.fams.length c2] 36))):=(HB1.out.trans (hb2.mono HB1.out.size)).trans (hb3.mono (Nat.le_trans HB1.out.size hb2.size));have HT2:Hid _:=(HT1.out.on hb2).on hb3;have HF2:Hid _:=(HF1.out.on hb2).on hb3;have HS2:Hid _:=(HS1.out.on hb2).on hb3;have HX2:Hid _:=(HX1.out.on hb2).on hb3
   have HR2:Hid (Fams W1.heap.size (w2.alloc (.cells #[.int .i64 p.st.clock,.int .i64 p.st.next,.slice b2 p.st.fams.length c2] 36)) (.slice b2 p.st.fams.length c2) p.st.fams):=RowsK.below hf2 hb3 (Nat.le_refl _);have s0:(w2.alloc (.cells #[.int .i64 p.st.clock,.int .i64 p.st.next,.slice b2 p.st.fams.length c2] 36)).cell? ⟨w2.heap.size,0,none⟩=some (.int .i64 p.st.clock):=(World.cell?_alloc_at _ _ _ _ rfl).trans rfl;have s2:(w2.alloc (.cells #[.int .i64 p.st.clock,.int .i64 p.st.next,.slice b2 p.st.fams.length c2] 36)).cell? ⟨w2.heap.size,2,none⟩=some (.slice b2 p.st.fams.length c2):=(World.cell?_alloc_at _ _ _ _ rfl).trans rfl;have sl:w2.heap.size<(w2.alloc (.cells #[.int .i64 p.st.clock,.int .i64 p.st.next,.slice b2 p.st.fams.length c2] 36)).heap.size:=by simp
   have HSB:Hid (∀ W',Below (w2.alloc (.cells #[.int .i64 p.st.clock,.int .i64 p.st.next,.slice b2 p.st.fams.length c2] 36)).heap.size (w2.alloc (.cells #[.int .i64 p.st.clock,.int .i64 p.st.next,.slice b2 p.st.fams.length c2] 36)) W'→W'.cell? ⟨w2.heap.size,0,none⟩=some (.int .i64 p.st.clock)∧W'.cell? ⟨w2.heap.size,2,none⟩=some (.slice b2 p.st.fams.length c2)):=fun W' hW=>⟨(hW.cell (p:=⟨w2.heap.size,0,none⟩) sl).trans s0,(hW.cell (p:=⟨w2.heap.size,2,none⟩) sl).trans s2⟩;clear hf2 hb2 hb3 x0 HB1 HT1 HF1 HS1 HX1;go_upto_region 7 with fail
   clear s0 s2 sl;generalize (w2.alloc (.cells #[.int .i64 p.st.clock,.int .i64 p.st.next,.slice b2 p.st.fams.length c2] 36))=W2 at *;generalize w2.heap.size=gst at *;go_cut [12,13] from 40 to 48 (fun x y wx=>∃ gf,x=.pointer (some ⟨gf,0,none⟩)∧y=.bool ff.isSome∧Hid (FB wx gf (ff.getD zeroF))∧Hid (Below W2.heap.size W2 wx)∧Hid (w.heap.size+1<gf))
   case first=>
    have HFI:Hid (∀ (W W':World) (B:Nat),Below W2.heap.size W2 W→B<W.heap.size→W.cell? ⟨B,0,none⟩=some (.int .i64 tf)→Below W.heap.size W W'→Calls Tryz.prog 83 #[.slice b2 p.st.fams.length c2,.func (.func 139) #[] #[.pointer (some ⟨B,0,none⟩)]] W' fun e w'=>e=.returned (.tuple #[.agg #[.int .i64 (ff.getD zeroF).id,.string (ff.getD zeroF).client,.string (ff.getD zeroF).subject,.string (ff.getD zeroF).scope,.int .i64 (ff.getD zeroF).gen,.int .i64 (ff.getD zeroF).made,.int .i64 (ff.getD zeroF).used,.string (ff.getD zeroF).request,.bool (ff.getD zeroF).dead],.bool ff.isSome])∧Below W'.heap.size W' w'):=fun W W' B hW hB hc hW'=>by
     have hh:=first_is p.st.fams (.slice b2 p.st.fams.length c2) 139 #[.pointer (some ⟨B,0,none⟩)] (isF tf) W' ((RowsK.below HR2.out hW (Nat.le_refl _)).below hW' (Nat.le_refl _)) (fun f hf=>(HMZ.out.may f hf).1) (by have:=HMZ.out.len; omega) ((ofPred tf B W hB hc).on hW') ofCalls
     have hq:p.st.fams.find? (isF tf)=ff:=HFF.out;rw [hq] at hh;exact hh
    refine RegD.R_ (fun W=>Below W2.heap.size W2 W) 11 (by kernel_rfl) ((Below.refl _ _).drew) (fun hH=>?_)
    refine RegD.T_ 0 (v:=.pointer (some ⟨gst,2,none⟩)) rfl (by kernel_rfl) (fun _ _ _ h=>h) (.inl ⟨by rfl,fun W hW=>by go_simp⟩) hH ?_
    simp only [Act.put,pS1,pS2,pS3];refine RegD.T_ 1 (v:=.slice b2 p.st.fams.length c2) rfl (by kernel_rfl) (fun _ _ _ h=>h) (.inl ⟨by rfl,fun W hW=>by have a0:=(HSB.out _ hW).2; go_simp⟩) hH ?_
    simp only [Act.put,pS1,pS2,pS3];refine RegD.T_ 2 (v:=.pointer (some ⟨gx,1,none⟩)) rfl (by kernel_rfl) (fun _ _ _ h=>h) (.inl ⟨by rfl,fun W hW=>by go_simp⟩) hH ?_
    simp only [Act.put,pS1,pS2,pS3];refine RegD.T_ 3 (v:=.int .i64 tf) rfl (by kernel_rfl) (fun _ _ _ h=>h) (.inl ⟨by rfl,fun W hW=>by have a0:=(HX2.out.on hW).c1; simp only at a0; go_simp⟩) hH ?_
    simp only [Act.put,pS1,pS2,pS3];refine wpAnyD_two 4 9 (oi:=?oiq1) (oj:=?ojq1) ?haq1 ?hbq1 ?hrq1 ?hxq1 ?hyq1
    case haq1=>rfl
    case hbq1=>rfl
    case hrq1=>kernel_rfl
    case hxq1=>
     intro K hK;go_simp;go_at_call 84
     refine (of_is tf _).mono ?_;rintro e4 w4 ⟨rfl,rfl⟩;go_wp2_with fail
     refine hK.out _ _ (hH.alloc hH.size _) ?_;clear hK hH;intro hH;clear K;refine wpAnyD_two 5 9 (oi:=?oiq2) (oj:=?ojq2) ?haq2 ?hbq2 ?hrq2 ?hxq2 ?hyq2
     case haq2=>rfl
     case hbq2=>rfl
     case hrq2=>kernel_rfl
     case hxq2=>
      intro K hK;go_simp;go_at_call 83
      refine (HFI.out (W2.drew.alloc (.cells #[.int .i64 tf] 3)) (W2.drew.alloc (.cells #[.int .i64 tf] 3)) W2.drew.heap.size hH (by simp) ((World.cell?_alloc_at _ _ _ _ rfl).trans rfl) (Below.refl _ _)).mono ?_
      rintro e5 w5 ⟨rfl,hb5⟩;go_wp2_with fail
      refine hK.out _ _ (hH.trans (hb5.mono hH.size)) ?_;clear hK hH;intro hH;clear K;clear hb5;refine RegD.T_ 6 (v:=.tuple #[.agg #[.int .i64 (ff.getD zeroF).id,.string (ff.getD zeroF).client,.string (ff.getD zeroF).subject,.string (ff.getD zeroF).scope,.int .i64 (ff.getD zeroF).gen,.int .i64 (ff.getD zeroF).made,.int .i64 (ff.getD zeroF).used,.string (ff.getD zeroF).request,.bool (ff.getD zeroF).dead],.bool ff.isSome]) rfl (by kernel_rfl) (fun _ _ _ h=>h) (.inl ⟨by rfl,fun W hW=>by go_simp⟩) hH ?_
      simp only [Act.put,pS1,pS2,pS3];refine RegD.T_ 7 (v:=.agg #[.int .i64 (ff.getD zeroF).id,.string (ff.getD zeroF).client,.string (ff.getD zeroF).subject,.string (ff.getD zeroF).scope,.int .i64 (ff.getD zeroF).gen,.int .i64 (ff.getD zeroF).made,.int .i64 (ff.getD zeroF).used,.string (ff.getD zeroF).request,.bool (ff.getD zeroF).dead]) rfl (by kernel_rfl) (fun _ _ _ h=>h) (.inl ⟨by rfl,fun W hW=>by go_simp⟩) hH ?_
      simp only [Act.put,pS1,pS2,pS3];refine RegD.T_ 8 (v:=.bool ff.isSome) rfl (by kernel_rfl) (fun _ _ _ h=>h) (.inl ⟨by rfl,fun W hW=>by go_simp⟩) hH ?_
      simp only [Act.put,pS1,pS2,pS3];refine RegD.O_ 9 rfl (by kernel_rfl) ?_; intro K hK; go_simp
      have HFW0:Hid (FB (w5.alloc (.cells #[.int .i64 0,.string ⟨#[]⟩,.string ⟨#[]⟩,.string ⟨#[]⟩,.int .i64 0,.int .i64 0,.int .i64 0,.string ⟨#[]⟩,.bool false] 40)) w5.heap.size zeroF):=FB.made w5 zeroF _;have HGQ:Hid (W2.heap.size≤w5.heap.size):=hH.size;refine hK.out _ _ (hH.alloc hH.size _) ?_;clear hK hH;intro hH;clear K;have HBW:Hid (Below W2.heap.size W2 (w5.alloc (.cells #[.int .i64 0,.string ⟨#[]⟩,.string ⟨#[]⟩,.string ⟨#[]⟩,.int .i64 0,.int .i64 0,.int .i64 0,.string ⟨#[]⟩,.bool false] 40))):=hH;have HFW:Hid (FB (w5.alloc (.cells #[.int .i64 0,.string ⟨#[]⟩,.string ⟨#[]⟩,.string ⟨#[]⟩,.int .i64 0,.int .i64 0,.int .i64 0,.string ⟨#[]⟩,.bool false] 40)) w5.heap.size zeroF):=HFW0.out;clear HFW0
      generalize w5.alloc (.cells #[.int .i64 0,.string ⟨#[]⟩,.string ⟨#[]⟩,.string ⟨#[]⟩,.int .i64 0,.int .i64 0,.int .i64 0,.string ⟨#[]⟩,.bool false] 40)=wq at *;generalize w5.heap.size=gq at *;have z0:=HFW.out.c0; have z1:=HFW.out.c1; have z2:=HFW.out.c2; have z3:=HFW.out.c3; have z4:=HFW.out.c4; have z5:=HFW.out.c5; have z6:=HFW.out.c6; have z7:=HFW.out.c7; have z8:=HFW.out.c8; have zf:=HFW.out.fz;have HFQ:Hid (FB (wq.setCells gq 0 (famCs (ff.getD zeroF))) gq (ff.getD zeroF)):=HFW.out.set;have HBQ:Hid (Below W2.heap.size W2 (wq.setCells gq 0 (famCs (ff.getD zeroF)))):=HBW.out.trans (below_setCellsW HGQ.out _ 0 _);refine RegD.O_ 10 rfl (by kernel_rfl) ?_; intro K hK; go_simp
      refine hK.out _ _ (HBQ.out) ?_;clear hK hH;intro hH;clear K;clear hH z0 z1 z2 z3 z4 z5 z6 z7 z8 zf;refine RegD.L_ 11 rfl (by kernel_rfl) (by kernel_rfl) ?_; intro K hK; go_simp
      refine hK.out _ _ ?_;clear hK K;refine RegD.D_ (by kernel_rfl) ?_ _
      go_wp2_with fail
      go_meet
      case rel=>exact ⟨_,rfl,rfl,HFQ,HBQ,(by have h1:=HGQ.out; have h2:=HG1.out; have h3:=HX2.out.lt; show _<_; omega)⟩
     case hyq2=>
      intro K hK;go_simp;have hsz2:(W2.drew.alloc (.cells #[.int .i64 tf] 3)).heap.size=W2.heap.size+1:=by simp
      have HFW0:Hid (FB ((W2.drew.alloc (.cells #[.int .i64 tf] 3)).alloc (.cells #[.int .i64 0,.string ⟨#[]⟩,.string ⟨#[]⟩,.string ⟨#[]⟩,.int .i64 0,.int .i64 0,.int .i64 0,.string ⟨#[]⟩,.bool false] 40)) (W2.heap.size+1) zeroF):=by rw [← hsz2]; exact FB.made _ zeroF _
      have HGQ:Hid (W2.heap.size≤(W2.heap.size+1)):=by show _≤_; omega
      have HWB:Hid (Below W2.heap.size W2 (W2.drew.alloc (.cells #[.int .i64 tf] 3))):=hH;clear hsz2;refine hK.out _ _ (hH.alloc hH.size _) ?_;clear hK hH;intro hH;clear K;refine RegD.O_ 5 rfl (by kernel_rfl) ?_; intro K hK; go_simp
      go_at_call 83
      refine (HFI.out (W2.drew.alloc (.cells #[.int .i64 tf] 3)) ((W2.drew.alloc (.cells #[.int .i64 tf] 3)).alloc (.cells #[.int .i64 0,.string ⟨#[]⟩,.string ⟨#[]⟩,.string ⟨#[]⟩,.int .i64 0,.int .i64 0,.int .i64 0,.string ⟨#[]⟩,.bool false] 40)) W2.heap.size HWB.out (by simp) ((World.cell?_alloc_at _ _ _ _ rfl).trans rfl) ((Below.refl _ _).alloc (Nat.le_refl _) _)).mono ?_
      rintro wq0 wq ⟨rfl,hb5⟩;go_wp2_with fail
      have HFW:Hid (FB wq (W2.heap.size+1) zeroF):=HFW0.out.on hb5;refine hK.out _ _ (hH.trans (hb5.mono hH.size)) ?_;clear hK hH;intro hH;clear K;clear hb5 HFW0;have HBW:Hid (Below W2.heap.size W2 wq):=hH;refine RegD.T_ 6 (v:=.tuple #[.agg #[.int .i64 (ff.getD zeroF).id,.string (ff.getD zeroF).client,.string (ff.getD zeroF).subject,.string (ff.getD zeroF).scope,.int .i64 (ff.getD zeroF).gen,.int .i64 (ff.getD zeroF).made,.int .i64 (ff.getD zeroF).used,.string (ff.getD zeroF).request,.bool (ff.getD zeroF).dead],.bool ff.isSome]) rfl (by kernel_rfl) (fun _ _ _ h=>h) (.inl ⟨by rfl,fun W hW=>by go_simp⟩) hH ?_
      simp only [Act.put,pS1,pS2,pS3];refine RegD.T_ 7 (v:=.agg #[.int .i64 (ff.getD zeroF).id,.string (ff.getD zeroF).client,.string (ff.getD zeroF).subject,.string (ff.getD zeroF).scope,.int .i64 (ff.getD zeroF).gen,.int .i64 (ff.getD zeroF).made,.int .i64 (ff.getD zeroF).used,.string (ff.getD zeroF).request,.bool (ff.getD zeroF).dead]) rfl (by kernel_rfl) (fun _ _ _ h=>h) (.inl ⟨by rfl,fun W hW=>by go_simp⟩) hH ?_
      simp only [Act.put,pS1,pS2,pS3];refine RegD.T_ 8 (v:=.bool ff.isSome) rfl (by kernel_rfl) (fun _ _ _ h=>h) (.inl ⟨by rfl,fun W hW=>by go_simp⟩) hH ?_
      simp only [Act.put,pS1,pS2,pS3];have z0:=HFW.out.c0; have z1:=HFW.out.c1; have z2:=HFW.out.c2; have z3:=HFW.out.c3; have z4:=HFW.out.c4; have z5:=HFW.out.c5; have z6:=HFW.out.c6; have z7:=HFW.out.c7; have z8:=HFW.out.c8; have zf:=HFW.out.fz;have HFQ:Hid (FB (wq.setCells (W2.heap.size+1) 0 (famCs (ff.getD zeroF))) (W2.heap.size+1) (ff.getD zeroF)):=HFW.out.set;have HBQ:Hid (Below W2.heap.size W2 (wq.setCells (W2.heap.size+1) 0 (famCs (ff.getD zeroF)))):=HBW.out.trans (below_setCellsW HGQ.out _ 0 _);refine RegD.O_ 10 rfl (by kernel_rfl) ?_; intro K hK; go_simp
      refine hK.out _ _ (HBQ.out) ?_;clear hK hH;intro hH;clear K;clear hH z0 z1 z2 z3 z4 z5 z6 z7 z8 zf;refine RegD.L_ 11 rfl (by kernel_rfl) (by kernel_rfl) ?_; intro K hK; go_simp
      refine hK.out _ _ ?_;clear hK K;refine RegD.D_ (by kernel_rfl) ?_ _
      go_wp2_with fail
      go_meet
      case rel=>exact ⟨_,rfl,rfl,HFQ,HBQ,(by have h1:=HGQ.out; have h2:=HG1.out; have h3:=HX2.out.lt; show _<_; omega)⟩
    case hyq1=>
     intro K hK;go_simp;have HGQ:Hid (W2.heap.size≤W2.heap.size):=Nat.le_refl _;refine hK.out _ _ (hH.alloc hH.size _) ?_;clear hK hH;intro hH;clear K;refine RegD.O_ 4 rfl (by kernel_rfl) ?_; intro K hK; go_simp
     go_at_call 84
     refine (of_is tf _).mono ?_;rintro e4 w4 ⟨rfl,rfl⟩;go_wp2_with fail
     have HFW1:Hid (FB ((W2.alloc (.cells #[.int .i64 0,.string ⟨#[]⟩,.string ⟨#[]⟩,.string ⟨#[]⟩,.int .i64 0,.int .i64 0,.int .i64 0,.string ⟨#[]⟩,.bool false] 40)).alloc (.cells #[.int .i64 tf] 3)).drew W2.heap.size zeroF):=((FB.made W2 zeroF _).on ((Below.refl _ _).alloc (Nat.le_refl _) _)).on (Below.refl _ _).drew;have HWB:Hid (Below W2.heap.size W2 ((W2.alloc (.cells #[.int .i64 0,.string ⟨#[]⟩,.string ⟨#[]⟩,.string ⟨#[]⟩,.int .i64 0,.int .i64 0,.int .i64 0,.string ⟨#[]⟩,.bool false] 40)).alloc (.cells #[.int .i64 tf] 3)).drew):=(((Below.refl _ _).alloc (Nat.le_refl _) _).alloc (by simp) _).drew
     have hszZ:(W2.alloc (.cells #[.int .i64 0,.string ⟨#[]⟩,.string ⟨#[]⟩,.string ⟨#[]⟩,.int .i64 0,.int .i64 0,.int .i64 0,.string ⟨#[]⟩,.bool false] 40)).heap.size=W2.heap.size+1:=by simp
     have hcz:World.cell? ((W2.alloc (.cells #[.int .i64 0,.string ⟨#[]⟩,.string ⟨#[]⟩,.string ⟨#[]⟩,.int .i64 0,.int .i64 0,.int .i64 0,.string ⟨#[]⟩,.bool false] 40)).alloc (.cells #[.int .i64 tf] 3)).drew ⟨(W2.alloc (.cells #[.int .i64 0,.string ⟨#[]⟩,.string ⟨#[]⟩,.string ⟨#[]⟩,.int .i64 0,.int .i64 0,.int .i64 0,.string ⟨#[]⟩,.bool false] 40)).heap.size,0,none⟩=some (.int .i64 tf):=by show World.cell? ((W2.alloc (.cells #[.int .i64 0,.string ⟨#[]⟩,.string ⟨#[]⟩,.string ⟨#[]⟩,.int .i64 0,.int .i64 0,.int .i64 0,.string ⟨#[]⟩,.bool false] 40)).alloc (.cells #[.int .i64 tf] 3)) _=_; exact (World.cell?_alloc_at _ _ _ _ rfl).trans rfl
     rw [hszZ] at hcz;have hfi:=HFI.out ((W2.alloc (.cells #[.int .i64 0,.string ⟨#[]⟩,.string ⟨#[]⟩,.string ⟨#[]⟩,.int .i64 0,.int .i64 0,.int .i64 0,.string ⟨#[]⟩,.bool false] 40)).alloc (.cells #[.int .i64 tf] 3)).drew ((W2.alloc (.cells #[.int .i64 0,.string ⟨#[]⟩,.string ⟨#[]⟩,.string ⟨#[]⟩,.int .i64 0,.int .i64 0,.int .i64 0,.string ⟨#[]⟩,.bool false] 40)).alloc (.cells #[.int .i64 tf] 3)).drew (W2.heap.size+1) HWB.out (by show W2.heap.size+1<((W2.alloc (.cells #[.int .i64 0,.string ⟨#[]⟩,.string ⟨#[]⟩,.string ⟨#[]⟩,.int .i64 0,.int .i64 0,.int .i64 0,.string ⟨#[]⟩,.bool false] 40)).alloc (.cells #[.int .i64 tf] 3)).heap.size; simp) hcz (Below.refl _ _)
     have HFI3:Hid _:=hfi;clear hfi hszZ hcz;refine hK.out _ _ (HWB.out) ?_;clear hK hH;intro hH;clear K;generalize hWZ:((W2.alloc (.cells #[.int .i64 0,.string ⟨#[]⟩,.string ⟨#[]⟩,.string ⟨#[]⟩,.int .i64 0,.int .i64 0,.int .i64 0,.string ⟨#[]⟩,.bool false] 40)).alloc (.cells #[.int .i64 tf] 3)).drew=W3 at *;clear hWZ;refine RegD.O_ 5 rfl (by kernel_rfl) ?_; intro K hK; go_simp
     go_at_call 83
     refine (Calls.mono HFI3.out ?_);rintro wq0 wq ⟨rfl,hb5⟩;go_wp2_with fail
     have HFW:Hid (FB wq W2.heap.size zeroF):=HFW1.out.on hb5;refine hK.out _ _ (hH.trans (hb5.mono hH.size)) ?_;clear hK hH;intro hH;clear K;clear hb5 HFW1;have HBW:Hid (Below W2.heap.size W2 wq):=hH;refine RegD.T_ 6 (v:=.tuple #[.agg #[.int .i64 (ff.getD zeroF).id,.string (ff.getD zeroF).client,.string (ff.getD zeroF).subject,.string (ff.getD zeroF).scope,.int .i64 (ff.getD zeroF).gen,.int .i64 (ff.getD zeroF).made,.int .i64 (ff.getD zeroF).used,.string (ff.getD zeroF).request,.bool (ff.getD zeroF).dead],.bool ff.isSome]) rfl (by kernel_rfl) (fun _ _ _ h=>h) (.inl ⟨by rfl,fun W hW=>by go_simp⟩) hH ?_
     simp only [Act.put,pS1,pS2,pS3];refine RegD.T_ 7 (v:=.agg #[.int .i64 (ff.getD zeroF).id,.string (ff.getD zeroF).client,.string (ff.getD zeroF).subject,.string (ff.getD zeroF).scope,.int .i64 (ff.getD zeroF).gen,.int .i64 (ff.getD zeroF).made,.int .i64 (ff.getD zeroF).used,.string (ff.getD zeroF).request,.bool (ff.getD zeroF).dead]) rfl (by kernel_rfl) (fun _ _ _ h=>h) (.inl ⟨by rfl,fun W hW=>by go_simp⟩) hH ?_
     simp only [Act.put,pS1,pS2,pS3];refine RegD.T_ 8 (v:=.bool ff.isSome) rfl (by kernel_rfl) (fun _ _ _ h=>h) (.inl ⟨by rfl,fun W hW=>by go_simp⟩) hH ?_
     simp only [Act.put,pS1,pS2,pS3];have z0:=HFW.out.c0; have z1:=HFW.out.c1; have z2:=HFW.out.c2; have z3:=HFW.out.c3; have z4:=HFW.out.c4; have z5:=HFW.out.c5; have z6:=HFW.out.c6; have z7:=HFW.out.c7; have z8:=HFW.out.c8; have zf:=HFW.out.fz;have HFQ:Hid (FB (wq.setCells W2.heap.size 0 (famCs (ff.getD zeroF))) W2.heap.size (ff.getD zeroF)):=HFW.out.set;have HBQ:Hid (Below W2.heap.size W2 (wq.setCells W2.heap.size 0 (famCs (ff.getD zeroF)))):=HBW.out.trans (below_setCellsW HGQ.out _ 0 _);refine RegD.O_ 10 rfl (by kernel_rfl) ?_; intro K hK; go_simp
     refine hK.out _ _ (HBQ.out) ?_;clear hK hH;intro hH;clear K;clear hH z0 z1 z2 z3 z4 z5 z6 z7 z8 zf;refine RegD.L_ 11 rfl (by kernel_rfl) (by kernel_rfl) ?_; intro K hK; go_simp
     refine hK.out _ _ ?_;clear hK K;refine RegD.D_ (by kernel_rfl) ?_ _
     go_wp2_with fail
     go_meet
     case rel=>exact ⟨_,rfl,rfl,HFQ,HBQ,(by have h1:=HGQ.out; have h2:=HG1.out; have h3:=HX2.out.lt; show _<_; omega)⟩
   case rest=>
    obtain ⟨gf,rfl,rfl,HFX,HBX,HGF⟩:=hcut;generalize wc=wa at *;have HB3:Hid (Below w.heap.size w wa):=HB2.out.trans (HBX.out.mono HB2.out.size);have HT3:Hid _:=HT2.out.on HBX.out;have HF3:Hid _:=HF2.out.on HBX.out;have HS3:Hid _:=HS2.out.on HBX.out;have HX3:Hid _:=HX2.out.on HBX.out;obtain ⟨hs0,hs2⟩:=HSB.out _ HBX.out;have HS0C:Hid (wa.cell? ⟨gst,0,none⟩=some (.int .i64 p.st.clock)):=hs0;clear HB2 HT2 HF2 HS2 HX2 HSB HR2 HBX hs0 hs2;go_upto_block 0 with fail
    go_cut [10] from 49 to 70 (fun x wx=>x=errQ e∧Hid (Below wa.heap.size wa wx))
    case first=>
     cases ff with
     |none=>
      have he:=HLN.out rfl;subst he;go_wp2_with fail
      go_meet
      case rel=>exact ⟨rfl,Below.refl _ _⟩
     |some f=>
      have he:=HLS.out f rfl;have hmf:=HFM.out f rfl;have d0:=HFX.out.c0; have d1:=HFX.out.c1; have d2:=HFX.out.c2; have d3:=HFX.out.c3; have d4:=HFX.out.c4; have d5:=HFX.out.c5; have d6:=HFX.out.c6; have d7:=HFX.out.c7; have d8:=HFX.out.c8;simp only [Option.getD_some] at d0 d1 d2 d3 d4 d5 d6 d7 d8;have hol:=old_is wa gv gs r f p.st.clock HS3.out.box HS3.out.rul hmf;have HFX2:Hid (FB wa gf f):=HFX.out;obtain ⟨f1,f2,f3,f4,f5,f6,f7,f8,f9⟩:=f;unfold famV famCs at hol;simp only at d0 d1 d2 d3 d4 d5 d6 d7 d8 hol he;have s0:=HS0C.out;have x2:=HX3.out.c2;simp only at x2
      cases f9 with
      |true=>
       rw [if_pos rfl] at he;subst he;go_wp2_with fail
       go_meet
       case rel=>exact ⟨rfl,Below.refl _ _⟩
      |false=>
       rw [if_neg (by simp)] at he
       cases ho:oldF r p.st.clock ⟨f1,f2,f3,f4,f5,f6,f7,f8,false⟩ with
       |true=>
        rw [ho] at hol he;rw [if_pos rfl] at he;subst he;clear ho;go_wp2_with fail
        refine hol.mono ?_;rintro e4 w4 ⟨rfl,hb4⟩;have HB4:Hid _:=hb4;clear hb4 hol;go_wp2_with fail
        go_meet
        case rel=>exact ⟨rfl,HB4⟩
       |false=>
        rw [ho] at hol he;rw [if_neg (by simp)] at he
        clear ho;by_cases hg:f5<tg
        ·rw [if_pos hg] at he
         subst he;go_wp2_with fail
         refine hol.mono ?_;rintro e4 w4 ⟨rfl,hb4⟩;have HB4:Hid _:=hb4;have x2:=(HX3.out.on hb4).c2;have d4:=(HFX2.out.on hb4).c4;simp only at x2 d4;clear hb4 hol;go_wp2_with fail
         go_meet
         case rel=>exact ⟨rfl,HB4⟩
        ·rw [if_neg hg] at he
         subst he;go_wp2_with fail
         refine hol.mono ?_;rintro e4 w4 ⟨rfl,hb4⟩;have HB4:Hid _:=hb4;have x2:=(HX3.out.on hb4).c2;have d4:=(HFX2.out.on hb4).c4;simp only at x2 d4;clear hb4 hol;go_wp2_with fail
         go_meet
         case rel=>exact ⟨rfl,HB4⟩
    case rest=>
     obtain ⟨rfl,HBY⟩:=hcut;have HB4:Hid (Below w.heap.size w wc):=HB3.out.trans (HBY.out.mono HB3.out.size);have HT4:Hid _:=HT3.out.on HBY.out;have HF4:Hid _:=HF3.out.on HBY.out;have HX4:Hid _:=HX3.out.on HBY.out;have HFY:Hid _:=HFX.out.on HBY.out;clear HB3 HT3 HF3 HX3 HFX HS3 HS0C HBY HLN HLS HFM
     cases e with
     |zero=>
      rw [show errQ 0=.nilIface from rfl]
      go_upto_region 18 with fail
      refine RegD.R_ (fun W=>TB W gx ⟨tk,tf,tg,te⟩∧FB W gf (ff.getD zeroF)) 3 (by kernel_rfl) (⟨HX4.out.on (Below.refl _ _).drew,HFY.out.on (Below.refl _ _).drew⟩) (fun hH=>?_)
      refine RegD.T_ 0 (v:=.agg #[.int .i64 tk,.int .i64 tf,.int .i64 tg,.int .i64 te]) rfl (by kernel_rfl) (fun _ _ _ h=>h) (.inl ⟨by rfl,fun W hW=>by have a0:=hW.1.c0; have a1:=hW.1.c1; have a2:=hW.1.c2; have a3:=hW.1.c3; simp only at a0 a1 a2 a3; go_simp⟩) hH ?_
      simp only [Act.put,pS1,pS2,pS3];refine RegD.T_ 1 (v:=.agg #[.int .i64 (ff.getD zeroF).id,.string (ff.getD zeroF).client,.string (ff.getD zeroF).subject,.string (ff.getD zeroF).scope,.int .i64 (ff.getD zeroF).gen,.int .i64 (ff.getD zeroF).made,.int .i64 (ff.getD zeroF).used,.string (ff.getD zeroF).request,.bool (ff.getD zeroF).dead]) rfl (by kernel_rfl) (fun _ _ _ h=>h) (.inl ⟨by rfl,fun W hW=>by have a0:=hW.2.c0; have a1:=hW.2.c1; have a2:=hW.2.c2; have a3:=hW.2.c3; have a4:=hW.2.c4; have a5:=hW.2.c5; have a6:=hW.2.c6; have a7:=hW.2.c7; have a8:=hW.2.c8; go_simp⟩) hH ?_
      simp only [Act.put,pS1,pS2,pS3];have t0:=HT4.out.c0; have t1:=HT4.out.c1; have t2:=HT4.out.c2; have t3:=HT4.out.c3; have tz:=HT4.out.fz;have HKA:Hid (Keep [w.heap.size] wc (wc.setCells w.heap.size 0 (tokCs ⟨tk,tf,tg,te⟩)).drew):=(Keep.setCells w.heap.size (tokCs ⟨tk,tf,tg,te⟩) 0 wc).drew;have HTA:Hid (TB (wc.setCells w.heap.size 0 (tokCs ⟨tk,tf,tg,te⟩)).drew w.heap.size ⟨tk,tf,tg,te⟩):=HT4.out.set.on (Below.refl _ _).drew;have HFA:Hid (FB (wc.setCells w.heap.size 0 (tokCs ⟨tk,tf,tg,te⟩)).drew (w.heap.size+1) zeroF):=HF4.out.keep HKA.out (by simp)
      have HBA:Hid (Below w.heap.size w (wc.setCells w.heap.size 0 (tokCs ⟨tk,tf,tg,te⟩)).drew):=(HB4.out.trans (below_setCellsW (Nat.le_refl _) _ 0 wc)).drew;refine RegD.O_ 2 rfl (by kernel_rfl) ?_; intro K hK; go_simp
      refine hK.out _ _ (⟨HX4.out.keep HKA.out (by have:=HG1.out; simp; omega),HFY.out.keep HKA.out (by have:=HGF.out; simp; omega)⟩) ?_
      clear hK hH;intro hH;clear K;clear hH t0 t1 t2 t3 tz;generalize hWW:World.drew (World.setCell _ ⟨w.heap.size,3,none⟩ _)=WA;have hW2:(wc.setCells w.heap.size 0 (tokCs ⟨tk,tf,tg,te⟩)).drew=WA:=hWW;have hba:=HBA.out;have hta:=HTA.out;have hfa:=HFA.out;rw [hW2] at hba hta hfa;have HBE:Hid (Below w.heap.size w (WA.setCells (w.heap.size+1) 0 (famCs (ff.getD zeroF)))):=hba.trans (below_setCellsW (Nat.le_succ _) _ 0 WA);have HTE:Hid (TB (WA.setCells (w.heap.size+1) 0 (famCs (ff.getD zeroF))) w.heap.size ⟨tk,tf,tg,te⟩):=hta.keep (Keep.setCells _ _ 0 WA) (by simp)
      have HFE:Hid (FB (WA.setCells (w.heap.size+1) 0 (famCs (ff.getD zeroF))) (w.heap.size+1) (ff.getD zeroF)):=hfa.set;have z0:=hfa.c0; have z1:=hfa.c1; have z2:=hfa.c2; have z3:=hfa.c3; have z4:=hfa.c4; have z5:=hfa.c5; have z6:=hfa.c6; have z7:=hfa.c7; have z8:=hfa.c8; have zf:=hfa.fz;clear hba hta hfa hW2 hWW HBA HTA HFA HKA;refine RegD.L_ 3 rfl (by kernel_rfl) (by kernel_rfl) ?_; intro K hK; go_simp
      refine hK.out _ _ ?_;clear hK K;clear z0 z1 z2 z3 z4 z5 z6 z7 z8 zf;generalize hWW:World.setCell _ ⟨w.heap.size+1,8,none⟩ _=WB;have hW2:WA.setCells (w.heap.size+1) 0 (famCs (ff.getD zeroF))=WB:=hWW;have hbe:=HBE.out;have hte:=HTE.out;have hfe:=HFE.out;rw [hW2] at hbe hte hfe;have HBE3:Hid _:=hbe;have HTE3:Hid _:=hte;have HFE3:Hid _:=hfe;clear hbe hte hfe hW2 hWW HBE HTE HFE;refine RegD.L_ 4 rfl (by kernel_rfl) (by kernel_rfl) ?_; intro K hK; go_simp
      refine hK.out _ _ ?_;clear hK K;refine RegD.D_ (by kernel_rfl) ?_ _
      go_wp2_with fail
      have hbe:=HBE3.out;have p0:=HTE3.out.c0; have p1:=HTE3.out.c1; have p2:=HTE3.out.c2; have p3:=HTE3.out.c3;have q0:=HFE3.out.c0; have q1:=HFE3.out.c1; have q2:=HFE3.out.c2; have q3:=HFE3.out.c3; have q4:=HFE3.out.c4; have q5:=HFE3.out.c5; have q6:=HFE3.out.c6; have q7:=HFE3.out.c7; have q8:=HFE3.out.c8;exact bodyPost_ret (v:=.tuple #[.agg #[.int .i64 tk,.int .i64 tf,.int .i64 tg,.int .i64 te],.agg #[.int .i64 (ff.getD zeroF).id,.string (ff.getD zeroF).client,.string (ff.getD zeroF).subject,.string (ff.getD zeroF).scope,.int .i64 (ff.getD zeroF).gen,.int .i64 (ff.getD zeroF).made,.int .i64 (ff.getD zeroF).used,.string (ff.getD zeroF).request,.bool (ff.getD zeroF).dead],.nilIface]) (by simp [results,Tryz.results75,go_sem,p0,p1,p2,p3,q0,q1,q2,q3,q4,q5,q6,q7,q8]) rfl ⟨by simp [famV,famCs]; rfl,hbe⟩
     |succ e=>
      rw [errQ_succ];have t0:=HT4.out.c0; have t1:=HT4.out.c1; have t2:=HT4.out.c2; have t3:=HT4.out.c3; have tz:=HT4.out.fz;have z0:=HF4.out.c0; have z1:=HF4.out.c1; have z2:=HF4.out.c2; have z3:=HF4.out.c3; have z4:=HF4.out.c4; have z5:=HF4.out.c5; have z6:=HF4.out.c6; have z7:=HF4.out.c7; have z8:=HF4.out.c8; have zf:=HF4.out.fz;obtain ⟨hbe,hte,hfe⟩:=look_end (t:=zero) (f:=zeroF) HB4.out HT4.out HF4.out (by omega)
      have HBE:Hid _:=hbe;have HTE:Hid _:=hte;have HFE:Hid _:=hfe;clear hbe hte hfe;go_wp2_with fail
      generalize hWW:World.setCell _ ⟨w.heap.size+1,8,none⟩ _=WW;have hW2:(wc.setCells w.heap.size 0 (tokCs zero)).setCells (w.heap.size+1) 0 (famCs zeroF)=WW:=hWW;have hbe:=HBE.out;have hte:=HTE.out;have hfe:=HFE.out;rw [hW2] at hbe hte hfe;have p0:=hte.c0; have p1:=hte.c1; have p2:=hte.c2; have p3:=hte.c3;have q0:=hfe.c0; have q1:=hfe.c1; have q2:=hfe.c2; have q3:=hfe.c3; have q4:=hfe.c4; have q5:=hfe.c5; have q6:=hfe.c6; have q7:=hfe.c7; have q8:=hfe.c8;clear hW2 hWW HBE HTE HFE t0 t1 t2 t3 tz z0 z1 z2 z3 z4 z5 z6 z7 z8 zf hte hfe
      exact bodyPost_ret (v:=.tuple #[.agg #[.int .i64 0,.int .i64 0,.int .i64 0,.int .i64 0],.agg #[.int .i64 0,.string ⟨#[]⟩,.string ⟨#[]⟩,.string ⟨#[]⟩,.int .i64 0,.int .i64 0,.int .i64 0,.string ⟨#[]⟩,.bool false],.iface 47 (.int .i64 ((e+1:Nat):Int))]) (by simp [results,Tryz.results75,go_sem,p0,p1,p2,p3,q0,q1,q2,q3,q4,q5,q6,q7,q8,zero,zeroF]) rfl ⟨by simp [famV,famCs,zero,zeroF,errQ_succ],hbe⟩
  ·have he1:e=1:=he.symm.trans (look_kind r p.st kind ⟨tk,tf,tg,te⟩ hk)
   subst he1;have hkb:(tk == kind)=false:=by simp [hk]
   clear he HMZ;unfold tokV;go_enter Tryz.func75,Tryz.ntmps75
   go_wp2_with fail
   refine (HRD.out _ HS0.out.libs).mono ?_;rintro e1 w1 ⟨rfl,hb1⟩;have hb2:Below w1.heap.size w1 (w1.alloc (.cells #[.int .i64 tk,.int .i64 tf,.int .i64 tg,.int .i64 te] 142)):=(Below.refl _ _).alloc (Nat.le_refl _) _;have HB1:Hid (Below w.heap.size w (w1.alloc (.cells #[.int .i64 tk,.int .i64 tf,.int .i64 tg,.int .i64 te] 142))):=(HB0.out.trans (hb1.mono HB0.out.size)).trans (hb2.mono (Nat.le_trans HB0.out.size hb1.size));have HT1:Hid _:=(HT0.out.on hb1).on hb2;have HF1:Hid _:=(HF0.out.on hb1).on hb2;have HX1:Hid (TB (w1.alloc (.cells #[.int .i64 tk,.int .i64 tf,.int .i64 tg,.int .i64 te] 142)) w1.heap.size ⟨tk,tf,tg,te⟩):=TB.made w1 ⟨tk,tf,tg,te⟩ _;rw [show errQ (errT 0)=.nilIface from rfl]
   clear hb1 hb2 c1 HRD;go_upto_region 2 with fail
   have x0:=HX1.out.c0;simp only at x0;clear HX1;generalize hWX:w1.alloc (.cells #[.int .i64 tk,.int .i64 tf,.int .i64 tg,.int .i64 te] 142)=W1 at *;clear hWX;generalize w1.heap.size=gx at *;have t0:=HT1.out.c0; have t1:=HT1.out.c1; have t2:=HT1.out.c2; have t3:=HT1.out.c3; have tz:=HT1.out.fz;have z0:=HF1.out.c0; have z1:=HF1.out.c1; have z2:=HF1.out.c2; have z3:=HF1.out.c3; have z4:=HF1.out.c4; have z5:=HF1.out.c5; have z6:=HF1.out.c6; have z7:=HF1.out.c7; have z8:=HF1.out.c8; have zf:=HF1.out.fz;obtain ⟨hbe,hte,hfe⟩:=look_end (t:=zero) (f:=zeroF) HB1.out HT1.out HF1.out (by omega)
   have HBE:Hid _:=hbe;have HTE:Hid _:=hte;have HFE:Hid _:=hfe;clear hbe hte hfe;go_wp2_with fail
   generalize hWW:World.setCell _ ⟨w.heap.size+1,8,none⟩ _=WW;have hW2:(W1.setCells w.heap.size 0 (tokCs zero)).setCells (w.heap.size+1) 0 (famCs zeroF)=WW:=hWW;have hbe:=HBE.out;have hte:=HTE.out;have hfe:=HFE.out;rw [hW2] at hbe hte hfe;have p0:=hte.c0; have p1:=hte.c1; have p2:=hte.c2; have p3:=hte.c3;have q0:=hfe.c0; have q1:=hfe.c1; have q2:=hfe.c2; have q3:=hfe.c3; have q4:=hfe.c4; have q5:=hfe.c5; have q6:=hfe.c6; have q7:=hfe.c7; have q8:=hfe.c8;clear hW2 hWW HBE HTE HFE t0 t1 t2 t3 tz z0 z1 z2 z3 z4 z5 z6 z7 z8 zf hte hfe
   exact bodyPost_ret (v:=.tuple #[.agg #[.int .i64 0,.int .i64 0,.int .i64 0,.int .i64 0],.agg #[.int .i64 0,.string ⟨#[]⟩,.string ⟨#[]⟩,.string ⟨#[]⟩,.int .i64 0,.int .i64 0,.int .i64 0,.string ⟨#[]⟩,.bool false],.iface 47 (.int .i64 1)]) (by simp [results,Tryz.results75,go_sem,p0,p1,p2,p3,q0,q1,q2,q3,q4,q5,q6,q7,q8,zero,zeroF]) rfl ⟨by simp [famV,famCs,zero,zeroF,errQ_succ],hbe⟩
 ·obtain ⟨hb,hc⟩:=look_bad r p.st kind t hn
  obtain ⟨m,hm⟩:∃ m,errT n=m+1:=⟨errT n - 1,by omega⟩
  have he1:e=m+1:=(he.symm.trans hb).trans hm;subst he1;rw [hm] at HRD;clear he HMZ hb hc hn hm;obtain ⟨tk,tf,tg,te⟩:=t;unfold tokV;go_enter Tryz.func75,Tryz.ntmps75
  go_wp2_with fail
  refine (HRD.out _ HS0.out.libs).mono ?_;rintro e1 w1 ⟨rfl,hb1⟩;have hb2:Below w1.heap.size w1 (w1.alloc (.cells #[.int .i64 tk,.int .i64 tf,.int .i64 tg,.int .i64 te] 142)):=(Below.refl _ _).alloc (Nat.le_refl _) _;have HB1:Hid (Below w.heap.size w (w1.alloc (.cells #[.int .i64 tk,.int .i64 tf,.int .i64 tg,.int .i64 te] 142))):=(HB0.out.trans (hb1.mono HB0.out.size)).trans (hb2.mono (Nat.le_trans HB0.out.size hb1.size));have HT1:Hid _:=(HT0.out.on hb1).on hb2;have HF1:Hid _:=(HF0.out.on hb1).on hb2;have HX1:Hid (TB (w1.alloc (.cells #[.int .i64 tk,.int .i64 tf,.int .i64 tg,.int .i64 te] 142)) w1.heap.size ⟨tk,tf,tg,te⟩):=TB.made w1 ⟨tk,tf,tg,te⟩ _;rw [errQ_succ];clear hb1 hb2 c1 HRD;go_upto_region 2 with fail
  have x0:=HX1.out.c0;simp only at x0;clear HX1;generalize hWX:w1.alloc (.cells #[.int .i64 tk,.int .i64 tf,.int .i64 tg,.int .i64 te] 142)=W1 at *;clear hWX;generalize w1.heap.size=gx at *;have t0:=HT1.out.c0; have t1:=HT1.out.c1; have t2:=HT1.out.c2; have t3:=HT1.out.c3; have tz:=HT1.out.fz;have z0:=HF1.out.c0; have z1:=HF1.out.c1; have z2:=HF1.out.c2; have z3:=HF1.out.c3; have z4:=HF1.out.c4; have z5:=HF1.out.c5; have z6:=HF1.out.c6; have z7:=HF1.out.c7; have z8:=HF1.out.c8; have zf:=HF1.out.fz;obtain ⟨hbe,hte,hfe⟩:=look_end (t:=zero) (f:=zeroF) HB1.out HT1.out HF1.out (by omega)
  have HBE:Hid _:=hbe;have HTE:Hid _:=hte;have HFE:Hid _:=hfe;clear hbe hte hfe;go_wp2_with fail
  generalize hWW:World.setCell _ ⟨w.heap.size+1,8,none⟩ _=WW;have hW2:(W1.setCells w.heap.size 0 (tokCs zero)).setCells (w.heap.size+1) 0 (famCs zeroF)=WW:=hWW;have hbe:=HBE.out;have hte:=HTE.out;have hfe:=HFE.out;rw [hW2] at hbe hte hfe;have p0:=hte.c0; have p1:=hte.c1; have p2:=hte.c2; have p3:=hte.c3;have q0:=hfe.c0; have q1:=hfe.c1; have q2:=hfe.c2; have q3:=hfe.c3; have q4:=hfe.c4; have q5:=hfe.c5; have q6:=hfe.c6; have q7:=hfe.c7; have q8:=hfe.c8;clear hW2 hWW HBE HTE HFE t0 t1 t2 t3 tz z0 z1 z2 z3 z4 z5 z6 z7 z8 zf hte hfe
  exact bodyPost_ret (v:=.tuple #[.agg #[.int .i64 0,.int .i64 0,.int .i64 0,.int .i64 0],.agg #[.int .i64 0,.string ⟨#[]⟩,.string ⟨#[]⟩,.string ⟨#[]⟩,.int .i64 0,.int .i64 0,.int .i64 0,.string ⟨#[]⟩,.bool false],.iface 47 (.int .i64 ((m+1:Nat):Int))]) (by simp [results,Tryz.results75,go_sem,p0,p1,p2,p3,q0,q1,q2,q3,q4,q5,q6,q7,q8,zero,zeroF]) rfl ⟨by simp [famV,famCs,zero,zeroF,errQ_succ],hbe⟩
end Go.Proofs.YtlailakofhenkabGreatDoor
