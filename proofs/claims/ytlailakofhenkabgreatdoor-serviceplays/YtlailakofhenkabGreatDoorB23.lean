import Derived.Test.YtlailakofhenkabGreatDoorB22
set_option maxRecDepth 100000
set_option maxHeartbeats 8000000
namespace Go.Proofs.YtlailakofhenkabGreatDoor
open Go Go.RowKit Tok Sc Ev
structure FB (w:World) (g:Nat) (f:Fam):Prop where
 c0:w.cell? ⟨g,0,none⟩=some (.int .i64 f.id)
 c1:w.cell? ⟨g,1,none⟩=some (.string f.client)
 c2:w.cell? ⟨g,2,none⟩=some (.string f.subject)
 c3:w.cell? ⟨g,3,none⟩=some (.string f.scope)
 c4:w.cell? ⟨g,4,none⟩=some (.int .i64 f.gen)
 c5:w.cell? ⟨g,5,none⟩=some (.int .i64 f.made)
 c6:w.cell? ⟨g,6,none⟩=some (.int .i64 f.used)
 c7:w.cell? ⟨g,7,none⟩=some (.string f.request)
 c8:w.cell? ⟨g,8,none⟩=some (.bool f.dead)
 lt:g<w.heap.size
 fz:∀ i,w.frozen? ⟨g,i,none⟩=false
theorem FB.made (w:World) (f:Fam) (t:TypeId):FB (w.alloc (.cells #[.int .i64 f.id,.string f.client,.string f.subject,.string f.scope,.int .i64 f.gen,.int .i64 f.made,.int .i64 f.used,.string f.request,.bool f.dead] t)) w.heap.size f:=by
 obtain ⟨h0,h1,h2,h3,h4,h5,h6,h7,h8⟩:=famAt_cells (famAt_made w f t _ rfl);exact ⟨h0,h1,h2,h3,h4,h5,h6,h7,h8,by simp,fun i=>World.frozen?_alloc_at _ _ _ _ rfl⟩
theorem FB.keep {l:List Nat} {w w':World} {g:Nat} {f:Fam} (h:FB w g f) (hk:Keep l w w') (hn:g∉l):FB w' g f:=by
 have hc:∀ i,w'.cell? ⟨g,i,none⟩=w.cell? ⟨g,i,none⟩:=fun i=>hk.cell (p:=⟨g,i,none⟩) h.lt hn;exact ⟨(hc 0).trans h.c0,(hc 1).trans h.c1,(hc 2).trans h.c2,(hc 3).trans h.c3,(hc 4).trans h.c4,(hc 5).trans h.c5,(hc 6).trans h.c6,(hc 7).trans h.c7,(hc 8).trans h.c8,Nat.lt_of_lt_of_le h.lt hk.size,fun i=>(hk.frozen (p:=⟨g,i,none⟩) h.lt hn).trans (h.fz i)⟩
theorem FB.on {w w':World} {g:Nat} {f:Fam} (h:FB w g f) (hb:Below w.heap.size w w'):FB w' g f:=h.keep (Keep.of [] hb) (by simp)
theorem FB.there {w:World} {g:Nat} {f:Fam} (h:FB w g f):∀ j,j<9→(w.cell? ⟨g,0+j,none⟩).isSome=true:=by
 intro j hj;have c0:=h.c0; have c1:=h.c1; have c2:=h.c2; have c3:=h.c3; have c4:=h.c4; have c5:=h.c5; have c6:=h.c6; have c7:=h.c7; have c8:=h.c8;rw [Nat.zero_add];match j,hj with
 |0,_=>rw [c0]; rfl
 |1,_=>rw [c1]; rfl
 |2,_=>rw [c2]; rfl
 |3,_=>rw [c3]; rfl
 |4,_=>rw [c4]; rfl
 |5,_=>rw [c5]; rfl
 |6,_=>rw [c6]; rfl
 |7,_=>rw [c7]; rfl
 |8,_=>rw [c8]; rfl
theorem frozen_setCells (g:Nat) (vs:List Value):∀ (o:Nat) (w:World) (a:Addr),(w.setCells g o vs).frozen? a=w.frozen? a:=by
 induction vs with
 |nil=>intro o w a; rfl
 |cons v vs ih=>
  intro o w a;show ((w.setCell ⟨g,o,none⟩ v).setCells g (o+1) vs).frozen? a=_
  rw [ih,World.frozen?_setCell]
theorem FB.set {w:World} {g:Nat} {f f':Fam} (h:FB w g f'):FB (w.setCells g 0 (famCs f)) g f:=by
 have hq:=fun (j:Nat) (hj:j<(famCs f).length)=>World.cell?_setCells_in g (famCs f) 0 w h.there j hj;have hlt:g<(w.setCells g 0 (famCs f)).heap.size:=Nat.lt_of_lt_of_le h.lt (below_setCellsW (B:=0) (Nat.zero_le _) _ 0 _).size
 have hc:∀ (j:Nat) (u:Value),(famCs f)[j]?=some u→(w.setCells g 0 (famCs f)).cell? ⟨g,j,none⟩=some u:=fun j u hj=>by
  obtain ⟨h1,h2⟩:=List.getElem?_eq_some_iff.1 hj
  have:=hq j h1;rw [Nat.zero_add,h2] at this;exact this
 exact ⟨hc 0 _ rfl,hc 1 _ rfl,hc 2 _ rfl,hc 3 _ rfl,hc 4 _ rfl,hc 5 _ rfl,hc 6 _ rfl,hc 7 _ rfl,hc 8 _ rfl,hlt,fun i=>by rw [frozen_setCells]; exact h.fz i⟩
theorem PredF.on {g:Nat} {lb:Array Value} {p:Fam→Bool} {w w':World} (h:PredF g lb p w) (hb:Below w.heap.size w w'):PredF g lb p w':=fun W f hm hW=>h W f hm (hb.trans (hW.mono hb.size))
theorem ofPred (i:Int) (B:Nat) (w:World) (hB:B<w.heap.size) (hc:w.cell? ⟨B,0,none⟩=some (.int .i64 i)):PredF 139 #[.pointer (some ⟨B,0,none⟩)] (isF i) w:=fun W f _ hb=>by
 have hc':W.cell? ⟨B,0,none⟩=some (.int .i64 i):=(hb.cell (p:=⟨B,0,none⟩) hB).trans hc;have hlt:B<W.heap.size:=Nat.lt_of_lt_of_le hB hb.size;obtain ⟨f1,f2,f3,f4,f5,f6,f7,f8,f9⟩:=f;have HB:Hid (Below W.heap.size W (W.alloc (.cells #[.int .i64 f1,.string f2,.string f3,.string f4,.int .i64 f5,.int .i64 f6,.int .i64 f7,.string f8,.bool f9] 40))):=(Below.refl _ _).alloc (Nat.le_refl _) _;have hne:B≠W.heap.size:=by omega
 have he:isF i ⟨f1,f2,f3,f4,f5,f6,f7,f8,f9⟩=(f1 == i):=by unfold isF; rfl
 rw [he];show Calls Tryz.prog 139 #[.agg #[.int .i64 f1,.string f2,.string f3,.string f4,.int .i64 f5,.int .i64 f6,.int .i64 f7,.string f8,.bool f9],.pointer (some ⟨B,0,none⟩)] W _
 clear he hc hb;go_enter Tryz.func139,Tryz.ntmps139
 go_wp2_with fail
 go_ret;exact ⟨rfl,HB.out⟩
theorem of_is (i:Int) (w:World):Calls Tryz.prog 84 #[.int .i64 i] w fun e w'=>e=.returned (.func (.func 139) #[] #[.pointer (some ⟨w.heap.size,0,none⟩)])∧w'=w.alloc (.cells #[.int .i64 i] 3):=by
 go_enter Tryz.func84,Tryz.ntmps84
 go_wp2_with fail
 go_ret;exact ⟨rfl,rfl⟩
theorem ofCalls:∀ args w,(callFunc 139 args).run Tryz.prog w=.ok (.enter 139 args) w:=enters_of Tryz.func139 (by kernel_rfl) rfl
theorem first_is {B:Nat} (l:List Fam) (v:Value) (g:Nat) (lb:Array Value) (p:Fam→Bool) (w:World) (hf:Fams B w v l) (hm:∀ f∈l,mayF f) (hl:l.length≤5000) (hp:PredF g lb p w) (eg:∀ args w,(callFunc g args).run Tryz.prog w=.ok (.enter g args) w) :
 Calls Tryz.prog 83 #[v,.func (.func g) #[] lb] w fun e w'=>e=.returned (.tuple #[famV ((l.find? p).getD zeroF),.bool (l.find? p).isSome])∧Below w.heap.size w w':=by
 obtain ⟨ba,ca,rfl⟩:=RowsK.slice hf;have HB0:Hid (Below w.heap.size w (w.alloc (.cells #[.int .i64 0,.string ⟨#[]⟩,.string ⟨#[]⟩,.string ⟨#[]⟩,.int .i64 0,.int .i64 0,.int .i64 0,.string ⟨#[]⟩,.bool false] 40))):=(Below.refl _ _).alloc (Nat.le_refl _) _;have hf0:Fams B (w.alloc (.cells #[.int .i64 0,.string ⟨#[]⟩,.string ⟨#[]⟩,.string ⟨#[]⟩,.int .i64 0,.int .i64 0,.int .i64 0,.string ⟨#[]⟩,.bool false] 40)) (.slice ba l.length ca) l:=RowsK.below hf HB0.out (Nat.le_refl _);have HF0:Hid _:=hf0;have HIX:Hid _:=indexF_is l (.slice ba l.length ca) g lb p _ hf0 hm hl (hp.on HB0.out) eg;have HFB:Hid (FB (w.alloc (.cells #[.int .i64 0,.string ⟨#[]⟩,.string ⟨#[]⟩,.string ⟨#[]⟩,.int .i64 0,.int .i64 0,.int .i64 0,.string ⟨#[]⟩,.bool false] 40)) w.heap.size zeroF):=FB.made w zeroF _;clear hf hm hp hf0
 cases hq:l.find? p with
 |none=>
  have HQ:Hid (l.find? p=none):=hq;clear hq;go_enter Tryz.func83,Tryz.ntmps83
  go_wp2_with fail
  refine Calls.mono HIX.out ?_;rintro e1 w1 ⟨⟨k,rfl,hk⟩,hb1⟩;have HF1:Hid (FB w1 w.heap.size zeroF):=HFB.out.on hb1;have HB1:Hid (Below w.heap.size w w1):=HB0.out.trans (hb1.mono HB0.out.size);clear hb1 HIX
  obtain rfl:k=-1:=by
   rcases hk with ⟨hk,-⟩ | ⟨j,-,hj,hs⟩
   ·exact hk
   ·rw [HQ.out] at hs; cases hs
  clear hk;have z0:=HF1.out.c0; have z1:=HF1.out.c1; have z2:=HF1.out.c2; have z3:=HF1.out.c3; have z4:=HF1.out.c4; have z5:=HF1.out.c5; have z6:=HF1.out.c6; have z7:=HF1.out.c7; have z8:=HF1.out.c8; have zf:=HF1.out.fz;have HBF:Hid (Below w.heap.size w (w1.setCells w.heap.size 0 (famCs zeroF))):=HB1.out.trans (below_setCellsW (Nat.le_refl _) _ 0 w1);have HFF:Hid (FB (w1.setCells w.heap.size 0 (famCs zeroF)) w.heap.size zeroF):=HF1.out.set;go_wp2_with fail
  generalize hWW:World.setCell _ ⟨w.heap.size,8,none⟩ _=WW;have hW2:w1.setCells w.heap.size 0 (famCs zeroF)=WW:=hWW;have HB2:=HBF.out;have HF2:=HFF.out;rw [hW2] at HB2 HF2;have q0:=HF2.c0; have q1:=HF2.c1; have q2:=HF2.c2; have q3:=HF2.c3; have q4:=HF2.c4; have q5:=HF2.c5; have q6:=HF2.c6; have q7:=HF2.c7; have q8:=HF2.c8;clear hW2 hWW HBF HFF z0 z1 z2 z3 z4 z5 z6 z7 z8 zf HF2;exact bodyPost_ret (v:=.tuple #[famV zeroF,.bool false]) (by simp [results,Tryz.results83,go_sem,q0,q1,q2,q3,q4,q5,q6,q7,q8,famV,famCs]) rfl ⟨rfl,HB2⟩
 |some y=>
  have HQ:Hid (l.find? p=some y):=hq;clear hq;go_enter Tryz.func83,Tryz.ntmps83
  go_wp2_with fail
  refine Calls.mono HIX.out ?_;rintro e1 w1 ⟨⟨k,rfl,hk⟩,hb1⟩;have HF1:Hid (FB w1 w.heap.size zeroF):=HFB.out.on hb1;have HB1:Hid (Below w.heap.size w w1):=HB0.out.trans (hb1.mono HB0.out.size);have hfw:Fams B w1 (.slice ba l.length ca) l:=RowsK.below HF0.out hb1 (Nat.le_refl _);have HFS:Hid (Fams B w1 (.slice ba l.length ca) l):=hfw;clear hfw hb1 HIX
  obtain ⟨j,rfl,hj,hy⟩:∃ j:Nat,k=j∧∃ hj:j<l.length,l[j]=y:=by
   rcases hk with ⟨-,hn⟩ | ⟨j,hk,hj,hs⟩
   ·rw [HQ.out] at hn; cases hn
   ·rw [HQ.out] at hs
    exact ⟨j,hk,hj,(Option.some.inj hs).symm⟩
  clear hk;have z0:=HF1.out.c0; have z1:=HF1.out.c1; have z2:=HF1.out.c2; have z3:=HF1.out.c3; have z4:=HF1.out.c4; have z5:=HF1.out.c5; have z6:=HF1.out.c6; have z7:=HF1.out.c7; have z8:=HF1.out.c8; have zf:=HF1.out.fz;have hfs:Fams B w1 (.slice ba l.length ca) l:=HFS.out;obtain ⟨gr,rfl,hgr,hfa⟩:=Fams.fam hfs j hj;clear hfs;rw [hy] at hfa;have hjI:(j:Int)<(l.length:Int):=by omega
  have hgw:w.heap.size≠gr∨True:=.inr trivial;clear hy hgw;have HBF:Hid (Below w.heap.size w (w1.setCells w.heap.size 0 (famCs y))):=HB1.out.trans (below_setCellsW (Nat.le_refl _) _ 0 w1);have HFF:Hid (FB (w1.setCells w.heap.size 0 (famCs y)) w.heap.size y):=HF1.out.set;obtain ⟨y1,y2,y3,y4,y5,y6,y7,y8,y9⟩:=y;have c0:=hfa.c0; have c1:=hfa.c1; have c2:=hfa.c2; have c3:=hfa.c3; have c4:=hfa.c4; have c5:=hfa.c5; have c6:=hfa.c6; have c7:=hfa.c7; have c8:=hfa.c8;simp only at c0 c1 c2 c3 c4 c5 c6 c7 c8;clear hfa;go_wp2_with fail
  generalize hWW:World.setCell _ ⟨w.heap.size,8,none⟩ _=WW;have hW2:w1.setCells w.heap.size 0 (famCs ⟨y1,y2,y3,y4,y5,y6,y7,y8,y9⟩)=WW:=hWW;have HB2:=HBF.out;have HF2:=HFF.out;rw [hW2] at HB2 HF2;have q0:=HF2.c0; have q1:=HF2.c1; have q2:=HF2.c2; have q3:=HF2.c3; have q4:=HF2.c4; have q5:=HF2.c5; have q6:=HF2.c6; have q7:=HF2.c7; have q8:=HF2.c8;simp only at q0 q1 q2 q3 q4 q5 q6 q7 q8;clear hW2 hWW HBF HFF z0 z1 z2 z3 z4 z5 z6 z7 z8 zf HF2 c0 c1 c2 c3 c4 c5 c6 c7 c8;exact bodyPost_ret (v:=.tuple #[famV ⟨y1,y2,y3,y4,y5,y6,y7,y8,y9⟩,.bool true]) (by simp [results,Tryz.results83,go_sem,q0,q1,q2,q3,q4,q5,q6,q7,q8,famV,famCs]) rfl ⟨rfl,HB2⟩
end Go.Proofs.YtlailakofhenkabGreatDoor
set_option maxHeartbeats 2000000
namespace Go.Proofs.YtlailakofhenkabGreatDoor
open Go.RowKit Sip Hex
def Tab16 (w:World):Prop:=w.cell? ⟨9,15,none⟩=some (.int .u8 4)
theorem trail16 (w:World) (hT:Tab16 w):Calls Tryz.prog 359 #[.int .u64 16] w fun e w'=>e=.returned (.int .i64 4)∧w'=w:=by
 have h1:IntKind.u64.wrap (bits .and .u64 16 (IntKind.u64.wrap (-16))*285870213051353865) / 288230376151711744=15:=by decide +kernel
 unfold Tab16 at hT;go_enter Tryz.func359,Tryz.ntmps359
 go_wp2_with fail
 go_ret;exact ⟨rfl,rfl⟩
theorem pow16 (w:World):Calls Tryz.prog 320 #[.int .i64 16] w fun e w'=>e=.returned (.bool true)∧w'=w:=by
 have h1:bits .and .i64 16 15=0:=by decide +kernel
 go_enter Tryz.func320,Tryz.ntmps320
 go_wp2_with fail
 go_ret;exact ⟨rfl,rfl⟩
theorem trailing16 (w:World) (hT:Tab16 w):Calls Tryz.prog 321 #[.int .u64 16] w fun e w'=>e=.returned (.int .i64 4)∧w'=w:=by
 go_enter Tryz.func321,Tryz.ntmps321
 go_wp2_with fail
 refine (trail16 w hT).mono ?_;rintro e w' ⟨rfl,rfl⟩;go_wp2_with fail
 go_ret;exact ⟨rfl,rfl⟩
theorem digs36 (d:Nat) (h:d<16):((⟨#[48,49,50,51,52,53,54,55,56,57,97,98,99,100,101,102,103,104,105,106,107,108,109,110,111,112,113,114,115,116,117,118,119,120,121,122]⟩:ByteArray)[d]'(Nat.lt_trans h (by decide)))=hexc d:=by
 revert d
 decide
theorem buf_step {B:Nat} {w:World} {g:Nat} {pre D:List UInt8} {j:Nat} (h:RowAt B w g 65 65 (bs (pre ++ D))) (hp:pre.length=j+1) (u:UInt8) :
 ∃ pre',pre'.length=j∧RowAt B (w.setCell ⟨g,j,none⟩ (.int .u8 (u.toNat:Int))) g 65 65 (bs (pre' ++ u::D)):=by
 have hj:j<65:=by have:=h.len; simp [bs] at this; omega
 have hs:=h.store hj (.int .u8 (u.toNat:Int))
 obtain ⟨p,x,rfl,hl⟩:∃ p x,pre=p ++ [x]∧p.length=j:=by
  refine ⟨pre.take j,pre[j]'(by omega),?_,by simp; omega⟩
  rw [← List.take_succ_eq_append_getElem (by omega),List.take_of_length_le (by omega)]
 refine ⟨p,hl,?_⟩
 have hE:(bs (p ++ [x] ++ D)).set j (.int .u8 (u.toNat:Int))=bs (p ++ u::D):=by
  simp only [bs,List.map_append,List.map_cons,List.append_assoc,List.cons_append,List.nil_append];rw [List.set_append_right _ _ (by rw [List.length_map]; omega)]
  simp [hl]
 rw [hE] at hs;exact hs
theorem zeros65 (B:Nat) (w:World) (hB:B≤w.heap.size):RowAt B (w.alloc (.cells Tryz.zeroCells372 372)) w.heap.size 65 65 (bs (List.replicate 65 0)):=by
 have hz:Tryz.zeroCells372=(bs (List.replicate 65 0)).toArray:=by kernel_rfl
 have hl:(bs (List.replicate 65 0)).length=65:=by decide
 refine ⟨hB,by simp,hl,by omega,by unfold maxLen; omega,fun j u hj=>?_,fun j hj=>?_⟩
 ·rw [World.cell?_alloc_new,hz]; simpa using hj
 ·refine ⟨?_,World.frozen?_alloc_at _ _ _ _ rfl⟩
  rw [World.cell?_alloc_new,hz,List.getElem?_toArray,List.getElem?_eq_getElem (by rw [hl]; exact hj)]
  rfl
theorem sliceFrom (g j:Nat) (hj:j<65) (w:World):(Instr.sliceAt 372 (.pointer (some ⟨g,0,none⟩)) (some (.int .i64 (j:Int))) none none).run Tryz.prog w=.ok (.slice (some ⟨g,j,none⟩) (65 - j) (65 - j)) w:=by
 have hj':(j:Int)≤65:=by omega
 have hne:¬ 65=j:=by omega
 go_simp
theorem formatBits16 (n:Nat) (hn:n<16 ^ 16) (w:World) (hT:Tab16 w) (hTs:9<w.heap.size) :
 Calls Tryz.prog 271 #[.slice none 0 0,.int .u64 n,.int .i64 16,.bool false,.bool false] w fun e w'=>e=.returned (.tuple #[.slice none 0 0,.string ⟨(hexMin 15 n).toArray⟩])∧Below w.heap.size w w':=by
 go_enter Tryz.func271,Tryz.ntmps271
 have HT:Hid (Tab16 w):=hT;clear hT;go_wp2_with fail
 refine (pow16 _).mono ?_;rintro e w1 ⟨rfl,rfl⟩;go_wp2_with fail
 refine (trailing16 _ ?_).mono ?_
 ·exact (((Below.refl w.heap.size w).alloc (Nat.le_refl _) _).cell (p:=⟨9,15,none⟩) hTs).trans HT.out
 rintro e w1 ⟨rfl,rfl⟩;go_wp2_with fail
 go_loopg [1,13] 16 (fun gk u i wr=>∃ (m d:Nat) (pre D:List UInt8),u=.int .u64 m∧i=.int .i64 ((65 - d:Nat):Int)∧d+gk=16∧d≤15∧m<16 ^ (16 - d)∧pre.length=65 - d∧D.length=d∧RowAt w.heap.size wr w.heap.size 65 65 (bs (pre ++ D))∧Below w.heap.size w wr∧hexMin 15 n=hexMin (15 - d) m ++ D)
 case atStart=>exact ⟨n,0,List.replicate 65 0,[],rfl,rfl,rfl,by omega,by simpa using hn,by simp,rfl,by simpa using zeros65 _ w (Nat.le_refl _),(Below.refl _ _).alloc (Nat.le_refl _) _,by simp⟩
 case round=>
  obtain ⟨m,d,pre,D,rfl,rfl,hgk,hd15,hm,hpre,hD,hrow,hb,he⟩:=hrel;have HG:Hid (d+gk=16):=hgk;have HD:Hid (D.length=d):=hD;have HE:Hid (hexMin 15 n=hexMin (15 - d) m ++ D):=he;have HM:Hid (m<16 ^ (16 - d)):=hm;have HP:Hid (pre.length=65 - d):=hpre;obtain ⟨j,hj⟩:∃ j,65 - d=j+1:=⟨64 - d,by omega⟩
  have HJ:Hid (65 - d=j+1):=hj;have hj64:j<65:=by omega
  have hm2:m<18446744073709551616:=Nat.lt_of_lt_of_le hm (Nat.le_trans (Nat.pow_le_pow_right (by decide) (by omega:16 - d≤16)) (by decide))
  have hth:=hrow.there j hj64;obtain ⟨old,hold⟩:=Option.isSome_iff_exists.1 hth.1;have hfz:=hth.2;clear hgk hD he hm hpre hth;rw [hj];clear hj;by_cases h16:16≤m
  ·have ha:=and15 m
   obtain ⟨r,hr⟩:∃ r,r=m % 16:=⟨_,rfl⟩;have hr16:r<16:=by omega
   rw [← hr] at ha;have HR:Hid (r=m % 16):=hr;clear hr;obtain ⟨pre',hpl,hrow'⟩:=buf_step hrow (HP.out.trans HJ.out) (hexc r);have HW:Hid (RowAt w.heap.size (wr.setCell ⟨w.heap.size,j,none⟩ (.int .u8 ((hexc r).toNat:Int))) w.heap.size 65 65 (bs (pre' ++ hexc r::D))):=hrow';clear hrow';have hdr:((⟨#[48,49,50,51,52,53,54,55,56,57,97,98,99,100,101,102,103,104,105,106,107,108,109,110,111,112,113,114,115,116,117,118,119,120,121,122]⟩:ByteArray)[r]'(Nat.lt_trans hr16 (by decide)))=hexc r:=digs36 r hr16
   have hd14:d≤14:=by
    have h:=HM.out;rcases Nat.lt_or_ge d 15 with h1 | h1
    ·omega
    ·have:16 - d=1:=by omega
     rw [this] at h; omega
   go_wp2_with fail
   go_roundg (gk - 1)
   case measure=>have:=HG.out; omega
   case rel=>
    refine ⟨m / 16,d+1,pre',hexc r::D,by simp,by have:=HJ.out; rw [show 65 - (d+1)=j by omega],by have:=HG.out; omega,by omega,?_,by have:=HJ.out; omega,by have:=HD.out; simp; omega,HW.out,hb.setCell (p:=⟨w.heap.size,j,none⟩) (Nat.le_refl _) _,?_⟩
    ·have h:=HM.out
     rw [show 16 - d=(16 - (d+1))+1 by omega,Nat.pow_succ] at h
     omega
    ·refine HE.out.trans ?_
     rw [show 15 - d=(15 - (d+1))+1 by omega,hexMin,if_neg (by omega),HR.out]
     simp
  ·have hsl:=sliceFrom w.heap.size j hj64
   obtain ⟨pre',hpl,hrow'⟩:=buf_step hrow (HP.out.trans HJ.out) (hexc m);have hdm:((⟨#[48,49,50,51,52,53,54,55,56,57,97,98,99,100,101,102,103,104,105,106,107,108,109,110,111,112,113,114,115,116,117,118,119,120,121,122]⟩:ByteArray)[m]'(Nat.lt_trans (Nat.lt_of_not_le h16) (by decide)))=hexc m:=digs36 m (by omega)
   have hcv:(convert 164 9 (.slice (some ⟨w.heap.size,j,none⟩) (65 - j) (65 - j))).run Tryz.prog (wr.setCell ⟨w.heap.size,j,none⟩ (.int .u8 ((hexc m).toNat:Int)))=.ok (.string ⟨(hexc m::D).toArray⟩) (wr.setCell ⟨w.heap.size,j,none⟩ (.int .u8 ((hexc m).toNat:Int))):=by
    refine run_row_string _ _ _ 5 Tryz.underlying164 Tryz.underlying5 Tryz.underlying9 _ _ _ _ _ (by have:=HD.out; have:=HJ.out; simp; omega) (fun i hi=>?_)
    refine hrow'.holds (j+i) _ ?_;have hl:(hexc m::D).length=65 - j:=by have:=HD.out; have:=HJ.out; simp; omega
    simp only [bs,List.map_append];rw [List.getElem?_append_right (by rw [List.length_map]; omega),List.length_map,hpl,Nat.add_sub_cancel_left,List.getElem?_map,List.getElem?_eq_getElem (by omega)]
    simp [List.getD,List.getElem?_eq_getElem (show i<(hexc m::D).length by omega)]
   have HF:Hid (hexMin 15 n=hexc m::D):=by
    refine HE.out.trans ?_;generalize 15 - d=f
    cases f with
    |zero=>rw [hexMin,Nat.mod_eq_of_lt (by omega)]; rfl
    |succ f=>rw [hexMin,if_pos (by omega)]; rfl
   clear hrow';go_wp2_with fail
   go_ret2;exact ⟨by rw [HF.out]; rfl,hb.setCell (p:=⟨w.heap.size,j,none⟩) (Nat.le_refl _) _⟩
theorem fmt16_any (n:Nat) (hn:n<16 ^ 16) (w:World) (hT:Tab16 w) (hTs:9<w.heap.size) :
 Calls Tryz.prog 213 #[.int .u64 n,.int .i64 16] w fun e w'=>e=.returned (.string ⟨(hexMin 15 n).toArray⟩)∧Below w.heap.size w w':=by
 have HT:Hid (Tab16 w):=hT;clear hT
 have hi:Calls Tryz.prog 282 #[.int .u64 n,.int .i64 16] w fun e w'=>e=.returned (.string ⟨(hexMin 15 n).toArray⟩)∧Below w.heap.size w w':=by
  go_enter Tryz.func282,Tryz.ntmps282
  go_wp2_with fail
  refine (formatBits16 n hn w HT.out hTs).mono ?_;rintro e w' ⟨rfl,hb⟩;go_wp2_with fail
  go_ret;exact ⟨rfl,hb⟩
 go_enter Tryz.func213,Tryz.ntmps213
 go_wp2_with fail
 refine hi.mono ?_;rintro e w' ⟨rfl,hb⟩;go_wp2_with fail
 go_ret;exact ⟨rfl,hb⟩
set_option maxHeartbeats 1000000
theorem Tab16.below {B:Nat} {w w':World} (h:Tab16 w) (hb:Below B w w') (hB:9<B):Tab16 w':=(hb.cell (p:=⟨9,15,none⟩) hB).trans h
theorem repeat_one (c:Nat):Lib.repeatL (⟨#[48]⟩:ByteArray).data.toList c=List.replicate c 48:=by
 induction c with
 |zero=>rfl
 |succ c ih=>rw [Lib.repeatL,ih]; rfl
theorem refTag_any (key:Int) (s:ByteArray) (w:World) (hs:s.size≤1000000) (hT:Tab16 w) (hTs:9<w.heap.size) :
 Calls Tryz.prog 134 #[.int .i64 key,.string s] w fun e w'=>e=.returned (.string ⟨(tag key s.data.toList).toArray⟩)∧Below w.heap.size w w':=by
 have hbd:=sip_bd (IntKind.u64.wrap key) (rl (IntKind.u64.wrap key) 32) s.data.toList;obtain ⟨n,hn⟩:=Int.eq_ofNat_of_zero_le hbd.1;have HT:Hid (tag key s.data.toList=hexsN 16 n):=by unfold tag Hid; rw [hn]; rfl
 have HN:Hid (sip (IntKind.u64.wrap key) (rl (IntKind.u64.wrap key) 32) s.data.toList=(n:Int)):=hn;have hn2:n<16 ^ 16:=by omega
 have HTab:Hid (Tab16 w):=hT;clear hn hbd hT;go_enter Tryz.func134,Tryz.ntmps134
 go_wp2_with fail
 refine (refTurn32 _ _).mono ?_;rintro e w1 ⟨rfl,n1,rfl⟩;go_wp2_with fail
 refine (refSum_any _ _ s _ hs).mono ?_;rintro e w2 ⟨rfl,hb2⟩;rw [HN.out];have hb2':Below w.heap.size w w2:=(below_drewN (Below.refl _ _) n1).trans hb2;have hsz2:=hb2'.size;go_wp2_with fail
 refine (fmt16_any n hn2 _ (HTab.out.below hb2' hTs) (Nat.lt_of_lt_of_le hTs hsz2)).mono ?_;rintro e w3 ⟨rfl,hb3⟩;have hmin:=hexMin_le 15 n 16 (by decide) hn2 (by decide)
 have HP:Hid (List.replicate (16 - (hexMin 15 n).length) 48 ++ hexMin 15 n=hexsN 16 n):=hex_pad 15 n 16 (by decide) hn2 (by decide)
 generalize hexMin 15 n=X at *;obtain ⟨c,hc⟩:∃ c,c=16 - X.length:=⟨_,rfl⟩;have HC:Hid (c=16 - X.length):=hc;have hc16:c≤16:=by omega
 clear hc;go_wp2_with fail
 have HI:Hid ((16:Int) - (X.length:Int)=(c:Int)):=by have:=HC.out; unfold Hid; omega
 rw [HI.out];refine (Tryz.strings_Repeat _ c _ (by omega) (by simp [ByteArray.size]; omega)).mono ?_
 rintro e w4 ⟨rfl,hb4⟩;rw [repeat_one]
 go_wp2_with fail
 go_ret;refine ⟨?_,hb2'.trans ((hb3.mono hsz2).trans (hb4.mono (Nat.le_trans hsz2 hb3.size)))⟩;rw [HT.out,← HP.out,← HC.out];rfl
end Go.Proofs.YtlailakofhenkabGreatDoor
set_option maxHeartbeats 4000000
namespace Go.Proofs.YtlailakofhenkabGreatDoor
open Go.RowKit Tok
def tokV (t:T):Value:=.agg #[.int .i64 t.k,.int .i64 t.f,.int .i64 t.g,.int .i64 t.e]
theorem below_grown (w:World) (k:Nat) (os:Array Obj):Below w.heap.size w (Go.Sort.grow (w.drewN k) os):=by
 have h:=below_drewN (Below.refl w.heap.size w) k;have hs:(w.drewN k).heap=w.heap:=by simp
 refine ⟨h.os,h.tape,h.output,?_,fun i hi=>?_⟩
 ·show w.heap.size≤((w.drewN k).heap ++ os).size
  rw [hs,Array.size_append]; omega
 ·show ((w.drewN k).heap ++ os)[i]?=w.heap[i]?
  rw [hs,Array.getElem?_append_left hi]
theorem tabIs_below {B:Nat} {w w':World} {name:String} {k:IntKind} {zs:List Int} {g:Nat} (h:Lib.TabIs Tryz.prog w name k zs) (hb:Below B w w') (hg:Tryz.prog.globalNamed name=some g) (hB:g<B):Lib.TabIs Tryz.prog w' name k zs:=by
 unfold Lib.TabIs World.var? at *;simp only [hg,Option.bind_some] at h ⊢;rw [hb.block g hB];exact h
def Bigs (n:Nat):Prop:=3<n∧9<n∧0<n
theorem Bigs.le {n m:Nat} (h:Bigs n) (k:n≤m):Bigs m:=⟨Nat.lt_of_lt_of_le h.1 k,Nat.lt_of_lt_of_le h.2.1 k,Nat.lt_of_lt_of_le h.2.2 k⟩
structure Libs (w:World):Prop where
 big:Bigs w.heap.size
 pow : Lib.TabIs Tryz.prog w "internal/strconv.uint64pow10" .u64 Lib.pow10Tab
 t16:Tab16 w
 err:ErrVar w
theorem gPow : Tryz.prog.globalNamed "internal/strconv.uint64pow10" = some 3 := by kernel_rfl
theorem Libs.below {B:Nat} {w w':World} (h:Libs w) (hb:Below B w w') (hB:Bigs B):Libs w' where
 big:=h.big.le hb.size
 pow:=tabIs_below h.pow hb gPow hB.1
 t16:=h.t16.below hb hB.2.1
 err:=(hb.cell (p:=⟨0,0,none⟩) hB.2.2).trans h.err
theorem itoa_is (n:Int) (w:World) (h0:0≤n) (h1:n≤9223372036854775807) (hL:Libs w):Calls Tryz.prog 57 #[.int .i64 n] w fun e w'=>e=.returned (.string ⟨(Lib.itoa n).toArray⟩)∧Below w.heap.size w w':=by
 refine (Tryz.strconv_Itoa n (by omega) h1 w hL.pow).mono ?_
 rintro e w' ⟨rfl,k,os,rfl⟩;exact ⟨rfl,below_grown _ _ _⟩
theorem inBounds_is (n:Int) (w:World):Calls Tryz.prog 215 #[.int .i64 n] w fun e w'=>e=.returned (.bool (okB n))∧w'=w:=by
 by_cases h0:0≤n
 ·by_cases h1:n≤1099511627776
  ·have hd:Hid (okB n=true):=okB_t ⟨h0,h1⟩
   go_enter Tryz.func215,Tryz.ntmps215
   go_wp2_with fail
   go_ret;exact ⟨by rw [hd.out]; rfl,rfl⟩
  ·have hd:Hid (okB n=false):=okB_f (fun h=>h1 h.2)
   go_enter Tryz.func215,Tryz.ntmps215
   go_wp2_with fail
   go_ret;exact ⟨by rw [hd.out]; rfl,rfl⟩
 ·have hd:Hid (okB n=false):=okB_f (fun h=>h0 h.1)
  go_enter Tryz.func215,Tryz.ntmps215
  go_wp2_with fail
  go_ret;exact ⟨by rw [hd.out]; rfl,rfl⟩
theorem in_is (n:Int) (w:World):Calls Tryz.prog 66 #[.int .i64 n,.int .i64 0,.int .i64 1099511627776] w fun e w'=>e=.returned (.bool (okB n))∧w'=w:=by
 by_cases h0:0≤n
 ·by_cases h1:n≤1099511627776
  ·have hd:Hid (okB n=true):=okB_t ⟨h0,h1⟩
   go_enter Tryz.func66,Tryz.ntmps66
   go_wp2_with fail
   go_ret;exact ⟨by rw [hd.out]; rfl,rfl⟩
  ·have hd:Hid (okB n=false):=okB_f (fun h=>h1 h.2)
   go_enter Tryz.func66,Tryz.ntmps66
   go_wp2_with fail
   go_ret;exact ⟨by rw [hd.out]; rfl,rfl⟩
 ·have hd:Hid (okB n=false):=okB_f (fun h=>h0 h.1)
  go_enter Tryz.func66,Tryz.ntmps66
  go_wp2_with fail
  go_ret;exact ⟨by rw [hd.out]; rfl,rfl⟩
theorem mayBe_is (t:T) (w:World):Calls Tryz.prog 135 #[tokV t] w fun e w'=>e=.returned (.bool (mayB t))∧Below w.heap.size w w':=by
 obtain ⟨k,f,g,e⟩:=t;unfold tokV;simp only;go_enter Tryz.func135,Tryz.ntmps135
 go_wp2_with (go_at_call 215; refine (inBounds_is _ _).mono ?_; rintro e w' ⟨rfl,rfl⟩)
 all_goals (go_ret; refine ⟨congrArg Ending.returned (congrArg Value.bool ?_),(Below.refl w.heap.size w).alloc (Nat.le_refl _) _⟩)
 all_goals simp_all [mayB]
theorem bstr {x:ByteArray} {l:List UInt8} (h:x.data.toList=l):x=⟨l.toArray⟩:=by
 apply ByteArray.ext
 apply Array.toList_inj.1
 simpa using h
theorem quiet_itoa {W:World} (n:Int) (h0:0≤n) (h1:n≤9223372036854775807) (hL:Libs W):∀ d os,Calls Tryz.prog 57 #[.int .i64 n] (Go.Sort.grow (redrawn W d) os) fun e w''=>e=.returned (.string ⟨(Lib.itoa n).toArray⟩)∧∃ p:Regrown,w''=Go.Sort.grow (redrawn W p.d) p.os:=
 fun d os=>Calls.regrown_of (itoa_is n _ h0 h1 (hL.below (below_regrown W d os) hL.big))
theorem mixed:Tryz.prog.follows .mixedOrders=true:=by kernel_rfl
theorem bodyP_is (t:T) (w:World) (h:may t) (hL:Libs w):Calls Tryz.prog 136 #[tokV t] w fun e w'=>e=.returned (.string ⟨(body t).toArray⟩)∧Below w.heap.size w w':=by
 obtain ⟨k,f,g,e⟩:=t;obtain ⟨hk,hf,hg⟩:=h;unfold okN at hf hg;simp only at hk hf hg;have hB:Below w.heap.size w (w.alloc (.cells #[.int .i64 k,.int .i64 f,.int .i64 g,.int .i64 e] 142)):=(Below.refl _ _).alloc (Nat.le_refl _) _;have hL2:=hL.below hB hL.big;have c0:(w.alloc (.cells #[.int .i64 k,.int .i64 f,.int .i64 g,.int .i64 e] 142)).cell? ⟨w.heap.size,0,none⟩=some (.int .i64 k):=by simp
 have c1:(w.alloc (.cells #[.int .i64 k,.int .i64 f,.int .i64 g,.int .i64 e] 142)).cell? ⟨w.heap.size,1,none⟩=some (.int .i64 f):=by simp
 have c2:(w.alloc (.cells #[.int .i64 k,.int .i64 f,.int .i64 g,.int .i64 e] 142)).cell? ⟨w.heap.size,2,none⟩=some (.int .i64 g):=by simp
 have c3:(w.alloc (.cells #[.int .i64 k,.int .i64 f,.int .i64 g,.int .i64 e] 142)).cell? ⟨w.heap.size,3,none⟩=some (.int .i64 e):=by simp
 have hlt:w.heap.size<(w.alloc (.cells #[.int .i64 k,.int .i64 f,.int .i64 g,.int .i64 e] 142)).heap.size:=by simp
 have hlf:=Lib.itoa_length_le f (by omega) (by omega)
 have hlg:=Lib.itoa_length_le g (by omega) (by omega)
 have n1:¬ 9223372036854775807<1+(Lib.itoa f).length:=by omega
 have n2:¬ 9223372036854775807<1+(Lib.itoa f).length+1:=by omega
 have n3:¬ 9223372036854775807<1+(Lib.itoa f).length+1+(Lib.itoa g).length:=by omega
 have cf:=quiet_itoa f hf.1 (by omega) hL2
 have cg:=quiet_itoa g hg.1 (by omega) hL2
 have k1:=cell_regrown c1;have k2:=cell_regrown c2;unfold tokV;simp only;go_enter Tryz.func136,Tryz.ntmps136
 go_wp2_with fail
 generalize w.alloc (.cells #[.int .i64 k,.int .i64 f,.int .i64 g,.int .i64 e] 142)=W at *;have HL:Hid (Libs W):=hL2;have HB:Hid (Below w.heap.size w W):=hB;have HLT:Hid (w.heap.size<W.heap.size):=hlt;have hsz:Hid (w.heap.size≤W.heap.size):=hB.size;clear hL hL2 hB hlt;generalize hbb:w.heap.size=b at *;have HBb:Hid (w.heap.size=b):=hbb;clear hbb;refine wp_region_quiet_below mixed (by kernel_rfl) ?_
 repeat (quiet_step (first | exact cf _ _ | exact cg _ _))
 refine wpQuiet_nil ?_;intro W2 hw';obtain ⟨⟨dq,osq⟩,hw''⟩:=hw';have HB2:Below W.heap.size W W2:=by rw [hw'']; exact below_regrown W dq osq
 have HL2:=HL.out.below HB2 HL.out.big;have e0:=(HB2.cell (p:=⟨b,0,none⟩) HLT.out).trans c0;have e3:=(HB2.cell (p:=⟨b,3,none⟩) HLT.out).trans c3;clear hw'' cf cg k1 k2;rcases hk with ⟨rfl,rfl⟩ | ⟨rfl,he⟩
 ·go_wp2_with fail
  go_ret;exact ⟨congrArg Ending.returned (congrArg Value.string (bstr (by simp [body]))),by rw [HBb.out]; exact HB.out.trans (HB2.mono hsz.out)⟩
 ·unfold okN at he
  have hle:=Lib.itoa_length_le e (by omega) (by omega)
  have hi:Hid (0≤e∧e≤1099511627776):=he;clear he;go_wp2_with fail
  refine (itoa_is e _ hi.out.1 (by have:=hi.out.2; omega) HL2).mono ?_
  rintro e1 w3 ⟨rfl,hb3⟩;go_wp2_with fail
  go_ret;exact ⟨congrArg Ending.returned (congrArg Value.string (bstr (by simp [body]))),by rw [HBb.out]; exact (HB.out.trans (HB2.mono hsz.out)).trans (hb3.mono (Nat.le_trans hsz.out HB2.size))⟩
theorem bodyR_is (t:T) (w:World) (h:may t) (hL:Libs w):Calls Tryz.prog 133 #[tokV t] w fun e w'=>e=.returned (.string ⟨(body t).toArray⟩)∧Below w.heap.size w w':=by
 obtain ⟨k,f,g,e⟩:=t;obtain ⟨hk,hf,hg⟩:=h;unfold okN at hf hg;simp only at hk hf hg;have hB:Below w.heap.size w (w.alloc (.cells #[.int .i64 k,.int .i64 f,.int .i64 g,.int .i64 e] 137)):=(Below.refl _ _).alloc (Nat.le_refl _) _;have hL2:=hL.below hB hL.big;have c0:(w.alloc (.cells #[.int .i64 k,.int .i64 f,.int .i64 g,.int .i64 e] 137)).cell? ⟨w.heap.size,0,none⟩=some (.int .i64 k):=by simp
 have c1:(w.alloc (.cells #[.int .i64 k,.int .i64 f,.int .i64 g,.int .i64 e] 137)).cell? ⟨w.heap.size,1,none⟩=some (.int .i64 f):=by simp
 have c2:(w.alloc (.cells #[.int .i64 k,.int .i64 f,.int .i64 g,.int .i64 e] 137)).cell? ⟨w.heap.size,2,none⟩=some (.int .i64 g):=by simp
 have c3:(w.alloc (.cells #[.int .i64 k,.int .i64 f,.int .i64 g,.int .i64 e] 137)).cell? ⟨w.heap.size,3,none⟩=some (.int .i64 e):=by simp
 have hlf:=Lib.itoa_length_le f (by omega) (by omega)
 have hlg:=Lib.itoa_length_le g (by omega) (by omega)
 have n1:¬ 9223372036854775807<2+(Lib.itoa f).length:=by omega
 have n2:¬ 9223372036854775807<2+(Lib.itoa f).length+1:=by omega
 have n3:¬ 9223372036854775807<2+(Lib.itoa f).length+1+(Lib.itoa g).length:=by omega
 have n4:¬ 9223372036854775807<2+(Lib.itoa f).length+1+(Lib.itoa g).length+1:=by omega
 have cf:=quiet_itoa f hf.1 (by omega) hL2
 have cg:=quiet_itoa g hg.1 (by omega) hL2
 have k1:=cell_regrown c1;have k2:=cell_regrown c2;rcases hk with ⟨rfl,rfl⟩ | ⟨rfl,he⟩
 ·unfold tokV
  simp only;go_enter Tryz.func133,Tryz.ntmps133
  go_wp2_with fail
  refine wp_region_quiet_below mixed (by kernel_rfl) ?_
  repeat (quiet_step (first | exact cf _ _ | exact cg _ _))
  refine wpQuiet_nil ?_;intro W2 hw';obtain ⟨⟨dq,osq⟩,hw''⟩:=hw';have HB2:=below_regrown (w.alloc (.cells #[.int .i64 1,.int .i64 f,.int .i64 g,.int .i64 0] 137)) dq osq;rw [← hw''] at HB2;clear hw'' cf cg k1 k2;go_wp2_with fail
  go_ret;exact ⟨congrArg Ending.returned (congrArg Value.string (bstr (by simp [body]))),hB.trans (HB2.mono hB.size)⟩
 ·unfold okN at he
  have hle:=Lib.itoa_length_le e (by omega) (by omega)
  have n5:¬ 9223372036854775807<2+(Lib.itoa f).length+1+(Lib.itoa g).length+1+(Lib.itoa e).length:=by omega
  have ce:=quiet_itoa e he.1 (by omega) hL2
  have k3:=cell_regrown c3;unfold tokV;simp only;go_enter Tryz.func133,Tryz.ntmps133
  go_wp2_with fail
  refine wp_region_quiet_below mixed (by kernel_rfl) ?_
  repeat (quiet_step (first | exact cf _ _ | exact cg _ _ | exact ce _ _))
  refine wpQuiet_nil ?_;intro W2 hw';obtain ⟨⟨dq,osq⟩,hw''⟩:=hw';have HB2:=below_regrown (w.alloc (.cells #[.int .i64 2,.int .i64 f,.int .i64 g,.int .i64 e] 137)) dq osq;rw [← hw''] at HB2;clear hw'' cf cg ce k1 k2 k3;go_wp2_with fail
  go_ret;exact ⟨congrArg Ending.returned (congrArg Value.string (bstr (by simp [body]))),hB.trans (HB2.mono hB.size)⟩
theorem body_len {t:T} (h:may t):(body t).length≤70:=by
 obtain ⟨k,f,g,e⟩:=t;obtain ⟨hk,hf,hg⟩:=h;unfold okN at *;simp only at hk hf hg;have hlf:=Lib.itoa_length_le f (by omega) (by omega)
 have hlg:=Lib.itoa_length_le g (by omega) (by omega)
 unfold body;simp only;rcases hk with ⟨rfl,rfl⟩ | ⟨rfl,he⟩
 ·rw [if_pos rfl]; simp; omega
 ·have hle:=Lib.itoa_length_le e (by omega) (by omega)
  rw [if_neg (by decide)]; simp; omega
def textOf (key:Int) (t:T):List UInt8:=body t ++ 46::tag key (body t)
theorem macTag_list (key:Int) (l:List UInt8) (w:World) (hl:l.length≤9223372036854775807):Calls Tryz.prog 137 #[.int .i64 key,.string ⟨l.toArray⟩] w fun e w'=>e=.returned (.string ⟨(tag key l).toArray⟩)∧Below w.heap.size w w':=by
 have h:=macTag_any key ⟨l.toArray⟩ w (by simpa [ByteArray.size] using hl)
 simpa using h
theorem refTag_list (key:Int) (l:List UInt8) (w:World) (hl:l.length≤1000000) (hL:Libs w):Calls Tryz.prog 134 #[.int .i64 key,.string ⟨l.toArray⟩] w fun e w'=>e=.returned (.string ⟨(tag key l).toArray⟩)∧Below w.heap.size w w':=by
 have h:=refTag_any key ⟨l.toArray⟩ w (by simpa [ByteArray.size] using hl) hL.t16 hL.big.2.1
 simpa using h
theorem tag_len (key:Int) (l:List UInt8):(tag key l).length=16:=Hex.hexsN_length _ _
theorem writeP_yes (key:Int) (t:T) (w:World) (h:may t) (hL:Libs w):Calls Tryz.prog 81 #[.int .i64 key,tokV t] w fun e w'=>e=.returned (.tuple #[.string ⟨(textOf key t).toArray⟩,.nilIface])∧Below w.heap.size w w':=by
 have hd:mayB t=true:=mayB_t h;have hl:=body_len h;have hlt:=tag_len key (body t);have HH:Hid (may t):=h;have HL:Hid (Libs w):=hL;have HX:Hid (textOf key t=body t ++ 46::tag key (body t)):=rfl;clear h hL;obtain ⟨k,f,g,e⟩:=t;unfold tokV;simp only;go_enter Tryz.func81,Tryz.ntmps81
 go_wp2_with fail
 refine (mayBe_is ⟨k,f,g,e⟩ _).mono ?_;rintro e1 w1 ⟨rfl,hb1⟩;rw [hd];have hB0:Below w.heap.size w (w.alloc (.cells #[.int .i64 k,.int .i64 f,.int .i64 g,.int .i64 e] 142)):=(Below.refl _ _).alloc (Nat.le_refl _) _;have c0:=(hb1.cell (p:=⟨w.heap.size,0,none⟩) (by simp)).trans (World.cell?_alloc_at _ _ _ _ rfl)
 have c1:=(hb1.cell (p:=⟨w.heap.size,1,none⟩) (by simp)).trans (World.cell?_alloc_at _ _ _ _ rfl)
 have c2:=(hb1.cell (p:=⟨w.heap.size,2,none⟩) (by simp)).trans (World.cell?_alloc_at _ _ _ _ rfl)
 have c3:=(hb1.cell (p:=⟨w.heap.size,3,none⟩) (by simp)).trans (World.cell?_alloc_at _ _ _ _ rfl)
 simp at c0 c1 c2 c3
 have HB1:Hid (Below w.heap.size w w1):=hB0.trans (hb1.mono hB0.size);have HL1:=HL.out.below HB1.out HL.out.big;clear hb1 hB0;go_wp2_with fail
 refine (bodyP_is ⟨k,f,g,e⟩ _ HH.out HL1).mono ?_;rintro e2 w2 ⟨rfl,hb2⟩;have HB2:Hid (Below w.heap.size w w2):=HB1.out.trans (hb2.mono HB1.out.size);clear hb2 c0 c1 c2 c3;generalize body ⟨k,f,g,e⟩=B at *;go_wp2_with fail
 refine (macTag_list key B _ (by omega)).mono ?_
 rintro e3 w3 ⟨rfl,hb3⟩;have HB3:Hid (Below w.heap.size w w3):=HB2.out.trans (hb3.mono HB2.out.size);clear hb3;generalize tag key B=G at *;go_wp2_with fail
 go_ret2;refine ⟨?_,HB3.out⟩;rw [HX.out];refine congrArg Ending.returned (congrArg Value.tuple ?_);rw [show (⟨B.toArray⟩ ++ ⟨#[46]⟩ ++ ⟨G.toArray⟩:ByteArray)=⟨(B ++ 46::G).toArray⟩ from bstr (by simp)]
 rfl
theorem writeR_no (key:Int) (t:T) (w:World) (h:¬ may t):Calls Tryz.prog 79 #[.int .i64 key,tokV t] w fun e w'=>e=.returned (.tuple #[.string ByteArray.empty,.int .i64 1])∧Below w.heap.size w w':=by
 have HH:Hid (¬ may t):=h;clear h;obtain ⟨k,f,g,e⟩:=t;unfold tokV;simp only;go_enter Tryz.func79,Tryz.ntmps79
 go_wp2_with (go_at_call 66; refine (in_is _ _).mono ?_; rintro e w' ⟨rfl,rfl⟩)
 all_goals first
  |(refine absurd ?_ HH.out; simp_all [may,← okB_iff]; done)
  |(go_ret2; exact ⟨rfl,(Below.refl _ _).alloc (Nat.le_refl _) _⟩)
theorem writeR_yes (key:Int) (t:T) (w:World) (h:may t) (hL:Libs w):Calls Tryz.prog 79 #[.int .i64 key,tokV t] w fun e w'=>e=.returned (.tuple #[.string ⟨(textOf key t).toArray⟩,.int .i64 0])∧Below w.heap.size w w':=by
 have hl:=body_len h;have hlt:=tag_len key (body t);have HX:Hid (textOf key t=body t ++ 46::tag key (body t)):=rfl;have HL0:Hid (Libs w):=hL;obtain ⟨k,f,g,e⟩:=t;have hB:Below w.heap.size w (w.alloc (.cells #[.int .i64 k,.int .i64 f,.int .i64 g,.int .i64 e] 137)):=(Below.refl _ _).alloc (Nat.le_refl _) _;have hL2:=hL.below hB hL.big;have k0:=cell_regrown (show (w.alloc (.cells #[.int .i64 k,.int .i64 f,.int .i64 g,.int .i64 e] 137)).cell? ⟨w.heap.size,0,none⟩=some (.int .i64 k) by simp)
 have k1:=cell_regrown (show (w.alloc (.cells #[.int .i64 k,.int .i64 f,.int .i64 g,.int .i64 e] 137)).cell? ⟨w.heap.size,1,none⟩=some (.int .i64 f) by simp)
 have k2:=cell_regrown (show (w.alloc (.cells #[.int .i64 k,.int .i64 f,.int .i64 g,.int .i64 e] 137)).cell? ⟨w.heap.size,2,none⟩=some (.int .i64 g) by simp)
 have k3:=cell_regrown (show (w.alloc (.cells #[.int .i64 k,.int .i64 f,.int .i64 g,.int .i64 e] 137)).cell? ⟨w.heap.size,3,none⟩=some (.int .i64 e) by simp)
 have cB:∀ d os,Calls Tryz.prog 133 #[.agg #[.int .i64 k,.int .i64 f,.int .i64 g,.int .i64 e]] (Go.Sort.grow (redrawn (w.alloc (.cells #[.int .i64 k,.int .i64 f,.int .i64 g,.int .i64 e] 137)) d) os) fun e' w''=>e'=.returned (.string ⟨(body ⟨k,f,g,e⟩).toArray⟩)∧∃ p:Regrown,w''=Go.Sort.grow (redrawn (w.alloc (.cells #[.int .i64 k,.int .i64 f,.int .i64 g,.int .i64 e] 137)) p.d) p.os:=
  fun d os=>Calls.regrown_of (bodyR_is ⟨k,f,g,e⟩ _ h (hL2.below (below_regrown _ d os) hL2.big))
 have cT:∀ d os,Calls Tryz.prog 134 #[.int .i64 key,.string ⟨(body ⟨k,f,g,e⟩).toArray⟩] (Go.Sort.grow (redrawn (w.alloc (.cells #[.int .i64 k,.int .i64 f,.int .i64 g,.int .i64 e] 137)) d) os) fun e' w''=>e'=.returned (.string ⟨(tag key (body ⟨k,f,g,e⟩)).toArray⟩)∧∃ p:Regrown,w''=Go.Sort.grow (redrawn (w.alloc (.cells #[.int .i64 k,.int .i64 f,.int .i64 g,.int .i64 e] 137)) p.d) p.os:=
  fun d os=>Calls.regrown_of (refTag_list key _ _ (by omega) (hL2.below (below_regrown _ d os) hL2.big))
 have HB:Hid _:=hB;clear hB hL hL2;obtain ⟨hk,hf,hg⟩:=h;simp only at hk hf hg;have n1:¬ 9223372036854775807<(body ⟨k,f,g,e⟩).length+1:=by omega
 have n2:¬ 9223372036854775807<(body ⟨k,f,g,e⟩).length+1+(tag key (body ⟨k,f,g,e⟩)).length:=by omega
 clear hl hlt;generalize hb:body ⟨k,f,g,e⟩=B at *;generalize tag key B=G at *;clear hb;have hdf:okB f=true:=okB_t hf;have hdg:okB g=true:=okB_t hg;rcases hk with ⟨rfl,rfl⟩ | ⟨rfl,he⟩
 ·unfold tokV
  simp only;go_enter Tryz.func79,Tryz.ntmps79
  go_wp2_with (go_at_call 66; refine (in_is _ _).mono ?_; rintro e w' ⟨rfl,rfl⟩)
  refine wp_region_quiet_below mixed (by kernel_rfl) ?_
  repeat (quiet_step (first | exact cB _ _ | exact cT _ _))
  refine wpQuiet_nil ?_;intro W2 hw';obtain ⟨⟨dq,osq⟩,hw''⟩:=hw';have HB2:=below_regrown (w.alloc (.cells #[.int .i64 1,.int .i64 f,.int .i64 g,.int .i64 0] 137)) dq osq;rw [← hw''] at HB2;have HB3:Hid (Below w.heap.size w W2):=HB.out.trans (HB2.mono HB.out.size);clear hw'' HB2 cB cT k0 k1 k2 k3;go_wp2_with fail
  go_ret2;refine ⟨?_,HB3.out⟩;rw [HX.out];refine congrArg Ending.returned (congrArg Value.tuple ?_);rw [show (⟨B.toArray⟩ ++ ⟨#[46]⟩ ++ ⟨G.toArray⟩:ByteArray)=⟨(B ++ 46::G).toArray⟩ from bstr (by simp)]
  rfl
 ·have hde:okB e=true:=okB_t he
  unfold tokV;simp only;go_enter Tryz.func79,Tryz.ntmps79
  go_wp2_with (go_at_call 66; refine (in_is _ _).mono ?_; rintro e w' ⟨rfl,rfl⟩)
  refine wp_region_quiet_below mixed (by kernel_rfl) ?_
  repeat (quiet_step (first | exact cB _ _ | exact cT _ _))
  refine wpQuiet_nil ?_;intro W2 hw';obtain ⟨⟨dq,osq⟩,hw''⟩:=hw';have HB2:=below_regrown (w.alloc (.cells #[.int .i64 2,.int .i64 f,.int .i64 g,.int .i64 e] 137)) dq osq;rw [← hw''] at HB2;have HB3:Hid (Below w.heap.size w W2):=HB.out.trans (HB2.mono HB.out.size);clear hw'' HB2 cB cT k0 k1 k2 k3;go_wp2_with fail
  go_ret2;refine ⟨?_,HB3.out⟩;rw [HX.out];refine congrArg Ending.returned (congrArg Value.tuple ?_);rw [show (⟨B.toArray⟩ ++ ⟨#[46]⟩ ++ ⟨G.toArray⟩:ByteArray)=⟨(B ++ 46::G).toArray⟩ from bstr (by simp)]
  rfl
end Go.Proofs.YtlailakofhenkabGreatDoor
