import Derived.Test.YtlailakofhenkabGreatDoorB26
set_option maxRecDepth 100000
set_option maxHeartbeats 8000000
namespace Go.Proofs.YtlailakofhenkabGreatDoor
open Go Go.RowKit Tok Sc Ev Tryz RegD
attribute [local go_sem] rA oA
def iz(f:Fam):List ByteArray:= [bs8 (Lib.itoa f.id),f.client,f.subject,fD f.scope,bs8 (Lib.itoa f.gen),bs8 (Lib.itoa f.made),bs8 (Lib.itoa f.used),fD f.request]
theorem oE(s:ByteArray):(fD s).data.toList=wordL s.data.toList:=by
 unfold fD wordL;split <;> rfl
def Ax(f:Fam):List ByteArray:=iz f ++ if f.dead=true then [(⟨#[100,101,97,100]⟩:ByteArray)] else []
theorem Cg(f:Fam):Lib.join ((Ax f).map (·.data.toList)) [32]=famL f:=by
 unfold famL Ax iz;rw[List.map_append];congr 2
 ·simp[oE,bs8]
 ·split <;> rfl
theorem CP(w:World)(xs:List ByteArray)(t:TypeId)(h:xs.length<=5000):aN w.heap.size (w.alloc (.cells (xs.map Value.string).toArray t)) w.heap.size xs.length xs.length (xs.map Value.string):=by
 refine⟨Nat.le_refl _,by simp,by simp,Nat.le_refl _,by unfold maxLen; omega,fun j u hj=>?_,fun j hj=>⟨?_,Ff _ _ _ _ rfl⟩⟩
 ·rw[World.cell?_alloc_at _ _ _ _ rfl]
  simpa using hj
 ·rw[World.cell?_alloc_at _ _ _ _ rfl]
  simp[hj]
theorem pY{B:Nat}{w:World}{v:Value}{xs:List ByteArray}(sep:ByteArray)(h:aw B w v xs)(hn:(Lib.join (xs.map (·.data.toList)) sep.data.toList).length<=1000000)(hx:xs.length<=100000):
 Calls prog 114 #[v,.string sep] w fun e w'=>e=.returned (.string ⟨(Lib.join (xs.map (·.data.toList)) sep.data.toList).toArray⟩)∧Below w.heap.size w w':=by
 rcases h with ⟨rfl,rfl⟩ | ⟨g,c,rfl,hr⟩
 ·refine (strings_Join_none none 0 sep w).mono ?_
  rintro e w' ⟨rfl,rfl⟩;exact⟨rfl,E9 _ _⟩
 ·refine strings_Join g 0 c xs sep w (fun j x hj=>?_) hr.lt (by omega) hr.le (Fe hn (by omega))
  rw[Nat.zero_add];refine hr.holds j _ ?_;rw[List.getElem?_map,hj];rfl
theorem wb(f:Fam)(w:World)(hf:bP f)(hl:(famL f).length<=100000)(hL:av w):Calls prog 296 #[ap f] w fun e w'=>e=.returned (.string ⟨(famL f).toArray⟩)∧Below w.heap.size w w':=by
 have o:Hid _:=Cg f;have t:Hid _:=hl;have p:Hid _:=hf.1;have C:=bA w (.cells (F_ f.id f.client f.subject f.scope f.gen f.made f.used f.request f.dead) 40);have L:Hid _:=C;have O:Hid _:=FB.made w f 40;have D:Hid _:=hL.on C;have c:Hid _:=C.size;unfold ap ac;go_enter func296,ntmps296
 go_upto_region 1 with fail
 generalize hW:(w.alloc (.cells (F_ f.id f.client f.subject f.scope f.gen f.made f.used f.request f.dead) 40))=W at *;generalize hg:w.heap.size=g at *;have M:Hid _:=hg;refine region_ (fun V=>FB V g f∧av V∧Below g W V) 22 ⟨O.o.on (E9 _ _).drew,D.o.on (E9 _ _).drew,(E9 _ _).drew⟩ fun hH=>?_;refine an [(0,p_ g 0),(1,.i_ f.id),(3,p_ g 1),(4,.string f.client),(5,p_ g 2),(6,.string f.subject),(7,p_ g 3),(8,.string f.scope),(10,p_ g 4),(11,.i_ f.gen),(13,p_ g 5),(14,.i_ f.made),(16,p_ g 6),(17,.i_ f.used),(19,p_ g 7),(20,.string f.request)] hH (fun W hW=>by have q:=hW.1.c0; have q:=hW.1.c1; have q:=hW.1.c2; have q:=hW.1.c3; have q:=hW.1.c4; have q:=hW.1.c5; have q:=hW.1.c6; have q:=hW.1.c7;go_simp) ?_;simp only[pA,oA,Act.put,pS1]
 refine one_ 2 ?_; intro K hK; go_simp;go_at_call 57
 refine (cQ f.id _ (by have:=p.o; have:=this.1; unfold okN at this; omega) (by have:=p.o; have:=this.1; unfold okN at this; omega) hH.2.1).mono ?_
 rintro e2 w2 ⟨rfl,hb2⟩;have j:Hid _:=hb2;go_wp2_with fail
 refine hK.out _ _ (⟨hH.1.on j.o,hH.2.1.on j.o,hH.2.2.trans (j.o.mono (by have:=c.o; have:=hH.2.2.size; omega))⟩) ?_
 intro hH;refine one_ 9 ?_; intro K hK; go_simp;go_at_call 301
 refine (ir f.scope _).mono ?_;rintro e9 w9 ⟨rfl,rfl⟩;go_wp2_with fail
 refine hK.out _ _ (hH) ?_;intro hH;refine one_ 12 ?_; intro K hK; go_simp;go_at_call 57
 refine (cQ f.gen _ (by have:=p.o; have:=this.2.1; unfold okN at this; omega) (by have:=p.o; have:=this.2.1; unfold okN at this; omega) hH.2.1).mono ?_
 rintro e12 w12 ⟨rfl,hb12⟩;have k:Hid _:=hb12;go_wp2_with fail
 refine hK.out _ _ (⟨hH.1.on k.o,hH.2.1.on k.o,hH.2.2.trans (k.o.mono (by have:=c.o; have:=hH.2.2.size; omega))⟩) ?_
 intro hH;refine one_ 15 ?_; intro K hK; go_simp;go_at_call 57
 refine (cQ f.made _ (by have:=p.o; have:=this.2.2.1; unfold okN at this; omega) (by have:=p.o; have:=this.2.2.1; unfold okN at this; omega) hH.2.1).mono ?_
 rintro e15 w15 ⟨rfl,hb15⟩;have m:Hid _:=hb15;go_wp2_with fail
 refine hK.out _ _ (⟨hH.1.on m.o,hH.2.1.on m.o,hH.2.2.trans (m.o.mono (by have:=c.o; have:=hH.2.2.size; omega))⟩) ?_
 intro hH;refine one_ 18 ?_; intro K hK; go_simp;go_at_call 57
 refine (cQ f.used _ (by have:=p.o; have:=this.2.2.2; unfold okN at this; omega) (by have:=p.o; have:=this.2.2.2; unfold okN at this; omega) hH.2.1).mono ?_
 rintro e18 w18 ⟨rfl,hb18⟩;have n:Hid _:=hb18;go_wp2_with fail
 refine hK.out _ _ (⟨hH.1.on n.o,hH.2.1.on n.o,hH.2.2.trans (n.o.mono (by have:=c.o; have:=hH.2.2.size; omega))⟩) ?_
 intro hH;refine one_ 21 ?_; intro K hK; go_simp;go_at_call 301
 refine (ir f.request _).mono ?_;rintro e21 w21 ⟨rfl,rfl⟩;go_wp2_with fail
 refine hK.out _ _ (hH) ?_;intro hH;refine late_ 22 ?_; intro K hK; go_simp;refine hK.out _ _ ?_;refine late_ 23 ?_; intro K hK; go_simp;refine hK.out _ _ ?_;refine done_ ?_;generalize hW2:w21.alloc _=W2;have j:Hid _:=hW2 ▸ bA _ _;have E:Hid _:=hW2 ▸ CP w21 (iz f) 9 (by unfold iz; simp)
 have v:Hid _:=j.o.size;have F:Hid _:=hH.1.on j.o;have r:Hid _:=hH.2.2.trans (j.o.mono (by have:=c.o; have:=hH.2.2.size; omega))
 have G:Hid (g<=w21.heap.size):=(show g<=w21.heap.size by have:=c.o; have:=hH.2.2.size; omega)
 generalize w21.heap.size=b at *;have z:Hid (aw b W2 (.slice (o_ b 0) 8 8) (iz f)):=.inr ⟨b,8,rfl,E.o⟩;obtain⟨i0,hi,hz0,hz1,hz2⟩:=vX;have N:=F.o.c8;unfold Ax at o
 cases hd:f.dead with
 |false=>
  rw[hd] at N o;simp only[Bool.false_eq_true,if_false,List.append_nil] at o;go_wp2_with fail
  go_at_call 114
  refine (pY ⟨#[32]⟩ z.o (by rw[o.o]; have:=t.o; omega) (by unfold iz; simp)).mono ?_
  rintro e3 w3 ⟨rfl,hb3⟩;rw[o.o];have s:Hid _:=r.o.trans (hb3.mono (by have:=c.o; have:=r.o.size; omega))
  go_wp2_with fail
  go_ret;have hf:=L.o.trans s.o;rw[<- M.o] at hf;exact⟨rfl,hf⟩
 |true=>
  rw[hd] at N o;simp only[if_true] at o;generalize Value.slice (o_ b 0) 8 8=vw at *;have A:Hid (Below b W2 (W2.alloc (.cells #[.string ⟨#[100,101,97,100]⟩] 9))):=(E9 _ _).alloc v.o _;have H:Hid (aw b (W2.alloc (.cells #[.string ⟨#[100,101,97,100]⟩] 9)) _ (iz f)):=z.o.below (bA _ _) (Fa _);have I:Hid ((iz f).length<=1000000):=(by unfold iz; simp:(iz f).length<=1000000)
  go_wp2_with (at_builtin; refine bz _ rfl _ _ 66 rfl 9 i0 underlying66 hi hz0 hz1 hz2 b _ _ rfl H.o (Fe v.o A.o.size) (a_ W2.heap.size 0) 1 ⟨#[100,101,97,100]⟩ rfl ((Fb _ _ _ _ rfl).trans rfl) I.o ?_)
  intro v5 w5 hw5 hb5;have J:Hid _:=hw5;have B:Hid _:=r.o.trans ((A.o.trans hb5).mono G.o);go_wp2_with fail
  go_at_call 114
  refine (pY ⟨#[32]⟩ J.o (by rw[o.o]; have:=t.o; omega) (by unfold iz; simp)).mono ?_
  rintro e3 w3 ⟨rfl,hb3⟩;rw[o.o];have s:Hid _:=B.o.trans (hb3.mono (by have:=c.o; have:=B.o.size; omega))
  go_wp2_with fail
  go_ret;have hf:=L.o.trans s.o;rw[<- M.o] at hf;exact⟨rfl,hf⟩
end Go.Proofs.YtlailakofhenkabGreatDoor
