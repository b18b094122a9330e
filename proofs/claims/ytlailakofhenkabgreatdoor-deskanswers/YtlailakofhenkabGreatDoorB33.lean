import Derived.Test.YtlailakofhenkabGreatDoorB32
set_option maxRecDepth 100000
set_option maxHeartbeats 8000000
namespace Go.Proofs.YtlailakofhenkabGreatDoor
open Go Go.RowKit Tok Sc Ev Tryz
theorem sK(n:Nat)(w:World)(hn:n<=100000)(hL:av w):Calls prog 96 #[.i_ (n:Int)] w fun e w'=>e=.returned (.string ⟨(errL n).toArray⟩)∧Below w.heap.size w w':=by
 obtain⟨k,hk,k0,k1⟩:∃k:Int,k=(n:Int)∧0<=k∧k<=100000:=⟨n,rfl,by omega,by omega⟩
 have c:errL n= [101,114,114,111,114,32] ++ Lib.itoa k:=by rw[hk]; rfl
 rw[c,<- hk];have f:J _:=cQ k w (by omega) (by omega) hL
 have hl:=ar (n:=k) ⟨k0,by omega⟩
 have g:¬ (9223372036854775807<6+(Lib.itoa k).length):=by omega
 have b:J ((⟨#[101,114,114,111,114,32]⟩:ByteArray) ++ (⟨(Lib.itoa k).toArray⟩:ByteArray)=⟨([101,114,114,111,114,32] ++ Lib.itoa k).toArray⟩):=by
  show _=_
  exact aK (by simp)
 clear hL hn hk k0 k1 c;go_enter func96,ntmps96
 go_wp2_with fail;go_at_call 57;refine Calls.mono f.o ?_;rintro e1 w1 ⟨rfl,hb1⟩;have j:J _:=hb1;clear hb1;go_wp2_with fail;go_ret;exact⟨congrArg (fun x=>Ending.returned (.string x)) b.o,j.o⟩
theorem oP(g:Nat)(w:World):CallsD prog 152 #[.pointer (some ⟨g,0,none⟩)] .returning w fun e u' w'=>e=.returned (.tuple #[])∧u'=.returning∧w'=w:=by
 refine callsD_of_wpS func152 rfl fun c₀ cs hu=>?_;apply wpS_seq
 apply wpS_region
 simp[wpOpsS,go_sem,recoverD,hu,ntmps152,Exit.thenS,Array.replicate]
 refine wpS_of_wp ?_;go_wp2_with fail;cases c₀
 simp_all [bodyPostS,results,results152]
theorem kW(g n:Nat)(x:Value)(older:List PanicEntry)(w:World)(hc:w.cell? ⟨g,0,none⟩=some x)(hz:w.frozen? ⟨g,0,none⟩=false)(hn:n<=100000)(hL:av w):
 CallsD prog 152 #[.pointer (some ⟨g,0,none⟩)] (.panicking ({ v:=.iface 47 (.int .i64 (n:Int)),recovered:=false }::older)) w fun e u' w'=>e=.returned (.tuple #[])∧u'=.panicking ({ v:=.iface 47 (.int .i64 (n:Int)),recovered:=true }::older)∧∃w1,Below w.heap.size w w1∧w'=w1.setCell ⟨g,0,none⟩ (.string ⟨(errL n).toArray⟩):=by
 have b:=Fc _ _ hc;have c:J _:=sK n w hn hL;clear hn hL;refine callsD_of_wpS func152 rfl fun c₀ cs hu=>?_;apply wpS_seq
 apply wpS_region
 simp[wpOpsS,go_sem,recoverD,hu,ntmps152,Exit.thenS,Array.replicate]
 refine wpS_of_wp ?_;go_wp2_with fail;go_at_call 153;refine (uv n _).mono ?_;rintro e1 w1 ⟨rfl,rfl⟩;go_wp2_with fail;go_at_call 96;refine Calls.mono c.o ?_;rintro e2 w2 ⟨rfl,hb2⟩;have f:=(hb2.cell (p:=(a_ g 0)) b).trans hc;have j:=(hb2.frozen (p:=(a_ g 0)) b).trans hz;go_wp2_with fail;exact⟨rfl,_,rfl,.tuple #[],by simp[results,results152],rfl,rfl,_,hb2,rfl⟩
theorem iB{P:Program}{fn:Func}{R:Ending->World->Prop}{t t':Array Value}(h:∀w,(results fn t).run P w=(results fn t').run P w):∀(ds:List Deferred) (u:FrameMode) (w:World),Leaves P fn t R ds u w->Leaves P fn t' R ds u w
 |[],.returning,w,q=>by
  obtain⟨v,q1,q2⟩:=q;exact⟨v,(h w) ▸ q1,q2⟩
 |[],.panicking _,_,q=>q
 |[],.run,_,q=>q
 |d::ds,u,w,q=>by
  obtain⟨q0,fv,cap,f,args,q1,q2,q3⟩:=q;refine⟨q0,fv,cap,f,args,q1,q2,q3.mono ?_⟩;intro e u' w' hq
  cases e with
  |returned v=>exact iB h ds _ w' hq
  |panicked ch=>exact iB h ds _ w' hq
  |outgrown=>exact hq
theorem Ct(a:Act)(dst:Option Tmp)(v:Value)(hd:(dst == some 4)=false)(w:World):(results Tryz.f100 (a.put dst v).tmps).run prog w=(results Tryz.f100 a.tmps).run prog w:=by
 cases dst with
 |none=>rfl
 |some k=>
  have b:k≠4:=by simpa using hd
  have e:(a.tmps.setIfInBounds k v)[4]?=a.tmps[4]?:=Array.getElem?_setIfInBounds_ne b;simp[results,results100,Act.put,e]
theorem ee{K:Act->World->Prop}{R:Ending->World->Prop}{v:Value}(c:List PanicEntry)(a:Act)(dst:Option Tmp)(w:World)(hd:(dst == some 4)=false)(h:Exit.then K (bodyPostD prog Tryz.f100 R) (.panic c) (a.put dst v) w):Exit.then K (bodyPostD prog Tryz.f100 R) (.panic c) a w:=by
 have b:Leaves prog Tryz.f100 (a.put dst v).tmps R (a.put dst v).defers (.panicking c) w:=h;have f:(a.put dst v).defers=a.defers:=by cases dst <;> rfl
 rw[f] at b;exact iB (Ct a dst v hd) _ _ _ b
end Go.Proofs.YtlailakofhenkabGreatDoor
namespace Go.Proofs.YtlailakofhenkabGreatDoor
open Go Go.RowKit Go.Maps Go.WideMaps Tok Sc Ev Tryz RegD
theorem uF:∀row∈cE,∀args w,(callFunc row.2.1 args).run prog w=.ok (.enter row.2.1 args) w:=by
 intro row hr;unfold cE at hr;simp only[List.mem_cons,List.not_mem_nil,or_false] at hr;rcases hr with rfl | rfl | rfl | rfl | rfl | rfl | rfl | rfl | rfl | rfl | rfl | rfl | rfl | rfl | rfl | rfl | rfl | rfl
 ·exact enters_of func227 (by kernel_rfl) rfl
 ·exact enters_of func228 (by kernel_rfl) rfl
 ·exact enters_of func229 (by kernel_rfl) rfl
 ·exact enters_of func230 (by kernel_rfl) rfl
 ·exact enters_of func231 (by kernel_rfl) rfl
 ·exact enters_of func232 (by kernel_rfl) rfl
 ·exact enters_of func233 (by kernel_rfl) rfl
 ·exact enters_of func234 (by kernel_rfl) rfl
 ·exact enters_of func235 (by kernel_rfl) rfl
 ·exact enters_of func236 (by kernel_rfl) rfl
 ·exact enters_of func237 (by kernel_rfl) rfl
 ·exact enters_of func238 (by kernel_rfl) rfl
 ·exact enters_of func239 (by kernel_rfl) rfl
 ·exact enters_of func240 (by kernel_rfl) rfl
 ·exact enters_of func241 (by kernel_rfl) rfl
 ·exact enters_of func242 (by kernel_rfl) rfl
 ·exact enters_of func243 (by kernel_rfl) rfl
 ·exact enters_of func244 (by kernel_rfl) rfl
theorem uG{w:World}{gk:Nat}(s:ByteArray)(hs:s.size<=5000)(hw:bN s.data.toList= []):
 Calls prog 100 #[p_ gk 0,.string s] w fun e w'=>e=.returned (.string ⟨#[111,107]⟩)∧Below w.heap.size w w':=by
 have o:∀(fn:Fn) (first cap:Array Value) (w:World),(Instr.makeFunc fn first cap).run prog w=.ok (.func fn first cap) w:=fun _ _ _ _=>rfl
 have q:=bA w (.cells #[.e_] 9);have g:w.heap.size<(w.alloc (.cells #[.e_] 9)).heap.size:=by simp
 have j:(w.alloc (.cells #[.e_] 9)).c_ w.heap.size 0=some (.e_):=(Fb _ _ _ _ rfl).trans rfl;have k:(w.alloc (.cells #[.e_] 9)).frozen? (a_ w.heap.size 0)=false:=Ff _ _ _ _ rfl;have r:J _:=km s (w.alloc (.cells #[.e_] 9)) (by omega)
 have t:J _:=hw;have z:J _:=q;go_enter_defers func100,ntmps100
 go_wp2_with fail;go_at_call 154;refine Calls.mono r.o ?_;rintro e1 w1 ⟨v,rfl,hws,hb1⟩;rw[t.o] at hws;obtain⟨b,c,rfl⟩:=(aE.words hws).slice;have A:=(hb1.cell (p:=(a_ w.heap.size 0)) g).trans j;have f1:=(hb1.frozen (p:=(a_ w.heap.size 0)) g).trans k;have m:J _:=z.o.tm hb1;go_wp2_with fail;have B:(w1.setCell (a_ w.heap.size 0) (.string ⟨#[111,107]⟩)).c_ w.heap.size 0=some (.string ⟨#[111,107]⟩):=Fr _ _ _ A;have n:J (Below w.heap.size w (w1.setCell (a_ w.heap.size 0) (.string ⟨#[111,107]⟩))):=m.o.setCell (p:=(a_ w.heap.size 0)) (Fa _) _;generalize (w1.setCell (a_ w.heap.size 0) (.string ⟨#[111,107]⟩))=W at *;refine leaves_cons (f:=152) (args:=#[p_ w.heap.size 0]) (by simp) (by simp[go_sem]) ?_;refine (oP w.heap.size _).mono ?_;rintro e u' w'' ⟨rfl,rfl,rfl⟩;simp[Leaves,settle,results,results100,go_sem,B]
 exact n.o
theorem mZ{B:Nat}{w:World}{v:Value}{cs:List Value}(h:aE B w v cs)(h0:0<cs.length):∃g c,v=.slice (some ⟨g,0,none⟩) cs.length c∧B<=g∧cs.length<=c∧∀i u,cs[i]?=some u->w.cell? ⟨g,i,none⟩=some u:=by
 rcases h with ⟨-,h2⟩ | ⟨g,c,h1,hr⟩
 ·subst h2; simp at h0
 ·exact⟨g,c,h1,hr.new,hr.le,hr.holds⟩
theorem gN{W W':World}{gm n:Nat}{D:DataW Value}(h:W.ownsMap prog 9 fi gm n D)(hb:Below W.heap.size W W'):W'.ownsMap prog 9 fi gm n D:=by
 have b:=h.lt;obtain⟨es,clock,e1,e2⟩:=h;exact⟨es,clock,(hb.block gm b).trans e1,e2⟩
theorem oQ{W:World}{gm:Nat}{f:Word->Value}(h:W.ownsMap prog 9 fi gm 18 (fj f (.map []) aC))(c:Word)(hc:c.length<=100000):
 (Instr.lookup 240 (.map (some gm)) (.string (Ev.bs c)) true).run prog W=.ok (.tuple #[if c∈aC then f c else .agg #[.nilFunc,.slice none 0 0],.bool (decide (c∈aC))]) W:=by
 have b:keyOf prog 9 (.string (Ev.bs c))=some (.string c):=(keyOf_string_mk underlying9 (by rw[aT]; unfold maxLen; omega)).trans (by simp[Ev.bs])
 obtain⟨v,ps,hrun,hv⟩:=h.look_ok (string_keyed underlying9) underlying240 (DV W) (rfl:fi (.agg #[.nilFunc,.slice none 0 0])=some (.held (.agg #[.nilFunc,.slice none 0 0]),[])) b;rw[sx f c aC (.map []) Maps.isMap_empty,show Maps.has (.map []:DataW Value) (.string c)=false from rfl,Bool.or_false] at hrun
 rw[v9 f c _ aC (.map []) Maps.isMap_empty] at hv;by_cases hm:c∈aC
 ·rw[if_pos hm] at hv ⊢
  unfold fi at hv;simp only[Option.some.injEq,Prod.mk.injEq,DataW.held.injEq] at hv;rw[hrun,hv.1]
 ·rw[if_neg hm] at hv ⊢
  have g:(DataW.map []:DataW Value).atKey (.string c) (.held (.agg #[.nilFunc,.slice none 0 0]))=.held (.agg #[.nilFunc,.slice none 0 0]):=rfl;rw[g] at hv;unfold fi at hv;simp only[Option.some.injEq,Prod.mk.injEq,DataW.held.injEq] at hv;rw[hrun,hv.1]
theorem iC{R:Ending->World->Prop}{act:Act}{W:World}{g n:Nat}{x:Value}(hd:act.defers= [{ target:=Target.fn (Fn.func 152) #[.pointer (some ⟨g,0,none⟩)],args:=#[] }])(ht:act.tmps[4]?=some (.pointer (some ⟨g,0,none⟩)))(hc:W.cell? ⟨g,0,none⟩=some x)(hz:W.frozen? ⟨g,0,none⟩=false)(hn:n<=100000)(hL:av W)(hR:∀w2,Below W.heap.size W w2->R (.returned (.string ⟨(errL n).toArray⟩)) (w2.setCell ⟨g,0,none⟩ (.string ⟨(errL n).toArray⟩))):bodyPostD prog Tryz.f100 R (.panic [{ v:=.iface 47 (.int .i64 (n:Int)),recovered:=false }]) act W:=by
 unfold bodyPostD;simp only;rw[hd];refine leaves_cons (f:=152) (args:=#[p_ g 0]) (by simp) (by simp[go_sem]) ?_;refine (kW g n _ [] _ hc hz hn hL).mono ?_;rintro e u' w'' ⟨rfl,rfl,w2,hb2,rfl⟩;have b:(w2.setCell (a_ g 0) (.string ⟨(errL n).toArray⟩)).c_ g 0=some (.string ⟨(errL n).toArray⟩):=Fr _ _ _ ((hb2.cell (p:=(a_ g 0)) (Fc _ _ hc)).trans hc);have c:=hR w2 hb2;generalize (w2.setCell (a_ g 0) (.string ⟨(errL n).toArray⟩))=V at *;simpa[Leaves,settle,results,results100,go_sem,ht,b] using c
theorem xT{R:Ending->World->Prop}{act:Act}{W:World}{g:Nat}{x:ByteArray}(hd:act.defers= [{ target:=Target.fn (Fn.func 152) #[.pointer (some ⟨g,0,none⟩)],args:=#[] }])(ht:act.tmps[4]?=some (.pointer (some ⟨g,0,none⟩)))(hc:W.cell? ⟨g,0,none⟩=some (.string x))(hR:R (.returned (.string x)) W):bodyPostD prog Tryz.f100 R .ret act W:=by
 unfold bodyPostD;simp only;rw[hd];refine leaves_cons (f:=152) (args:=#[p_ g 0]) (by simp) (by simp[go_sem]) ?_;refine (oP g _).mono ?_;rintro e u' w'' ⟨rfl,rfl,rfl⟩;simpa[Leaves,settle,results,results100,go_sem,ht,hc] using hR
theorem sL{d:Dk}{L:List UInt8}{c:Word}{ws:List Word}{ks:List Int}(hw:bN L=c::ws)(hf:formOf c=some (ge ks))(hn:numsW (ge ks) ws=none):cJ d L d (errL 3):=by
 simp[cJ,hw,hf,hn]
theorem xU{d:Dk}{L:List UInt8}{c:Word}{ws:List Word}{ks:List Int}{ns:List Int}{o:Dk × List UInt8 × Nat}(hw:bN L=c::ws)(hf:formOf c=some (ge ks))(hn:numsW (ge ks) ws=some ns)(ho:aW d c ws ns o):cJ d L o.1 (Ev.told o):=by
 simp only[cJ,hw,hf,hn];exact⟨o,ho,rfl,rfl⟩
section
variable {N : Nat} {w : World} {gk gm gd gs : Nat} {d : Dk} {c : Word} {ws : List Word}
theorem sM(s:ByteArray)(h:DkS N w gk gm gd gs d)(hs:s.size<=5000)(hw:bN s.data.toList=c::ws)(hcl:c.length<=5000)(hc:c∉aC):
 Calls prog 100 #[p_ gk 0,.string s] w fun e w'=>e=.returned (.string ⟨(errL 3).toArray⟩)∧Below w.heap.size w w':=by
 have T:∀(fn:Fn) (first cap:Array Value) (w:World),(Instr.makeFunc fn first cap).run prog w=.ok (.func fn first cap) w:=fun _ _ _ _=>rfl
 have L:=bA w (.cells #[.e_] 9);have o:w.heap.size<(w.alloc (.cells #[.e_] 9)).heap.size:=by simp
 have z:(w.alloc (.cells #[.e_] 9)).c_ w.heap.size 0=some (.e_):=(Fb _ _ _ _ rfl).trans rfl;have B:(w.alloc (.cells #[.e_] 9)).frozen? (a_ w.heap.size 0)=false:=Ff _ _ _ _ rfl;have U:Hid _:=km s (w.alloc (.cells #[.e_] 9)) (by omega)
 have Z:Hid _:=hw;have HB:Hid _:=L;have C:Hid _:=h.on L
 have D:Hid (∀(f:Word->Value) (V:World),(∀row∈cE,row.1∈aC->kU V gk row.2.1 row.2.2 (f row.1))∨True->V.ownsMap prog 9 fi gm 18 (fj f (.map []) aC)->(Instr.lookup 240 (.map (some gm)) (.string (Ev.bs c)) true).run prog V=.ok (.tuple #[.agg #[.nilFunc,.slice none 0 0],.bool false]) V):=fun f V _ hV=>by
  have M:=oQ hV c (by omega)
  rw[if_neg hc,decide_eq_false hc] at M;exact M
 go_enter_defers func100,ntmps100
 go_wp2_with fail;go_at_call 154;refine Calls.mono U.o ?_;rintro e1 w1 ⟨v,rfl,hws,hb1⟩;rw[Z.o] at hws;obtain⟨A,cp,e,hA,hcp,hcx⟩:=mZ (aE.words hws) (by simp)
 have el:(((c::ws).map Ev.bs).map Value.string).length=ws.length+1:=by simp
 rw[el] at e hcp;subst e;have g:Hid (∀(i:Nat) (x:Word),(c::ws)[i]?=some x->w1.c_ A i=some (.string (Ev.bs x))):=fun i x hx=>hcx i (.string (Ev.bs x)) (by rw[List.getElem?_map,List.getElem?_map,hx]; rfl)
 have c1:=(hb1.cell (p:=(a_ w.heap.size 0)) o).trans z;have f1:=(hb1.frozen (p:=(a_ w.heap.size 0)) o).trans B;have n:Hid _:=c1;have E:Hid _:=f1;have q:Hid _:=HB.o.tm hb1;have t:Hid _:=C.o.on hb1;have i0:(0:Int)<((ws.length+1:Nat):Int):=by omega
 have hnz:¬ ((ws.length+1:Nat):Int)=0:=by omega
 have O:¬ ws.length+1=0:=by omega
 go_upto_region 5 with fail;obtain⟨gv,vf,hI⟩:=t.o.st;have j:Hid _:=hI;obtain⟨f,hown,-⟩:=t.o.ord.run;have F:Hid (∀V:World,V.ownsMap prog 9 fi gm 18 (fj f (.map []) aC)->(Instr.lookup 240 (.map (some gm)) (.string (Ev.bs c)) true).run prog V=.ok (.tuple #[.agg #[.nilFunc,.slice none 0 0],.bool false]) V):=fun V hV=>D.o f V (.inr trivial) hV;refine region_ (fun V=>DAt V gk gd gs gv gm d.r∧V.c_ A 0=some (.string (Ev.bs c))∧V.ownsMap prog 9 fi gm 18 (fj f (.map []) aC)) 13 ⟨j.o.box.on (E9 _ _).drew,g.o 0 c rfl,hown⟩ fun hH=>?_;refine tk1 0 (v:=p_ gk 0) rfl (by kernel_rfl) (fun c a w h=>ee c _ _ w (by rfl) h) (.inl ⟨by rfl,fun W hW=>by go_simp⟩) hH ?_;simp only[Act.put,pS1,pS2,pS3];refine tk1 1 (v:=p_ gk 0) rfl (by kernel_rfl) (fun c a w h=>ee c _ _ w (by rfl) h) (.inl ⟨by rfl,fun W hW=>by go_simp⟩) hH ?_;simp only[Act.put,pS1,pS2,pS3];refine tk1 2 (v:=p_ gk 7) rfl (by kernel_rfl) (fun c a w h=>ee c _ _ w (by rfl) h) (.inl ⟨by rfl,fun W hW=>by go_simp⟩) hH ?_;simp only[Act.put,pS1,pS2,pS3];refine tk1 3 (v:=.map (some gm)) rfl (by kernel_rfl) (fun c a w h=>ee c _ _ w (by rfl) h) (.inl ⟨by rfl,fun W hW=>by have R:=hW.1.c7; go_simp⟩) hH ?_
 simp only[Act.put,pS1,pS2,pS3];refine tk1 4 (v:=.slice (o_ A 0) (ws.length+1) cp) rfl (by kernel_rfl) (fun c a w h=>ee c _ _ w (by rfl) h) (.inl ⟨by rfl,fun W hW=>by go_simp⟩) hH ?_;simp only[Act.put,pS1,pS2,pS3];refine tk1 5 (v:=p_ A 0) rfl (by kernel_rfl) (fun c a w h=>ee c _ _ w (by rfl) h) (.inl ⟨by rfl,fun W hW=>by go_simp⟩) hH ?_;simp only[Act.put,pS1,pS2,pS3];refine tk1 6 (v:=.string (Ev.bs c)) rfl (by kernel_rfl) (fun c a w h=>ee c _ _ w (by rfl) h) (.inl ⟨by rfl,fun W hW=>by have R:=hW.2.1; go_simp⟩) hH ?_
 simp only[Act.put,pS1,pS2,pS3];refine tk1 7 (v:=.tuple #[.agg #[.nilFunc,.slice none 0 0],.bool false]) rfl (by kernel_rfl) (fun c a w h=>ee c _ _ w (by rfl) h) (.inl ⟨by rfl,fun W hW=>by have R:=F.o _ hW.2.2; go_simp⟩) hH ?_
 simp only[Act.put,pS1,pS2,pS3];refine tk1 8 (v:=.tuple #[.agg #[.nilFunc,.slice none 0 0],.bool false]) rfl (by kernel_rfl) (fun c a w h=>ee c _ _ w (by rfl) h) (.inl ⟨by rfl,fun W hW=>by go_simp⟩) hH ?_;simp only[Act.put,pS1,pS2,pS3];refine tk1 9 (v:=.agg #[.nilFunc,.slice none 0 0]) rfl (by kernel_rfl) (fun c a w h=>ee c _ _ w (by rfl) h) (.inl ⟨by rfl,fun W hW=>by go_simp⟩) hH ?_;simp only[Act.put,pS1,pS2,pS3];refine tk1 10 (v:=.bool false) rfl (by kernel_rfl) (fun c a w h=>ee c _ _ w (by rfl) h) (.inl ⟨by rfl,fun W hW=>by go_simp⟩) hH ?_;simp only[Act.put,pS1,pS2,pS3];refine one_ 11 ?_; intro K hK; go_simp;go_wp2_with fail
 have k:Hid (Below w1.heap.size w1 (w1.alloc (.cells #[.nilFunc,.slice none 0 0] 253)).drew):=(bA _ _).drew;refine hK.out _ _ (⟨j.o.box.on k.o,(k.o.cell (p:=(a_ A 0)) (Fc _ _ (g.o 0 c rfl))).trans (g.o 0 c rfl),gN hown k.o⟩) ?_;intro hH;have x0:(w1.alloc (.cells #[.nilFunc,.slice none 0 0] 253)).drew.c_ w1.heap.size 0=some .nilFunc:=(Fb _ _ _ _ rfl).trans rfl;have x1:(w1.alloc (.cells #[.nilFunc,.slice none 0 0] 253)).drew.c_ w1.heap.size 1=some (.slice none 0 0):=(Fb _ _ _ _ rfl).trans rfl;have z0:(w1.alloc (.cells #[.nilFunc,.slice none 0 0] 253)).drew.frozen? (a_ w1.heap.size 0)=false:=Ff _ _ _ _ rfl;have z1:(w1.alloc (.cells #[.nilFunc,.slice none 0 0] 253)).drew.frozen? (a_ w1.heap.size 1)=false:=Ff _ _ _ _ rfl;generalize (w1.alloc _).drew=X at *
 have hs1:=fun (a:Addr) (m:Mode) (W:World)=>run_store prog W a .nilFunc m rfl;have hs2:=fun (a:Addr) (m:Mode) (f:Fn) (x y:Array Value) (W:World)=>run_store prog W a (.func f x y) m rfl;refine one_ 12 ?_; intro K hK; go_simp;go_wp2_with fail;have b:Hid (Below w1.heap.size w1 ((X.setCell (a_ w1.heap.size 0) (.nilFunc)).setCell (a_ w1.heap.size 1) (.slice none 0 0))):=(k.o.setCell (p:=(a_ w1.heap.size 0)) (Fa _) _).setCell (p:=(a_ w1.heap.size 1)) (Fa _) _;refine hK.out _ _ (⟨j.o.box.on b.o,(b.o.cell (p:=(a_ A 0)) (Fc _ _ (g.o 0 c rfl))).trans (g.o 0 c rfl),gN hown b.o⟩) ?_;intro hH;refine late_ 13 ?_; intro K hK; go_simp;refine hK.out _ _ ?_;refine done_ ?_;have G:((X.setCell (a_ w1.heap.size 0) .nilFunc).setCell (a_ w1.heap.size 1) (.slice none 0 0)).c_ w.heap.size 0=some (.e_):=(b.o.cell (p:=(a_ w.heap.size 0)) (Fc _ _ n.o)).trans n.o
 have y2:((X.setCell (a_ w1.heap.size 0) .nilFunc).setCell (a_ w1.heap.size 1) (.slice none 0 0)).frozen? (a_ w.heap.size 0)=false:=(b.o.frozen (p:=(a_ w.heap.size 0)) (Fc _ _ n.o)).trans E.o;have H:Hid _:=j.o.sv.libs.on b.o;generalize ((X.setCell (a_ w1.heap.size 0) .nilFunc).setCell (a_ w1.heap.size 1) (.slice none 0 0))=Y at *;go_wp2_with fail;refine leaves_cons (f:=152) (args:=#[p_ w.heap.size 0]) (by simp) (by simp[go_sem]) ?_;refine (kW w.heap.size 3 _ [] _ G y2 (by omega) H.o).mono ?_;rintro e u' w'' ⟨rfl,rfl,w2,hb2,rfl⟩;have I:Hid _:=q.o.trans ((b.o.tm hb2).mono q.o.size);have h2:(w2.setCell (a_ w.heap.size 0) (.string ⟨(errL 3).toArray⟩)).c_ w.heap.size 0=some (.string ⟨(errL 3).toArray⟩):=Fr _ _ _ ((hb2.cell (p:=(a_ w.heap.size 0)) (Fc _ _ G)).trans G);have J:Hid (Below w.heap.size w (w2.setCell (a_ w.heap.size 0) (.string ⟨(errL 3).toArray⟩))):=I.o.setCell (p:=(a_ w.heap.size 0)) (Fa _) _;generalize (w2.setCell (a_ w.heap.size 0) (.string ⟨(errL 3).toArray⟩))=W at *;simp[Leaves,settle,results,results100,go_sem,h2]
 exact J.o
theorem uH(s:ByteArray)(F:Nat)(ks:List Int)(hr:(c,F,ks)∈cE)(h:DkS N w gk gm gd gs d)(hs:s.size<=5000)(hw:bN s.data.toList=c::ws)(hx:∀x∈ws,x.length<=5000)(hwl:ws.length<=6000)(hN:N<97000):
 Calls prog 100 #[p_ gk 0,.string s] w fun e w'=>∃(d':Dk) (a:List UInt8),e=.returned (.string ⟨a.toArray⟩)∧cJ d s.data.toList d' a∧cR N w w' gk gm gd gs d':=by
 have hmf:∀(fn:Fn) (first cap:Array Value) (w:World),(Instr.makeFunc fn first cap).run prog w=.ok (.func fn first cap) w:=fun _ _ _ _=>rfl
 have hb:=bA w (.cells #[.e_] 9);have Ee:w.heap.size<(w.alloc (.cells #[.e_] 9)).heap.size:=by simp
 have Ef:(w.alloc (.cells #[.e_] 9)).c_ w.heap.size 0=some (.e_):=(Fb _ _ _ _ rfl).trans rfl;have Eg:(w.alloc (.cells #[.e_] 9)).frozen? (a_ w.heap.size 0)=false:=Ff _ _ _ _ rfl;have HF:Hid _:=km s (w.alloc (.cells #[.e_] 9)) (by omega)
 have HW:Hid _:=hw;have HB:Hid _:=hb;have Eh:Hid _:=h.on hb;have hc:c∈aC:=List.mem_map.2 ⟨_,hr,rfl⟩;have H:Hid _:=h;have Ex:Hid _:=uE (c,F,ks) hr;have Ey:c.length<=100:=vZ _ hr;have Ei:=uF _ hr;simp only at Ei;have HR:Hid _:=hr;have Ej:Hid _:=hx;have Ez:Hid (ws.length<=6000):=(show _<=_ from hwl)
 have EA:Hid (N<97000):=(show _<_ from hN)
 have Ek:Hid (∀(f:Word->Value) (V:World),V.ownsMap prog 9 fi gm 18 (fj f (.map []) aC)->(Instr.lookup 240 (.map (some gm)) (.string (Ev.bs c)) true).run prog V=.ok (.tuple #[f c,.bool true]) V):=fun f V hV=>by
  have M:=oQ hV c (by omega)
  rw[if_pos hc,decide_eq_true hc] at M;exact M
 clear h hs hw hb hx hwl Ey hN;go_enter_defers func100,ntmps100
 go_wp2_with fail;go_at_call 154;refine Calls.mono HF.o ?_;rintro e1 w1 ⟨v,rfl,hws,hb1⟩;rw[HW.o] at hws;obtain⟨A,cp,e,hA,hcp,hcx⟩:=mZ (aE.words hws) (by simp)
 have el:(((c::ws).map Ev.bs).map Value.string).length=ws.length+1:=by simp
 rw[el] at e hcp;subst e;have EB:Hid _:=hcp;have D:Hid (∀(i:Nat) (x:Word),(c::ws)[i]?=some x->w1.c_ A i=some (.string (Ev.bs x))):=fun i x hx=>hcx i (.string (Ev.bs x)) (by rw[List.getElem?_map,List.getElem?_map,hx]; rfl)
 have c1:=(hb1.cell (p:=(a_ w.heap.size 0)) Ee).trans Ef;have f1:=(hb1.frozen (p:=(a_ w.heap.size 0)) Ee).trans Eg;have O:Hid _:=c1;have EC:Hid _:=f1;have ED:Hid _:=HB.o.tm hb1;have R:Hid _:=Eh.o.on hb1;have i0:(0:Int)<((ws.length+1:Nat):Int):=by omega
 have hnz:¬ ((ws.length+1:Nat):Int)=0:=by omega
 have ER:¬ ws.length+1=0:=by omega
 clear hws hb1 Ef Eg hcx hcp hA el c1 f1 Eh HB;go_upto_region 5 with fail;obtain⟨gv,vf,hI⟩:=R.o.st;have t:Hid _:=hI;obtain⟨f,hown,hrows⟩:=R.o.ord.run;clear hI;obtain⟨ka,kc,gks,hv,hka,hks,hgk⟩:=hrows _ HR.o hc;simp only at hv hka hks hgk;have El:Hid (∀V:World,V.ownsMap prog 9 fi gm 18 (fj f (.map []) aC)->(Instr.lookup 240 (.map (some gm)) (.string (Ev.bs c)) true).run prog V=.ok (.tuple #[.agg #[.func (.func F) #[p_ gk 0] #[],.slice ka ks.length kc],.bool true]) V):=fun V hV=>by rw[<- hv]; exact Ek.o f V hV
 have EE:Hid _:=hka;have EF:Hid _:=hks;have Em:Hid _:=hgk;clear hv hka hks hgk hrows hc hr;refine region_ (fun V=>DAt V gk gd gs gv gm d.r∧V.c_ A 0=some (.string (Ev.bs c))∧V.ownsMap prog 9 fi gm 18 (fj f (.map []) aC)) 13 ⟨t.o.box.on (E9 _ _).drew,D.o 0 c rfl,hown⟩ fun hH=>?_;refine tk1 0 (v:=p_ gk 0) rfl (by kernel_rfl) (fun c a w h=>ee c _ _ w (by rfl) h) (.inl ⟨by rfl,fun W hW=>by go_simp⟩) hH ?_;simp only[Act.put,pS1,pS2,pS3];refine tk1 1 (v:=p_ gk 0) rfl (by kernel_rfl) (fun c a w h=>ee c _ _ w (by rfl) h) (.inl ⟨by rfl,fun W hW=>by go_simp⟩) hH ?_;simp only[Act.put,pS1,pS2,pS3];refine tk1 2 (v:=p_ gk 7) rfl (by kernel_rfl) (fun c a w h=>ee c _ _ w (by rfl) h) (.inl ⟨by rfl,fun W hW=>by go_simp⟩) hH ?_;simp only[Act.put,pS1,pS2,pS3];refine tk1 3 (v:=.map (some gm)) rfl (by kernel_rfl) (fun c a w h=>ee c _ _ w (by rfl) h) (.inl ⟨by rfl,fun W hW=>by have a0:=hW.1.c7; go_simp⟩) hH ?_
 simp only[Act.put,pS1,pS2,pS3];refine tk1 4 (v:=.slice (o_ A 0) (ws.length+1) cp) rfl (by kernel_rfl) (fun c a w h=>ee c _ _ w (by rfl) h) (.inl ⟨by rfl,fun W hW=>by go_simp⟩) hH ?_;simp only[Act.put,pS1,pS2,pS3];refine tk1 5 (v:=p_ A 0) rfl (by kernel_rfl) (fun c a w h=>ee c _ _ w (by rfl) h) (.inl ⟨by rfl,fun W hW=>by go_simp⟩) hH ?_;simp only[Act.put,pS1,pS2,pS3];refine tk1 6 (v:=.string (Ev.bs c)) rfl (by kernel_rfl) (fun c a w h=>ee c _ _ w (by rfl) h) (.inl ⟨by rfl,fun W hW=>by have a0:=hW.2.1; go_simp⟩) hH ?_
 simp only[Act.put,pS1,pS2,pS3];refine tk1 7 (v:=.tuple #[.agg #[.func (.func F) #[p_ gk 0] #[],.slice ka ks.length kc],.bool true]) rfl (by kernel_rfl) (fun c a w h=>ee c _ _ w (by rfl) h) (.inl ⟨by rfl,fun W hW=>by have a0:=El.o _ hW.2.2; go_simp⟩) hH ?_
 simp only[Act.put,pS1,pS2,pS3];refine tk1 8 (v:=.tuple #[.agg #[.func (.func F) #[p_ gk 0] #[],.slice ka ks.length kc],.bool true]) rfl (by kernel_rfl) (fun c a w h=>ee c _ _ w (by rfl) h) (.inl ⟨by rfl,fun W hW=>by go_simp⟩) hH ?_;simp only[Act.put,pS1,pS2,pS3];refine tk1 9 (v:=.agg #[.func (.func F) #[p_ gk 0] #[],.slice ka ks.length kc]) rfl (by kernel_rfl) (fun c a w h=>ee c _ _ w (by rfl) h) (.inl ⟨by rfl,fun W hW=>by go_simp⟩) hH ?_;simp only[Act.put,pS1,pS2,pS3];refine tk1 10 (v:=.bool true) rfl (by kernel_rfl) (fun c a w h=>ee c _ _ w (by rfl) h) (.inl ⟨by rfl,fun W hW=>by go_simp⟩) hH ?_;simp only[Act.put,pS1,pS2,pS3];refine one_ 11 ?_; intro K hK; go_simp;go_wp2_with fail
 have I:Hid (Below w1.heap.size w1 (w1.alloc (.cells #[.nilFunc,.slice none 0 0] 253)).drew):=(bA _ _).drew;refine hK.out _ _ (⟨t.o.box.on I.o,(I.o.cell (p:=(a_ A 0)) (Fc _ _ (D.o 0 c rfl))).trans (D.o 0 c rfl),gN hown I.o⟩) ?_;clear hK hH;intro hH;clear K;have x0:(w1.alloc (.cells #[.nilFunc,.slice none 0 0] 253)).drew.c_ w1.heap.size 0=some .nilFunc:=(Fb _ _ _ _ rfl).trans rfl;have x1:(w1.alloc (.cells #[.nilFunc,.slice none 0 0] 253)).drew.c_ w1.heap.size 1=some (.slice none 0 0):=(Fb _ _ _ _ rfl).trans rfl;have z0:(w1.alloc (.cells #[.nilFunc,.slice none 0 0] 253)).drew.frozen? (a_ w1.heap.size 0)=false:=Ff _ _ _ _ rfl;have z1:(w1.alloc (.cells #[.nilFunc,.slice none 0 0] 253)).drew.frozen? (a_ w1.heap.size 1)=false:=Ff _ _ _ _ rfl
 generalize (w1.alloc _).drew=X at *;have EG:=fun (a:Addr) (m:Mode) (W:World)=>run_store prog W a .nilFunc m rfl;have EH:=fun (a:Addr) (m:Mode) (f:Fn) (x y:Array Value) (W:World)=>run_store prog W a (.func f x y) m rfl;refine one_ 12 ?_; intro K hK; go_simp;go_wp2_with fail;have g:Hid (Below w1.heap.size w1 ((X.setCell (a_ w1.heap.size 0) (.func (.func F) #[p_ gk 0] #[])).setCell (a_ w1.heap.size 1) (.slice ka ks.length kc))):=(I.o.setCell (p:=(a_ w1.heap.size 0)) (Fa _) _).setCell (p:=(a_ w1.heap.size 1)) (Fa _) _;refine hK.out _ _ (⟨t.o.box.on g.o,(g.o.cell (p:=(a_ A 0)) (Fc _ _ (D.o 0 c rfl))).trans (D.o 0 c rfl),gN hown g.o⟩) ?_;clear hK hH;intro hH;clear K;refine late_ 13 ?_; intro K hK; go_simp;refine hK.out _ _ ?_;clear hK K;refine done_ ?_;have y1:((X.setCell (a_ w1.heap.size 0) (.func (.func F) #[p_ gk 0] #[])).setCell (a_ w1.heap.size 1) (.slice ka ks.length kc)).c_ w1.heap.size 0=some (.func (.func F) #[p_ gk 0] #[]):=(World.cell?_setCell_other _ _ _ _ (by simp)).trans (World.cell?_setCell_same _ _ _ x0)
 have y2:((X.setCell (a_ w1.heap.size 0) (.func (.func F) #[p_ gk 0] #[])).setCell (a_ w1.heap.size 1) (.slice ka ks.length kc)).c_ w1.heap.size 1=some (.slice ka ks.length kc):=World.cell?_setCell_same _ _ _ ((World.cell?_setCell_other _ _ _ _ (by simp)).trans x1)
 have E:Hid (w1.heap.size<((X.setCell (a_ w1.heap.size 0) (.func (.func F) #[p_ gk 0] #[])).setCell (a_ w1.heap.size 1) (.slice ka ks.length kc)).heap.size):=(show _<_ from Fc _ _ y1)
 have En:Hid (gk<w1.heap.size∧gd<w1.heap.size∧gs<w1.heap.size∧w.heap.size<w1.heap.size):=by
  have q1:=t.o.box.lt;have T:=t.o.sv.sp.lt;have q3:=t.o.sv.sp.ord;have q4:=Fc _ _ O.o;exact⟨q1,by omega,T,q4⟩
 generalize ((X.setCell (a_ w1.heap.size 0) (.func (.func F) #[p_ gk 0] #[])).setCell (a_ w1.heap.size 1) (.slice ka ks.length kc))=Y at *;have U:Hid _:=xR _ HR.o;have EI:Hid _:=R.o.on g.o;have Z:Hid _:=t.o.sv.libs.on g.o
 have C:Hid (Y.c_ w.heap.size 0=some (.e_)∧Y.frozen? (a_ w.heap.size 0)=false∧w.heap.size<Y.heap.size):=by
  have q:=Fc _ _ O.o;exact⟨(g.o.cell (p:=(a_ w.heap.size 0)) q).trans O.o,(g.o.frozen (p:=(a_ w.heap.size 0)) q).trans EC.o,Fd q g.o.size⟩
 have EJ:Hid (∀(i:Nat) (k:Int),ks[i]?=some k->Y.drew.c_ gks i=some (.i_ k)):=fun i k hi=>(g.o.cell (p:=(a_ gks i)) Em.o).trans (EF.o i k hi);have EK:Hid _:=Fd Em.o g.o.size
 have Eo:Hid (∀(i:Nat) (x:Word),ws[i]?=some x->Y.drew.c_ A (1+i)=some (.string (Ev.bs x))):=fun i x hi=>by
  have M:=D.o (i+1) x (by simpa using hi)
  rw[Nat.add_comm 1 i];exact (g.o.cell (p:=(a_ A (i+1))) (Fc _ _ M)).trans M
 have J:Hid _:=ED.o.tm g.o;generalize w1.heap.size=g6 at *;clear x0 x1 z0 z1 EG EH I hown El hH Ek f vf t;go_upto_region 8 with fail;have hnl:¬ ((ws.length:Int)+1<1):=by omega
 obtain⟨ba,HBA⟩:∃ba:Option Addr,Hid (ba=if cp=1 then o_ A 0 else o_ A 1):=⟨_,rfl⟩
 refine region_ (fun V=>V.c_ g6 0=some (.func (.func F) #[p_ gk 0] #[])∧V.c_ g6 1=some (.slice ka ks.length kc)) 7 ⟨y1,y2⟩ fun hH=>?_;refine tk1 0 (v:=p_ g6 0) rfl (by kernel_rfl) (fun c a w h=>ee c _ _ w (by rfl) h) (.inl ⟨by rfl,fun W hW=>by go_simp⟩) hH ?_;simp only[Act.put,pS1,pS2,pS3];refine tk1 1 (v:=.func (.func F) #[p_ gk 0] #[]) rfl (by kernel_rfl) (fun c a w h=>ee c _ _ w (by rfl) h) (.inl ⟨by rfl,fun W hW=>by have a0:=hW.1; go_simp⟩) hH ?_
 simp only[Act.put,pS1,pS2,pS3];refine tk1 2 (v:=.agg #[.func (.func F) #[p_ gk 0] #[],.slice ka ks.length kc]) rfl (by kernel_rfl) (fun c a w h=>ee c _ _ w (by rfl) h) (.inl ⟨by rfl,fun W hW=>by have a0:=hW.1; have a1:=hW.2; go_simp⟩) hH ?_
 simp only[Act.put,pS1,pS2,pS3];refine tk1 3 (v:=.slice (o_ A 0) (ws.length+1) cp) rfl (by kernel_rfl) (fun c a w h=>ee c _ _ w (by rfl) h) (.inl ⟨by rfl,fun W hW=>by go_simp⟩) hH ?_;simp only[Act.put,pS1,pS2,pS3];refine tk1 4 (v:=.slice ba ws.length (cp - 1)) rfl (by kernel_rfl) (fun c a w h=>ee c _ _ w (by rfl) h) (.inl ⟨by rfl,fun W hW=>by rw[HBA.out]; go_simp⟩) hH ?_
 simp only[Act.put,pS1,pS2,pS3];by_cases hlen:ws.length=ks.length
 ·have z:Hid _:=hlen
  clear hlen;refine one_ 5 ?_; intro K hK; go_simp;go_at_call 156;have Ep:Hid (0<ws.length->ba=o_ A 1):=fun h=>by rw[HBA.out,if_neg (by have:=EB.o; omega)]
  have M:=Cc F gk ka ks kc ba ws (cp - 1) gks A 1 Y.drew z.o EE.o EJ.o EK.o Ex.o Ep.o Eo.o (fun x hx=>by have:=Ej.o x hx; omega) (by have:=Ez.o; omega) (Z.o.on (E9 _ _).drew)
  refine M.mono ?_;clear M;intro e2 w2 h6;obtain⟨hb2,h7⟩:=h6;rcases h7 with h8 | h8
  ·obtain⟨vt,vn,he,hrt,hrn,hok⟩:=h8
   subst he;have b:Hid (Below Y.heap.size Y w2):=(E9 _ _).drew.trans hb2;have EL:Hid _:=hrt;have EM:Hid _:=hrn;have Er:Hid _:=hok;have EN:Hid _:=EI.o.on b.o;clear hb2 hrt hrn hok;go_wp2_with fail;refine hK.out _ _ (⟨(b.o.cell (p:=(a_ g6 0)) E.o).trans y1,(b.o.cell (p:=(a_ g6 1)) E.o).trans y2⟩) ?_;clear hK hH;intro hH;clear K
   have EO:Hid (gd<Y.heap.size∧gs<Y.heap.size):=by
    have q1:=En.o;have T:=E.o;exact⟨by omega,by omega⟩
   have Es:Hid _:=J.o.tm b.o;have G:Hid (w2.c_ w.heap.size 0=some (.e_)∧w2.frozen? (a_ w.heap.size 0)=false∧w.heap.size<w2.heap.size):=⟨(b.o.cell (p:=(a_ w.heap.size 0)) C.o.2.2).trans C.o.1,(b.o.frozen (p:=(a_ w.heap.size 0)) C.o.2.2).trans C.o.2.1,Fd C.o.2.2 b.o.size⟩
   have Et:Hid (w.heap.size∉ [gk,gd,gs]):=by
    have q:=H.o.lts;show w.heap.size∉ [gk,gd,gs]
    simp
    omega
   refine one_ 6 ?_; intro K hK; go_simp;refine (Cs (c,F,ks) HR.o EN.o z.o EL.o EM.o Er.o EO.o Ej.o EA.o).mono ?_;intro e3 w3 h6;obtain⟨o,a,hdo,he,htell,hn100,hto⟩:=h6;have Eu:Hid _:=xU HW.o U.o (wh ks ws z.o Er.o) hdo;have Ew:Hid (cR N w2 w3 gk gm gd gs o.1):=hto
   have B:Hid (w3.c_ w.heap.size 0=some (.e_)∧w3.frozen? (a_ w.heap.size 0)=false∧av w3∧w3.c_ g6 0=some (.func (.func F) #[p_ gk 0] #[])∧w3.c_ g6 1=some (.slice ka ks.length kc)):=by
    obtain⟨gd',gs',q1,T,-⟩:=hto;obtain⟨gv',v',q3⟩:=q1.st;have q4:=En.o;have q5:=Fd E.o b.o.size;exact⟨(T.cell (p:=(a_ w.heap.size 0)) G.o.2.2 Et.o).trans G.o.1,(T.frozen (p:=(a_ w.heap.size 0)) G.o.2.2 Et.o).trans G.o.2.1,q3.sv.libs,(T.cell (p:=(a_ g6 0)) q5 (by simp; omega)).trans ((b.o.cell (p:=(a_ g6 0)) E.o).trans y1),(T.cell (p:=(a_ g6 1)) q5 (by simp; omega)).trans ((b.o.cell (p:=(a_ g6 1)) E.o).trans y2)⟩
   clear hto hdo
   cases hn:o.2.2 with
   |zero=>
    rw[hn,fZ] at he;subst he
    have EP:Hid (a=⟨(Ev.told o).toArray⟩):=(show a=_ by
     have q:Ev.told o=o.2.1:=by unfold Ev.told; rw[if_pos hn]
     rw[q,<- htell hn])
    clear htell hn100 hn;go_wp2_with fail;refine hK.out _ _ (B.o.2.2.2) ?_;clear hK hH;intro hH;clear K;have c3:=B.o.1;have f3:=B.o.2.1;refine late_ 7 ?_; intro K hK; go_simp;go_wp2_with fail;refine hK.out _ _ ?_;clear hK K;refine done_ ?_;go_wp2_with fail;refine xT rfl rfl (World.cell?_setCell_same _ _ _ c3) ⟨o.1,Ev.told o,by rw[EP.o],Eu.o,cR.told H.o Es.o G.o.2.2 Ew.o c3⟩
   |succ m=>
    rw[hn,As] at he;subst he;have HM:Hid (m+1<=100∧Ev.told o=errL (m+1)):=⟨by omega,by unfold Ev.told; rw[hn,if_neg (by omega)]⟩
    clear htell hn100 hn;go_wp2_with fail;refine iC (n:=m+1) rfl rfl B.o.1 B.o.2.1 (by have:=HM.o.1; omega) B.o.2.2.1 (fun w4 hb4=>?_)
    exact⟨o.1,errL (m+1),rfl,HM.o.2 ▸ Eu.o,cR.told H.o Es.o G.o.2.2 (Ew.o.post hb4) ((hb4.cell (p:=(a_ w.heap.size 0)) (Fc _ _ B.o.1)).trans B.o.1)⟩
  ·obtain⟨he,j,k,x,hj1,hj2,hj3⟩:=h8
   subst he;have b:Hid (Below Y.heap.size Y w2):=(E9 _ _).drew.trans hb2;have EQ:Hid _:=sJ ks ws j k x hj1 hj2 hj3;clear hb2 hj1 hj2 hj3;unfold aM;go_wp2_with fail;have L:=C.o;refine iC (n:=3) rfl rfl ((b.o.cell (p:=(a_ w.heap.size 0)) L.2.2).trans L.1) ((b.o.frozen (p:=(a_ w.heap.size 0)) L.2.2).trans L.2.1) (by omega) (Z.o.on b.o) (fun w3 hb3=>?_)
   have Ed:Below w.heap.size w (w3.setCell (a_ w.heap.size 0) (.string ⟨(errL 3).toArray⟩)):=(J.o.trans ((b.o.tm hb3).mono J.o.size)).setCell (p:=(a_ w.heap.size 0)) (Fa _) _;exact⟨d,errL 3,rfl,sL HW.o U.o EQ.o,cR.same H.o Ed⟩
 ·have z:Hid _:=hlen
  refine one_ 5 ?_; intro K hK; go_simp;go_at_call 156;refine (Aq F gk ka ks.length kc _ ws.length (cp - 1) _ hlen).mono ?_;rintro e2 w2 ⟨rfl,hb2⟩;have b:Hid (Below Y.heap.size Y w2):=(E9 _ _).drew.trans hb2;clear hb2;unfold aM;go_wp2_with fail;have L:=C.o;refine iC (n:=3) rfl rfl ((b.o.cell (p:=(a_ w.heap.size 0)) L.2.2).trans L.1) ((b.o.frozen (p:=(a_ w.heap.size 0)) L.2.2).trans L.2.1) (by omega) (Z.o.on b.o) (fun w3 hb3=>?_)
  have Ed:Below w.heap.size w (w3.setCell (a_ w.heap.size 0) (.string ⟨(errL 3).toArray⟩)):=(J.o.trans ((b.o.tm hb3).mono J.o.size)).setCell (p:=(a_ w.heap.size 0)) (Fa _) _;exact⟨d,errL 3,rfl,sL HW.o U.o (sI ks ws z.o),cR.same H.o Ed⟩
end
end Go.Proofs.YtlailakofhenkabGreatDoor
namespace Go.Proofs.YtlailakofhenkabGreatDoor
open Go Go.RowKit Tok Sc Ev Tryz
theorem dG{c:UInt8}:∀(n:Nat) (l:List UInt8),l.length<=n->(∀x∈parts c l,x.length<=l.length)∧(parts c l).length<=l.length+1
 |n,l,hn=>by
  by_cases hc:c∈l
  ·obtain⟨x,y,rfl,hx⟩:=List.eq_append_cons_of_mem hc
   cases n with
   |zero=>simp at hn
   |succ n=>
    have b:=dG (c:=c) n y (by simp at hn; omega)
    rw[bD _ hx];refine⟨fun z hz=>?_,?_⟩
    ·rcases List.mem_cons.1 hz with rfl | hz
     ·simp
     ·have:=b.1 z hz
      simp
      omega
    ·have:=b.2
     simp
     omega
  ·rw[bO hc]
   simp
theorem kX(l:List UInt8):(∀x∈bN l,x.length<=l.length)∧(bN l).length<=l.length+1:=by
 have h:=dG (c:=32) l.length l (Fa _);unfold bN;exact⟨fun x hx=>h.1 x (List.mem_filter.1 hx).1,Fe (List.length_filter_le _ _) h.2⟩
variable {L:List UInt8}{d:Dk}
theorem sN(hw:bN L= []):cJ d L d [111,107]:=by
 simp[cJ,hw]
theorem oR{c:Word}{ws:List Word}(hw:bN L=c::ws)(hf:formOf c=none):cJ d L d (errL 3):=by
 simp[cJ,hw,hf]
theorem xV{N:Nat}{w:World}{gk gm gd gs:Nat}(s:ByteArray)(h:DkS N w gk gm gd gs d)(hs:s.size<=5000)(hN:N<97000):
 Calls prog 100 #[p_ gk 0,.string s] w fun e w'=>∃(d':Dk) (a:List UInt8),e=.returned (.string ⟨a.toArray⟩)∧cJ d s.data.toList d' a∧cR N w w' gk gm gd gs d':=by
 have b:=kX s.data.toList;have hl:s.data.toList.length=s.size:=Fg
 cases hw:bN s.data.toList with
 |nil=>
  refine (uG s hs hw).mono ?_;rintro e w' ⟨rfl,hb⟩;exact⟨d,[111,107],rfl,sN hw,cR.same h hb⟩
 |cons c ws=>
  rw[hw] at b;have f:c.length<=5000:=by have:=b.1 c (by simp); omega
  by_cases hc:c∈aC
  ·obtain⟨⟨c',F,ks⟩,hr,rfl⟩:=Dp c hc
   exact uH s F ks hr h hs hw (fun x hx=>by have:=b.1 x (by simp[hx]); omega) (by have:=b.2; simp at this; omega) hN
  ·refine (sM s h hs hw f hc).mono ?_
   rintro e w' ⟨rfl,hb⟩;exact⟨d,errL 3,rfl,oR hw (kt hc),cR.same h hb⟩
variable {p:Pub}{r:Rul}
theorem m4{f:Fam}(hf:bP f):(giveM (txtB r) p f).2.1.size<=5000:=by
 have:=lI r _ (vV hf.1.1 hf.1.2.1);unfold giveM;split
 ·exact Fe this (by omega)
 ·show (0:Nat)<=5000; omega
variable {m n:Nat}{sc:ByteArray}
theorem sO{cl su:ByteArray}(h:Ev.dy p.st)(hc:am cl.data.toList=true)(hs:am su.data.toList=true)(hl:n=0->Lst sc.data.toList)(ok:Bool):(cX (txtB r) p ok cl su sc n).2.1.size<=5000:=by
 unfold cX;split
 ·show (0:Nat)<=5000; omega
 split
 ·show (0:Nat)<=5000; omega
 rename_i hn
 split
 ·show (0:Nat)<=5000; omega
 rename_i hx
 split
 ·show (0:Nat)<=5000; omega
 rcases pP h hx hc hs (hl (by simpa using hn)) with ⟨-,h1,-⟩ | ⟨h1,-⟩ | ⟨h1,-⟩
 ·exact m4 h1
 ·cases h1
 ·cases h1
variable {t:T}
theorem qa{ok:Bool}{rq:ByteArray}{b:Bool}(h:Ev.dy p.st)(hr:am rq.data.toList=true)(hl:m=0->Lst sc.data.toList):(rotateM (txtB r) r p ok rq t n sc m b).2.1.size<=5000:=by
 unfold rotateM;split
 ·show (0:Nat)<=5000; omega
 split
 ·show (0:Nat)<=5000; omega
 rename_i c
 have c:lookM r p.st 1 t n=0:=by simpa using c
 have f:bP (famM p.st t):=dw h (du (look_ok c).1).2.2.1;split
 ·unfold turnM
  split
  ·show (0:Nat)<=5000; omega
  rename_i hm
  split
  ·show (0:Nat)<=5000; omega
  split
  ·show (0:Nat)<=5000; omega
  rename_i hg
  rcases mL f hg hr (hl (by simpa using hm)) h.clock with ⟨-,h1,-⟩ | ⟨h1,-⟩ | ⟨h1,-⟩
  ·exact m4 h1
  ·cases h1
  ·cases h1
 split
 ·exact Fe (lI r _ (vV f.1.1 f.1.2.1)) (by omega)
 ·show (0:Nat)<=5000; omega
theorem uI(h:Ev.dy p.st)(hr:fA r):(mintM (txtB r) r p t n).1.size<=5000:=by
 unfold mintM;split
 ·show (0:Nat)<=5000; omega
 rename_i b
 have b:lookM r p.st 1 t n=0:=by simpa using b
 have c:bP (famM p.st t):=dw h (du (look_ok b).1).2.2.1;split
 ·show (0:Nat)<=5000; omega
 ·exact Fe (lI r _ (mQ c h hr)) (by omega)
theorem AP{s:List UInt8}{l:List Word}(h:Sc.Out s l m)(hm:m=0):Lst (⟨(ae l).toArray⟩:ByteArray).data.toList:=by
 subst hm;exact⟨l,by simpa using eR h,by simp⟩
end Go.Proofs.YtlailakofhenkabGreatDoor
