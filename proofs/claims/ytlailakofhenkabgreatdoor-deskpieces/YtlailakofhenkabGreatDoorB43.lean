import Derived.Test.YtlailakofhenkabGreatDoorB42
set_option maxRecDepth 100000
set_option maxHeartbeats 8000000
namespace Go.Proofs.YtlailakofhenkabGreatDoor
open Go Go.RowKit Go.Maps Go.WideMaps Tok Sc Ev
theorem rows_enter:∀ row∈ordRows,∀ args w,(callFunc row.2.1 args).run Tryz.prog w=.ok (.enter row.2.1 args) w:=by
 intro row hr;unfold ordRows at hr;simp only [List.mem_cons,List.not_mem_nil,or_false] at hr;rcases hr with rfl | rfl | rfl | rfl | rfl | rfl | rfl | rfl | rfl | rfl | rfl | rfl | rfl | rfl | rfl | rfl | rfl | rfl
 ·exact enters_of Tryz.func227 (by kernel_rfl) rfl
 ·exact enters_of Tryz.func228 (by kernel_rfl) rfl
 ·exact enters_of Tryz.func229 (by kernel_rfl) rfl
 ·exact enters_of Tryz.func230 (by kernel_rfl) rfl
 ·exact enters_of Tryz.func231 (by kernel_rfl) rfl
 ·exact enters_of Tryz.func232 (by kernel_rfl) rfl
 ·exact enters_of Tryz.func233 (by kernel_rfl) rfl
 ·exact enters_of Tryz.func234 (by kernel_rfl) rfl
 ·exact enters_of Tryz.func235 (by kernel_rfl) rfl
 ·exact enters_of Tryz.func236 (by kernel_rfl) rfl
 ·exact enters_of Tryz.func237 (by kernel_rfl) rfl
 ·exact enters_of Tryz.func238 (by kernel_rfl) rfl
 ·exact enters_of Tryz.func239 (by kernel_rfl) rfl
 ·exact enters_of Tryz.func240 (by kernel_rfl) rfl
 ·exact enters_of Tryz.func241 (by kernel_rfl) rfl
 ·exact enters_of Tryz.func242 (by kernel_rfl) rfl
 ·exact enters_of Tryz.func243 (by kernel_rfl) rfl
 ·exact enters_of Tryz.func244 (by kernel_rfl) rfl
theorem answer_nil {w:World} {gk:Nat} (s:ByteArray) (hs:s.size≤5000) (hw:wordsL s.data.toList= []) :
 Calls Tryz.prog 100 #[.pointer (some ⟨gk,0,none⟩),.string s] w fun e w'=>e=.returned (.string ⟨#[111,107]⟩)∧Below w.heap.size w w':=by
 have hmf:∀ (fn:Fn) (first cap:Array Value) (w:World),(Instr.makeFunc fn first cap).run Tryz.prog w=.ok (.func fn first cap) w:=fun _ _ _ _=>rfl
 have hb:Below w.heap.size w (w.alloc (.cells #[.string ⟨#[]⟩] 9)):=(Below.refl _ _).alloc (Nat.le_refl _) _;have hlt:w.heap.size<(w.alloc (.cells #[.string ⟨#[]⟩] 9)).heap.size:=by simp
 have hc0:(w.alloc (.cells #[.string ⟨#[]⟩] 9)).cell? ⟨w.heap.size,0,none⟩=some (.string ⟨#[]⟩):=(World.cell?_alloc_at _ _ _ _ rfl).trans rfl;have hf0:(w.alloc (.cells #[.string ⟨#[]⟩] 9)).frozen? ⟨w.heap.size,0,none⟩=false:=World.frozen?_alloc_at _ _ _ _ rfl;have HF:Hid _:=fields_is s (w.alloc (.cells #[.string ⟨#[]⟩] 9)) (by omega)
 have HW:Hid (wordsL s.data.toList= []):=hw;have HB:Hid _:=hb;clear hs hw hb;go_enter_defers Tryz.func100,Tryz.ntmps100
 go_wp2_with fail
 go_at_call 154
 refine Calls.mono HF.out ?_;rintro e1 w1 ⟨v,rfl,hws,hb1⟩;rw [HW.out] at hws;obtain ⟨b,c,rfl⟩:=(Rows1.words hws).slice;have c1:=(hb1.cell (p:=⟨w.heap.size,0,none⟩) hlt).trans hc0;have f1:=(hb1.frozen (p:=⟨w.heap.size,0,none⟩) hlt).trans hf0;have HB1:Hid (Below w.heap.size w w1):=HB.out.trans (hb1.mono HB.out.size);clear hws hb1 hc0 hf0;go_wp2_with fail
 have h2:(w1.setCell ⟨w.heap.size,0,none⟩ (.string ⟨#[111,107]⟩)).cell? ⟨w.heap.size,0,none⟩=some (.string ⟨#[111,107]⟩):=World.cell?_setCell_same _ _ _ c1;have HB2:Hid (Below w.heap.size w (w1.setCell ⟨w.heap.size,0,none⟩ (.string ⟨#[111,107]⟩))):=HB1.out.setCell (p:=⟨w.heap.size,0,none⟩) (Nat.le_refl _) _;generalize (w1.setCell ⟨w.heap.size,0,none⟩ (.string ⟨#[111,107]⟩))=W at *;refine leaves_cons (f:=152) (args:=#[.pointer (some ⟨w.heap.size,0,none⟩)]) (by simp) (by simp [go_sem]) ?_
 refine (ans1_idle w.heap.size _).mono ?_;rintro e u' w'' ⟨rfl,rfl,rfl⟩;simp [Leaves,settle,results,Tryz.results100,go_sem,h2]
 exact HB2.out
theorem rows_at2 {B:Nat} {w:World} {v:Value} {cs:List Value} (h:Rows1 B w v cs) (h0:0<cs.length):∃ g c,v=.slice (some ⟨g,0,none⟩) cs.length c∧B≤g∧cs.length≤c∧∀ i u,cs[i]?=some u→w.cell? ⟨g,i,none⟩=some u:=by
 rcases h with ⟨-,h2⟩ | ⟨g,c,h1,hr⟩
 ·subst h2; simp at h0
 ·exact ⟨g,c,h1,hr.new,hr.le,hr.holds⟩
theorem ownsMap_on {W W':World} {gm n:Nat} {D:DataW Value} (h:W.ownsMap Tryz.prog 9 heldR gm n D) (hb:Below W.heap.size W W'):W'.ownsMap Tryz.prog 9 heldR gm n D:=by
 have hlt:=h.lt;obtain ⟨es,clock,e1,e2⟩:=h;exact ⟨es,clock,(hb.block gm hlt).trans e1,e2⟩
theorem ord_lookF {W:World} {gm:Nat} {f:Word→Value} (h:W.ownsMap Tryz.prog 9 heldR gm 18 (ordD f (.map []) ordNames)) (c:Word) (hc:c.length≤100000) :
 (Instr.lookup 240 (.map (some gm)) (.string (Ev.bs c)) true).run Tryz.prog W=.ok (.tuple #[if c∈ordNames then f c else .agg #[.nilFunc,.slice none 0 0],.bool (decide (c∈ordNames))]) W:=by
 have hkey:keyOf Tryz.prog 9 (.string (Ev.bs c))=some (.string c):=(keyOf_string_mk Tryz.underlying9 (by rw [bs_size]; unfold maxLen; omega)).trans (by simp [Ev.bs])
 obtain ⟨v,ps,hrun,hv⟩:=h.look_ok (string_keyed Tryz.underlying9) Tryz.underlying240 (zeroO W) (rfl:heldR (.agg #[.nilFunc,.slice none 0 0])=some (.held (.agg #[.nilFunc,.slice none 0 0]),[])) hkey;rw [ordD_has f c ordNames (.map []) Maps.isMap_empty,show Maps.has (.map []:DataW Value) (.string c)=false from rfl,Bool.or_false] at hrun
 rw [ordD_at f c _ ordNames (.map []) Maps.isMap_empty] at hv;by_cases hm:c∈ordNames
 ·rw [if_pos hm] at hv ⊢
  unfold heldR at hv;simp only [Option.some.injEq,Prod.mk.injEq,DataW.held.injEq] at hv;rw [hrun,hv.1]
 ·rw [if_neg hm] at hv ⊢
  have h5:(DataW.map []:DataW Value).atKey (.string c) (.held (.agg #[.nilFunc,.slice none 0 0]))=.held (.agg #[.nilFunc,.slice none 0 0]):=rfl;rw [h5] at hv;unfold heldR at hv;simp only [Option.some.injEq,Prod.mk.injEq,DataW.held.injEq] at hv;rw [hrun,hv.1]
theorem door_thrown {R:Ending→World→Prop} {act:Act} {W:World} {g n:Nat} {x:Value} (hd:act.defers= [{ target:=Target.fn (Fn.func 152) #[.pointer (some ⟨g,0,none⟩)],args:=#[] }]) (ht:act.tmps[4]?=some (.pointer (some ⟨g,0,none⟩))) (hc:W.cell? ⟨g,0,none⟩=some x) (hz:W.frozen? ⟨g,0,none⟩=false) (hn:n≤100000) (hL:LibsR W)
 (hR:∀ w2,Below W.heap.size W w2→R (.returned (.string ⟨(errL n).toArray⟩)) (w2.setCell ⟨g,0,none⟩ (.string ⟨(errL n).toArray⟩))):bodyPostD Tryz.prog Tryz.f100 R (.panic [{ v:=.iface 47 (.int .i64 (n:Int)),recovered:=false }]) act W:=by
 unfold bodyPostD;simp only;rw [hd];refine leaves_cons (f:=152) (args:=#[.pointer (some ⟨g,0,none⟩)]) (by simp) (by simp [go_sem]) ?_
 refine (ans1_thrown g n _ [] _ hc hz hn hL).mono ?_;rintro e u' w'' ⟨rfl,rfl,w2,hb2,rfl⟩;have h2:(w2.setCell ⟨g,0,none⟩ (.string ⟨(errL n).toArray⟩)).cell? ⟨g,0,none⟩=some (.string ⟨(errL n).toArray⟩):=World.cell?_setCell_same _ _ _ ((hb2.cell (p:=⟨g,0,none⟩) (World.block_lt_of_cell? _ _ hc)).trans hc);have h3:=hR w2 hb2;generalize (w2.setCell ⟨g,0,none⟩ (.string ⟨(errL n).toArray⟩))=V at *;simpa [Leaves,settle,results,Tryz.results100,go_sem,ht,h2] using h3
theorem door_told {R:Ending→World→Prop} {act:Act} {W:World} {g:Nat} {x:ByteArray} (hd:act.defers= [{ target:=Target.fn (Fn.func 152) #[.pointer (some ⟨g,0,none⟩)],args:=#[] }]) (ht:act.tmps[4]?=some (.pointer (some ⟨g,0,none⟩))) (hc:W.cell? ⟨g,0,none⟩=some (.string x)) (hR:R (.returned (.string x)) W):bodyPostD Tryz.prog Tryz.f100 R .ret act W:=by
 unfold bodyPostD;simp only;rw [hd];refine leaves_cons (f:=152) (args:=#[.pointer (some ⟨g,0,none⟩)]) (by simp) (by simp [go_sem]) ?_
 refine (ans1_idle g _).mono ?_;rintro e u' w'' ⟨rfl,rfl,rfl⟩;simpa [Leaves,settle,results,Tryz.results100,go_sem,ht,hc] using hR
theorem line_bad {d:Dk} {L:List UInt8} {c:Word} {ws:List Word} {ks:List Int} (hw:wordsL L=c::ws) (hf:formOf c=some (formK ks)) (hn:numsW (formK ks) ws=none):LineR d L d (errL 3):=by
 simp [LineR,hw,hf,hn]
theorem line_does {d:Dk} {L:List UInt8} {c:Word} {ws:List Word} {ks:List Int} {ns:List Int} {o:Dk × List UInt8 × Nat} (hw:wordsL L=c::ws) (hf:formOf c=some (formK ks)) (hn:numsW (formK ks) ws=some ns) (ho:DoesR d c ws ns o):LineR d L o.1 (Ev.told o):=by
 simp only [LineR,hw,hf,hn];exact ⟨o,ho,rfl,rfl⟩
section
variable {N : Nat} {w : World} {gk gm gd gs : Nat} {d : Dk} {c : Word} {ws : List Word}
theorem answer_none (s:ByteArray) (h:DkS N w gk gm gd gs d) (hs:s.size≤5000) (hw:wordsL s.data.toList=c::ws) (hcl:c.length≤5000) (hc:c∉ordNames) :
 Calls Tryz.prog 100 #[.pointer (some ⟨gk,0,none⟩),.string s] w fun e w'=>e=.returned (.string ⟨(errL 3).toArray⟩)∧Below w.heap.size w w':=by
 have hmf:∀ (fn:Fn) (first cap:Array Value) (w:World),(Instr.makeFunc fn first cap).run Tryz.prog w=.ok (.func fn first cap) w:=fun _ _ _ _=>rfl
 have hb:Below w.heap.size w (w.alloc (.cells #[.string ⟨#[]⟩] 9)):=(Below.refl _ _).alloc (Nat.le_refl _) _;have hlt:w.heap.size<(w.alloc (.cells #[.string ⟨#[]⟩] 9)).heap.size:=by simp
 have hc0:(w.alloc (.cells #[.string ⟨#[]⟩] 9)).cell? ⟨w.heap.size,0,none⟩=some (.string ⟨#[]⟩):=(World.cell?_alloc_at _ _ _ _ rfl).trans rfl;have hf0:(w.alloc (.cells #[.string ⟨#[]⟩] 9)).frozen? ⟨w.heap.size,0,none⟩=false:=World.frozen?_alloc_at _ _ _ _ rfl;have HF:Hid _:=fields_is s (w.alloc (.cells #[.string ⟨#[]⟩] 9)) (by omega)
 have HW:Hid (wordsL s.data.toList=c::ws):=hw;have HB:Hid _:=hb;have HDS:Hid _:=h.on hb
 have HLK:Hid (∀ (f:Word→Value) (V:World),(∀ row∈ordRows,row.1∈ordNames→OrdAt V gk row.2.1 row.2.2 (f row.1))∨True→V.ownsMap Tryz.prog 9 heldR gm 18 (ordD f (.map []) ordNames)→(Instr.lookup 240 (.map (some gm)) (.string (Ev.bs c)) true).run Tryz.prog V=.ok (.tuple #[.agg #[.nilFunc,.slice none 0 0],.bool false]) V):=fun f V _ hV=>by
  have h5:=ord_lookF hV c (by omega)
  rw [if_neg hc,decide_eq_false hc] at h5;exact h5
 clear h hs hw hb hcl hc;go_enter_defers Tryz.func100,Tryz.ntmps100
 go_wp2_with fail
 go_at_call 154
 refine Calls.mono HF.out ?_;rintro e1 w1 ⟨v,rfl,hws,hb1⟩;rw [HW.out] at hws;obtain ⟨A,cp,e,hA,hcp,hcx⟩:=rows_at2 (Rows1.words hws) (by simp)
 have el:(((c::ws).map Ev.bs).map Value.string).length=ws.length+1:=by simp
 rw [el] at e hcp;subst e;have HCP:Hid (ws.length+1≤cp):=hcp;have HCX:Hid (∀ (i:Nat) (x:Word),(c::ws)[i]?=some x→w1.cell? ⟨A,i,none⟩=some (.string (Ev.bs x))):=fun i x hx=>hcx i (.string (Ev.bs x)) (by rw [List.getElem?_map,List.getElem?_map,hx]; rfl)
 have c1:=(hb1.cell (p:=⟨w.heap.size,0,none⟩) hlt).trans hc0;have f1:=(hb1.frozen (p:=⟨w.heap.size,0,none⟩) hlt).trans hf0;have HC1:Hid _:=c1;have HF1:Hid _:=f1;have HB1:Hid (Below w.heap.size w w1):=HB.out.trans (hb1.mono HB.out.size);have HD1:Hid (DkS N w1 gk gm gd gs d):=HDS.out.on hb1;have i0:(0:Int)<((ws.length+1:Nat):Int):=by omega
 have hnz:¬ ((ws.length+1:Nat):Int)=0:=by omega
 have hnz2:¬ ws.length+1=0:=by omega
 clear hws hb1 hc0 hf0 hcx hcp hA el c1 f1 HDS HB;go_upto_region 5 with fail
 obtain ⟨gv,vf,hI⟩:=HD1.out.st;have HI1:Hid _:=hI;obtain ⟨f,hown,-⟩:=HD1.out.ord.run;clear hI;have HL0:Hid (∀ V:World,V.ownsMap Tryz.prog 9 heldR gm 18 (ordD f (.map []) ordNames)→(Instr.lookup 240 (.map (some gm)) (.string (Ev.bs c)) true).run Tryz.prog V=.ok (.tuple #[.agg #[.nilFunc,.slice none 0 0],.bool false]) V):=fun V hV=>HLK.out f V (.inr trivial) hV;refine RegD.R_ (fun V=>DAt V gk gd gs gv gm d.r∧V.cell? ⟨A,0,none⟩=some (.string (Ev.bs c))∧V.ownsMap Tryz.prog 9 heldR gm 18 (ordD f (.map []) ordNames)) 13 (by kernel_rfl) (⟨HI1.out.box.on (Below.refl _ _).drew,HCX.out 0 c rfl,hown⟩) (fun hH=>?_)
 refine RegD.T_ 0 (v:=.pointer (some ⟨gk,0,none⟩)) rfl (by kernel_rfl) (fun c a w h=>ansP c _ _ w (by rfl) h) (.inl ⟨by rfl,fun W hW=>by go_simp⟩) hH ?_
 simp only [Act.put,pS1,pS2,pS3];refine RegD.T_ 1 (v:=.pointer (some ⟨gk,0,none⟩)) rfl (by kernel_rfl) (fun c a w h=>ansP c _ _ w (by rfl) h) (.inl ⟨by rfl,fun W hW=>by go_simp⟩) hH ?_
 simp only [Act.put,pS1,pS2,pS3];refine RegD.T_ 2 (v:=.pointer (some ⟨gk,7,none⟩)) rfl (by kernel_rfl) (fun c a w h=>ansP c _ _ w (by rfl) h) (.inl ⟨by rfl,fun W hW=>by go_simp⟩) hH ?_
 simp only [Act.put,pS1,pS2,pS3];refine RegD.T_ 3 (v:=.map (some gm)) rfl (by kernel_rfl) (fun c a w h=>ansP c _ _ w (by rfl) h) (.inl ⟨by rfl,fun W hW=>by have a0:=hW.1.c7; go_simp⟩) hH ?_
 simp only [Act.put,pS1,pS2,pS3];refine RegD.T_ 4 (v:=.slice (some ⟨A,0,none⟩) (ws.length+1) cp) rfl (by kernel_rfl) (fun c a w h=>ansP c _ _ w (by rfl) h) (.inl ⟨by rfl,fun W hW=>by go_simp⟩) hH ?_
 simp only [Act.put,pS1,pS2,pS3];refine RegD.T_ 5 (v:=.pointer (some ⟨A,0,none⟩)) rfl (by kernel_rfl) (fun c a w h=>ansP c _ _ w (by rfl) h) (.inl ⟨by rfl,fun W hW=>by go_simp⟩) hH ?_
 simp only [Act.put,pS1,pS2,pS3];refine RegD.T_ 6 (v:=.string (Ev.bs c)) rfl (by kernel_rfl) (fun c a w h=>ansP c _ _ w (by rfl) h) (.inl ⟨by rfl,fun W hW=>by have a0:=hW.2.1; go_simp⟩) hH ?_
 simp only [Act.put,pS1,pS2,pS3];refine RegD.T_ 7 (v:=.tuple #[.agg #[.nilFunc,.slice none 0 0],.bool false]) rfl (by kernel_rfl) (fun c a w h=>ansP c _ _ w (by rfl) h) (.inl ⟨by rfl,fun W hW=>by have a0:=HL0.out _ hW.2.2; go_simp⟩) hH ?_
 simp only [Act.put,pS1,pS2,pS3];refine RegD.T_ 8 (v:=.tuple #[.agg #[.nilFunc,.slice none 0 0],.bool false]) rfl (by kernel_rfl) (fun c a w h=>ansP c _ _ w (by rfl) h) (.inl ⟨by rfl,fun W hW=>by go_simp⟩) hH ?_
 simp only [Act.put,pS1,pS2,pS3];refine RegD.T_ 9 (v:=.agg #[.nilFunc,.slice none 0 0]) rfl (by kernel_rfl) (fun c a w h=>ansP c _ _ w (by rfl) h) (.inl ⟨by rfl,fun W hW=>by go_simp⟩) hH ?_
 simp only [Act.put,pS1,pS2,pS3];refine RegD.T_ 10 (v:=.bool false) rfl (by kernel_rfl) (fun c a w h=>ansP c _ _ w (by rfl) h) (.inl ⟨by rfl,fun W hW=>by go_simp⟩) hH ?_
 simp only [Act.put,pS1,pS2,pS3];refine RegD.O_ 11 rfl (by kernel_rfl) ?_; intro K hK; go_simp
 go_wp2_with fail
 have HWX:Hid (Below w1.heap.size w1 (w1.alloc (.cells #[.nilFunc,.slice none 0 0] 253)).drew):=((Below.refl _ _).alloc (Nat.le_refl _) _).drew;refine hK.out _ _ (⟨HI1.out.box.on HWX.out,(HWX.out.cell (p:=⟨A,0,none⟩) (World.block_lt_of_cell? _ _ (HCX.out 0 c rfl))).trans (HCX.out 0 c rfl),ownsMap_on hown HWX.out⟩) ?_;clear hK hH;intro hH;clear K;have x0:(w1.alloc (.cells #[.nilFunc,.slice none 0 0] 253)).drew.cell? ⟨w1.heap.size,0,none⟩=some .nilFunc:=(World.cell?_alloc_at _ _ _ _ rfl).trans rfl;have x1:(w1.alloc (.cells #[.nilFunc,.slice none 0 0] 253)).drew.cell? ⟨w1.heap.size,1,none⟩=some (.slice none 0 0):=(World.cell?_alloc_at _ _ _ _ rfl).trans rfl;have z0:(w1.alloc (.cells #[.nilFunc,.slice none 0 0] 253)).drew.frozen? ⟨w1.heap.size,0,none⟩=false:=World.frozen?_alloc_at _ _ _ _ rfl
 have z1:(w1.alloc (.cells #[.nilFunc,.slice none 0 0] 253)).drew.frozen? ⟨w1.heap.size,1,none⟩=false:=World.frozen?_alloc_at _ _ _ _ rfl;generalize (w1.alloc (.cells #[.nilFunc,.slice none 0 0] 253)).drew=X at *;have hs1:=fun (a:Addr) (m:Mode) (W:World)=>run_store Tryz.prog W a .nilFunc m rfl;have hs2:=fun (a:Addr) (m:Mode) (f:Fn) (x y:Array Value) (W:World)=>run_store Tryz.prog W a (.func f x y) m rfl;refine RegD.O_ 12 rfl (by kernel_rfl) ?_; intro K hK; go_simp
 go_wp2_with fail
 have HWY:Hid (Below w1.heap.size w1 ((X.setCell ⟨w1.heap.size,0,none⟩ (.nilFunc)).setCell ⟨w1.heap.size,1,none⟩ (.slice none 0 0))):=(HWX.out.setCell (p:=⟨w1.heap.size,0,none⟩) (Nat.le_refl _) _).setCell (p:=⟨w1.heap.size,1,none⟩) (Nat.le_refl _) _;refine hK.out _ _ (⟨HI1.out.box.on HWY.out,(HWY.out.cell (p:=⟨A,0,none⟩) (World.block_lt_of_cell? _ _ (HCX.out 0 c rfl))).trans (HCX.out 0 c rfl),ownsMap_on hown HWY.out⟩) ?_;clear hK hH;intro hH;clear K;refine RegD.L_ 13 rfl (by kernel_rfl) (by kernel_rfl) ?_; intro K hK; go_simp
 refine hK.out _ _ ?_;clear hK K;refine RegD.D_ (by kernel_rfl) ?_ _
 have y1:((X.setCell ⟨w1.heap.size,0,none⟩ .nilFunc).setCell ⟨w1.heap.size,1,none⟩ (.slice none 0 0)).cell? ⟨w.heap.size,0,none⟩=some (.string ⟨#[]⟩):=(HWY.out.cell (p:=⟨w.heap.size,0,none⟩) (World.block_lt_of_cell? _ _ HC1.out)).trans HC1.out;have y2:((X.setCell ⟨w1.heap.size,0,none⟩ .nilFunc).setCell ⟨w1.heap.size,1,none⟩ (.slice none 0 0)).frozen? ⟨w.heap.size,0,none⟩=false:=(HWY.out.frozen (p:=⟨w.heap.size,0,none⟩) (World.block_lt_of_cell? _ _ HC1.out)).trans HF1.out;have HLB:Hid (LibsR ((X.setCell ⟨w1.heap.size,0,none⟩ .nilFunc).setCell ⟨w1.heap.size,1,none⟩ (.slice none 0 0))):=HI1.out.sv.libs.on HWY.out;generalize ((X.setCell ⟨w1.heap.size,0,none⟩ .nilFunc).setCell ⟨w1.heap.size,1,none⟩ (.slice none 0 0))=Y at *;clear x0 x1 z0 z1 hs1 hs2 HWX hown HL0 hH;go_wp2_with fail
 refine leaves_cons (f:=152) (args:=#[.pointer (some ⟨w.heap.size,0,none⟩)]) (by simp) (by simp [go_sem]) ?_
 refine (ans1_thrown w.heap.size 3 _ [] _ y1 y2 (by omega) HLB.out).mono ?_
 rintro e u' w'' ⟨rfl,rfl,w2,hb2,rfl⟩;have HB2:Hid (Below w.heap.size w w2):=HB1.out.trans ((HWY.out.trans (hb2.mono HWY.out.size)).mono HB1.out.size);have h2:(w2.setCell ⟨w.heap.size,0,none⟩ (.string ⟨(errL 3).toArray⟩)).cell? ⟨w.heap.size,0,none⟩=some (.string ⟨(errL 3).toArray⟩):=World.cell?_setCell_same _ _ _ ((hb2.cell (p:=⟨w.heap.size,0,none⟩) (World.block_lt_of_cell? _ _ y1)).trans y1);have HB3:Hid (Below w.heap.size w (w2.setCell ⟨w.heap.size,0,none⟩ (.string ⟨(errL 3).toArray⟩))):=HB2.out.setCell (p:=⟨w.heap.size,0,none⟩) (Nat.le_refl _) _;generalize (w2.setCell ⟨w.heap.size,0,none⟩ (.string ⟨(errL 3).toArray⟩))=W at *;simp [Leaves,settle,results,Tryz.results100,go_sem,h2]
 exact HB3.out
theorem answer_row (s:ByteArray) (F:Nat) (ks:List Int) (hr:(c,F,ks)∈ordRows) (h:DkS N w gk gm gd gs d) (hs:s.size≤5000) (hw:wordsL s.data.toList=c::ws) (hx:∀ x∈ws,x.length≤5000) (hwl:ws.length≤6000) (hN:N<97000) :
 Calls Tryz.prog 100 #[.pointer (some ⟨gk,0,none⟩),.string s] w fun e w'=>∃ (d':Dk) (a:List UInt8),e=.returned (.string ⟨a.toArray⟩)∧LineR d s.data.toList d' a∧DkTo N w w' gk gm gd gs d':=by
 have hmf:∀ (fn:Fn) (first cap:Array Value) (w:World),(Instr.makeFunc fn first cap).run Tryz.prog w=.ok (.func fn first cap) w:=fun _ _ _ _=>rfl
 have hb:Below w.heap.size w (w.alloc (.cells #[.string ⟨#[]⟩] 9)):=(Below.refl _ _).alloc (Nat.le_refl _) _;have hlt:w.heap.size<(w.alloc (.cells #[.string ⟨#[]⟩] 9)).heap.size:=by simp
 have hc0:(w.alloc (.cells #[.string ⟨#[]⟩] 9)).cell? ⟨w.heap.size,0,none⟩=some (.string ⟨#[]⟩):=(World.cell?_alloc_at _ _ _ _ rfl).trans rfl;have hf0:(w.alloc (.cells #[.string ⟨#[]⟩] 9)).frozen? ⟨w.heap.size,0,none⟩=false:=World.frozen?_alloc_at _ _ _ _ rfl;have HF:Hid _:=fields_is s (w.alloc (.cells #[.string ⟨#[]⟩] 9)) (by omega)
 have HW:Hid (wordsL s.data.toList=c::ws):=hw;have HB:Hid _:=hb;have HDS:Hid _:=h.on hb;have hc:c∈ordNames:=List.mem_map.2 ⟨_,hr,rfl⟩;have HDW:Hid _:=h;have HK3:Hid (∀ k∈ks,k=0∨k=1∨k=2):=rows_kinds (c,F,ks) hr;have hcl:c.length≤100:=row_len _ hr;have hent:=rows_enter _ hr;simp only at hent;have HR:Hid ((c,F,ks)∈ordRows):=hr;have HXX:Hid (∀ x∈ws,x.length≤5000):=hx;have HWN:Hid (ws.length≤6000):=(show _≤_ from hwl)
 have HNN:Hid (N<97000):=(show _<_ from hN)
 have HLK:Hid (∀ (f:Word→Value) (V:World),V.ownsMap Tryz.prog 9 heldR gm 18 (ordD f (.map []) ordNames)→(Instr.lookup 240 (.map (some gm)) (.string (Ev.bs c)) true).run Tryz.prog V=.ok (.tuple #[f c,.bool true]) V):=fun f V hV=>by
  have h5:=ord_lookF hV c (by omega)
  rw [if_pos hc,decide_eq_true hc] at h5;exact h5
 clear h hs hw hb hx hwl hcl hN;go_enter_defers Tryz.func100,Tryz.ntmps100
 go_wp2_with fail
 go_at_call 154
 refine Calls.mono HF.out ?_;rintro e1 w1 ⟨v,rfl,hws,hb1⟩;rw [HW.out] at hws;obtain ⟨A,cp,e,hA,hcp,hcx⟩:=rows_at2 (Rows1.words hws) (by simp)
 have el:(((c::ws).map Ev.bs).map Value.string).length=ws.length+1:=by simp
 rw [el] at e hcp;subst e;have HCP:Hid (ws.length+1≤cp):=hcp;have HCX:Hid (∀ (i:Nat) (x:Word),(c::ws)[i]?=some x→w1.cell? ⟨A,i,none⟩=some (.string (Ev.bs x))):=fun i x hx=>hcx i (.string (Ev.bs x)) (by rw [List.getElem?_map,List.getElem?_map,hx]; rfl)
 have c1:=(hb1.cell (p:=⟨w.heap.size,0,none⟩) hlt).trans hc0;have f1:=(hb1.frozen (p:=⟨w.heap.size,0,none⟩) hlt).trans hf0;have HC1:Hid _:=c1;have HF1:Hid _:=f1;have HB1:Hid (Below w.heap.size w w1):=HB.out.trans (hb1.mono HB.out.size);have HD1:Hid (DkS N w1 gk gm gd gs d):=HDS.out.on hb1;have i0:(0:Int)<((ws.length+1:Nat):Int):=by omega
 have hnz:¬ ((ws.length+1:Nat):Int)=0:=by omega
 have hnz2:¬ ws.length+1=0:=by omega
 clear hws hb1 hc0 hf0 hcx hcp hA el c1 f1 HDS HB;go_upto_region 5 with fail
 obtain ⟨gv,vf,hI⟩:=HD1.out.st;have HI1:Hid _:=hI;obtain ⟨f,hown,hrows⟩:=HD1.out.ord.run;clear hI;obtain ⟨ka,kc,gks,hv,hka,hks,hgk⟩:=hrows _ HR.out hc;simp only at hv hka hks hgk;have HL0:Hid (∀ V:World,V.ownsMap Tryz.prog 9 heldR gm 18 (ordD f (.map []) ordNames)→(Instr.lookup 240 (.map (some gm)) (.string (Ev.bs c)) true).run Tryz.prog V=.ok (.tuple #[.agg #[.func (.func F) #[.pointer (some ⟨gk,0,none⟩)] #[],.slice ka ks.length kc],.bool true]) V):=fun V hV=>by rw [← hv]; exact HLK.out f V hV
 have HKA:Hid (0<ks.length→ka=some ⟨gks,0,none⟩):=hka;have HKS:Hid (∀ (i:Nat) (k:Int),ks[i]?=some k→w1.cell? ⟨gks,i,none⟩=some (.int .i64 k)):=hks;have HGK:Hid (gks<w1.heap.size):=hgk;clear hv hka hks hgk hrows hc hr;refine RegD.R_ (fun V=>DAt V gk gd gs gv gm d.r∧V.cell? ⟨A,0,none⟩=some (.string (Ev.bs c))∧V.ownsMap Tryz.prog 9 heldR gm 18 (ordD f (.map []) ordNames)) 13 (by kernel_rfl) (⟨HI1.out.box.on (Below.refl _ _).drew,HCX.out 0 c rfl,hown⟩) (fun hH=>?_)
 refine RegD.T_ 0 (v:=.pointer (some ⟨gk,0,none⟩)) rfl (by kernel_rfl) (fun c a w h=>ansP c _ _ w (by rfl) h) (.inl ⟨by rfl,fun W hW=>by go_simp⟩) hH ?_
 simp only [Act.put,pS1,pS2,pS3];refine RegD.T_ 1 (v:=.pointer (some ⟨gk,0,none⟩)) rfl (by kernel_rfl) (fun c a w h=>ansP c _ _ w (by rfl) h) (.inl ⟨by rfl,fun W hW=>by go_simp⟩) hH ?_
 simp only [Act.put,pS1,pS2,pS3];refine RegD.T_ 2 (v:=.pointer (some ⟨gk,7,none⟩)) rfl (by kernel_rfl) (fun c a w h=>ansP c _ _ w (by rfl) h) (.inl ⟨by rfl,fun W hW=>by go_simp⟩) hH ?_
 simp only [Act.put,pS1,pS2,pS3];refine RegD.T_ 3 (v:=.map (some gm)) rfl (by kernel_rfl) (fun c a w h=>ansP c _ _ w (by rfl) h) (.inl ⟨by rfl,fun W hW=>by have a0:=hW.1.c7; go_simp⟩) hH ?_
 simp only [Act.put,pS1,pS2,pS3];refine RegD.T_ 4 (v:=.slice (some ⟨A,0,none⟩) (ws.length+1) cp) rfl (by kernel_rfl) (fun c a w h=>ansP c _ _ w (by rfl) h) (.inl ⟨by rfl,fun W hW=>by go_simp⟩) hH ?_
 simp only [Act.put,pS1,pS2,pS3];refine RegD.T_ 5 (v:=.pointer (some ⟨A,0,none⟩)) rfl (by kernel_rfl) (fun c a w h=>ansP c _ _ w (by rfl) h) (.inl ⟨by rfl,fun W hW=>by go_simp⟩) hH ?_
 simp only [Act.put,pS1,pS2,pS3];refine RegD.T_ 6 (v:=.string (Ev.bs c)) rfl (by kernel_rfl) (fun c a w h=>ansP c _ _ w (by rfl) h) (.inl ⟨by rfl,fun W hW=>by have a0:=hW.2.1; go_simp⟩) hH ?_
 simp only [Act.put,pS1,pS2,pS3];refine RegD.T_ 7 (v:=.tuple #[.agg #[.func (.func F) #[.pointer (some ⟨gk,0,none⟩)] #[],.slice ka ks.length kc],.bool true]) rfl (by kernel_rfl) (fun c a w h=>ansP c _ _ w (by rfl) h) (.inl ⟨by rfl,fun W hW=>by have a0:=HL0.out _ hW.2.2; go_simp⟩) hH ?_
 simp only [Act.put,pS1,pS2,pS3];refine RegD.T_ 8 (v:=.tuple #[.agg #[.func (.func F) #[.pointer (some ⟨gk,0,none⟩)] #[],.slice ka ks.length kc],.bool true]) rfl (by kernel_rfl) (fun c a w h=>ansP c _ _ w (by rfl) h) (.inl ⟨by rfl,fun W hW=>by go_simp⟩) hH ?_
 simp only [Act.put,pS1,pS2,pS3];refine RegD.T_ 9 (v:=.agg #[.func (.func F) #[.pointer (some ⟨gk,0,none⟩)] #[],.slice ka ks.length kc]) rfl (by kernel_rfl) (fun c a w h=>ansP c _ _ w (by rfl) h) (.inl ⟨by rfl,fun W hW=>by go_simp⟩) hH ?_
 simp only [Act.put,pS1,pS2,pS3];refine RegD.T_ 10 (v:=.bool true) rfl (by kernel_rfl) (fun c a w h=>ansP c _ _ w (by rfl) h) (.inl ⟨by rfl,fun W hW=>by go_simp⟩) hH ?_
 simp only [Act.put,pS1,pS2,pS3];refine RegD.O_ 11 rfl (by kernel_rfl) ?_; intro K hK; go_simp
 go_wp2_with fail
 have HWX:Hid (Below w1.heap.size w1 (w1.alloc (.cells #[.nilFunc,.slice none 0 0] 253)).drew):=((Below.refl _ _).alloc (Nat.le_refl _) _).drew;refine hK.out _ _ (⟨HI1.out.box.on HWX.out,(HWX.out.cell (p:=⟨A,0,none⟩) (World.block_lt_of_cell? _ _ (HCX.out 0 c rfl))).trans (HCX.out 0 c rfl),ownsMap_on hown HWX.out⟩) ?_;clear hK hH;intro hH;clear K;have x0:(w1.alloc (.cells #[.nilFunc,.slice none 0 0] 253)).drew.cell? ⟨w1.heap.size,0,none⟩=some .nilFunc:=(World.cell?_alloc_at _ _ _ _ rfl).trans rfl;have x1:(w1.alloc (.cells #[.nilFunc,.slice none 0 0] 253)).drew.cell? ⟨w1.heap.size,1,none⟩=some (.slice none 0 0):=(World.cell?_alloc_at _ _ _ _ rfl).trans rfl;have z0:(w1.alloc (.cells #[.nilFunc,.slice none 0 0] 253)).drew.frozen? ⟨w1.heap.size,0,none⟩=false:=World.frozen?_alloc_at _ _ _ _ rfl
 have z1:(w1.alloc (.cells #[.nilFunc,.slice none 0 0] 253)).drew.frozen? ⟨w1.heap.size,1,none⟩=false:=World.frozen?_alloc_at _ _ _ _ rfl;generalize (w1.alloc (.cells #[.nilFunc,.slice none 0 0] 253)).drew=X at *;have hs1:=fun (a:Addr) (m:Mode) (W:World)=>run_store Tryz.prog W a .nilFunc m rfl;have hs2:=fun (a:Addr) (m:Mode) (f:Fn) (x y:Array Value) (W:World)=>run_store Tryz.prog W a (.func f x y) m rfl;refine RegD.O_ 12 rfl (by kernel_rfl) ?_; intro K hK; go_simp
 go_wp2_with fail
 have HWY:Hid (Below w1.heap.size w1 ((X.setCell ⟨w1.heap.size,0,none⟩ (.func (.func F) #[.pointer (some ⟨gk,0,none⟩)] #[])).setCell ⟨w1.heap.size,1,none⟩ (.slice ka ks.length kc))):=(HWX.out.setCell (p:=⟨w1.heap.size,0,none⟩) (Nat.le_refl _) _).setCell (p:=⟨w1.heap.size,1,none⟩) (Nat.le_refl _) _;refine hK.out _ _ (⟨HI1.out.box.on HWY.out,(HWY.out.cell (p:=⟨A,0,none⟩) (World.block_lt_of_cell? _ _ (HCX.out 0 c rfl))).trans (HCX.out 0 c rfl),ownsMap_on hown HWY.out⟩) ?_;clear hK hH;intro hH;clear K;refine RegD.L_ 13 rfl (by kernel_rfl) (by kernel_rfl) ?_; intro K hK; go_simp
 refine hK.out _ _ ?_;clear hK K;refine RegD.D_ (by kernel_rfl) ?_ _
 have y1:((X.setCell ⟨w1.heap.size,0,none⟩ (.func (.func F) #[.pointer (some ⟨gk,0,none⟩)] #[])).setCell ⟨w1.heap.size,1,none⟩ (.slice ka ks.length kc)).cell? ⟨w1.heap.size,0,none⟩=some (.func (.func F) #[.pointer (some ⟨gk,0,none⟩)] #[]):=(World.cell?_setCell_other _ _ _ _ (by simp)).trans (World.cell?_setCell_same _ _ _ x0)
 have y2:((X.setCell ⟨w1.heap.size,0,none⟩ (.func (.func F) #[.pointer (some ⟨gk,0,none⟩)] #[])).setCell ⟨w1.heap.size,1,none⟩ (.slice ka ks.length kc)).cell? ⟨w1.heap.size,1,none⟩=some (.slice ka ks.length kc):=World.cell?_setCell_same _ _ _ ((World.cell?_setCell_other _ _ _ _ (by simp)).trans x1)
 have HYS:Hid (w1.heap.size<((X.setCell ⟨w1.heap.size,0,none⟩ (.func (.func F) #[.pointer (some ⟨gk,0,none⟩)] #[])).setCell ⟨w1.heap.size,1,none⟩ (.slice ka ks.length kc)).heap.size):=(show _<_ from World.block_lt_of_cell? _ _ y1)
 have HG6:Hid (gk<w1.heap.size∧gd<w1.heap.size∧gs<w1.heap.size∧w.heap.size<w1.heap.size):=by
  have q1:=HI1.out.box.lt;have q2:=HI1.out.sv.sp.lt;have q3:=HI1.out.sv.sp.ord;have q4:=World.block_lt_of_cell? _ _ HC1.out;exact ⟨q1,by omega,q2,q4⟩
 generalize ((X.setCell ⟨w1.heap.size,0,none⟩ (.func (.func F) #[.pointer (some ⟨gk,0,none⟩)] #[])).setCell ⟨w1.heap.size,1,none⟩ (.slice ka ks.length kc))=Y at *;have HFM:Hid (formOf c=some (formK ks)):=rows_form _ HR.out;have HDY:Hid (DkS N Y gk gm gd gs d):=HD1.out.on HWY.out;have HLY:Hid (LibsR Y):=HI1.out.sv.libs.on HWY.out
 have HTY:Hid (Y.cell? ⟨w.heap.size,0,none⟩=some (.string ⟨#[]⟩)∧Y.frozen? ⟨w.heap.size,0,none⟩=false∧w.heap.size<Y.heap.size):=by
  have q:=World.block_lt_of_cell? _ _ HC1.out;exact ⟨(HWY.out.cell (p:=⟨w.heap.size,0,none⟩) q).trans HC1.out,(HWY.out.frozen (p:=⟨w.heap.size,0,none⟩) q).trans HF1.out,Nat.lt_of_lt_of_le q HWY.out.size⟩
 have HKY:Hid (∀ (i:Nat) (k:Int),ks[i]?=some k→Y.drew.cell? ⟨gks,i,none⟩=some (.int .i64 k)):=fun i k hi=>(HWY.out.cell (p:=⟨gks,i,none⟩) HGK.out).trans (HKS.out i k hi);have HGY:Hid (gks<Y.drew.heap.size):=Nat.lt_of_lt_of_le HGK.out HWY.out.size
 have HWSY:Hid (∀ (i:Nat) (x:Word),ws[i]?=some x→Y.drew.cell? ⟨A,1+i,none⟩=some (.string (Ev.bs x))):=fun i x hi=>by
  have h5:=HCX.out (i+1) x (by simpa using hi)
  rw [Nat.add_comm 1 i];exact (HWY.out.cell (p:=⟨A,i+1,none⟩) (World.block_lt_of_cell? _ _ h5)).trans h5
 have HBY:Hid (Below w.heap.size w Y):=HB1.out.trans (HWY.out.mono HB1.out.size);generalize w1.heap.size=g6 at *;clear x0 x1 z0 z1 hs1 hs2 HWX hown HL0 hH HLK f vf HI1;go_upto_region 8 with fail
 have hnl:¬ ((ws.length:Int)+1<1):=by omega
 obtain ⟨ba,HBA⟩:∃ ba:Option Addr,Hid (ba=if cp=1 then some ⟨A,0,none⟩ else some ⟨A,1,none⟩):=⟨_,rfl⟩
 refine RegD.R_ (fun V=>V.cell? ⟨g6,0,none⟩=some (.func (.func F) #[.pointer (some ⟨gk,0,none⟩)] #[])∧V.cell? ⟨g6,1,none⟩=some (.slice ka ks.length kc)) 7 (by kernel_rfl) (⟨y1,y2⟩) (fun hH=>?_)
 refine RegD.T_ 0 (v:=.pointer (some ⟨g6,0,none⟩)) rfl (by kernel_rfl) (fun c a w h=>ansP c _ _ w (by rfl) h) (.inl ⟨by rfl,fun W hW=>by go_simp⟩) hH ?_
 simp only [Act.put,pS1,pS2,pS3];refine RegD.T_ 1 (v:=.func (.func F) #[.pointer (some ⟨gk,0,none⟩)] #[]) rfl (by kernel_rfl) (fun c a w h=>ansP c _ _ w (by rfl) h) (.inl ⟨by rfl,fun W hW=>by have a0:=hW.1; go_simp⟩) hH ?_
 simp only [Act.put,pS1,pS2,pS3];refine RegD.T_ 2 (v:=.agg #[.func (.func F) #[.pointer (some ⟨gk,0,none⟩)] #[],.slice ka ks.length kc]) rfl (by kernel_rfl) (fun c a w h=>ansP c _ _ w (by rfl) h) (.inl ⟨by rfl,fun W hW=>by have a0:=hW.1; have a1:=hW.2; go_simp⟩) hH ?_
 simp only [Act.put,pS1,pS2,pS3];refine RegD.T_ 3 (v:=.slice (some ⟨A,0,none⟩) (ws.length+1) cp) rfl (by kernel_rfl) (fun c a w h=>ansP c _ _ w (by rfl) h) (.inl ⟨by rfl,fun W hW=>by go_simp⟩) hH ?_
 simp only [Act.put,pS1,pS2,pS3];refine RegD.T_ 4 (v:=.slice ba ws.length (cp - 1)) rfl (by kernel_rfl) (fun c a w h=>ansP c _ _ w (by rfl) h) (.inl ⟨by rfl,fun W hW=>by rw [HBA.out]; go_simp⟩) hH ?_
 simp only [Act.put,pS1,pS2,pS3];by_cases hlen:ws.length=ks.length
 ·have HLEN:Hid (ws.length=ks.length):=hlen
  clear hlen;refine RegD.O_ 5 rfl (by kernel_rfl) ?_; intro K hK; go_simp
  go_at_call 156
  have HBA2:Hid (0<ws.length→ba=some ⟨A,1,none⟩):=fun h=>by rw [HBA.out,if_neg (by have:=HCP.out; omega)]
  have h5:=read_is F gk ka ks kc ba ws (cp - 1) gks A 1 Y.drew HLEN.out HKA.out HKY.out HGY.out HK3.out HBA2.out HWSY.out (fun x hx=>by have:=HXX.out x hx; omega) (by have:=HWN.out; omega) (HLY.out.on (Below.refl _ _).drew)
  refine h5.mono ?_;clear h5;intro e2 w2 h6;obtain ⟨hb2,h7⟩:=h6;rcases h7 with h8 | h8
  ·obtain ⟨vt,vn,he,hrt,hrn,hok⟩:=h8
   subst he;have HB2:Hid (Below Y.heap.size Y w2):=(Below.refl _ _).drew.trans hb2;have HRT:Hid (Rows1 Y.heap.size w2 vt ((tsOf ks ws ws.length).map Value.string)):=hrt;have HRN:Hid (Rows1 Y.heap.size w2 vn ((nsOf ks ws ws.length).map (Value.int .i64))):=hrn;have HOK:Hid (∀ (j:Nat) (k:Int) (x:Word),ks[j]?=some k→ws[j]?=some x→nkW k x≠none):=hok;have HD2:Hid (DkS N w2 gk gm gd gs d):=HDY.out.on HB2.out;clear hb2 hrt hrn hok;go_wp2_with fail
   refine hK.out _ _ (⟨(HB2.out.cell (p:=⟨g6,0,none⟩) HYS.out).trans y1,(HB2.out.cell (p:=⟨g6,1,none⟩) HYS.out).trans y2⟩) ?_;clear hK hH;intro hH;clear K
   have HGB:Hid (gd<Y.heap.size∧gs<Y.heap.size):=by
    have q1:=HG6.out;have q2:=HYS.out;exact ⟨by omega,by omega⟩
   have HB5:Hid (Below w.heap.size w w2):=HBY.out.trans (HB2.out.mono HBY.out.size);have HT2:Hid (w2.cell? ⟨w.heap.size,0,none⟩=some (.string ⟨#[]⟩)∧w2.frozen? ⟨w.heap.size,0,none⟩=false∧w.heap.size<w2.heap.size):=⟨(HB2.out.cell (p:=⟨w.heap.size,0,none⟩) HTY.out.2.2).trans HTY.out.1,(HB2.out.frozen (p:=⟨w.heap.size,0,none⟩) HTY.out.2.2).trans HTY.out.2.1,Nat.lt_of_lt_of_le HTY.out.2.2 HB2.out.size⟩
   have HNI:Hid (w.heap.size∉ [gk,gd,gs]):=by
    have q:=HDW.out.lts;show w.heap.size∉ [gk,gd,gs]
    simp
    omega
   refine RegD.O_ 6 rfl (by kernel_rfl) ?_; intro K hK; go_simp
   refine (ord_run (c,F,ks) HR.out HD2.out HLEN.out HRT.out HRN.out HOK.out HGB.out HXX.out HNN.out).mono ?_;intro e3 w3 h6;obtain ⟨o,a,hdo,he,htell,hn100,hto⟩:=h6;have HLD:Hid (LineR d s.data.toList o.1 (Ev.told o)):=line_does HW.out HFM.out (nums_ok ks ws HLEN.out HOK.out) hdo;have HTO:Hid (DkTo N w2 w3 gk gm gd gs o.1):=hto
   have HT3:Hid (w3.cell? ⟨w.heap.size,0,none⟩=some (.string ⟨#[]⟩)∧w3.frozen? ⟨w.heap.size,0,none⟩=false∧LibsR w3∧w3.cell? ⟨g6,0,none⟩=some (.func (.func F) #[.pointer (some ⟨gk,0,none⟩)] #[])∧w3.cell? ⟨g6,1,none⟩=some (.slice ka ks.length kc)):=by
    obtain ⟨gd',gs',q1,q2,-⟩:=hto;obtain ⟨gv',v',q3⟩:=q1.st;have q4:=HG6.out;have q5:=Nat.lt_of_lt_of_le HYS.out HB2.out.size;exact ⟨(q2.cell (p:=⟨w.heap.size,0,none⟩) HT2.out.2.2 HNI.out).trans HT2.out.1,(q2.frozen (p:=⟨w.heap.size,0,none⟩) HT2.out.2.2 HNI.out).trans HT2.out.2.1,q3.sv.libs,(q2.cell (p:=⟨g6,0,none⟩) q5 (by simp; omega)).trans ((HB2.out.cell (p:=⟨g6,0,none⟩) HYS.out).trans y1),(q2.cell (p:=⟨g6,1,none⟩) q5 (by simp; omega)).trans ((HB2.out.cell (p:=⟨g6,1,none⟩) HYS.out).trans y2)⟩
   clear hto hdo
   cases hn:o.2.2 with
   |zero=>
    rw [hn,tellE_ok] at he;subst he
    have HTA:Hid (a=⟨(Ev.told o).toArray⟩):=(show a=_ by
     have q:Ev.told o=o.2.1:=by unfold Ev.told; rw [if_pos hn]
     rw [q,← htell hn])
    clear htell hn100 hn;go_wp2_with fail
    refine hK.out _ _ (HT3.out.2.2.2) ?_;clear hK hH;intro hH;clear K;have c3:=HT3.out.1;have f3:=HT3.out.2.1;refine RegD.L_ 7 rfl (by kernel_rfl) (by kernel_rfl) ?_; intro K hK; go_simp
    go_wp2_with fail
    refine hK.out _ _ ?_;clear hK K;refine RegD.D_ (by kernel_rfl) ?_ _
    go_wp2_with fail
    refine door_told rfl rfl (World.cell?_setCell_same _ _ _ c3) ⟨o.1,Ev.told o,by rw [HTA.out],HLD.out,DkTo.told HDW.out HB5.out HT2.out.2.2 HTO.out c3⟩
   |succ m=>
    rw [hn,tellE_no] at he;subst he;have HM:Hid (m+1≤100∧Ev.told o=errL (m+1)):=⟨by omega,by unfold Ev.told; rw [hn,if_neg (by omega)]⟩
    clear htell hn100 hn;go_wp2_with fail
    refine door_thrown (n:=m+1) rfl rfl HT3.out.1 HT3.out.2.1 (by have:=HM.out.1; omega) HT3.out.2.2.1 (fun w4 hb4=>?_)
    exact ⟨o.1,errL (m+1),rfl,HM.out.2 ▸ HLD.out,DkTo.told HDW.out HB5.out HT2.out.2.2 (HTO.out.post hb4) ((hb4.cell (p:=⟨w.heap.size,0,none⟩) (World.block_lt_of_cell? _ _ HT3.out.1)).trans HT3.out.1)⟩
  ·obtain ⟨he,j,k,x,hj1,hj2,hj3⟩:=h8
   subst he;have HB2:Hid (Below Y.heap.size Y w2):=(Below.refl _ _).drew.trans hb2;have HNB:Hid (numsW (formK ks) ws=none):=nums_bad ks ws j k x hj1 hj2 hj3;clear hb2 hj1 hj2 hj3;unfold thrownE;go_wp2_with fail
   have hY:=HTY.out;refine door_thrown (n:=3) rfl rfl ((HB2.out.cell (p:=⟨w.heap.size,0,none⟩) hY.2.2).trans hY.1) ((HB2.out.frozen (p:=⟨w.heap.size,0,none⟩) hY.2.2).trans hY.2.1) (by omega) (HLY.out.on HB2.out) (fun w3 hb3=>?_)
   have hbf:Below w.heap.size w (w3.setCell ⟨w.heap.size,0,none⟩ (.string ⟨(errL 3).toArray⟩)):=(HBY.out.trans ((HB2.out.trans (hb3.mono HB2.out.size)).mono HBY.out.size)).setCell (p:=⟨w.heap.size,0,none⟩) (Nat.le_refl _) _;exact ⟨d,errL 3,rfl,line_bad HW.out HFM.out HNB.out,DkTo.same HDW.out hbf⟩
 ·have HLEN:Hid _:=hlen
  refine RegD.O_ 5 rfl (by kernel_rfl) ?_; intro K hK; go_simp
  go_at_call 156
  refine (read_len F gk ka ks.length kc _ ws.length (cp - 1) _ hlen).mono ?_;rintro e2 w2 ⟨rfl,hb2⟩;have HB2:Hid (Below Y.heap.size Y w2):=(Below.refl _ _).drew.trans hb2;clear hb2;unfold thrownE;go_wp2_with fail
  have hY:=HTY.out;refine door_thrown (n:=3) rfl rfl ((HB2.out.cell (p:=⟨w.heap.size,0,none⟩) hY.2.2).trans hY.1) ((HB2.out.frozen (p:=⟨w.heap.size,0,none⟩) hY.2.2).trans hY.2.1) (by omega) (HLY.out.on HB2.out) (fun w3 hb3=>?_)
  have hbf:Below w.heap.size w (w3.setCell ⟨w.heap.size,0,none⟩ (.string ⟨(errL 3).toArray⟩)):=(HBY.out.trans ((HB2.out.trans (hb3.mono HB2.out.size)).mono HBY.out.size)).setCell (p:=⟨w.heap.size,0,none⟩) (Nat.le_refl _) _;exact ⟨d,errL 3,rfl,line_bad HW.out HFM.out (nums_len ks ws HLEN.out),DkTo.same HDW.out hbf⟩
end
end Go.Proofs.YtlailakofhenkabGreatDoor
