import Derived.Test.YtlailakofhenkabGreatDoorB40
import Derived.Conc.Holds
import Derived.SevenTiedAt
namespace Go.Proofs.YtlailakofhenkabGreatDoor
open Go Go.RowKit Go.ChangeShapes Go.WideShapes Go.ChangeAt Go.Joins Ev
open Go.WideMaps Go.WideElems
theorem cellsInt:Tryz.prog.cellsOf 3=1:=by kernel_rfl
theorem cellsStr:Tryz.prog.cellsOf 9=1:=by kernel_rfl
def wfI (n:Int):Prop:=(Lit.int .i64 n).wf=true
variable {H : Type} {enc : TypeId × Value → H} {w : World} {base : Nat} {spare : Nat → Bool} {held : Bool}
theorem four {α:Type} {l:List α} (h:l.length=4):∃ a0 a1 a2 a3,l= [a0,a1,a2,a3]:=by
 match l,h with
 |[a0,a1,a2,a3],_=>exact ⟨a0,a1,a2,a3,rfl⟩
end Go.Proofs.YtlailakofhenkabGreatDoor
set_option maxRecDepth 100000
namespace Go.Proofs.YtlailakofhenkabGreatDoor
open Go Go.RowKit Go.ChangeShapes Go.WideShapes Go.ChangeAt Go.Joins Ev
open Go.WideMaps Go.WideElems
variable {H : Type} {enc : TypeId × Value → H} {w : World} {base : Nat} {spare : Nat → Bool} {held : Bool}
theorem cellsA6:Tryz.prog.cellsOf 68=6:=by kernel_rfl
theorem cellsRu:Tryz.prog.cellsOf 54=4:=by kernel_rfl
def ask6D {H:Type} (x:Ask6):DataW H:=.agg [.lit (.int .i64 x.w),.lit (.int .i64 x.n),.lit (.int .i64 x.t),.lit (.string x.c.data.toList),.lit (.string x.s.data.toList),.lit (.string x.o.data.toList)]
theorem six {α:Type} {l:List α} (h:l.length=6):∃ c0 c1 c2 c3 c4 c5,l= [c0,c1,c2,c3,c4,c5]:=by
 match l,h with
 |[c0,c1,c2,c3,c4,c5],_=>exact ⟨c0,c1,c2,c3,c4,c5,rfl⟩
theorem ask6_openT {fuel:Nat} {cs:List Value} {x:DataW H × List MemPlace} (h:DataW.trod enc Tryz.prog w base spare held fuel 68 cs=some x):∃ d:Ask6,cs=ask6 d∧x=(ask6D d,[])∧wfI d.n:=by
 obtain ⟨xs,n,_,rfl,hl,hlen,hf⟩:=DataW.trod_struct Tryz.underlying68 h;rw [cellsA6] at hl;obtain ⟨c0,c1,c2,c3,c4,c5,rfl⟩:=six hl;obtain ⟨y0,y1,y2,y3,y4,y5,rfl⟩:=six hlen;have g0:DataW.trod enc Tryz.prog w base spare held n 3 [c0]=some y0:=by have:=hf 0 _ rfl; simpa [cellsInt] using this
 have g1:DataW.trod enc Tryz.prog w base spare held n 3 [c1]=some y1:=by have:=hf 1 _ rfl; simpa [cellsInt] using this
 have g2:DataW.trod enc Tryz.prog w base spare held n 3 [c2]=some y2:=by have:=hf 2 _ rfl; simpa [cellsInt] using this
 have g3:DataW.trod enc Tryz.prog w base spare held n 9 [c3]=some y3:=by have:=hf 3 _ rfl; simpa [cellsStr] using this
 have g4:DataW.trod enc Tryz.prog w base spare held n 9 [c4]=some y4:=by have:=hf 4 _ rfl; simpa [cellsStr] using this
 have g5:DataW.trod enc Tryz.prog w base spare held n 9 [c5]=some y5:=by have:=hf 5 _ rfl; simpa [cellsStr] using this
 obtain ⟨v0,e0,rfl,q0⟩:=DataW.trod_int Tryz.underlying3 g0;obtain ⟨v1,e1,rfl,q1⟩:=DataW.trod_int Tryz.underlying3 g1;obtain ⟨v2,e2,rfl,q2⟩:=DataW.trod_int Tryz.underlying3 g2;obtain ⟨v3,e3,rfl,q3⟩:=DataW.trod_string Tryz.underlying9 g3;obtain ⟨v4,e4,rfl,q4⟩:=DataW.trod_string Tryz.underlying9 g4;obtain ⟨v5,e5,rfl,q5⟩:=DataW.trod_string Tryz.underlying9 g5;simp only [List.cons.injEq,and_true] at e0 e1 e2 e3 e4 e5;subst e0; subst e1; subst e2; subst e3; subst e4; subst e5;exact ⟨⟨v0,v1,v2,v3,v4,v5⟩,rfl,rfl,q1⟩
theorem ask6_lens {d:Ask6} (h:∀ n∈(ask6D (H:=H) d).weights Tryz.prog 68,n≤reachBytes):d.c.size+d.s.size+d.o.size≤3*reachBytes:=by
 have hw:(ask6D (H:=H) d).weights Tryz.prog 68= [d.c.data.toList.length,d.s.data.toList.length,d.o.data.toList.length]:=by
  simp [ask6D,DataW.weights,DataW.weightsEach,Tryz.underlying68]
 rw [hw] at h;have h1:=h _ (by simp:d.c.data.toList.length∈_)
 have h2:=h _ (by simp:d.s.data.toList.length∈_)
 have h3:=h _ (by simp:d.o.data.toList.length∈_)
 rw [Array.length_toList] at h1 h2 h3;show d.c.data.size+d.s.data.size+d.o.data.size≤_
 omega
def ruV (k i l a:Int):Value:=.agg #[.int .i64 k,.int .i64 i,.int .i64 l,.int .i64 a]
def ruD {H:Type} (k i l a:Int):DataW H:=.agg [.lit (.int .i64 k),.lit (.int .i64 i),.lit (.int .i64 l),.lit (.int .i64 a)]
theorem ru_openT {fuel:Nat} {cs:List Value} {x:DataW H × List MemPlace} (h:DataW.trod enc Tryz.prog w base spare held fuel 54 cs=some x):∃ k i l a:Int,cs= [.int .i64 k,.int .i64 i,.int .i64 l,.int .i64 a]∧x=(ruD k i l a,[])∧wfI k∧wfI i∧wfI l∧wfI a:=by
 obtain ⟨xs,n,_,rfl,hl,hlen,hf⟩:=DataW.trod_struct Tryz.underlying54 h;rw [cellsRu] at hl;obtain ⟨c0,c1,c2,c3,rfl⟩:=four hl;obtain ⟨y0,y1,y2,y3,rfl⟩:=four hlen;have g0:DataW.trod enc Tryz.prog w base spare held n 3 [c0]=some y0:=by have:=hf 0 _ rfl; simpa [cellsInt] using this
 have g1:DataW.trod enc Tryz.prog w base spare held n 3 [c1]=some y1:=by have:=hf 1 _ rfl; simpa [cellsInt] using this
 have g2:DataW.trod enc Tryz.prog w base spare held n 3 [c2]=some y2:=by have:=hf 2 _ rfl; simpa [cellsInt] using this
 have g3:DataW.trod enc Tryz.prog w base spare held n 3 [c3]=some y3:=by have:=hf 3 _ rfl; simpa [cellsInt] using this
 obtain ⟨v0,e0,rfl,q0⟩:=DataW.trod_int Tryz.underlying3 g0;obtain ⟨v1,e1,rfl,q1⟩:=DataW.trod_int Tryz.underlying3 g1;obtain ⟨v2,e2,rfl,q2⟩:=DataW.trod_int Tryz.underlying3 g2;obtain ⟨v3,e3,rfl,q3⟩:=DataW.trod_int Tryz.underlying3 g3;simp only [List.cons.injEq,and_true] at e0 e1 e2 e3;subst e0; subst e1; subst e2; subst e3;exact ⟨v0,v1,v2,v3,rfl,rfl,q0,q1,q2,q3⟩
theorem ru_shutT (k i l a:Int) (hk:wfI k) (hi:wfI i) (hl:wfI l) (ha:wfI a) (n:Nat):DataW.trod enc Tryz.prog w base spare held (n+2) 54 [.int .i64 k,.int .i64 i,.int .i64 l,.int .i64 a]=some (ruD k i l a,[]):=by
 unfold wfI at *
 have:=trod_struct_mk (enc:=enc) (w:=w) (base:=base) (spare:=spare) (held:=held) (n:=n+1) (cs:= [.int .i64 k,.int .i64 i,.int .i64 l,.int .i64 a])
  (xs:= [(.lit (.int .i64 k),[]),(.lit (.int .i64 i),[]),(.lit (.int .i64 l),[]),(.lit (.int .i64 a),[])]) Tryz.underlying54 (by rw [cellsRu]; rfl)
  (by simp [cellsInt,DataW.trod,Tryz.underlying3,hk,hi,hl,ha])
 simpa [ruD] using this
theorem ru_open {r:Reach} {b0:Nat} {v:Value} {d:DataW H} {p:List MemPlace} (hv:Value.okWide Tryz.prog w r b0 54 v) (h:DataW.Trod enc Tryz.prog w base spare held 54 v d p):∃ k i l a:Int,v=ruV k i l a∧d=ruD k i l a∧p= []∧wfI k∧wfI i∧wfI l∧wfI a:=by
 obtain ⟨cs,rfl,hsz⟩:=okWide_struct Tryz.underlying54 hv;obtain ⟨fuel,hf⟩:=h;obtain ⟨k,i,l,a,h1,h2,h3⟩:=ru_openT hf;simp only [Prod.mk.injEq] at h2;refine ⟨k,i,l,a,?_,h2.1,h2.2,h3⟩;unfold ruV;rw [← h1];simp [Value.cells]
theorem ru_shut (k i l a:Int) (hk:wfI k) (hi:wfI i) (hl:wfI l) (ha:wfI a):DataW.Trod enc Tryz.prog w base spare held 54 (ruV k i l a) (ruD k i l a) []:=
 ⟨0+2,ru_shutT (enc:=enc) (w:=w) (base:=base) (spare:=spare) (held:=held) k i l a hk hi hl ha 0⟩
end Go.Proofs.YtlailakofhenkabGreatDoor
namespace Go.Proofs.YtlailakofhenkabGreatDoor
open Go
theorem leaving_of_handed {a:Assume} {C:Checked} {os:Os} {f:FuncId} {r:Reach} {Pre:World→Array Value→Prop} {Post:World→Array Value→Value→World→Prop} (h:ReturnsInHanded a C os f r Pre Post):ReturnsInLeavingWide a C os f r Pre Post:=fun enter=>by
 obtain ⟨h0,h1,h2,h3,h4⟩:=h enter;refine ⟨h0,h1,h2,h3,fun w tape i hf=>?_⟩;obtain ⟨n,v,w',r1,r2,r3,r4,⟨j,last,s1,s2,s3⟩,r5⟩:=h4 w tape i hf;exact ⟨n,v,w',r1,r2,r3,r4,⟨j,last,s1,s2,s3.2.1,onlyLeaving_of_quiet s3.1,s3.2.2⟩,r5⟩
theorem tied_goes (Lk:Looks) {p:Pinned} {s:OpenSpec} {c:OpenClaim} (kinds:List LaidKind) (tests:Bool) (har:Bool × String) (lk:Bool)
 (hc:c.holds p s) (hw:c.wfByText s=true) (htie:c.laidByTextAt Lk p kinds tests) (hst:c.start=.entering) (hnb:c.noBlocks=false∧c.again=false) (hm:p.checked.prog.mainIs=some (har.1,har.2.toList)) (hn:(!har.1 && har.2.isEmpty && !lk)=false)
 (hl:∀ f fn,p.checked.prog.funcNamed c.func=some f→p.checked.prog.funcs[f]?=some fn→lk=p.checked.prog.looks []∧∀ (j:Nat) t,fn.params[j]?=some t→p.checked.prog.wantsStandIn t=false) (hg:true=c.goesBy p.checked.prog) :
 Claim7.holds p (.plain s) { stood:={ row:=c,standIns:= [],harness:=har,looks:=lk },kinds:= [],alts:= [],goes:=true,laidByText:=true,laidKinds:=kinds,laidTests:=tests,laidLooks:=Lk }:=by
 have h6:∀ r:OpenClaim,Claim7.isSixth { stood:={ row:=r,standIns:= [],harness:=har,looks:=lk },kinds:= [] }=false:=fun r=>by simpa [Claim7.isSixth] using hn
 exact ⟨Claim7.tied_new_at Lk kinds tests (Claim7.new_of_sixth hc har lk hst hnb hm (h6 c) hl) hw,fun D hD=>(by cases hD),htie,(fun h=>by cases h),hg⟩
end Go.Proofs.YtlailakofhenkabGreatDoor
