import Derived.Test.YtlailakofhenkabGreatDoorB41
namespace Go.Proofs.YtlailakofhenkabGreatDoor
open Go Go.RowKit Tok Sc Ev
def formK (ks:List Int):List Bool:=ks.map (fun k=>decide (k=2))
theorem rows_form:∀ row∈ordRows,formOf row.1=some (formK row.2.2):=by decide
theorem rows_kinds:∀ row∈ordRows,∀ k∈row.2.2,k=0∨k=1∨k=2:=by decide
theorem form_none {c:Word} (h:c∉ordNames):formOf c=none:=by
 have hn:∀ x∈ordNames,c≠x:=fun x hx e=>h (e ▸ hx);unfold formOf;rw [if_neg (hn cCut (by decide)),if_neg (hn cFams (by decide)),if_neg (hn cGrant (by decide)),if_neg (hn cHelp (by decide)),if_neg (hn cKill (by decide)),if_neg (hn cLeast (by decide)),if_neg (hn cLog (by decide)),if_neg (hn cMint (by decide)),if_neg (hn cNew (by decide)),if_neg (hn cOpen (by decide)),if_neg (hn cRotate (by decide)),if_neg (hn cSave (by decide)),if_neg (hn cShow (by decide)),if_neg (hn cSweep (by decide)),if_neg (hn cTag (by decide)),if_neg (hn cTick (by decide)),if_neg (hn cToken (by decide)),if_neg (hn cWrites (by decide))]
theorem nums_len:∀ (ks:List Int) (ws:List Word),ws.length≠ks.length→numsW (formK ks) ws=none
 |[],[],h=>absurd rfl h
 |[],_::_,_=>rfl
 |k::ks,[],_=>by unfold formK; rw [List.map_cons]; cases decide (k=2) <;> rfl
 |k::ks,x::ws,h=>by
  have ih:=nums_len ks ws (fun e=>h (by simp [e]))
  unfold formK at ih ⊢;rw [List.map_cons]
  cases decide (k=2) with
  |false=>exact ih
  |true=>
   unfold numsW;rw [ih]
   cases numW x <;> rfl
theorem nums_bad:∀ (ks:List Int) (ws:List Word) (j:Nat) (k:Int) (x:Word),ks[j]?=some k→ws[j]?=some x→nkW k x=none→numsW (formK ks) ws=none
 |[],_,j,_,_,h,_,_=>by simp at h
 |_::_,[],j,_,_,_,h,_=>by simp at h
 |k0::ks,x0::ws,0,k,x,h1,h2,h3=>by
  simp only [List.getElem?_cons_zero,Option.some.injEq] at h1 h2;subst h1; subst h2
  have hk:k0=2:=by
   unfold nkW at h3;split at h3
   ·assumption
   ·cases h3
  subst hk;have hx:numW x0=none:=by simpa [nkW] using h3
  unfold formK;rw [List.map_cons];show numsW (true::_) _=none
  unfold numsW;rw [hx]
 |k0::ks,x0::ws,j+1,k,x,h1,h2,h3=>by
  have ih:=nums_bad ks ws j k x (by simpa using h1) (by simpa using h2) h3
  unfold formK at ih ⊢;rw [List.map_cons]
  cases decide (k0=2) with
  |false=>exact ih
  |true=>
   unfold numsW;rw [ih]
   cases numW x0 <;> rfl
theorem nsOf_cons (k:Int) (ks:List Int) (x:Word) (ws:List Word):nsOf (k::ks) (x::ws) (ws.length+1)=(nkW k x).getD [] ++ nsOf ks ws ws.length:=by
 unfold nsOf;simp
theorem nums_ok:∀ (ks:List Int) (ws:List Word),ws.length=ks.length→(∀ (j:Nat) (k:Int) (x:Word),ks[j]?=some k→ws[j]?=some x→nkW k x≠none)→numsW (formK ks) ws=some (nsOf ks ws ws.length)
 |[],[],_,_=>rfl
 |[],_::_,h,_=>by simp at h
 |_::_,[],h,_=>by simp at h
 |k::ks,x::ws,h,hok=>by
  have ih:=nums_ok ks ws (by simpa using h) (fun j k' x' h1 h2=>hok (j+1) k' x' (by simpa using h1) (by simpa using h2))
  have h0:=hok 0 k x rfl rfl;rw [List.length_cons,nsOf_cons];unfold formK at ih ⊢;rw [List.map_cons];by_cases hk:k=2
  ·subst hk
   show numsW (true::_) _=_
   cases hx:numW x with
   |none=>exact absurd (by simp [nkW,hx]) h0
   |some n=>
    unfold numsW;rw [hx,ih];simp [nkW,hx]
  ·have hd:decide (k=2)=false:=by simp [hk]
   rw [hd];have e:(nkW k x).getD []= []:=by simp [nkW,hk]
   rw [e];exact ih
theorem rows_at {B:Nat} {w:World} {v:Value} {cs:List Value} (h:Rows1 B w v cs) (h0:0<cs.length):∃ g c,v=.slice (some ⟨g,0,none⟩) cs.length c∧B≤g∧∀ i u,cs[i]?=some u→w.cell? ⟨g,i,none⟩=some u:=by
 rcases h with ⟨-,h2⟩ | ⟨g,c,h1,hr⟩
 ·subst h2; simp at h0
 ·exact ⟨g,c,h1,hr.new,hr.holds⟩
theorem nkW_0 (x:Word):nkW 0 x=some []:=rfl
theorem num2 {x:Word} (h:nkW 2 x≠none):∃ n,numW x=some n∧nkW 2 x=some [n]∧n≤9223372036854775807:=by
 cases hx:numW x with
 |none=>exact absurd (by simp [nkW,hx]) h
 |some n=>exact ⟨n,rfl,by simp [nkW,hx],(Lib.atoiAll_bounds (numW_some hx).1).2⟩
theorem textW_le (x:Word):(textW x).length≤x.length:=by
 unfold textW;split
 ·simp
 ·omega
section
variable {N : Nat} {w : World} {gk gm gd gs B : Nat} {d : Dk} {vt vn : Value} {ws : List Word}
theorem ord_run (row:Word × Nat × List Int) (hr:row∈ordRows) (h:DkS N w gk gm gd gs d) (hlen:ws.length=row.2.2.length) (ht:Rows1 B w vt ((tsOf row.2.2 ws ws.length).map Value.string)) (hn:Rows1 B w vn ((nsOf row.2.2 ws ws.length).map (Value.int .i64)))
 (hok:∀ (j:Nat) (k:Int) (x:Word),row.2.2[j]?=some k→ws[j]?=some x→nkW k x≠none) (hB:gd<B∧gs<B) (hx:∀ x∈ws,x.length≤5000) (hN:N<97000) :
 Calls Tryz.prog row.2.1 #[.pointer (some ⟨gk,0,none⟩),.agg #[vt,vn]] w (OrdPost N w gk gm gd gs d row.1 ws (nsOf row.2.2 ws ws.length)):=by
 obtain ⟨bt,nt,ct,rfl⟩:∃ b n c,vt=.slice b n c:=by obtain ⟨b,c,e⟩:=ht.slice; exact ⟨b,_,c,e⟩
 obtain ⟨bn,nn,cn,rfl⟩:∃ b n c,vn=.slice b n c:=by obtain ⟨b,c,e⟩:=hn.slice; exact ⟨b,_,c,e⟩
 unfold ordRows at hr;simp only [List.mem_cons,List.not_mem_nil,or_false] at hr;rcases hr with rfl | rfl | rfl | rfl | rfl | rfl | rfl | rfl | rfl | rfl | rfl | rfl | rfl | rfl | rfl | rfl | rfl | rfl
 ·
  obtain ⟨x,y,z,u,rfl⟩:∃ x y z u,ws= [x,y,z,u]:=by
   match ws,hlen with
   |[x,y,z,u],_=>exact ⟨x,y,z,u,rfl⟩
  obtain ⟨n0,-,e0,b0⟩:=num2 (hok 0 2 x rfl rfl);obtain ⟨n1,-,e1,b1⟩:=num2 (hok 1 2 y rfl rfl);obtain ⟨n2,-,e2,b2⟩:=num2 (hok 2 2 z rfl rfl);obtain ⟨n3,-,e3,b3⟩:=num2 (hok 3 2 u rfl rfl);have hns:nsOf [2,2,2,2] [x,y,z,u] [x,y,z,u].length= [n0,n1,n2,n3]:=by simp [nsOf,e0,e1,e2,e3]
  simp only at hn;rw [hns] at hn;obtain ⟨gn,cn',e,hgn,hcn⟩:=rows_at hn (by simp)
  cases e
  have hne:gn≠gd∧gn≠gs:=by omega
  simp only;rw [hns];exact ordNew h ⟨hcn 0 _ rfl,hcn 1 _ rfl,hcn 2 _ rfl,hcn 3 _ rfl⟩ (by simp)
 ·
  obtain rfl:ws= []:=by
   match ws,hlen with
   |[],_=>rfl
  exact ordOpen h hN
 ·
  obtain ⟨x,y,z,rfl⟩:∃ x y z,ws= [x,y,z]:=by
   match ws,hlen with
   |[x,y,z],_=>exact ⟨x,y,z,rfl⟩
  have hts:tsOf [0,0,1] [x,y,z] [x,y,z].length= [Ev.bs x,Ev.bs y,Ev.bs (textW z)]:=rfl;simp only at ht;rw [hts] at ht;obtain ⟨gt,ct',e,hgt,hct⟩:=rows_at ht (by simp)
  cases e
  have hte:gt≠gd∧gt≠gs:=by omega
  exact ordGrant h (hct 0 _ rfl) (hct 1 _ rfl) (hct 2 _ rfl) hte (by simp) (hx x (by simp)) (hx y (by simp)) (Nat.le_trans (textW_le z) (hx z (by simp))) hN
 ·
  obtain ⟨x,y,z,rfl⟩:∃ x y z,ws= [x,y,z]:=by
   match ws,hlen with
   |[x,y,z],_=>exact ⟨x,y,z,rfl⟩
  have hts:tsOf [0,1,1] [x,y,z] [x,y,z].length= [Ev.bs x,Ev.bs (textW y),Ev.bs (textW z)]:=rfl;simp only at ht;rw [hts] at ht;obtain ⟨gt,ct',e,hgt,hct⟩:=rows_at ht (by simp)
  cases e
  have hte:gt≠gd∧gt≠gs:=by omega
  exact ordRotate h (hct 0 _ rfl) (hct 1 _ rfl) (hct 2 _ rfl) hte (by simp) (hx x (by simp)) (Nat.le_trans (textW_le y) (hx y (by simp))) (Nat.le_trans (textW_le z) (hx z (by simp))) hN
 ·
  obtain ⟨x,rfl⟩:∃ x,ws= [x]:=by
   match ws,hlen with
   |[x],_=>exact ⟨x,rfl⟩
  have hts:tsOf [0] [x] [x].length= [Ev.bs x]:=rfl;simp only at ht;rw [hts] at ht;obtain ⟨gt,ct',e,hgt,hct⟩:=rows_at ht (by simp)
  cases e
  have hte:gt≠gd∧gt≠gs:=by omega
  exact ordMint h (hct 0 _ rfl) hte (by simp) (hx x (by simp))
 ·
  obtain ⟨x,rfl⟩:∃ x,ws= [x]:=by
   match ws,hlen with
   |[x],_=>exact ⟨x,rfl⟩
  have hts:tsOf [0] [x] [x].length= [Ev.bs x]:=rfl;simp only at ht;rw [hts] at ht;obtain ⟨gt,ct',e,hgt,hct⟩:=rows_at ht (by simp)
  cases e
  have hte:gt≠gd∧gt≠gs:=by omega
  exact ordShow h (hct 0 _ rfl) hte (by simp) (hx x (by simp))
 ·
  obtain ⟨x,rfl⟩:∃ x,ws= [x]:=by
   match ws,hlen with
   |[x],_=>exact ⟨x,rfl⟩
  obtain ⟨n0,-,e0,b0⟩:=num2 (hok 0 2 x rfl rfl);have hns:nsOf [2] [x] [x].length= [n0]:=by simp [nsOf,e0]
  simp only at hn;rw [hns] at hn;obtain ⟨gn,cn',e,hgn,hcn⟩:=rows_at hn (by simp)
  cases e
  have hne:gn≠gd∧gn≠gs:=by omega
  simp only;rw [hns];exact ordKill h (hcn 0 _ rfl) hne (by simp) hN
 ·
  obtain rfl:ws= []:=by
   match ws,hlen with
   |[],_=>rfl
  exact ordSave h hN
 ·
  obtain ⟨x,rfl⟩:∃ x,ws= [x]:=by
   match ws,hlen with
   |[x],_=>exact ⟨x,rfl⟩
  obtain ⟨n0,-,e0,b0⟩:=num2 (hok 0 2 x rfl rfl);have hns:nsOf [2] [x] [x].length= [n0]:=by simp [nsOf,e0]
  simp only at hn;rw [hns] at hn;obtain ⟨gn,cn',e,hgn,hcn⟩:=rows_at hn (by simp)
  cases e
  have hne:gn≠gd∧gn≠gs:=by omega
  simp only;rw [hns];exact ordCut h (hcn 0 _ rfl) b0 (by simp)
 ·
  obtain ⟨x,rfl⟩:∃ x,ws= [x]:=by
   match ws,hlen with
   |[x],_=>exact ⟨x,rfl⟩
  obtain ⟨n0,-,e0,b0⟩:=num2 (hok 0 2 x rfl rfl);have hns:nsOf [2] [x] [x].length= [n0]:=by simp [nsOf,e0]
  simp only at hn;rw [hns] at hn;obtain ⟨gn,cn',e,hgn,hcn⟩:=rows_at hn (by simp)
  cases e
  have hne:gn≠gd∧gn≠gs:=by omega
  simp only;rw [hns];exact ordTick h (hcn 0 _ rfl) hne (by simp) hN
 ·
  obtain rfl:ws= []:=by
   match ws,hlen with
   |[],_=>rfl
  exact ordSweep h hN
 ·
  obtain rfl:ws= []:=by
   match ws,hlen with
   |[],_=>rfl
  exact ordWrites h hN
 ·
  obtain rfl:ws= []:=by
   match ws,hlen with
   |[],_=>rfl
  exact ordLog h
 ·
  obtain rfl:ws= []:=by
   match ws,hlen with
   |[],_=>rfl
  exact ordFams h
 ·
  obtain ⟨x,rfl⟩:∃ x,ws= [x]:=by
   match ws,hlen with
   |[x],_=>exact ⟨x,rfl⟩
  have hts:tsOf [1] [x] [x].length= [Ev.bs (textW x)]:=rfl;simp only at ht;rw [hts] at ht;obtain ⟨gt,ct',e,hgt,hct⟩:=rows_at ht (by simp)
  cases e
  have hte:gt≠gd∧gt≠gs:=by omega
  exact ordLeast h (hct 0 _ rfl) (by simp) (Nat.le_trans (textW_le x) (hx x (by simp)))
 ·
  obtain ⟨x,y,rfl⟩:∃ x y,ws= [x,y]:=by
   match ws,hlen with
   |[x,y],_=>exact ⟨x,y,rfl⟩
  obtain ⟨n0,-,e0,b0⟩:=num2 (hok 0 2 x rfl rfl);have hns:nsOf [2,0] [x,y] [x,y].length= [n0]:=by simp [nsOf,nkW_0,e0]
  simp only at hn;rw [hns] at hn;obtain ⟨gn,cn',e,hgn,hcn⟩:=rows_at hn (by simp)
  cases e
  have hne:gn≠gd∧gn≠gs:=by omega
  have hts:tsOf [2,0] [x,y] [x,y].length= [Ev.bs y]:=rfl;simp only at ht;rw [hts] at ht;obtain ⟨gt,ct',e,hgt,hct⟩:=rows_at ht (by simp)
  cases e
  have hte:gt≠gd∧gt≠gs:=by omega
  simp only;rw [hns];exact ordTag h (hct 0 _ rfl) (hcn 0 _ rfl) (by simp) (by simp) (hx y (by simp))
 ·
  obtain ⟨x,y,z,u,rfl⟩:∃ x y z u,ws= [x,y,z,u]:=by
   match ws,hlen with
   |[x,y,z,u],_=>exact ⟨x,y,z,u,rfl⟩
  obtain ⟨n0,-,e0,b0⟩:=num2 (hok 1 2 y rfl rfl);obtain ⟨n1,-,e1,b1⟩:=num2 (hok 2 2 z rfl rfl);obtain ⟨n2,-,e2,b2⟩:=num2 (hok 3 2 u rfl rfl);have hns:nsOf [0,2,2,2] [x,y,z,u] [x,y,z,u].length= [n0,n1,n2]:=by simp [nsOf,nkW_0,e0,e1,e2]
  simp only at hn;rw [hns] at hn;obtain ⟨gn,cn',e,hgn,hcn⟩:=rows_at hn (by simp)
  cases e
  have hne:gn≠gd∧gn≠gs:=by omega
  have hts:tsOf [0,2,2,2] [x,y,z,u] [x,y,z,u].length= [Ev.bs x]:=rfl;simp only at ht;rw [hts] at ht;obtain ⟨gt,ct',e,hgt,hct⟩:=rows_at ht (by simp)
  cases e
  have hte:gt≠gd∧gt≠gs:=by omega
  simp only;rw [hns];exact ordToken h (hct 0 _ rfl) (hcn 0 _ rfl) (hcn 1 _ rfl) (hcn 2 _ rfl) (by simp) (by simp)
 ·
  obtain rfl:ws= []:=by
   match ws,hlen with
   |[],_=>rfl
  exact ordHelp h
end
end Go.Proofs.YtlailakofhenkabGreatDoor
namespace Go.Proofs.YtlailakofhenkabGreatDoor
open Go Go.RowKit Tok Sc Ev
theorem wrong_is (n:Nat) (w:World) (hn:n≤100000) (hL:LibsR w):Calls Tryz.prog 96 #[.int .i64 (n:Int)] w fun e w'=>e=.returned (.string ⟨(errL n).toArray⟩)∧Below w.heap.size w w':=by
 obtain ⟨k,hk,k0,k1⟩:∃ k:Int,k=(n:Int)∧0≤k∧k≤100000:=⟨n,rfl,by omega,by omega⟩
 have hE:errL n= [101,114,114,111,114,32] ++ Lib.itoa k:=by rw [hk]; rfl
 rw [hE,← hk];have HI:Hid _:=itoaR_is k w (by omega) (by omega) hL
 have hl:=digits13 (n:=k) ⟨k0,by omega⟩
 have hni:¬ (9223372036854775807<6+(Lib.itoa k).length):=by omega
 have HXX:Hid ((⟨#[101,114,114,111,114,32]⟩:ByteArray) ++ (⟨(Lib.itoa k).toArray⟩:ByteArray)=⟨([101,114,114,111,114,32] ++ Lib.itoa k).toArray⟩):=by
  show _=_
  exact bytes_eq (by simp)
 clear hL hn hk k0 k1 hE;go_enter Tryz.func96,Tryz.ntmps96
 go_wp2_with fail
 go_at_call 57
 refine Calls.mono HI.out ?_;rintro e1 w1 ⟨rfl,hb1⟩;have HB:Hid _:=hb1;clear hb1;go_wp2_with fail
 go_ret;exact ⟨congrArg (fun x=>Ending.returned (.string x)) HXX.out,HB.out⟩
theorem ans1_idle (g:Nat) (w:World):CallsD Tryz.prog 152 #[.pointer (some ⟨g,0,none⟩)] .returning w fun e u' w'=>e=.returned (.tuple #[])∧u'=.returning∧w'=w:=by
 refine callsD_of_wpS Tryz.func152 rfl fun c₀ cs hu=>?_;apply wpS_seq
 apply wpS_region
 simp [wpOpsS,go_sem,recoverD,hu,Tryz.ntmps152,Exit.thenS,Array.replicate]
 refine wpS_of_wp ?_;go_wp2_with fail
 cases c₀
 simp_all [bodyPostS,results,Tryz.results152]
theorem ans1_thrown (g n:Nat) (x:Value) (older:List PanicEntry) (w:World) (hc:w.cell? ⟨g,0,none⟩=some x) (hz:w.frozen? ⟨g,0,none⟩=false) (hn:n≤100000) (hL:LibsR w) :
 CallsD Tryz.prog 152 #[.pointer (some ⟨g,0,none⟩)] (.panicking ({ v:=.iface 47 (.int .i64 (n:Int)),recovered:=false }::older)) w fun e u' w'=>e=.returned (.tuple #[])∧u'=.panicking ({ v:=.iface 47 (.int .i64 (n:Int)),recovered:=true }::older)∧∃ w1,Below w.heap.size w w1∧w'=w1.setCell ⟨g,0,none⟩ (.string ⟨(errL n).toArray⟩):=by
 have hlt:=World.block_lt_of_cell? _ _ hc;have HW:Hid _:=wrong_is n w hn hL;clear hn hL;refine callsD_of_wpS Tryz.func152 rfl fun c₀ cs hu=>?_;apply wpS_seq
 apply wpS_region
 simp [wpOpsS,go_sem,recoverD,hu,Tryz.ntmps152,Exit.thenS,Array.replicate]
 refine wpS_of_wp ?_;go_wp2_with fail
 go_at_call 153
 refine (errnoOf_is n _).mono ?_;rintro e1 w1 ⟨rfl,rfl⟩;go_wp2_with fail
 go_at_call 96
 refine Calls.mono HW.out ?_;rintro e2 w2 ⟨rfl,hb2⟩;have hc2:=(hb2.cell (p:=⟨g,0,none⟩) hlt).trans hc;have hz2:=(hb2.frozen (p:=⟨g,0,none⟩) hlt).trans hz;go_wp2_with fail
 exact ⟨rfl,_,rfl,.tuple #[],by simp [results,Tryz.results152],rfl,rfl,_,hb2,rfl⟩
end Go.Proofs.YtlailakofhenkabGreatDoor
namespace Go.Proofs.YtlailakofhenkabGreatDoor
open Go Go.RowKit
theorem leaves_same {P:Program} {fn:Func} {R:Ending→World→Prop} {t t':Array Value} (h:∀ w,(results fn t).run P w=(results fn t').run P w):∀ (ds:List Deferred) (u:FrameMode) (w:World),Leaves P fn t R ds u w→Leaves P fn t' R ds u w
 |[],.returning,w,q=>by
  obtain ⟨v,q1,q2⟩:=q;exact ⟨v,(h w) ▸ q1,q2⟩
 |[],.panicking _,_,q=>q
 |[],.run,_,q=>q
 |d::ds,u,w,q=>by
  obtain ⟨q0,fv,cap,f,args,q1,q2,q3⟩:=q;refine ⟨q0,fv,cap,f,args,q1,q2,q3.mono ?_⟩;intro e u' w' hq
  cases e with
  |returned v=>exact leaves_same h ds _ w' hq
  |panicked ch=>exact leaves_same h ds _ w' hq
  |outgrown=>exact hq
theorem res_put (a:Act) (dst:Option Tmp) (v:Value) (hd:(dst == some 4)=false) (w:World):(results Tryz.f100 (a.put dst v).tmps).run Tryz.prog w=(results Tryz.f100 a.tmps).run Tryz.prog w:=by
 cases dst with
 |none=>rfl
 |some k=>
  have hk:k≠4:=by simpa using hd
  have e:(a.tmps.setIfInBounds k v)[4]?=a.tmps[4]?:=Array.getElem?_setIfInBounds_ne hk;simp [results,Tryz.results100,Act.put,e]
theorem ansP {K:Act→World→Prop} {R:Ending→World→Prop} {v:Value} (c:List PanicEntry) (a:Act) (dst:Option Tmp) (w:World) (hd:(dst == some 4)=false) (h:Exit.then K (bodyPostD Tryz.prog Tryz.f100 R) (.panic c) (a.put dst v) w):Exit.then K (bodyPostD Tryz.prog Tryz.f100 R) (.panic c) a w:=by
 have h1:Leaves Tryz.prog Tryz.f100 (a.put dst v).tmps R (a.put dst v).defers (.panicking c) w:=h;have h2:(a.put dst v).defers=a.defers:=by cases dst <;> rfl
 rw [h2] at h1;exact leaves_same (res_put a dst v hd) _ _ _ h1
end Go.Proofs.YtlailakofhenkabGreatDoor
