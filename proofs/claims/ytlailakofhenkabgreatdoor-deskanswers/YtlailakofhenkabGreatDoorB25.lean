import Derived.Test.YtlailakofhenkabGreatDoorB24
import Derived.Test.YtlailakofhenkabGreatDoorB23
set_option maxRecDepth 100000
set_option maxHeartbeats 4000000
namespace Go.Proofs.YtlailakofhenkabGreatDoor
open Go Go.RowKit Tok Tryz
def aM(n:Int):Ending:=.panicked [{ v:=.iface 47 (.int .i64 n),recovered:=false }]
def fD(s:ByteArray):ByteArray:=if s.data.toList= [] then ⟨#[95]⟩ else s
def jM(s:ByteArray):ByteArray:=if s.data.toList= [95] then ⟨#[]⟩ else s
theorem ir(s:ByteArray)(w:World):Calls prog 301 #[.string s] w fun e w'=>e=.returned (.string (fD s))∧w'=w:=by
 by_cases h:s.data.toList= []
 ·have c:s.toList.isEmpty=true:=by rw[ByteArray.toList_eq,h]; rfl
  have b:J (fD s=⟨#[95]⟩):=if_pos h;clear h;go_enter func301,ntmps301
  go_wp2_with fail
  go_ret;exact⟨by rw[b.o]; rfl,rfl⟩
 ·have c:s.toList.isEmpty=false:=by rw[ByteArray.toList_eq,List.isEmpty_eq_false_iff]; exact h
  have b:J (fD s=s):=if_neg h;clear h;go_enter func301,ntmps301
  go_wp2_with fail
  go_ret;exact⟨by rw[b.o]; rfl,rfl⟩
theorem sh(s:ByteArray)(w:World):Calls prog 248 #[.string s] w fun e w'=>e=.returned (.string (jM s))∧w'=w:=by
 by_cases h:s.data.toList= [95]
 ·obtain rfl:s=⟨#[95]⟩:=by
   obtain⟨⟨l⟩⟩:=s;simp at h
   subst h; rfl
  have b:J (jM ⟨#[95]⟩=⟨#[]⟩):=rfl;clear h;go_enter func248,ntmps248
  go_wp2_with fail
  go_ret;exact⟨by rw[b.o]; rfl,rfl⟩
 ·have he:(s.toList == [95])=false:=by rw[ByteArray.toList_eq]; simpa using h
  have b:J (jM s=s):=if_neg h;clear h;go_enter func248,ntmps248
  go_wp2_with fail
  go_ret;exact⟨by rw[b.o]; rfl,rfl⟩
def ep(s:ByteArray):Int:=if s.data.toList= [114] then 1 else if s.data.toList= [97] then 2 else 0
theorem uu(c:Int)(w:World):Calls prog 155 #[.int .i32 c] w fun e w'=>e=.returned (.bool (decide (c=32)))∧w'=w:=by
 by_cases h:c=32
 ·subst h
  go_enter func155,ntmps155
  go_wp2_with fail;go_ret;exact⟨rfl,rfl⟩
 ·have he:(c == 32)=false:=by simp[h]
  have b:J (decide (c=32)=false):=decide_eq_false h;clear h;go_enter func155,ntmps155
  go_wp2_with fail;go_ret;exact⟨by rw[b.o]; rfl,rfl⟩
theorem uv(n:Int)(w:World):Calls prog 153 #[.iface 47 (.i_ n)] w fun e w'=>e=.returned (.int .i64 n)∧w'=w:=by
 have ta:∀(v:Value) (w:World),(Instr.typeAssert (.iface 47 v) 20 47 true).run prog w=.ok (.tuple #[v,.bool true]) w:=fun v w=>by kernel_rfl
 go_enter func153,ntmps153
 go_wp2_with fail;go_ret;exact⟨rfl,rfl⟩
theorem kR(s:ByteArray)(w:World):Calls prog 302 #[.string s] w fun e w'=>(e=if ep s=0 then aM 3 else .returned (.int .i64 (ep s)))∧w'=w:=by
 by_cases h:s.data.toList= [114]
 ·obtain rfl:s=⟨#[114]⟩:=by
   obtain⟨⟨l⟩⟩:=s;simp at h
   subst h; rfl
  clear h;go_enter func302,ntmps302
  go_wp2_with fail
  go_ret;exact⟨rfl,rfl⟩
 ·by_cases h2:s.data.toList= [97]
  ·obtain rfl:s=⟨#[97]⟩:=by
    obtain⟨⟨l⟩⟩:=s;simp at h2
    subst h2; rfl
   clear h h2;go_enter func302,ntmps302
   go_wp2_with fail
   go_ret;exact⟨rfl,rfl⟩
  ·have he:(s.toList == [114])=false:=by rw[ByteArray.toList_eq]; simpa using h
   have b:(s.toList == [97])=false:=by rw[ByteArray.toList_eq]; simpa using h2
   have HW:J (ep s=0):=(if_neg h).trans (if_neg h2);clear h h2;go_enter func302,ntmps302
   go_wp2_with fail
   exact⟨rfl,rfl,rfl⟩
theorem ex(w:World):Calls prog 294 #[.nilIface] w fun e w'=>e=.returned (.tuple #[])∧w'=w:=by
 go_enter func294,ntmps294
 go_wp2_with fail;go_end0
 exact⟨rfl,rfl⟩
theorem fh(n:Nat)(w:World)(hE:ErrVar w):Calls prog 294 #[aB (n+1)] w fun e w'=>e=aM (n+1:Nat)∧Below w.heap.size w w':=by
 rw[aV];have b:J _:=rk (n+1:Nat) w hE;clear hE;go_enter func294,ntmps294
 go_wp2_with fail;refine Calls.mono b.o ?_;rintro e1 w1 ⟨rfl,hb1⟩;have c:J _:=hb1;clear hb1;go_wp2_with fail;exact⟨rfl,rfl,c.o⟩
theorem iu(x:ByteArray)(w:World):Calls prog 295 #[.string x,.nilIface] w fun e w'=>e=.returned (.string x)∧w'=w:=by
 go_enter func295,ntmps295
 go_wp2_with fail;refine (ex _).mono ?_;rintro e1 w1 ⟨rfl,rfl⟩;go_wp2_with fail;go_ret;exact⟨rfl,rfl⟩
theorem ix(x:ByteArray)(n:Nat)(w:World)(hE:ErrVar w):Calls prog 295 #[.string x,aB (n+1)] w fun e w'=>e=aM (n+1:Nat)∧Below w.heap.size w w':=by
 have b:J _:=fh n w hE;clear hE;go_enter func295,ntmps295
 go_wp2_with fail;refine Calls.mono b.o ?_;rintro e1 w1 ⟨rfl,hb1⟩;unfold aM;have c:J _:=hb1;clear hb1;go_wp2_with fail;exact⟨rfl,rfl,c.o⟩
theorem Al(x:Int)(w:World):Calls prog 298 #[.i_ x,.nilIface] w fun e w'=>e=.returned (.int .i64 x)∧w'=w:=by
 go_enter func298,ntmps298
 go_wp2_with fail;refine (ex _).mono ?_;rintro e1 w1 ⟨rfl,rfl⟩;go_wp2_with fail;go_ret;exact⟨rfl,rfl⟩
theorem Am(x:Int)(n:Nat)(w:World)(hE:ErrVar w):Calls prog 298 #[.i_ x,aB (n+1)] w fun e w'=>e=aM (n+1:Nat)∧Below w.heap.size w w':=by
 have b:J _:=fh n w hE;clear hE;go_enter func298,ntmps298
 go_wp2_with fail;refine Calls.mono b.o ?_;rintro e1 w1 ⟨rfl,hb1⟩;unfold aM;have c:J _:=hb1;clear hb1;go_wp2_with fail;exact⟨rfl,rfl,c.o⟩
theorem si(x:Option Addr)(w:World):Calls prog 225 #[.pointer x,.nilIface] w fun e w'=>e=.returned (.pointer x)∧w'=w:=by
 go_enter func225,ntmps225
 go_wp2_with fail;refine (ex _).mono ?_;rintro e1 w1 ⟨rfl,rfl⟩;go_wp2_with fail;go_ret;exact⟨rfl,rfl⟩
theorem An(x:Option Addr)(w:World):Calls prog 226 #[.pointer x,.nilIface] w fun e w'=>e=.returned (.pointer x)∧w'=w:=by
 go_enter func226,ntmps226
 go_wp2_with fail;refine (ex _).mono ?_;rintro e1 w1 ⟨rfl,rfl⟩;go_wp2_with fail;go_ret;exact⟨rfl,rfl⟩
theorem Ao(x:Option Addr)(n:Nat)(w:World)(hE:ErrVar w):Calls prog 226 #[.pointer x,aB (n+1)] w fun e w'=>e=aM (n+1:Nat)∧Below w.heap.size w w':=by
 have b:J _:=fh n w hE;clear hE;go_enter func226,ntmps226
 go_wp2_with fail;refine Calls.mono b.o ?_;rintro e1 w1 ⟨rfl,hb1⟩;unfold aM;have c:J _:=hb1;clear hb1;go_wp2_with fail;exact⟨rfl,rfl,c.o⟩
end Go.Proofs.YtlailakofhenkabGreatDoor
namespace Go.Proofs.YtlailakofhenkabGreatDoor.Ev
open Go.Lib Tok Sc
structure Dk where
 r:Rul
 p:Pub
def fU:Pub:=⟨⟨0,1,[]⟩,0,0,false,0,false⟩
def cM:Dk:=⟨⟨1,20,100,5⟩,fU⟩
def bN(s:List UInt8):List Word:=(parts 32 s).filter (fun x=>decide (x≠ []))
def numW(w:Word):Option Int:=match atoiAll w with
 |.ok v=>if itoa v=w then some v else none
 |_=>none
def aG(w:Word):Word:=if w= [95] then [] else w
def numsW:List Bool->List Word->Option (List Int)
 |[],[]=>some []
 |false::f,_::ws=>numsW f ws
 |true::f,w::ws=>match numW w with
  |some n=>(numsW f ws).map (n::·)
  |none=>none
 |_,_=>none
def famL(f:Fam):List UInt8:=join ([itoa f.id,f.client.data.toList,f.subject.data.toList,wordL f.scope.data.toList,itoa f.gen,itoa f.made,itoa f.used,wordL f.request.data.toList] ++ if f.dead=true then [[100,101,97,100]] else []) [32]
def fI(s:St):List UInt8:=join ((itoa s.clock ++ 32::itoa s.next)::s.fams.map famL) [44,32]
def dN(b:Bool):List UInt8:=if b=true then [116,114,117,101] else [102,97,108,115,101]
def dS:Word:= [99,117,116]
def dF:Word:= [102,97,109,105,108,105,101,115]
def bj:Word:= [103,114,97,110,116]
def fV:Word:= [104,101,108,112]
def cu:Word:= [107,105,108,108]
def cY:Word:= [108,101,97,115,116]
def fJ:Word:= [108,111,103]
def cA:Word:= [109,105,110,116]
def dg:Word:= [110,101,119]
def bM:Word:= [111,112,101,110]
def aR:Word:= [114,111,116,97,116,101]
def cC:Word:= [115,97,118,101]
def cI:Word:= [115,104,111,119]
def bY:Word:= [115,119,101,101,112]
def gT:Word:= [116,97,103]
def dd:Word:= [116,105,99,107]
def dh:Word:= [116,111,107,101,110]
def bC:Word:= [119,114,105,116,101,115]
def vW:List UInt8:=join [dS,dF,bj,fV,cu,cY,fJ,cA,dg,bM,aR,cC,cI,bY,gT,dd,dh,bC] [32]
def formOf(c:Word):Option (List Bool):=
 if c=dS then some [true] else if c=dF then some [] else if c=bj then some [false,false,false] else if c=fV then some [] else if c=cu then some [true]
 else if c=cY then some [false] else if c=fJ then some [] else if c=cA then some [false] else if c=dg then some [true,true,true,true] else if c=bM then some []
 else if c=aR then some [false,false,false] else if c=cC then some [] else if c=cI then some [false] else if c=bY then some [] else if c=gT then some [true,false]
 else if c=dd then some [true] else if c=dh then some [false,true,true,true] else if c=bC then some [] else none
def mR(key:Int)(l:List UInt8):List UInt8:=Hex.cS 16 (Sip.sip (IntKind.u64.wrap key) (Sip.rl (IntKind.u64.wrap key) 32) l).toNat
def bs(l:List UInt8):ByteArray:=⟨l.toArray⟩
def ll(r:Rul)(t:T):ByteArray:=bs (body t ++ 46::mR r.key (body t))
def dB(r:Rul):Bool:=okB r.key && (okB r.idle && (okB r.life && okB r.access))
def CN(d:Dk):Dk:=⟨d.r,oq d.p⟩
def sj(p:Pub × ByteArray × Nat)(r:Rul):Dk × List UInt8 × Nat:=(⟨r,p.1⟩,p.2.1.data.toList,p.2.2)
def cw(w:Word):Int:=if w= [114] then 1 else if w= [97] then 2 else 0
def aW(d:Dk)(c:Word)(ws:List Word)(ns:List Int)(o:Dk × List UInt8 × Nat):Prop:=
 if c=dg then ∃k i l a,ns= [k,i,l,a]∧o=(if dB ⟨k,i,l,a⟩=true then (⟨⟨k,i,l,a⟩,fU⟩,dg,0) else (d,[],2))
 else if c=bM then o=(CN d,bM,0)
 else if c=bj then ∃x y z l n,ws= [x,y,z]∧Sc.Out (aG z) l n∧o=sj (cX (ll d.r) d.p (am x && am y) (bs x) (bs y) (bs (ae l)) n) d.r
 else if c=aR then ∃x y z t n l m b,ws= [x,y,z]∧Tok.Out (mR d.r.key) x t n∧Sc.Out (aG z) l m∧(lookM d.r d.p.st 1 t n=0->m=0->fp (ae l) (famM d.p.st t).scope.data.toList b 0)∧((lookM d.r d.p.st 1 t n≠0∨m≠0)->b=false)∧o=sj (rotateM (ll d.r) d.r d.p (am (aG y)) (bs (aG y)) t n (bs (ae l)) m b) d.r
 else if c=cA then ∃x t n,ws= [x]∧Tok.Out (mR d.r.key) x t n∧o=(d,(mintM (ll d.r) d.r d.p t n).1.data.toList,(mintM (ll d.r) d.r d.p t n).2)
 else if c=cI then ∃x t n,ws= [x]∧Tok.Out (mR d.r.key) x t n∧o=(d,famL (showM d.r d.p t n).1,(showM d.r d.p t n).2)
 else if c=cu then ∃i,ns= [i]∧o=(⟨d.r,(killM d.p i).1⟩,cu,(killM d.p i).2)
 else if c=cC then o=(⟨d.r,(aH d.p).1⟩,cC,(aH d.p).2)
 else if c=dS then ∃i,ns= [i]∧o=(⟨d.r,pL d.p i⟩,dS,0)
 else if c=dd then ∃i,ns= [i]∧o=(⟨d.r,(eX d.p i).1⟩,itoa (eX d.p i).1.st.clock,(eX d.p i).2)
 else if c=bY then o=(⟨d.r,(sweepM d.r d.p).1⟩,itoa (sweepM d.r d.p).2.1,(sweepM d.r d.p).2.2)
 else if c=bC then o=(d,itoa d.p.n,0)
 else if c=fJ then o=(d,itoa d.p.lg ++ 32::dN d.p.dn,0)
 else if c=dF then o=(d,fI d.p.st,0)
 else if c=cY then ∃x l n,ws= [x]∧Sc.Out (aG x) l n∧o=(d,wordL (ae l),n)
 else if c=gT then ∃i x y,ns= [i]∧ws= [x,y]∧o=(d,mR i y,0)
 else if c=dh then ∃x a b e ys,ns= [a,b,e]∧ws=x::ys∧o=(if cw x=0 then (d,[],3) else if mayB ⟨cw x,a,b,e⟩=true then (d,(ll d.r ⟨cw x,a,b,e⟩).data.toList,0) else (d,[],1))
 else o=(d,vW,0)
def errL(n:Nat):List UInt8:= [101,114,114,111,114,32] ++ itoa n
def told(o:Dk × List UInt8 × Nat):List UInt8:=if o.2.2=0 then o.2.1 else errL o.2.2
def cJ(d:Dk)(s:List UInt8)(d':Dk)(a:List UInt8):Prop:=match bN s with
 |[]=>d'=d∧a= [111,107]
 |c::ws=>match formOf c with
  |none=>d'=d∧a=errL 3
  |some f=>match numsW f ws with
   |none=>d'=d∧a=errL 3
   |some ns=>∃o,aW d c ws ns o∧d'=o.1∧a=told o
def kS:List (List UInt8)->Dk->List UInt8->Prop
 |[],_,o=>o= []
 |s::ls,d,o=>∃d' a o',cJ d s d' a∧kS ls d' o'∧o=a ++ 10::o'
def fW(s:List UInt8):List UInt8:=if s.getLast?=some 10 then s.dropLast else s
def ax(s:List UInt8):List (List UInt8):=parts 10 (fW s)
def ey(s o:List UInt8):Prop:=if 20000<s.length then o=errL 4 ++ [10] else kS (ax s) cM o
variable {d:Dk}
theorem Ap{c:Word}{ws:List Word}{ns:List Int}{o o':Dk × List UInt8 × Nat}(h:aW d c ws ns o)(h':aW d c ws ns o'):o=o':=by
 unfold aW at h h';by_cases e1:c=dg
 ·rw[if_pos e1] at h h'
  obtain⟨k,i,l,a,h1,h2⟩:=h;obtain⟨k',i',l',a',h1',h2'⟩:=h';rw[h1] at h1';simp only[List.cons.injEq,and_true] at h1';obtain⟨rfl,rfl,rfl,rfl⟩:=h1';rw[h2,h2']
 rw[if_neg e1] at h h';by_cases e2:c=bM
 ·rw[if_pos e2] at h h'; rw[h,h']
 rw[if_neg e2] at h h';by_cases e3:c=bj
 ·rw[if_pos e3] at h h'
  obtain⟨x,y,z,l,n,h1,h2,h3⟩:=h;obtain⟨x',y',z',l',n',h1',h2',h3'⟩:=h';rw[h1] at h1';simp only[List.cons.injEq,and_true] at h1';obtain⟨rfl,rfl,rfl⟩:=h1';obtain⟨rfl,rfl⟩:=Sc.out_inj h2 h2';rw[h3,h3']
 rw[if_neg e3] at h h';by_cases e4:c=aR
 ·rw[if_pos e4] at h h'
  obtain⟨x,y,z,t,n,l,m,b,h1,h2,h3,h4,h5,h6⟩:=h;obtain⟨x',y',z',t',n',l',m',b',h1',h2',h3',h4',h5',h6'⟩:=h';rw[h1] at h1';simp only[List.cons.injEq,and_true] at h1';obtain⟨rfl,rfl,rfl⟩:=h1';obtain⟨rfl,rfl⟩:=Tok.out_inj h2 h2';obtain⟨rfl,rfl⟩:=Sc.out_inj h3 h3'
  have f:b=b':=by
   by_cases q1:lookM d.r d.p.st 1 t n=0
   ·by_cases q2:m=0
    ·exact (lQ (h4 q1 q2) (h4' q1 q2)).1
    ·rw[h5 (.inr q2),h5' (.inr q2)]
   ·rw[h5 (.inl q1),h5' (.inl q1)]
  subst f;rw[h6,h6']
 rw[if_neg e4] at h h';by_cases e5:c=cA
 ·rw[if_pos e5] at h h'
  obtain⟨x,t,n,h1,h2,h3⟩:=h;obtain⟨x',t',n',h1',h2',h3'⟩:=h';rw[h1] at h1';simp only[List.cons.injEq,and_true] at h1';obtain rfl:=h1';obtain⟨rfl,rfl⟩:=Tok.out_inj h2 h2';rw[h3,h3']
 rw[if_neg e5] at h h';by_cases e6:c=cI
 ·rw[if_pos e6] at h h'
  obtain⟨x,t,n,h1,h2,h3⟩:=h;obtain⟨x',t',n',h1',h2',h3'⟩:=h';rw[h1] at h1';simp only[List.cons.injEq,and_true] at h1';obtain rfl:=h1';obtain⟨rfl,rfl⟩:=Tok.out_inj h2 h2';rw[h3,h3']
 rw[if_neg e6] at h h';by_cases e7:c=cu
 ·rw[if_pos e7] at h h'
  obtain⟨i,h1,h2⟩:=h;obtain⟨i',h1',h2'⟩:=h';rw[h1] at h1';simp only[List.cons.injEq,and_true] at h1';obtain rfl:=h1';rw[h2,h2']
 rw[if_neg e7] at h h';by_cases e8:c=cC
 ·rw[if_pos e8] at h h'; rw[h,h']
 rw[if_neg e8] at h h';by_cases e9:c=dS
 ·rw[if_pos e9] at h h'
  obtain⟨i,h1,h2⟩:=h;obtain⟨i',h1',h2'⟩:=h';rw[h1] at h1';simp only[List.cons.injEq,and_true] at h1';obtain rfl:=h1';rw[h2,h2']
 rw[if_neg e9] at h h';by_cases e10:c=dd
 ·rw[if_pos e10] at h h'
  obtain⟨i,h1,h2⟩:=h;obtain⟨i',h1',h2'⟩:=h';rw[h1] at h1';simp only[List.cons.injEq,and_true] at h1';obtain rfl:=h1';rw[h2,h2']
 rw[if_neg e10] at h h';by_cases e11:c=bY
 ·rw[if_pos e11] at h h'; rw[h,h']
 rw[if_neg e11] at h h';by_cases e12:c=bC
 ·rw[if_pos e12] at h h'; rw[h,h']
 rw[if_neg e12] at h h';by_cases e13:c=fJ
 ·rw[if_pos e13] at h h'; rw[h,h']
 rw[if_neg e13] at h h';by_cases e14:c=dF
 ·rw[if_pos e14] at h h'; rw[h,h']
 rw[if_neg e14] at h h';by_cases e15:c=cY
 ·rw[if_pos e15] at h h'
  obtain⟨x,l,n,h1,h2,h3⟩:=h;obtain⟨x',l',n',h1',h2',h3'⟩:=h';rw[h1] at h1';simp only[List.cons.injEq,and_true] at h1';obtain rfl:=h1';obtain⟨rfl,rfl⟩:=Sc.out_inj h2 h2';rw[h3,h3']
 rw[if_neg e15] at h h';by_cases e16:c=gT
 ·rw[if_pos e16] at h h'
  obtain⟨i,x,y,h1,h2,h3⟩:=h;obtain⟨i',x',y',h1',h2',h3'⟩:=h';rw[h1] at h1';rw[h2] at h2';simp only[List.cons.injEq,and_true] at h1' h2';obtain rfl:=h1';obtain⟨rfl,rfl⟩:=h2';rw[h3,h3']
 rw[if_neg e16] at h h';by_cases e17:c=dh
 ·rw[if_pos e17] at h h'
  obtain⟨x,a,b,e,ys,h1,h2,h3⟩:=h;obtain⟨x',a',b',e',ys',h1',h2',h3'⟩:=h';rw[h1] at h1';rw[h2] at h2';simp only[List.cons.injEq,and_true] at h1' h2';obtain⟨rfl,rfl,rfl⟩:=h1';obtain⟨rfl,rfl⟩:=h2';rw[h3,h3']
 rw[if_neg e17] at h h';rw[h,h']
variable {s:List UInt8}
theorem uw{d1 d2:Dk}{a1 a2:List UInt8}(h:cJ d s d1 a1)(h':cJ d s d2 a2):d1=d2∧a1=a2:=by
 unfold cJ at h h';split at h
 ·rename_i h0
  rw[h0] at h';exact⟨h.1.trans h'.1.symm,h.2.trans h'.2.symm⟩
 ·rename_i h0
  rw[h0] at h';simp only at h';split at h
  ·rename_i h1
   rw[h1] at h';exact⟨h.1.trans h'.1.symm,h.2.trans h'.2.symm⟩
  ·rename_i h1
   rw[h1] at h';simp only at h';split at h
   ·rename_i h2
    rw[h2] at h';exact⟨h.1.trans h'.1.symm,h.2.trans h'.2.symm⟩
   ·rename_i h2
    rw[h2] at h';obtain⟨o,g1,rfl,rfl⟩:=h;obtain⟨o',g1',rfl,rfl⟩:=h';obtain rfl:=Ap g1 g1';exact⟨rfl,rfl⟩
theorem sk:∀(ls:List (List UInt8)) (d:Dk) (o o':List UInt8),kS ls d o->kS ls d o'->o=o'
 |[],_,_,_,h,h'=>Eq.trans h (Eq.symm h')
 |s::ls,d,o,o',h,h'=>by
  obtain⟨d1,a1,o1,h1,h2,rfl⟩:=h;obtain⟨d2,a2,o2,h1',h2',rfl⟩:=h';obtain⟨rfl,rfl⟩:=uw h1 h1';rw[sk ls d1 o1 o2 h2 h2']
theorem sm{o o':List UInt8}(h:ey s o)(h':ey s o'):o=o':=by
 unfold ey at h h';split at h
 ·rename_i hl; rw[if_pos hl] at h'; rw[h,h']
 ·rename_i hl; rw[if_neg hl] at h'; exact sk _ _ _ _ h h'
theorem xI(a:List UInt8):fW (a ++ [10])=a:=by
 unfold fW;rw[if_pos (by simp)]
 simp
theorem oC{c:UInt8}:∀(n:Nat) (a b:List UInt8),a.length<=n->parts c (a ++ c::b)=parts c a ++ parts c b
 |n,a,b,hn=>by
  by_cases hc:c∈a
  ·obtain⟨x,y,rfl,hx⟩:=List.append_of_mem hc |>.elim fun x h=>h.elim fun y h=>(List.eq_append_cons_of_mem hc).elim fun x h=>h.elim fun y h=>(⟨x,y,h.1,h.2⟩:∃x y,a=x ++ c::y∧c∉x)
   cases n with
   |zero=>simp at hn
   |succ n=>
    rw[List.append_assoc,List.cons_append,bD _ hx,oC n y b (by simp at hn; omega),bD _ hx,List.cons_append]
  ·rw[bD _ hc,bO hc]
   rfl
end Go.Proofs.YtlailakofhenkabGreatDoor.Ev
namespace Go.Proofs.YtlailakofhenkabGreatDoor
open Go Go.RowKit Tok Sc Ev Tryz
theorem cQ(n:Int)(w:World)(h0:-9223372036854775808<=n)(h1:n<=9223372036854775807)(hL:av w):Calls prog 57 #[.i_ n] w fun e w'=>e=.returned (.string ⟨(Lib.itoa n).toArray⟩)∧Below w.heap.size w w':=by
 refine (strconv_Itoa n h0 h1 w hL.base.pow).mono ?_;rintro e w' ⟨rfl,k,os,rfl⟩;exact⟨rfl,ib w k os⟩
variable {x:Word}
theorem iR{v:Int}(h:numW x=some v):Lib.atoiAll x=.ok v∧Lib.itoa v=x:=by
 unfold numW at h;split at h
 ·rename_i v' hv
  split at h
  ·rename_i he
   injection h with h;subst h;exact⟨hv,he⟩
  ·cases h
 ·cases h
theorem oD(h:numW x=none):(∀v,Lib.atoiAll x≠.ok v)∨∃v,Lib.atoiAll x=.ok v∧Lib.itoa v≠x:=by
 by_cases hv:∃v,Lib.atoiAll x=.ok v
 ·obtain⟨v,hv⟩:=hv
  refine .inr ⟨v,hv,fun he=>?_⟩;unfold numW at h;rw[hv] at h;simp only[he,if_true] at h
  cases h
 ·exact .inl (fun v h'=>hv ⟨v,h'⟩)
theorem pU(s:ByteArray)(v:Int)(w:World)(hs:s.size<=10000)(hL:av w)(h:numW s.data.toList=some v):Calls prog 249 #[.string s] w fun e w'=>e=.returned (.int .i64 v)∧Below w.heap.size w w':=by
 obtain⟨h1,h2⟩:=iR h;obtain⟨b1,b2⟩:=Lib.atoiAll_bounds h1;have g:J _:=iq s v w hs h1;have f:=fun (W:World) (hW:av W)=>cQ v W b1 b2 hW;rw[show (⟨(Lib.itoa v).toArray⟩:ByteArray)=s from by rw[h2]] at f
 have j:J _:=hL;clear h h1 h2 b1 b2 hs hL;go_enter func249,ntmps249
 go_wp2_with fail;refine Calls.mono g.o ?_;rintro e1 w1 ⟨rfl,hb1⟩;have b:J _:=hb1;clear hb1;go_wp2_with fail;refine (f _ (j.o.below b.o rfl)).mono ?_;rintro e2 w2 ⟨rfl,hb2⟩;have c:J _:=b.o.tm hb2;clear hb2;go_wp2_with fail;go_ret;exact⟨rfl,c.o⟩
theorem so(s:ByteArray)(w:World)(hs:s.size<=10000)(hL:av w)(h:numW s.data.toList=none):Calls prog 249 #[.string s] w fun e w'=>e=aM 3∧Below w.heap.size w w':=by
 rcases oD h with h1 | ⟨v,h1,h2⟩
 ·have c:J _:=pS s w hs hL h1
  clear h h1 hs hL;go_enter func249,ntmps249
  go_wp2_with fail;refine Calls.mono c.o ?_;rintro e1 w1 ⟨v,te,pe,rfl,hb1⟩;have b:J _:=hb1;clear hb1;go_wp2_with fail;exact⟨rfl,rfl,b.o⟩
 ·obtain⟨b1,b2⟩:=Lib.atoiAll_bounds h1
  have c:J _:=iq s v w hs h1;have g:=fun (W:World) (hW:av W)=>cQ v W b1 b2 hW;have j:J _:=hL
  have k:(((⟨(Lib.itoa v).toArray⟩:ByteArray)).toList == s.toList)=false:=by
   rw[ByteArray.toList_eq,ByteArray.toList_eq];simpa using h2
  generalize (⟨(Lib.itoa v).toArray⟩:ByteArray)=u at *;clear h h1 h2 b1 b2 hs hL;go_enter func249,ntmps249
  go_wp2_with fail;refine Calls.mono c.o ?_;rintro e1 w1 ⟨rfl,hb1⟩;have b:J _:=hb1;clear hb1;go_wp2_with fail;refine (g _ (j.o.below b.o rfl)).mono ?_;rintro e2 w2 ⟨rfl,hb2⟩;have f:J _:=b.o.tm hb2;clear hb2;go_wp2_with fail;exact⟨rfl,rfl,f.o⟩
end Go.Proofs.YtlailakofhenkabGreatDoor
namespace Go.Proofs.YtlailakofhenkabGreatDoor.Ev
open Go Go.Lib Tok Sc
theorem ux(n b0 b1 b2 b3:Nat)(hn:1<=n):(b0=32∧decodeN n b0 b1 b2 b3=(32,1))∨(b0≠32∧(decodeN n b0 b1 b2 b3).1≠32∧1<=(decodeN n b0 b1 b2 b3).2∧(decodeN n b0 b1 b2 b3).2<=n∧(decodeN n b0 b1 b2 b3).2<=4∧(1<(decodeN n b0 b1 b2 b3).2->b1≠32)∧(2<(decodeN n b0 b1 b2 b3).2->b2≠32)∧(3<(decodeN n b0 b1 b2 b3).2->b3≠32)):=by
 by_cases h:b0=32
 ·subst h
  exact .inl ⟨rfl,by simp[decodeN]⟩
 ·refine .inr ⟨h,?_⟩
  unfold decodeN;repeat' split
  all_goals (simp only; omega)
def ki:List UInt8->List UInt8->List (List UInt8)
 |cur,[]=>if cur= [] then [] else [cur]
 |cur,b::t=>if b=32 then (if cur= [] then ki [] t else cur::ki [] t) else ki (cur ++ [b]) t
theorem kj:∀(x cur y:List UInt8),(∀b∈x,b≠32)->ki cur (x ++ y)=ki (cur ++ x) y
 |[],cur,y,_=>by simp
 |b::x,cur,y,h=>by
  rw[List.cons_append,ki,if_neg (h b (by simp)),kj x _ y (fun c hc=>h c (by simp[hc]))]
  simp
theorem jr:∀(l cur:List UInt8),(32:UInt8)∉cur->ki cur l=bN (cur ++ l)
 |[],cur,h=>by
  unfold bN;rw[List.append_nil,bO h,ki];by_cases hc:cur= []
  ·subst hc; simp
  ·simp[hc]
 |b::t,cur,h=>by
  rw[ki];by_cases hb:b=32
  ·subst hb
   have e:bN (cur ++ 32::t)=(if cur= [] then bN t else cur::bN t):=by
    unfold bN;rw[bD t h];by_cases hc:cur= []
    ·subst hc; simp
    ·simp[hc]
   rw[e,if_pos rfl,jr t [] (by simp),List.nil_append]
  ·rw[if_neg hb,jr t (cur ++ [b]) (by simp[h]; exact fun e=>hb e.symm)]
   simp
def iy(L:List UInt8)(st:Option Nat)(pos:Nat):List UInt8:=match st with
 |none=> []
 |some a=>(L.drop a).take (pos - a)
theorem DU(s:ByteArray)(i j:Nat):(s.extract i j).data.toList=(s.data.toList.drop i).take (j - i):=by
 simp
theorem nF(L:List UInt8)(a pos k:Nat)(h:a<=pos):(L.drop a).take (pos+k - a)=(L.drop a).take (pos - a) ++ (L.drop pos).take k:=by
 rw[show pos+k - a=(pos - a)+k by omega,List.take_add,List.drop_drop,show a+(pos - a)=pos by omega]
theorem fX(s:ByteArray):∀(f pos:Nat) (st:Option Nat) (acc:List (Nat × Nat)),s.size - pos<=f->pos<=s.size->(∀a,st=some a->a<pos)->
 (closeSpans s (spansFromP (fun r=>decide (r=32)) s f pos st acc)).map (fun x=>(s.extract x.1 x.2).data.toList)=acc.map (fun x=>(s.extract x.1 x.2).data.toList) ++ ki (iy s.data.toList st pos) (s.data.toList.drop pos)
 |f,pos,st,acc,hf,hp,hst=>by
  have hlen:s.data.toList.length=s.size:=Fg;by_cases hlt:pos<s.size
  ·cases f with
   |zero=>omega
   |succ f=>
    unfold spansFromP;rw[if_pos hlt];have t:=decode_N s pos;have g:s.data.toList.drop pos=s.data.toList[pos]'(by omega)::s.data.toList.drop (pos+1):=List.drop_eq_getElem_cons (by omega)
    have A:s.data.toList.getD pos 0=s.data.toList[pos]'(by omega):=by simp[List.getD,List.getElem?_eq_getElem (show pos<s.data.toList.length by omega)]
    rcases ux (s.data.toList.length - pos) (s.data.toList.getD pos 0).toNat (s.data.toList.getD (pos+1) 0).toNat (s.data.toList.getD (pos+2) 0).toNat (s.data.toList.getD (pos+3) 0).toNat (by omega) with ⟨h1,h2⟩ | ⟨h0,h1,h2,h3,h4,h5,h6,h7⟩
    ·rw[<- t] at h2
     have m:s.data.toList[pos]'(by omega)=32:=by rw[<- A]; exact UInt8.toNat.inj h1
     rw[h2];simp only[decide_true,if_true]
     cases st with
     |some a=>
      simp only;rw[fX s f (pos+1) none _ (by omega) (by omega) (fun a h=>by cases h),g,m,ki,if_pos rfl]
      have v:=hst a rfl
      have k:iy s.data.toList (some a) pos≠ []:=by
       intro h
       have:=congrArg List.length h;simp only[iy,List.length_take,List.length_drop,List.length_nil] at this;omega
      rw[if_neg k];simp only[List.map_append,List.map_cons,List.map_nil,List.append_assoc,List.singleton_append,iy];rw[DU]
     |none=>
      simp only;rw[fX s f (pos+1) none _ (by omega) (by omega) (fun a h=>by cases h),g,m,ki,if_pos rfl,if_pos (show iy s.data.toList none pos= [] from rfl)]
      rfl
    ·rw[<- t] at h1 h2 h3 h4 h5 h6 h7
     have z:∀b∈(s.data.toList.drop pos).take (Utf8.decode s pos).2,b≠32:=by
      intro b m;obtain⟨j,hj,rfl⟩:=List.mem_iff_getElem.1 m;simp only[List.length_take,List.length_drop] at hj;rw[List.getElem_take,List.getElem_drop];have B:s.data.toList.getD (pos+j) 0=s.data.toList[pos+j]'(by omega):=by simp[List.getD,List.getElem?_eq_getElem (show pos+j<s.data.toList.length by omega)]
      rw[<- B];intro e;have n:(s.data.toList.getD (pos+j) 0).toNat=32:=by rw[e]; rfl
      have o:j=0∨j=1∨j=2∨j=3:=by omega
      rcases o with rfl | rfl | rfl | rfl
      ·exact h0 n
      ·exact h5 (by omega) n
      ·exact h6 (by omega) n
      ·exact h7 (by omega) n
     have c:s.data.toList.drop pos=(s.data.toList.drop pos).take (Utf8.decode s pos).2 ++ s.data.toList.drop (pos+(Utf8.decode s pos).2):=by
      rw[<- List.drop_drop,List.take_append_drop]
     have p:decide ((Utf8.decode s pos).1=32)=false:=decide_eq_false h1;rw[p];simp only[Bool.false_eq_true,if_false]
     cases st with
     |some a=>
      simp only;have v:=hst a rfl;rw[fX s f _ (some a) _ (by omega) (by omega) (fun b h=>by cases h; omega)]
      congr 1
      rw[c,kj _ _ _ z];congr 1
      exact nF s.data.toList a pos _ (by omega)
     |none=>
      simp only;rw[fX s f _ (some pos) _ (by omega) (by omega) (fun b h=>by cases h; omega)]
      congr 1
      rw[c,kj _ _ _ z];congr 1
      simp[iy]
  ·obtain rfl:pos=s.size:=by omega
   rw[spansFromP_end _ _ _ _ _ _ hlt];have q:s.data.toList.drop s.size= []:=List.drop_eq_nil_of_le (by omega)
   rw[q,ki]
   cases st with
   |none=>simp[closeSpans,iy]
   |some a=>
    have v:=hst a rfl
    have k:iy s.data.toList (some a) s.size≠ []:=by
     intro h
     have:=congrArg List.length h;simp only[iy,List.length_take,List.length_drop,List.length_nil] at this;omega
    rw[if_neg k];simp only[closeSpans,List.map_append,List.map_cons,List.map_nil,iy];rw[DU]
theorem pV(s:ByteArray):(goFieldsP (fun r=>decide (r=32)) s).map (·.data.toList)=bN s.data.toList:=by
 unfold goFieldsP spansOfP;rw[List.map_map];have h:=fX s s.size 0 none [] (by omega) (by omega) (fun a h=>by cases h)
 have e:((fun x:ByteArray=>x.data.toList)∘fun x:Nat × Nat=>s.extract x.1 x.2)=fun x=>(s.extract x.1 x.2).data.toList:=rfl;rw[e,h];simp only[List.map_nil,List.nil_append,iy,List.drop_zero];rw[jr _ [] (by simp),List.nil_append]
end Go.Proofs.YtlailakofhenkabGreatDoor.Ev
namespace Go.Proofs.YtlailakofhenkabGreatDoor
open Go Go.RowKit Go.Shelf Tok Sc Ev Tryz
theorem B9(w:World):PredAtRunes prog 155 #[] (fun r=>decide (r=32)) w:=by
 intro W x hx hb;unfold FnGives;refine (uu (x:Int) W).mono ?_;rintro e w' ⟨rfl,rfl⟩;refine⟨?_,0,rfl⟩;congr 2
 by_cases h:x=32
 ·subst h; rfl
 ·have b:¬ (x:Int)=32:=by omega
  show decide ((x:Int)=32)=decide (x=32)
  rw[decide_eq_false h,decide_eq_false b]
variable {B ga j:Nat}{WB w w':World}{cs:List Value}
theorem kT{e:TypeId}{A c n:Nat}(h:w.ownsRow B e 1 (.slice (some ⟨A,0,none⟩) n c) n cs):aN B w A c n cs:=by
 have b:=h;rcases h.2 with ⟨hv,h0⟩ | ⟨g',cc,cur,hv,hge,hh,hle,hmx,hsz,htk⟩
 ·cases hv
 ·simp only[Value.slice.injEq,Option.some.injEq,Addr.mk.injEq,and_true,true_and] at hv
  obtain⟨rfl,rfl⟩:=hv
  have k:A<w.heap.size:=by
   rcases FF A w.heap.size with h | h
   ·exact h
   ·rw[Array.getElem?_eq_none h] at hh; cases hh
  refine⟨hge,k,?_,hle,hmx,fun j v hj=>?_,fun j hj=>?_⟩
  ·have h1:=b.1
   omega
  ·have f:=b.cells (g:=A) rfl j v hj
   rw[Addr.add_lit,Nat.zero_add] at f; exact f
  ·have m:j<cur.size:=by omega
   simp[World.cell?,World.frozen?,hh,m]
theorem km(s:ByteArray)(w:World)(hs:s.size<=30000):Calls prog 154 #[.string s,.func (.func 155) #[] #[]] w fun e w'=>∃v,e=.returned v∧aw w.heap.size w' v ((bN s.data.toList).map Ev.bs)∧Below w.heap.size w w':=by
 refine (strings_FieldsFunc_runes 155 #[] (enters_of func155 (by kernel_rfl) rfl) _ s w (by omega) (B9 w)).mono ?_;rintro e w' ⟨a,rfl,ha,hr,hb⟩
 have b:Lib.goFieldsP (fun r=>decide (r=32)) s=(bN s.data.toList).map Ev.bs:=by
  rw[<- pV,List.map_map];refine (List.map_id _).symm.trans (List.map_congr_left fun x _=>?_);show x=Ev.bs x.data.toList
  unfold Ev.bs;simp
 rw[b] at hr;rw[b];exact⟨_,rfl,.inr ⟨a,_,rfl,kT hr⟩,hb⟩
def tkW(k:Int)(x:Word):List ByteArray:=if k=0 then [Ev.bs x] else if k=1 then [Ev.bs (aG x)] else []
def nkW(k:Int)(x:Word):Option (List Int):=if k=2 then (numW x).map (fun n=> [n]) else some []
theorem uy(x:Word):jM (Ev.bs x)=Ev.bs (aG x):=by
 unfold jM aG Ev.bs;by_cases h:x= [95]
 ·subst h; rfl
 ·rw[if_neg (by simpa using h),if_neg h]
theorem Aq(F gk:Nat)(ka:Option Addr)(kn kc:Nat)(ba:Option Addr)(n c:Nat)(w:World)(hne:n≠kn):
 Calls prog 156 #[.agg #[.func (.func F) #[p_ gk 0] #[],.slice ka kn kc],.slice ba n c] w fun e w'=>e=aM 3∧Below w.heap.size w w':=by
 have b:J (Below w.heap.size w ((w.alloc (.cells #[.func (.func F) #[p_ gk 0] #[],.slice ka kn kc] 253)).alloc (.cells #[.slice none 0 0,.slice none 0 0] 256))):=((Below.refl _ _).alloc (Nat.le_refl _) _).alloc (by simp) _
 have hk:((w.alloc (.cells #[.func (.func F) #[p_ gk 0] #[],.slice ka kn kc] 253)).alloc (.cells #[.slice none 0 0,.slice none 0 0] 256)).cell? (a_ w.heap.size 1)=some (.slice ka kn kc):=(World.cell?_alloc_lt _ _ _ (by simp)).trans ((World.cell?_alloc_at _ _ _ _ rfl).trans rfl)
 have hb:((n:Int) == (kn:Int))=false:=by
  rw[beq_eq_false_iff_ne]; omega
 clear hne;go_enter func156,ntmps156
 go_wp2_with fail
 exact⟨rfl,rfl,b.o⟩
def cD(ks:List Int)(xs:List Word)(j:Nat):List ByteArray:=((List.zipWith tkW ks xs).take j).flatten
def bI(ks:List Int)(xs:List Word)(j:Nat):List Int:=((List.zipWith (fun k x=>(nkW k x).getD []) ks xs).take j).flatten
variable {k:Int}{ks ns:List Int}{x:Word}{xs:List Word}
theorem iS(h1:ks[j]?=some k)(h2:xs[j]?=some x):cD ks xs (j+1)=cD ks xs j ++ tkW k x:=by
 unfold cD;rw[List.take_add_one];simp[List.getElem?_zipWith,h1,h2]
theorem iT(h1:ks[j]?=some k)(h2:xs[j]?=some x):bI ks xs (j+1)=bI ks xs j ++ (nkW k x).getD []:=by
 unfold bI;rw[List.take_add_one];simp[List.getElem?_zipWith,h1,h2]
theorem Ca(k:Int)(x:Word):(tkW k x).length<=1:=by
 unfold tkW;split
 ·simp
 ·split <;> simp
theorem sq(ks:List Int)(xs:List Word):∀j,(cD ks xs j).length<=j
 |0=>by simp[cD]
 |j+1=>by
  have h:=sq ks xs j
  cases h1:ks[j]? with
  |none=>
   have e:cD ks xs (j+1)=cD ks xs j:=by unfold cD; rw[List.take_add_one]; simp[List.getElem?_zipWith,h1]
   rw[e]; omega
  |some k=>
   cases h2:xs[j]? with
   |none=>
    have e:cD ks xs (j+1)=cD ks xs j:=by unfold cD; rw[List.take_add_one]; simp[List.getElem?_zipWith,h1,h2]
    rw[e]; omega
   |some x=>
    rw[iS h1 h2,List.length_append]
    have:=Ca k x;omega
theorem Cb(k:Int)(x:Word):((nkW k x).getD []).length<=1:=by
 unfold nkW;split
 ·cases numW x <;> simp
 ·simp
theorem sr(ks:List Int)(xs:List Word):∀j,(bI ks xs j).length<=j
 |0=>by simp[bI]
 |j+1=>by
  have h:=sr ks xs j
  cases h1:ks[j]? with
  |none=>
   have e:bI ks xs (j+1)=bI ks xs j:=by unfold bI; rw[List.take_add_one]; simp[List.getElem?_zipWith,h1]
   rw[e]; omega
  |some k=>
   cases h2:xs[j]? with
   |none=>
    have e:bI ks xs (j+1)=bI ks xs j:=by unfold bI; rw[List.take_add_one]; simp[List.getElem?_zipWith,h1,h2]
    rw[e]; omega
   |some x=>
    rw[iT h1 h2,List.length_append]
    have:=Cb k x;omega
structure RdI (WB:World) (ga:Nat) (vt vn:Value) (ts:List ByteArray) (ns:List Int) (w:World):Prop where
 c0:w.cell? ⟨ga,0,none⟩=some vt
 c1:w.cell? ⟨ga,1,none⟩=some vn
 fz:∀i,w.frozen? ⟨ga,i,none⟩=false
 lt:ga<w.heap.size
 rt:aE (ga+1) w vt (ts.map Value.string)
 rn:aE (ga+1) w vn (ns.map (Value.int .i64))
 tn:kQ vt vn
 nt:kQ vn vt
 bel:Below WB.heap.size WB w
 low:WB.heap.size<ga
theorem RdI.on{WB:World}{ga:Nat}{vt vn:Value}{ts:List ByteArray}{ns:List Int}{w w':World}(h:RdI WB ga vt vn ts ns w)(hb:Below w.heap.size w w'):RdI WB ga vt vn ts ns w':=
 ⟨(hb.cell (p:=(a_ ga 0)) h.lt).trans h.c0,(hb.cell (p:=(a_ ga 1)) h.lt).trans h.c1,fun i=>(hb.frozen (p:=(a_ ga i)) h.lt).trans (h.fz i),Fd h.lt hb.size,h.rt.on hb,h.rn.on hb,h.tn,h.nt,h.bel.tm hb,h.low⟩
variable {v vn vt:Value}
theorem aE.lower{B':Nat}(h:aE B w v cs)(hB:B'<=B):aE B' w v cs:=by
 rcases h with h1 | ⟨g,c,e,hr⟩
 ·exact .inl h1
 ·exact .inr ⟨g,c,e,⟨Fe hB hr.new,hr.lt,hr.len,hr.le,hr.max,hr.holds,hr.there⟩⟩
theorem aE.keptBy(h:aE B w v cs)(hk:∀l:List Nat,(∀g o n c,v=.slice (some ⟨g,o,none⟩) n c->g∈l)->af l w w'):∃l:List Nat,(∀g∈l,B<=g∧∃o n c,v=.slice (some ⟨g,o,none⟩) n c)∧af l w w':=by
 rcases h with ⟨e,-⟩ | ⟨g,c,e,hr⟩
 ·exact⟨[],by simp,hk [] (fun g o n c h'=>by rw[e] at h'; cases h')⟩
 ·refine⟨[g],?_,hk [g] (fun g' o n c h'=>?_)⟩
  ·intro g' hg'
   simp only[List.mem_singleton] at hg';subst hg';exact⟨hr.new,_,_,_,e⟩
  ·rw[e] at h'
   simp only[Value.slice.injEq,Option.some.injEq,Addr.mk.injEq] at h';simp[h'.1.1]
variable {ts:List ByteArray}
theorem RdI.addT{vt':Value}{x:ByteArray}(h:RdI WB ga vt vn ts ns w)(hr:aE (ga+1) w' vt' (ts.map Value.string ++ [.string x]))(hk:∀l:List Nat,(∀g o n c,vt=.slice (some ⟨g,o,none⟩) n c->g∈l)->af l w w')(hn:∀b,b<w.heap.size->az vt b->az vt' b)(ha:∀y,kQ vt y->(∀b,w.heap.size<=b->az y b)->kQ vt' y):
 RdI WB ga vt' vn (ts ++ [x]) ns (w'.setCell ⟨ga,0,none⟩ vt')∧(w'.cell? ⟨ga,0,none⟩).isSome=true∧w'.frozen? ⟨ga,0,none⟩=false∧∃l:List Nat,(∀g∈l,ga<=g)∧af l w (w'.setCell ⟨ga,0,none⟩ vt'):=by
 obtain⟨l,hl,hkl⟩:=h.rt.keptBy hk;have j:ga∉l:=fun hx=>by have:=(hl ga hx).1; omega
 have k:=(hkl.cell (p:=(a_ ga 0)) h.lt j).trans h.c0;have t:=(hkl.cell (p:=(a_ ga 1)) h.lt j).trans h.c1;have v:∀i,w'.frozen? (a_ ga i)=false:=fun i=>(hkl.frozen (p:=(a_ ga i)) h.lt j).trans (h.fz i);have m:aE (ga+1) w' vn (ns.map (Value.int .i64)):=h.rn.keepOut hkl (fun g hg=>by obtain⟨o,n,c,e⟩:=(hl g hg).2; exact h.tn g o n c e)
 have f:af [ga] w' (w'.setCell (a_ ga 0) vt'):=(af.refl _ w').setCell (p:=(a_ ga 0)) (.inl (by simp)) vt'
 have z:=h.low;have q:ga<w'.heap.size:=Fd h.lt hkl.size;have s:Below WB.heap.size WB w':=h.bel.trans (hkl.below h.bel.size (fun g hg=>by have:=(hl g hg).1; omega))
 refine⟨⟨World.cell?_setCell_same _ _ _ k,al t (by decide),fun i=>by rw[World.frozen?_setCell]; exact v i,by simpa using q,?_,m.keepOut f (by simp; exact m.notIn (Nat.lt_succ_self ga)),ha vn h.tn (fun b s=>h.rn.past s),?_,s.trans (f.below s.size (by simp; omega)),h.low⟩,by rw[k]; rfl,v 0,l ++ [ga],?_,?_⟩
 ·rw[List.map_append]
  exact hr.keepOut f (by simp; exact hr.notIn (Fj ga))
 ·intro g o n c e
  have r:=h.rn;rw[e] at r;rcases r with ⟨h1,-⟩ | ⟨g',c',h1,hr'⟩
  ·cases h1
  ·simp only[Value.slice.injEq,Option.some.injEq,Addr.mk.injEq] at h1
   rw[h1.1.1];exact hn g' hr'.lt (by rw[<- h1.1.1]; exact h.nt g o n c e)
 ·intro g hg
  rcases List.mem_append.1 hg with hg | hg
  ·have:=(hl g hg).1; omega
  ·simp only[List.mem_singleton] at hg; omega
 ·exact (hkl.mono (fun x hx=>List.mem_append_left _ hx)).trans (f.mono (fun x hx=>List.mem_append_right _ hx))
theorem RdI.addN{vn':Value}{x:Int}(h:RdI WB ga vt vn ts ns w)(hr:aE (ga+1) w' vn' (ns.map (Value.int .i64) ++ [.int .i64 x]))(hk:∀l:List Nat,(∀g o n c,vn=.slice (some ⟨g,o,none⟩) n c->g∈l)->af l w w')(hn:∀b,b<w.heap.size->az vn b->az vn' b)(ha:∀y,kQ vn y->(∀b,w.heap.size<=b->az y b)->kQ vn' y):
 RdI WB ga vt vn' ts (ns ++ [x]) (w'.setCell ⟨ga,1,none⟩ vn')∧(w'.cell? ⟨ga,1,none⟩).isSome=true∧w'.frozen? ⟨ga,1,none⟩=false∧∃l:List Nat,(∀g∈l,ga<=g)∧af l w (w'.setCell ⟨ga,1,none⟩ vn'):=by
 obtain⟨l,hl,hkl⟩:=h.rn.keptBy hk;have j:ga∉l:=fun hx=>by have:=(hl ga hx).1; omega
 have t:=(hkl.cell (p:=(a_ ga 0)) h.lt j).trans h.c0;have k:=(hkl.cell (p:=(a_ ga 1)) h.lt j).trans h.c1;have v:∀i,w'.frozen? (a_ ga i)=false:=fun i=>(hkl.frozen (p:=(a_ ga i)) h.lt j).trans (h.fz i);have m:aE (ga+1) w' vt (ts.map Value.string):=h.rt.keepOut hkl (fun g hg=>by obtain⟨o,n,c,e⟩:=(hl g hg).2; exact h.nt g o n c e)
 have f:af [ga] w' (w'.setCell (a_ ga 1) vn'):=(af.refl _ w').setCell (p:=(a_ ga 1)) (.inl (by simp)) vn'
 have z:=h.low;have q:ga<w'.heap.size:=Fd h.lt hkl.size;have s:Below WB.heap.size WB w':=h.bel.trans (hkl.below h.bel.size (fun g hg=>by have:=(hl g hg).1; omega))
 refine⟨⟨al t (by decide),World.cell?_setCell_same _ _ _ k,fun i=>by rw[World.frozen?_setCell]; exact v i,by simpa using q,m.keepOut f (by simp; exact m.notIn (Nat.lt_succ_self ga)),?_,?_,ha vt h.nt (fun b s=>h.rt.past s),s.trans (f.below s.size (by simp; omega)),h.low⟩,by rw[k]; rfl,v 1,l ++ [ga],?_,?_⟩
 ·rw[List.map_append]
  exact hr.keepOut f (by simp; exact hr.notIn (Fj ga))
 ·intro g o n c e
  have r:=h.rt;rw[e] at r;rcases r with ⟨h1,-⟩ | ⟨g',c',h1,hr'⟩
  ·cases h1
  ·simp only[Value.slice.injEq,Option.some.injEq,Addr.mk.injEq] at h1
   rw[h1.1.1];exact hn g' hr'.lt (by rw[<- h1.1.1]; exact h.tn g o n c e)
 ·intro g hg
  rcases List.mem_append.1 hg with hg | hg
  ·have:=(hl g hg).1; omega
  ·simp only[List.mem_singleton] at hg; omega
 ·exact (hkl.mono (fun x hx=>List.mem_append_left _ hx)).trans (f.mono (fun x hx=>List.mem_append_right _ hx))
end Go.Proofs.YtlailakofhenkabGreatDoor
